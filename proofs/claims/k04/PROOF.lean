import PyProof.Rows.All
import Wide.All
import OpenK.AllK
import Wide.FinOn
import HandS.ForMost
import HandS.Exc
import HandS.WordsExc
import HandS.ExcOwn
import HandS.ExcIs
import HandS.ExcField
import HandS.TryOnly
import HandS.IsInst
import HandS.Conv
import HandS.Zip
import HandS.Codes
import HandS.Lambda
import HandS.EndTab
import HandS.Small
import HandS.SetFor
import HandS.SortInts
import HandS.HotCalls
import HandS.NestedK
import KE.GoesEnumKw
import KE.GoesMore
import HandS.SortKw
import HandS.More
import HandS.FStr
import HandS.ExcInit
import KE.KExcSuper
import KE.KExcIs
import PySem.Challenge.RW_ackbits_k04_what_happens
set_option Elab.async false
set_option linter.all false
set_option maxRecDepth 100000
set_option maxHeartbeats 4000000
namespace Ak
open PySem PySem.Spec PyProof.Rows L2

/-! ### heaps: what is kept but for S -/
def Keep (S : List Addr) (H H' : Hp) : Prop := (∀ a o, a ∉ S → H a = some o → H' a = some o) ∧ ∀ a, H' a = none → H a = none
section
variable {S T : List Addr} {H H1 H2 : Hp} {a p : Addr} {o : HO} {K : PySem.W.Frag} {xs : List V}
theorem Keep.refl : Keep S H H := ⟨fun _ _ _ h => h, fun _ h => h⟩
theorem Keep.mono (h : ∀ b, b ∈ T → b ∈ S) (k : Keep T H H1) : Keep S H H1 := ⟨fun b u n e => k.1 b u (fun m => n (h b m)) e, k.2⟩
theorem Keep.trans (k : Keep S H H1) (l : Keep S H1 H2) : Keep S H H2 := ⟨fun b u n e => l.1 b u n (k.1 b u n e), fun b e => k.2 b (l.2 b e)⟩
/-- behind a call -/
theorem Keep.call (l : Keep T H1 H2) (h : ∀ b, b ∈ T → b ∈ S) (k : Keep S H H1) : Keep S H H2 := k.trans (l.mono h)
theorem Keep.new (k : Keep S H H1) (n : H1 p = none) : Keep S H (upd H1 p o) := ⟨fun b u m e => by
  have e1 := k.1 b u m e
  rw [upd_ne (ne_of_none e1 n)]
  exact e1, fun b e => by
  by_cases q : b = p
  · rw [q, upd_same] at e; cases e
  · rw [upd_ne q] at e; exact k.2 b e⟩
theorem Keep.set (k : Keep S H H1) (m : p ∈ S) : Keep S H (upd H1 p o) := ⟨fun b u n e => by
  have e1 := k.1 b u n e
  have q : b ≠ p := fun z => n (z ▸ m)
  rw [upd_ne q]
  exact e1, fun b e => by
  by_cases q : b = p
  · rw [q, upd_same] at e; cases e
  · rw [upd_ne q] at e; exact k.2 b e⟩
theorem Keep.new' (n : H1 p = none) (k : Keep S H H1) : Keep S H (upd H1 p o) := k.new n
theorem Keep.set' (m : p ∈ S) (k : Keep S H H1) : Keep S H (upd H1 p o) := k.set m
theorem Keep.at (k : Keep S H H1) (n : a ∉ S) (e : H a = some o) : H1 a = some o := k.1 a o n e
theorem Keep.free (k : Keep S H H1) (e : H1 a = none) : H a = none := k.2 a e
theorem Keep.seqL (k : Keep S H H1) (n : a ∉ S) (e : SqL K H a xs) : SqL K H1 a xs := by
  rcases e with e | e
  · rcases e with e | ⟨o, e⟩
    · exact Or.inl (Or.inl (k.1 _ _ n e))
    · exact Or.inl (Or.inr ⟨o, k.1 _ _ n e⟩)
  · exact Or.inr e
theorem Keep.seqT (k : Keep S H H1) (n : a ∉ S) (e : SqT K H a xs) : SqT K H1 a xs := by
  rcases e with e | e
  · rcases e with e | ⟨o, e⟩
    · exact Or.inl (Or.inl (k.1 _ _ n e))
    · exact Or.inl (Or.inr ⟨o, k.1 _ _ n e⟩)
  · exact Or.inr e
theorem nin_nil : a ∉ ([] : List Addr) := List.not_mem_nil
theorem nin_cons {b : Addr} (h : a ≠ b) (t : a ∉ S) : a ∉ b :: S := fun m => by
  rcases List.mem_cons.mp m with z | z
  · exact h z
  · exact t z
theorem ne_new {b : Addr} (h' : H b = none) (h : H a = some o) : a ≠ b := ne_of_none h h'
theorem sub_nil : ∀ b : Addr, b ∈ ([] : List Addr) → b ∈ S := fun _ m => absurd m List.not_mem_nil
theorem sub_cons {b : Addr} (h : b ∈ S) (t : ∀ c, c ∈ T → c ∈ S) : ∀ c, c ∈ b :: T → c ∈ S := fun c m => by
  rcases List.mem_cons.mp m with z | z
  · exact z ▸ h
  · exact t c z
theorem at_upd (h : a ≠ p) (e : H a = some o) {u : HO} : upd H p u a = some o := (upd_ne h).trans e
theorem at_new (n : H p = none) (e : H a = some o) {u : HO} : upd H p u a = some o := (upd_ne (ne_of_none e n)).trans e
theorem free_upd {u : HO} (e : upd H p u a = none) : H a = none := by
  by_cases q : a = p
  · rw [q, upd_same] at e; cases e
  · rw [upd_ne q] at e; exact e
theorem SqL.upd {u : HO} (h : SqL K H a xs) (n : H p = none) : SqL K (upd H p u) a xs := Keep.seqL (S := []) (Keep.refl.new n) nin_nil h
theorem SqT.upd {u : HO} (h : SqT K H a xs) (n : H p = none) : SqT K (upd H p u) a xs := Keep.seqT (S := []) (Keep.refl.new n) nin_nil h
end

/-! ### general operators -/
section
variable {X : Cx}
def rPlus (K : PySem.W.Frag) : R2 := fun x y H Q => rI0 (fun i j => .int (i + j)) x y H Q ∨ rCat x y H Q ∨ (∃ i j, x = .str i ∧ y = .str j ∧ i.length + j.length ≤ sizeLine ∧ Q (.str (i ++ j)) H) ∨ rCatT K x y H Q
theorem op_plus : OpR X (binaryOp .Add) (rPlus X.K) := OpR.or op_add (OpR.or op_cat (OpR.or op_add_str op_catT))
abbrev rMinus : R2 := rI0 fun i j => .int (i - j)
def rTimes : R2 := fun x y H Q => rI CMul (fun i j => .int (i * j)) x y H Q ∨ rRep x y H Q
theorem op_times : OpR X (binaryOp .Mult) rTimes := OpR.or op_mul op_rep
abbrev rMod : R2 := rI (fun _ j => 0 < j) fun i j => .int (i % j)
abbrev rDiv : R2 := rI CDiv fun i j => .int (i / j)
abbrev rPow : R2 := rI CPow fun i j => .int (i ^ j.toNat)
def rEqX (K : PySem.W.Frag) : R2 := fun x y H Q => rEq x y H Q ∨ rEqD K x y H Q
theorem op_eqX (hu : X.A.units + 64 < cLine) : OpR X (compareOp .Eq) (rEqX X.K) := OpR.or op_eq (op_eqD hu)
def rNeX (K : PySem.W.Frag) : R2 := fun x y H Q => rNe x y H Q ∨ rNeD K x y H Q
theorem op_neX (hu : X.A.units + 64 < cLine) : OpR X (compareOp .NotEq) (rNeX X.K) := OpR.or op_ne (op_neD hu)
abbrev rLt : R2 := rI0 fun i j => .bl (decide (i < j))
abbrev rLe : R2 := rI0 fun i j => .bl (decide (i ≤ j))
abbrev rGt : R2 := rI0 fun i j => .bl (decide (j < i))
abbrev rGe : R2 := rI0 fun i j => .bl (decide (j ≤ i))
def tTru (K : PySem.W.Frag) (ta : TE) : TT := fun σ H Q => ta σ H fun x H' => ∃ k, TruV K x H' k ∧ Q k H'
theorem pt_tru {a : Expr} {ta : TE} (ha : PE X a ta) (he : ∀ whole, isTrue a X.env whole = (do let v ← whole; standAt a.pos; holding [v] (truthy v)) := by intro _; rfl) : PT X a (tTru X.K ta) := pt_truth ha he
def rIsNon : R2 := fun x y H Q => y = .non ∧ Q (.bl (decide (x = .non))) H
def rNotNon : R2 := fun x y H Q => y = .non ∧ Q (.bl (!decide (x = .non))) H
theorem op_isNon : OpR X (compareOp .Is) rIsNon := op_isN
theorem op_notNon : OpR X (compareOp .IsNot) rNotNon := op_notN
def rInX (K : PySem.W.Frag) : R2 := fun x y H Q => rIn K false x y H Q ∨ ∃ (c : Nat) (z : Str), x = .str ⟨#[c]⟩ ∧ y = .str z ∧ Q (.bl (decide (c ∈ z.cps.toList))) H
theorem op_inX : OpR X (compareOp .In) (rInX X.K) := OpR.or op_in_seq op_in_sign
def rNinX (K : PySem.W.Frag) : R2 := fun x y H Q => rIn K true x y H Q ∨ ∃ (c : Nat) (z : Str), x = .str ⟨#[c]⟩ ∧ y = .str z ∧ Q (.bl (!decide (c ∈ z.cps.toList))) H
theorem op_ninX : OpR X (compareOp .NotIn) (rNinX X.K) := OpR.or op_notIn_seq op_notIn_sign
/-- len, max, min, int, tuple, list, isinstance -/
def rLenX (K : PySem.W.Frag) : List V → Hp → VK → Prop := fun xs H Q => ∃ x n, xs = [x] ∧ LenV K x H n ∧ Q (.int (n : Nat)) H
theorem cr_lenX : CallR X (.builtin "len") (rLenX X.K) := call_len
def rMaxX (K : PySem.W.Frag) : List V → Hp → VK → Prop := fun xs H Q => (∃ i j, xs = [.int i, .int j] ∧ Q (.int (if j > i then j else i)) H) ∨ rMax K xs H Q
theorem cr_maxX (hc : X.calm = true) : CallR X (.builtin "max") (rMaxX X.K) := CallR.or (call_max2 hc) (cr_max hc)
def rMinX (K : PySem.W.Frag) : List V → Hp → VK → Prop := fun xs H Q => (∃ i j, xs = [.int i, .int j] ∧ Q (.int (if j < i then j else i)) H) ∨ rMin K xs H Q
theorem cr_minX (hc : X.calm = true) : CallR X (.builtin "min") (rMinX X.K) := CallR.or (call_min2 hc) (cr_min hc)
def rIntX : List V → Hp → VK → Prop := fun xs H Q => (∃ i, xs = [.int i] ∧ Q (.int i) H) ∨ ∃ k, xs = [.bl k] ∧ Q (.int (if k then 1 else 0)) H
theorem cr_intX : CallR X (.type "int") rIntX := call_int1
def rTupX (K : PySem.W.Frag) : List V → Hp → VK → Prop := fun xs H Q => ∃ p ys, xs = [.ref p] ∧ ((SqL K H p ys ∧ ∀ l, H l = none → Q (.ref l) (upd H l (.tup ys))) ∨ (SqT K H p ys ∧ Q (.ref p) H))
theorem cr_tupX : CallR X (.type "tuple") (rTupX X.K) := call_tuple_of
def rLisX (K : PySem.W.Frag) : List V → Hp → VK → Prop := fun xs H Q => ∃ p ys, xs = [.ref p] ∧ (SqL K H p ys ∨ SqT K H p ys) ∧ ∀ l, H l = none → Q (.ref l) (upd H l (.lst ys))
theorem cr_lisX : CallR X (.type "list") (rLisX X.K) := call_list_of
end

/-! ### calls of defs of the text: what they let out goes to W -/
def tCallX (sp : Sp) (W : WX) (t : TA) : TE := fun σ H Q => t σ H fun vs H1 => sp vs H1 Q (WE W σ)
def tMethX (C : Addr) (m : Str) (sp : Sp) (W : WX) (ta : TE) (t : TA) : TE := fun σ H Q => ta σ H fun x H1 => ∃ a dx fs, x = .ref a ∧ H1 a = some (.ins C dx fs) ∧ fs.lookup m = none ∧ t σ H1 fun vs H2 => sp (x :: vs) H2 Q (WE W σ)
def tMakeX (C : Addr) (sp : Sp) (W : WX) (t : TA) : TE := fun σ H Q => t σ H fun vs H1 => ∀ x dx, H1 x = none → H1 dx = none → dx ≠ x →
  sp (.ref x :: vs) (upd (upd H1 dx (.own x)) x (.ins C dx [])) (fun v H2 => v = .non ∧ Q (.ref x) H2) (WE W σ)
structure CalX (P : Program) (w : World) (K : PySem.W.Frag) (mg : Str → Option Value) (base : Heap) (k : Nat) (x : Str) (sp : Sp) : Prop where
  ex : ∃ (f : Addr) (fd : FuncData) (ps : List Str), FnOk P w K mg base (L2.CX P w) k f fd ps sp ∧ mg x = some (.ref f) ∧ PySem.W.keepIn K (.ref f) = true ∧ Binds K fd ps []
structure MetX (P : Program) (w : World) (K : PySem.W.Frag) (mg : Str → Option Value) (base : Heap) (k : Nat) (C : Addr) (m : Str) (sp : Sp) : Prop where
  ex : ∃ (f : Addr) (fd : FuncData) (ps : List Str), Cls K C ∧ Meth K C m f ∧ FnOk P w K mg base (L2.CX P w) k f fd ps sp ∧ Binds K fd ps []
structure MakX (P : Program) (w : World) (K : PySem.W.Frag) (mg : Str → Option Value) (base : Heap) (k : Nat) (x : Str) (C : Addr) (sp : Sp) : Prop where
  ex : ∃ (f : Addr) (fd : FuncData) (ps : List Str), Mk K C f ∧ FnOk P w K mg base (L2.CX P w) k f fd ps sp ∧ mg x = some (.ref C) ∧ Binds K fd ps []
section
variable {X : Cx} {W : WX} {k j : Nat} {C : Addr} {x m : Str} {sp : Sp} {p pos apos : Pos} {e o : Expr} {es : List Expr} {ta : TE} {t : TA}
theorem pe_cx (c : CalX X.prog X.w X.K X.mg X.base k x sp) (hr : Room j X.A) (hk : k ≤ j) (hg : Gl X x) (tk : Takes X W) (ha : PA X (e :: es) t)
    (hdb : (x == ("__debug__" : Str)) = false := by decide) (he : starEach (e :: es) X.env = (false, eval e X.env) :: starEach es X.env := by rfl)
    (hpl : (backTo pos (starEach es X.env)).any (·.1) = false := by rfl) : PE X (.Call (.Name x p) (e :: es) [] pos) (tCallX sp W t) := by
  obtain ⟨f, fd, ps, F, hm, hkp, hb⟩ := c.ex
  exact pe_callS F (hr.mono hk) hg hm hkp hb (fun σ => passAt tk σ) ha hdb he hpl
theorem pe_cx0 (c : CalX X.prog X.w X.K X.mg X.base k x sp) (hr : Room j X.A) (hk : k ≤ j) (hg : Gl X x) (tk : Takes X W)
    (hdb : (x == ("__debug__" : Str)) = false := by decide) : PE X (.Call (.Name x p) [] [] pos) (tCallX sp W tNil) := by
  obtain ⟨f, fd, ps, F, hm, hkp, hb⟩ := c.ex
  refine ⟨fun pn s₀ σ₀ H₀ Q₀ I₀ q₀ => ?_⟩
  refine wpAny_Call_Name_kw (ld_glob I₀ hg hm ?_ hdb)
  exact PySem.W.callWith_K0 I₀.kIn hkp (run_fnS (us := []) F (hr.mono hk) hb (passAt tk σ₀) I₀ .nil q₀)
theorem pe_mx {pl : Sem Bool} (he : PE X o ta) (c : MetX X.prog X.w X.K X.mg X.base k C m sp) (hr : Room j X.A) (hk : k ≤ j) (tk : Takes X W) (ha : PA X (e :: es) t)
    (hst : starEach (e :: es) X.env = (false, eval e X.env) :: starEach es X.env := by rfl) (hpl : (backTo pos (starEach es X.env)).any (·.1) = false := by rfl)
    (ht : eval (.Call (.Attribute o m apos) (e :: es) [] pos) X.env = (do
      let ov ← eval o X.env
      standAt apos.atName
      let (f, first) ← holding [ov] (getMethod ov m pl)
      callWith pos f first (backTo pos (starEach (e :: es) X.env)) (backToKw pos (keywordEach [] X.env))) := by rfl) :
    PE X (.Call (.Attribute o m apos) (e :: es) [] pos) (tMethX C m sp W ta t) := by
  obtain ⟨f, fd, ps, c, hm, F, hb⟩ := c.ex
  refine ⟨fun pn s₀ σ₀ H₀ Q₀ I₀ q₀ => ?_⟩
  refine PySem.W.methodCall_KW (pl := pl) (thn (he.run pn s₀ σ₀ H₀ _ I₀ q₀) fun u₀ s₁ ⟨x₁, H₁, I₁, rx, a₀, dx₀, fs₀, ex, ea, l₀, q₁⟩ => ?_) ht
  subst ex
  obtain rfl : u₀ = Value.ref a₀ := rx
  refine getmeth_ok I₁ ea c hm l₀ ?_
  refine PySem.W.callWith_K (first := [.ref a₀]) (h₀ := X.base) I₁.ok.mod.kin hm.kp (thn (ha.run pos pn s₁ σ₀ H₁ _ I₁ q₁) fun us s₂ ⟨vs, H₂, I₂, r₂, q₂⟩ => ⟨I₂.kIn, ?_⟩) hst hpl
  exact run_fnS (us := .ref a₀ :: us) (vs := .ref a₀ :: vs) F (hr.mono hk) hb (passAt tk σ₀) I₂ (.cons rfl r₂) q₂
theorem pe_mx0 {pl : Sem Bool} (he : PE X o ta) (c : MetX X.prog X.w X.K X.mg X.base k C m sp) (hr : Room j X.A) (hk : k ≤ j) (tk : Takes X W)
    (ht : eval (.Call (.Attribute o m apos) [] [] pos) X.env = (do
      let ov ← eval o X.env
      standAt apos.atName
      let (f, first) ← holding [ov] (getMethod ov m pl)
      callWith pos f first (backTo pos (starEach [] X.env)) (backToKw pos (keywordEach [] X.env))) := by rfl) :
    PE X (.Call (.Attribute o m apos) [] [] pos) (tMethX C m sp W ta tNil) := by
  obtain ⟨f, fd, ps, c, hm, F, hb⟩ := c.ex
  refine ⟨fun pn s₀ σ₀ H₀ Q₀ I₀ q₀ => ?_⟩
  refine PySem.W.methodCall_KW (pl := pl) (thn (he.run pn s₀ σ₀ H₀ _ I₀ q₀) fun u₀ s₁ ⟨x₁, H₁, I₁, rx, a₀, dx₀, fs₀, ex, ea, l₀, q₁⟩ => ?_) ht
  subst ex
  obtain rfl : u₀ = Value.ref a₀ := rx
  refine getmeth_ok I₁ ea c hm l₀ ?_
  exact PySem.W.callWith_K0 (first := [.ref a₀]) I₁.kIn hm.kp (run_fnS (us := [.ref a₀]) (vs := [.ref a₀]) F (hr.mono hk) hb (passAt tk σ₀) I₁ (.cons rfl .nil) q₁)
theorem pe_kx (c : MakX X.prog X.w X.K X.mg X.base k x C sp) (hr : Room j X.A) (hk : k + 1 ≤ j) (hg : Gl X x) (tk : Takes X W) (ha : PA X (e :: es) t)
    (hdb : (x == ("__debug__" : Str)) = false := by decide) (he : starEach (e :: es) X.env = (false, eval e X.env) :: starEach es X.env := by rfl)
    (hpl : (backTo pos (starEach es X.env)).any (·.1) = false := by rfl) : PE X (.Call (.Name x p) (e :: es) [] pos) (tMakeX C sp W t) := by
  obtain ⟨f, fd, ps, M, F, hm, hb⟩ := c.ex
  refine ⟨fun pn s₀ σ₀ H₀ Q₀ I₀ q₀ => ?_⟩
  refine wpAny_Call_Name_kw (ld_glob I₀ hg hm ?_ hdb)
  refine PySem.W.callWith_K (h₀ := X.base) I₀.ok.mod.kin M.kp (thn (ha.run pos pn s₀ σ₀ H₀ _ I₀ q₀) fun us s₁ ⟨vs, H₁, I₁, r₁, q₁⟩ => ⟨I₁.kIn, ?_⟩) he hpl
  have hq := q₁ (s₁.heap.objs.size + 1) s₁.heap.objs.size (I₁.hok.fresh (Nat.le_succ _)) (I₁.hok.fresh (Nat.le_refl _)) (Nat.ne_of_lt (Nat.lt_succ_self _))
  have I₂ := Inv.made (C := C) I₁
  have r₂ : Vals (V.ref (s₁.heap.objs.size + 1) :: vs) (Value.ref (s₁.heap.objs.size + 1) :: us) := .cons rfl r₁
  have hl : (Value.ref (s₁.heap.objs.size + 1) :: us).length = ps.length := by rw [← r₂.length]; exact F.len _ _ _ _ hq
  have b := hb { s₁ with heap := (s₁.heap.push PySem.W.emptyDict).push (PySem.W.instObj C s₁.heap.objs.size) } (Value.ref (s₁.heap.objs.size + 1) :: us) I₂.kIn (by rw [List.append_nil]; exact hl)
  rw [List.append_nil] at b
  refine wpAny_call (make_map (f := f) I₁.kIn M.makes M.init (beq_iff_eq.mp M.fn) (codeAny_mono (F.run _ X.stack _ _ ⟨Value.ref (s₁.heap.objs.size + 1) :: us, []⟩ (Value.ref (s₁.heap.objs.size + 1) :: us) _ _ (WE W σ₀) ((hr.mono hk).make C us [])
    (I₂.env0.make C us []) b r₂ hq) fun r s' hq' => ?_))
  cases r with
  | error e => exact passAt tk σ₀ pn _ _ e s' I₂ hq'
  | ok fl =>
    cases fl with
    | ret u =>
      obtain ⟨v, H', I₃, rv, ev, q₃⟩ := I₂.after hq'
      subst ev
      exact ⟨rv, ⟨V.ref (s₁.heap.objs.size + 1), H', I₃, rfl, q₃⟩⟩
    | next => exact False.elim hq'
    | brk => exact False.elim hq'
    | cont => exact False.elim hq'
end

abbrev wOut (E : XK) : WX := fun cls d _ H => E cls d H

/-! ### readings, one step each -/
section
variable {K : PySem.W.Frag} {σ : L2.St} {H H1 : Hp} {Q : VK} {QT : Bool → Hp → Prop} {QA : List V → Hp → Prop} {D : Ends} {ta tb te tv : TE} {tt tu : TT} {t u : TS} {tr : TA} {g : TG} {gs : TGs} {r : R2} {v x y z : V} {i j : Int} {n : Nat} {a b p : Addr} {xs ys : List V} {f : Str} {W : WX} {sp : Sp}
theorem w_seq (h : t { D with nx := u D } σ H) : tSeq t u D σ H := h
theorem w_asg (h : te σ H fun x H1 => g x σ H1 D.nx) : tAsg te g D σ H := h
theorem w_name {R : L2.St → Hp → Prop} (h : R (σ.set n (some v)) H) : gName n v σ H R := h
theorem w_ret (h : te σ H D.rt) : tRet te D σ H := h
theorem w_retN (h : D.rt .non H) : tRetN D σ H := h
theorem w_drop (h : te σ H fun _ H1 => D.nx σ H1) : tDrop te D σ H := h
theorem w_next (h : D.nx σ H) : tNext D σ H := h
theorem w_brk (h : D.bk σ H) : tBreak D σ H := h
theorem w_cont (h : D.ct σ H) : tCont D σ H := h
theorem w_if (h : tt σ H fun b H1 => if b = true then t D σ H1 else u D σ H1) : tIfS tt t u D σ H := h
theorem w_ite {c : Prop} [Decidable c] {A B : Prop} (h1 : c → A) (h2 : ¬ c → B) : if decide c = true then A else B := by
  by_cases q : c
  · rw [if_pos (decide_eq_true q)]; exact h1 q
  · rw [if_neg (by rw [decide_eq_false q]; exact Bool.false_ne_true)]; exact h2 q
theorem w_iteN {c : Prop} [Decidable c] {A B : Prop} (h1 : ¬ c → A) (h2 : c → B) : if (!decide c) = true then A else B := by
  by_cases q : c
  · rw [if_neg (by rw [decide_eq_true q]; exact Bool.false_ne_true)]; exact h2 q
  · rw [if_pos (by rw [decide_eq_false q]; rfl)]; exact h1 q
theorem w_iteT {b : Bool} {A B : Prop} (e : b = true) (h : A) : if b = true then A else B := by rw [if_pos e]; exact h
theorem w_iteF {b : Bool} {A B : Prop} (e : b = false) (h : B) : if b = true then A else B := by rw [if_neg (by rw [e]; exact Bool.false_ne_true)]; exact h
theorem w_iteB {b : Bool} {A B : Prop} (h1 : b = true → A) (h2 : b = false → B) : if b = true then A else B := by cases b with | true => exact h1 rfl | false => exact h2 rfl
theorem w_var (e : σ[n]? = some (some v)) (h : Q v H) : tVar n σ H Q := ⟨v, e, h⟩
theorem w_c (h : Q v H) : tC v σ H Q := h
theorem w_op (h : ta σ H fun x H1 => tb σ H1 fun y H2 => r x y H2 Q) : tOp r ta tb σ H Q := h
theorem w_un {q : V → Hp → VK → Prop} (h : ta σ H fun x H1 => q x H1 Q) : tUn q ta σ H Q := h
theorem w_I0 {gi : Int → Int → V} (h : Q (gi i j) H) : rI0 gi (.int i) (.int j) H Q := ⟨i, j, rfl, rfl, h⟩
theorem w_I {C : Int → Int → Prop} {gi : Int → Int → V} (c : C i j) (h : Q (gi i j) H) : rI C gi (.int i) (.int j) H Q := ⟨i, j, rfl, rfl, c, h⟩
theorem w_U {gi : Int → V} (h : Q (gi i) H) : rU gi (.int i) H Q := ⟨i, rfl, h⟩
theorem w_plusI (h : Q (.int (i + j)) H) : rPlus K (.int i) (.int j) H Q := Or.inl ⟨i, j, rfl, rfl, h⟩
theorem w_plusL (ha : H a = some (.lst xs)) (hb : H b = some (.lst ys)) (hl : xs.length + ys.length ≤ sizeLine) (h : ∀ p, H p = none → Q (.ref p) (upd H p (.lst (xs ++ ys)))) : rPlus K (.ref a) (.ref b) H Q := Or.inr (Or.inl ⟨a, b, xs, ys, rfl, rfl, ha, hb, hl, h⟩)
theorem w_plusS {s z : Str} (hl : s.length + z.length ≤ sizeLine) (h : Q (.str (s ++ z)) H) : rPlus K (.str s) (.str z) H Q := Or.inr (Or.inr (Or.inl ⟨s, z, rfl, rfl, hl, h⟩))
theorem w_timesI (c : CMul i j) (h : Q (.int (i * j)) H) : rTimes (.int i) (.int j) H Q := Or.inl ⟨i, j, rfl, rfl, c, h⟩
theorem w_timesL (ha : H a = some (.lst xs)) (h1 : -(2 ^ 63) ≤ i) (h2 : i < 2 ^ 63) (hl : xs.length * i.toNat ≤ sizeLine) (h : ∀ p, H p = none → Q (.ref p) (upd H p (.lst (List.replicate i.toNat xs).flatten))) : rTimes (.ref a) (.int i) H Q := Or.inr ⟨a, i, xs, rfl, rfl, ha, h1, h2, hl, h⟩
theorem w_test (h : te σ H fun x H' => ∃ k, x = .bl k ∧ QT k H') : tTest te σ H QT := h
theorem w_tB (h : te σ H fun x H' => ∃ k, x = .bl k ∧ QT k H') : tB te σ H QT := h
theorem w_bl {k : Bool} {R : Bool → Prop} (h : R k) : ∃ k', V.bl k = .bl k' ∧ R k' := ⟨k, rfl, h⟩
theorem w_tru (h : te σ H fun x H' => ∃ k, TruV K x H' k ∧ QT k H') : tTru K te σ H QT := h
theorem w_truB {k : Bool} {R : Bool → Prop} (h : R k) : ∃ k', TruV K (.bl k) H k' ∧ R k' := ⟨k, rfl, h⟩
theorem w_truI {R : Bool → Prop} (h : R (i != 0)) : ∃ k', TruV K (.int i) H k' ∧ R k' := ⟨_, rfl, h⟩
theorem w_truL {R : Bool → Prop} (e : SqL K H a xs) (h : R (!xs.isEmpty)) : ∃ k', TruV K (.ref a) H k' ∧ R k' := ⟨_, Or.inl ⟨xs, e, rfl⟩, h⟩
theorem w_truT {R : Bool → Prop} (e : SqT K H a xs) (h : R (!xs.isEmpty)) : ∃ k', TruV K (.ref a) H k' ∧ R k' := ⟨_, Or.inr (Or.inl ⟨xs, e, rfl⟩), h⟩
theorem w_and (h : tt σ H fun c H1 => if c = true then tu σ H1 QT else QT false H1) : tAnd tt tu σ H QT := h
theorem w_or (h : tt σ H fun c H1 => if c = true then QT true H1 else tu σ H1 QT) : tOr tt tu σ H QT := h
theorem w_not (h : tt σ H fun c H1 => QT (!c) H1) : tNot tt σ H QT := h
theorem w_andV (h : ta σ H fun x H1 => ∃ c, x = .bl c ∧ if c = true then tb σ H1 Q else Q (.bl false) H1) : tAndV ta tb σ H Q := h
theorem w_orV (h : ta σ H fun x H1 => ∃ c, x = .bl c ∧ if c = true then Q (.bl true) H1 else tb σ H1 Q) : tOrV ta tb σ H Q := h
theorem w_notV (h : ta σ H fun x H1 => ∃ c, x = .bl c ∧ Q (.bl (!c)) H1) : tNotV ta σ H Q := h
theorem w_ifx (h : tt σ H fun c H1 => if c = true then ta σ H1 Q else tb σ H1 Q) : tIf tt ta tb σ H Q := h
theorem w_eq (s : scal x y = true) (h : Q (.bl (decide (x = y))) H) : rEqX K x y H Q := Or.inl ⟨s, h⟩
theorem w_ne (s : scal x y = true) (h : Q (.bl (!decide (x = y))) H) : rNeX K x y H Q := Or.inl ⟨s, h⟩
theorem w_eqI (h : Q (.bl (decide (i = j))) H) : rEqX K (.int i) (.int j) H Q := w_eq rfl (by
  have e : decide (V.int i = V.int j) = decide (i = j) := by
    by_cases q : i = j
    · subst q; rw [decide_eq_true rfl, decide_eq_true rfl]
    · rw [decide_eq_false q, decide_eq_false (fun z => q (V.int.inj z))]
  rw [e]; exact h)
theorem w_neI (h : Q (.bl (!decide (i = j))) H) : rNeX K (.int i) (.int j) H Q := w_ne rfl (by
  have e : decide (V.int i = V.int j) = decide (i = j) := by
    by_cases q : i = j
    · subst q; rw [decide_eq_true rfl, decide_eq_true rfl]
    · rw [decide_eq_false q, decide_eq_false (fun z => q (V.int.inj z))]
  rw [e]; exact h)
theorem w_eqS {s z : Str} (h : Q (.bl (decide (s = z))) H) : rEqX K (.str s) (.str z) H Q := w_eq rfl (by
  have e : decide (V.str s = V.str z) = decide (s = z) := by
    by_cases q : s = z
    · subst q; rw [decide_eq_true rfl, decide_eq_true rfl]
    · rw [decide_eq_false q, decide_eq_false (fun w => q (V.str.inj w))]
  rw [e]; exact h)
theorem w_neS {s z : Str} (h : Q (.bl (!decide (s = z))) H) : rNeX K (.str s) (.str z) H Q := w_ne rfl (by
  have e : decide (V.str s = V.str z) = decide (s = z) := by
    by_cases q : s = z
    · subst q; rw [decide_eq_true rfl, decide_eq_true rfl]
    · rw [decide_eq_false q, decide_eq_false (fun w => q (V.str.inj w))]
  rw [e]; exact h)
theorem w_eqB {s z : Bool} (h : Q (.bl (decide (s = z))) H) : rEqX K (.bl s) (.bl z) H Q := w_eq rfl (by
  have e : decide (V.bl s = V.bl z) = decide (s = z) := by cases s <;> cases z <;> rfl
  rw [e]; exact h)
theorem w_neB {s z : Bool} (h : Q (.bl (!decide (s = z))) H) : rNeX K (.bl s) (.bl z) H Q := w_ne rfl (by
  have e : decide (V.bl s = V.bl z) = decide (s = z) := by cases s <;> cases z <;> rfl
  rw [e]; exact h)
theorem w_eqD {d e : PyData} (hd : Dp K H x d) (he : Dp K H y e) (s1 : SeqAt.shaped d = true) (s2 : SeqAt.shaped e = true) (h : Q (.bl (PyData.eqv d e)) H) : rEqX K x y H Q := Or.inr ⟨d, e, hd, he, s1, s2, h⟩
theorem w_neD {d e : PyData} (hd : Dp K H x d) (he : Dp K H y e) (s1 : SeqAt.shaped d = true) (s2 : SeqAt.shaped e = true) (h : Q (.bl (!PyData.eqv d e)) H) : rNeX K x y H Q := Or.inr ⟨d, e, hd, he, s1, s2, h⟩
theorem w_isN (h : Q (.bl (decide (x = .non))) H) : rIsNon x .non H Q := ⟨rfl, h⟩
theorem w_notN (h : Q (.bl (!decide (x = .non))) H) : rNotNon x .non H Q := ⟨rfl, h⟩
theorem w_inL (e : SqL K H a xs) (fx : flatV x = true) (fa : xs.all flatV = true) (h : Q (.bl (inV x xs)) H) : rInX K x (.ref a) H Q := Or.inl ⟨a, xs, rfl, Or.inl e, fx, fa, h⟩
theorem w_inT (e : SqT K H a xs) (fx : flatV x = true) (fa : xs.all flatV = true) (h : Q (.bl (inV x xs)) H) : rInX K x (.ref a) H Q := Or.inl ⟨a, xs, rfl, Or.inr e, fx, fa, h⟩
theorem w_ninL (e : SqL K H a xs) (fx : flatV x = true) (fa : xs.all flatV = true) (h : Q (.bl (!inV x xs)) H) : rNinX K x (.ref a) H Q := Or.inl ⟨a, xs, rfl, Or.inl e, fx, fa, h⟩
theorem w_ninT (e : SqT K H a xs) (fx : flatV x = true) (fa : xs.all flatV = true) (h : Q (.bl (!inV x xs)) H) : rNinX K x (.ref a) H Q := Or.inl ⟨a, xs, rfl, Or.inr e, fx, fa, h⟩
theorem w_ixL (e : SqL K H a xs) (q : atI xs i = some v) (h : Q v H) : rIx K (.ref a) (.int i) H Q := Or.inl ⟨a, xs, i, v, rfl, rfl, e, q, h⟩
theorem w_ixT (e : SqT K H a xs) (q : atI xs i = some v) (h : Q v H) : rIx K (.ref a) (.int i) H Q := Or.inr (Or.inl ⟨a, xs, i, v, rfl, rfl, e, q, h⟩)
theorem w_nil (h : QA [] H) : tNil σ H QA := h
theorem w_cons (h : ta σ H fun x H1 => tr σ H1 fun xs H2 => QA (x :: xs) H2) : tCons ta tr σ H QA := h
theorem w_tup (h : tr σ H fun xs H1 => xs.length ≤ sizeLine ∧ ∀ p, H1 p = none → Q (.ref p) (upd H1 p (.tup xs))) : tTup tr σ H Q := h
theorem w_lst (h : tr σ H fun xs H1 => xs.length ≤ sizeLine ∧ ∀ p, H1 p = none → Q (.ref p) (upd H1 p (.lst xs))) : tLst tr σ H Q := h
theorem w_cb {q : List V → Hp → VK → Prop} (h : tr σ H fun vs H1 => q vs H1 Q) : tCB q tr σ H Q := h
theorem w_lenL (e : SqL K H a xs) (h : Q (.int xs.length) H) : rLenX K [.ref a] H Q := ⟨_, _, rfl, Or.inl ⟨xs, e, rfl⟩, h⟩
theorem w_lenT (e : SqT K H a xs) (h : Q (.int xs.length) H) : rLenX K [.ref a] H Q := ⟨_, _, rfl, Or.inr ⟨xs, e, rfl⟩, h⟩
theorem w_lenS {s : Str} (e : s.length ≤ sizeLine) (h : Q (.int (s.length : Nat)) H) : rLenX K [.str s] H Q := ⟨_, _, rfl, ⟨e, rfl⟩, h⟩
theorem w_max2 (h : Q (.int (max i j)) H) : rMaxX K [.int i, .int j] H Q := Or.inl ⟨i, j, rfl, by
  have e : (if j > i then j else i) = max i j := by rw [Int.max_def]; split <;> split <;> omega
  rw [e]; exact h⟩
theorem w_min2 (h : Q (.int (min i j)) H) : rMinX K [.int i, .int j] H Q := Or.inl ⟨i, j, rfl, by
  have e : (if j < i then j else i) = min i j := by rw [Int.min_def]; split <;> split <;> omega
  rw [e]; exact h⟩
theorem w_maxL {ns : List Int} (e : SqL K H a (ns.map V.int)) (q : 0 < ns.length) (h : ∀ m, m ∈ ns → (∀ y, y ∈ ns → y ≤ m) → Q (.int m) H) : rMaxX K [.ref a] H Q := Or.inr ⟨a, ns, rfl, e, q, h⟩
theorem w_minL {ns : List Int} (e : SqL K H a (ns.map V.int)) (q : 0 < ns.length) (h : ∀ m, m ∈ ns → (∀ y, y ∈ ns → m ≤ y) → Q (.int m) H) : rMinX K [.ref a] H Q := Or.inr ⟨a, ns, rfl, e, q, h⟩
theorem w_intI (h : Q (.int i) H) : rIntX [.int i] H Q := Or.inl ⟨i, rfl, h⟩
theorem w_intB {k : Bool} (h : Q (.int (if k then 1 else 0)) H) : rIntX [.bl k] H Q := Or.inr ⟨k, rfl, h⟩
theorem w_tupL (e : SqL K H a xs) (h : ∀ p, H p = none → Q (.ref p) (upd H p (.tup xs))) : rTupX K [.ref a] H Q := ⟨a, xs, rfl, Or.inl ⟨e, h⟩⟩
theorem w_tupT (e : SqT K H a xs) (h : Q (.ref a) H) : rTupX K [.ref a] H Q := ⟨a, xs, rfl, Or.inr ⟨e, h⟩⟩
theorem w_lisL (e : SqL K H a xs) (h : ∀ p, H p = none → Q (.ref p) (upd H p (.lst xs))) : rLisX K [.ref a] H Q := ⟨a, xs, rfl, Or.inl e, h⟩
theorem w_lisT (e : SqT K H a xs) (h : ∀ p, H p = none → Q (.ref p) (upd H p (.lst xs))) : rLisX K [.ref a] H Q := ⟨a, xs, rfl, Or.inr e, h⟩
theorem w_isi {c : V} {cu ty : Value} {k : Bool} (hc : ClsV c cu) (ht : TyX K H x ty) (hk : PySem.W.kitOne K ty cu = some k) (h : Q (.bl k) H) : rIsi K [x, c] H Q := ⟨x, c, ty, cu, k, rfl, hc, ht, hk, h⟩
def kFld (K : PySem.W.Frag) (f : Str) (x : V) (H1 : Hp) (Q : VK) : Prop := ∃ a C dx fs v, x = .ref a ∧ H1 a = some (.ins C dx fs) ∧ Cls K C ∧ NoAttr K C f ∧ fs.lookup f = some v ∧ Q v H1
theorem w_fldE (h : ta σ H fun x H1 => kFld K f x H1 Q) : tFld K ta f σ H Q := h
theorem w_fldK {C dx : Addr} {fs : List (Str × V)} (e : H a = some (.ins C dx fs)) (c : Cls K C) (nn : NoAttr K C f) (l : fs.lookup f = some v) (h : Q v H) : kFld K f (.ref a) H Q := ⟨a, C, dx, fs, v, rfl, e, c, nn, l, h⟩
def kSFld (K : PySem.W.Frag) (f : Str) (y : V) (x : V) (H2 : Hp) (R : Hp → Prop) : Prop := ∃ a C dx fs, x = .ref a ∧ H2 a = some (.ins C dx fs) ∧ Cls K C ∧ NoAttr K C f ∧ fs.length < 1000 ∧ R (upd H2 a (.ins C dx (putF f y fs)))
theorem w_sfld (h : tv σ H fun y H1 => ta σ H1 fun x H2 => kSFld K f y x H2 (D.nx σ)) : sFld K ta tv f D σ H := h
theorem w_sfldK {C dx : Addr} {fs : List (Str × V)} {R : Hp → Prop} (e : H a = some (.ins C dx fs)) (c : Cls K C) (nn : NoAttr K C f) (l : fs.length < 1000) (h : R (upd H a (.ins C dx (putF f y fs)))) : kSFld K f y (.ref a) H R := ⟨a, C, dx, fs, rfl, e, c, nn, l, h⟩
theorem w_call (h : tr σ H fun vs H1 => sp vs H1 Q (WE W σ)) : tCallX sp W tr σ H Q := h
def kMeth (C : Addr) (m : Str) (x : V) (H1 : Hp) (R : Prop) : Prop := ∃ a dx fs, x = .ref a ∧ H1 a = some (.ins C dx fs) ∧ fs.lookup m = none ∧ R
theorem w_meth {C : Addr} {m : Str} (h : ta σ H fun x H1 => kMeth C m x H1 (tr σ H1 fun vs H2 => sp (x :: vs) H2 Q (WE W σ))) : tMethX C m sp W ta tr σ H Q := h
theorem w_methK {C dx : Addr} {m : Str} {fs : List (Str × V)} {R : Prop} (e : H a = some (.ins C dx fs)) (l : fs.lookup m = none) (h : R) : kMeth C m (.ref a) H R := ⟨a, dx, fs, rfl, e, l, h⟩
theorem w_make {C : Addr} (h : tr σ H fun vs H1 => ∀ x dx, H1 x = none → H1 dx = none → dx ≠ x → sp (.ref x :: vs) (upd (upd H1 dx (.own x)) x (.ins C dx [])) (fun v H2 => v = .non ∧ Q (.ref x) H2) (WE W σ)) : tMakeX C sp W tr σ H Q := h
theorem w_gtup {R : L2.St → Hp → Prop} (e : SqT K H a xs) (l : xs.length = n) (h : gs xs σ H R) : gTup K n gs (.ref a) σ H R := ⟨a, xs, rfl, e, l, h⟩
theorem w_gnil {R : L2.St → Hp → Prop} (h : R σ H) : gNil [] σ H R := ⟨rfl, h⟩
theorem w_gcons {R : L2.St → Hp → Prop} (h : g v σ H fun σ' H' => gs xs σ' H' R) : gCons g gs (v :: xs) σ H R := ⟨v, xs, rfl, h⟩
theorem w_gsub {ts : TSet} {R : L2.St → Hp → Prop} (h : ta σ H fun o H1 => tb σ H1 fun i H2 => ts o i v H2 fun H3 => R σ H3) : gSub ta tb ts v σ H R := h
theorem w_setL {R : Hp → Prop} {m : Nat} (e : H a = some (.lst xs)) (q : ixN xs.length i = some m) (h : R (upd H a (.lst (xs.set m v)))) : rSetL (.ref a) (.int i) v H R := ⟨a, xs, i, m, rfl, rfl, e, q, h⟩
/-! dicts -/
def kDGet (x y : V) (H : Hp) (Q : VK) : Prop := ∃ a v, x = .ref a ∧ DGet H a y (some v) ∧ Q v H
theorem w_dget (h : ta σ H fun x H1 => tb σ H1 fun y H2 => kDGet x y H2 Q) : tDGet ta tb σ H Q := h
theorem w_dgetS {kvs : List (Key × V)} {s : Str} (e : H a = some (.dK kvs)) (q : valV kvs (Sum.inr s) = some v) (h : Q v H) : kDGet (.ref a) (.str s) H Q := ⟨a, v, rfl, q ▸ DGet.k (k := Sum.inr s) e, h⟩
theorem w_dgetI {kvs : List (Key × V)} (e : H a = some (.dK kvs)) (q : valV kvs (Sum.inl i) = some v) (h : Q v H) : kDGet (.ref a) (.int i) H Q := ⟨a, v, rfl, q ▸ DGet.k (k := Sum.inl i) e, h⟩
def kDPut (v x y : V) (H : Hp) (R : Hp → Prop) : Prop := ∃ a H4, x = .ref a ∧ DPut H a y v H4 ∧ R H4
theorem w_dput (h : tv σ H fun v H1 => ta σ H1 fun x H2 => tb σ H2 fun y H3 => kDPut v x y H3 (D.nx σ)) : sDPut ta tb tv D σ H := h
theorem w_dputS {R : Hp → Prop} {kvs : List (Key × V)} {s : Str} (e : H a = some (.dK kvs)) (l : kvs.length < sizeLine) (h : R (upd H a (.dK (putK kvs (Sum.inr s) v)))) : kDPut v (.ref a) (.str s) H R := ⟨a, _, rfl, DPut.k (k := Sum.inr s) e l, h⟩
theorem w_dputI {R : Hp → Prop} {kvs : List (Key × V)} (e : H a = some (.dK kvs)) (l : kvs.length < sizeLine) (h : R (upd H a (.dK (putK kvs (Sum.inl i) v)))) : kDPut v (.ref a) (.int i) H R := ⟨a, _, rfl, DPut.k (k := Sum.inl i) e l, h⟩
/-! methods of built-in values -/
theorem w_bm {T : String} {q : V → List V → Hp → VK → Prop} (h : ta σ H fun x H1 => tyV K T x H1 ∧ tr σ H1 fun xs H2 => q x xs H2 Q) : tBM K T q ta tr σ H Q := h
theorem w_bm0 {T : String} {q : V → List V → Hp → VK → Prop} (h : ta σ H fun x H1 => tyV K T x H1 ∧ q x [] H1 Q) : tBM0 K T q ta σ H Q := h
theorem w_app (e : H a = some (.lst xs)) (l : xs.length < sizeLine) (h : Q .non (upd H a (.lst (xs ++ [v])))) : rAppend (.ref a) [v] H Q := ⟨a, xs, v, rfl, rfl, e, l, h⟩
theorem w_clear (e : H a = some (.lst xs)) (h : Q .non (upd H a (.lst []))) : rClear (.ref a) [] H Q := ⟨a, xs, rfl, rfl, e, h⟩
theorem tyL (e : H a = some (.lst xs)) : tyV K "list" (.ref a) H := Or.inl ⟨rfl, xs, SqL.of e⟩
/-! loops -/
def kForL (K : PySem.W.Frag) (g : TG) (t : TS) (D : Ends) (σ : L2.St) (x : V) (H1 : Hp) : Prop := ∃ a, x = .ref a ∧ (∃ xs, SqL K H1 a xs) ∧ ∃ W : Nat → Nat → L2.St → Hp → Prop, (∃ m, W 0 m σ H1) ∧ ∀ i m σ H, W i m σ H →
      ((Itl K a).stop i H ∧ D.nx σ H) ∨ ((Itl K a).go i H ∧ ∃ N : L2.St → Hp → Prop, (∀ σ' H', N σ' H' → ∃ m', m' < m ∧ W (i + 1) m' σ' H') ∧ ∀ x H', (Itl K a).yld i H x H' → g x σ H' fun σ2 H2 => t { D with nx := N, ct := N, bk := D.nx } σ2 H2)
theorem w_forList (h : te σ H fun x H1 => kForL K g t D σ x H1) : tFor (iList K te) g t D σ H := h
theorem l_forList (e : SqL K H a xs) (Pv : Nat → L2.St → Hp → Prop) (h0 : Pv 0 σ H) (hl : ∀ i σ' H', i ≤ xs.length → Pv i σ' H' → SqL K H' a xs)
    (hs : ∀ i x σ' H', xs[i]? = some x → Pv i σ' H' → g x σ' H' fun σ2 H2 => t { D with nx := Pv (i + 1), ct := Pv (i + 1), bk := D.nx } σ2 H2) (hd : ∀ σ' H', Pv xs.length σ' H' → D.nx σ' H') : kForL K g t D σ (.ref a) H :=
  ⟨a, rfl, ⟨xs, e⟩, for_list Pv h0 hl hs hd⟩
def kForR1 (g : TG) (t : TS) (D : Ends) (σ : L2.St) (vs : List V) (H1 : Hp) : Prop := ∃ j : Int, vs = [.int j] ∧ -(2 ^ 62) ≤ j ∧ j < 2 ^ 62 ∧ ∃ W : Nat → Nat → L2.St → Hp → Prop, (∃ m, W 0 m σ H1) ∧ ∀ i m σ H, W i m σ H →
  ((Itr 0 j.toNat).stop i H ∧ D.nx σ H) ∨ ((Itr 0 j.toNat).go i H ∧ ∃ N : L2.St → Hp → Prop, (∀ σ' H', N σ' H' → ∃ m', m' < m ∧ W (i + 1) m' σ' H') ∧ ∀ x H', (Itr 0 j.toNat).yld i H x H' → g x σ H' fun σ2 H2 => t { D with nx := N, ct := N, bk := D.nx } σ2 H2)
theorem w_forR1 (h : tr σ H fun vs H1 => kForR1 g t D σ vs H1) : tFor (iRng1 tr) g t D σ H := h
theorem l_forR1 (lo : -(2 ^ 62) ≤ j) (hi : j < 2 ^ 62) (Pv : Nat → L2.St → Hp → Prop) (h0 : Pv 0 σ H)
    (hs : ∀ i σ' H', i < j.toNat → Pv i σ' H' → g (.int i) σ' H' fun σ2 H2 => t { D with nx := Pv (i + 1), ct := Pv (i + 1), bk := D.nx } σ2 H2) (hd : ∀ σ' H', Pv j.toNat σ' H' → D.nx σ' H') : kForR1 g t D σ [.int j] H :=
  ⟨j, rfl, lo, hi, for_range Pv h0 (fun i σ' H' hi q => by rw [Int.zero_add]; exact hs i σ' H' hi q) hd⟩
def kForR2 (g : TG) (t : TS) (D : Ends) (σ : L2.St) (vs : List V) (H1 : Hp) : Prop := ∃ i j : Int, vs = [.int i, .int j] ∧ (-(2 ^ 62) ≤ i ∧ i < 2 ^ 62 ∧ -(2 ^ 62) ≤ j ∧ j < 2 ^ 62) ∧ ∃ W : Nat → Nat → L2.St → Hp → Prop, (∃ m, W 0 m σ H1) ∧ ∀ k m σ H, W k m σ H →
  ((Itr i (j - i).toNat).stop k H ∧ D.nx σ H) ∨ ((Itr i (j - i).toNat).go k H ∧ ∃ N : L2.St → Hp → Prop, (∀ σ' H', N σ' H' → ∃ m', m' < m ∧ W (k + 1) m' σ' H') ∧ ∀ x H', (Itr i (j - i).toNat).yld k H x H' → g x σ H' fun σ2 H2 => t { D with nx := N, ct := N, bk := D.nx } σ2 H2)
theorem w_forR2 (h : tr σ H fun vs H1 => kForR2 g t D σ vs H1) : tFor (iRng2 tr) g t D σ H := h
theorem l_forR2 (b : -(2 ^ 62) ≤ i ∧ i < 2 ^ 62 ∧ -(2 ^ 62) ≤ j ∧ j < 2 ^ 62) (Pv : Nat → L2.St → Hp → Prop) (h0 : Pv 0 σ H)
    (hs : ∀ k σ' H', k < (j - i).toNat → Pv k σ' H' → g (.int (i + k)) σ' H' fun σ2 H2 => t { D with nx := Pv (k + 1), ct := Pv (k + 1), bk := D.nx } σ2 H2) (hd : ∀ σ' H', Pv (j - i).toNat σ' H' → D.nx σ' H') : kForR2 g t D σ [.int i, .int j] H :=
  ⟨i, j, rfl, b, for_range Pv h0 hs hd⟩
end
theorem sz_of {n : Nat} (h : Nat.ble n sizeLine = true) : n ≤ sizeLine := Nat.le_of_ble_eq_true h
theorem sz_lt {n : Nat} (h : Nat.ble (n + 1) sizeLine = true) : n < sizeLine := Nat.le_of_ble_eq_true h
theorem look_hd {k : Str} {v : V} {l : List (Str × V)} : List.lookup k ((k, v) :: l) = some v := by simp [List.lookup]
theorem look_tl {k j : Str} {v : V} {l : List (Str × V)} (h : (k == j) = false) : List.lookup k ((j, v) :: l) = List.lookup k l := by simp [List.lookup, h]
theorem look_nil {k : Str} : List.lookup k ([] : List (Str × V)) = none := rfl
theorem putF_hd {k : Str} {v x : V} {l : List (Str × V)} : putF k v ((k, x) :: l) = (k, v) :: l := by simp [putF]
theorem putF_tl {k j : Str} {v x : V} {l : List (Str × V)} (h : ¬ j = k) : putF k v ((j, x) :: l) = (j, x) :: putF k v l := by simp [putF, h]
theorem putF_nil {k : Str} {v : V} : putF k v [] = [(k, v)] := rfl
section
variable {κ : Type} [DecidableEq κ] {k j : κ} {v x : V} {l : List (κ × V)}
theorem val_hd : valV ((k, v) :: l) k = some v := by simp [valV]
theorem val_tl (h : ¬ j = k) : valV ((j, x) :: l) k = valV l k := by simp [valV, h]
theorem val_nil : valV ([] : List (κ × V)) k = none := rfl
end
/-! ### all but tables are as in H0 -/
abbrev Ext0 (H0 H : Hp) : Prop := LamX.ExtN H0 H
section
variable {K : PySem.W.Frag} {H0 H H1 : Hp} {a p : Addr} {xs : List V} {o : HO} {S : List Addr}
theorem Ext0.refl : Ext0 H H := LamX.ExtN.refl H
theorem Ext0.seqL (h : SqL K H0 a xs) (e : Ext0 H0 H) : SqL K H a xs := by
  rcases h with h | h
  · rcases h with h | ⟨o, h⟩
    · exact Or.inl (Or.inl (e _ _ h (fun _ z => by cases z)))
    · exact Or.inl (Or.inr ⟨o, e _ _ h (fun _ z => by cases z)⟩)
  · exact Or.inr h
theorem Ext0.seqT (h : SqT K H0 a xs) (e : Ext0 H0 H) : SqT K H a xs := by
  rcases h with h | h
  · rcases h with h | ⟨o, h⟩
    · exact Or.inl (Or.inl (e _ _ h (fun _ z => by cases z)))
    · exact Or.inl (Or.inr ⟨o, e _ _ h (fun _ z => by cases z)⟩)
  · exact Or.inr h
theorem Ext0.keep (e : Ext0 H0 H) (k : Keep S H H1) (n : ∀ b, b ∈ S → H0 b = none) : Ext0 H0 H1 := fun b o h nt =>
  k.1 b o (fun m => by rw [n b m] at h; cases h) (e b o h nt)
theorem Ext0.kept (k : Keep S H H1) (e : Ext0 H0 H) (n : ∀ b, b ∈ S → H0 b = none) : Ext0 H0 H1 := e.keep k n
theorem Ext0.set (e : Ext0 H0 H) (n : H0 p = none) : Ext0 H0 (upd H p o) := fun b u h nt => by
  rw [upd_ne (ne_of_none h n)]
  exact e b u h nt
theorem Ext0.new (e : Ext0 H0 H) (n : H p = none) : Ext0 H0 (upd H p o) := fun b u h nt => by
  rw [upd_ne (ne_of_none (e b u h nt) n)]
  exact e b u h nt
/-- fresh behind is fresh ahead, but for tables -/
theorem Ext0.at (e : Ext0 H0 H) (h : H0 a = some o) (nt : ∀ ps, o ≠ .tbl ps) : H a = some o := e a o h nt
theorem none_in {b : Addr} (h : ∀ c, c ∈ S → H0 c = none) (n : H0 b = none) : ∀ c, c ∈ b :: S → H0 c = none := fun c m => by
  rcases List.mem_cons.mp m with z | z
  · rw [z]; exact n
  · exact h c z
theorem none_nil : ∀ c, c ∈ ([] : List Addr) → H0 c = none := fun _ m => absurd m List.not_mem_nil
end
/-! ### the dice -/
structure Dice (K : PySem.W.Frag) (H0 H : Hp) (d : Addr) : Prop where
  at_ : ∃ (a : Addr) (ns : List Int) (i m r : Int), H d = some (.lst [.ref a, .int i, .int m, .int r]) ∧ SqL K H0 a (ns.map V.int) ∧ ns.length ≤ 63 ∧ 0 ≤ i
  new : H0 d = none
  ext : Ext0 H0 H
theorem Dice.keep {K : PySem.W.Frag} {H0 H H1 : Hp} {d : Addr} {S : List Addr} (x : Dice K H0 H d) (k : Keep S H H1) (nd : d ∉ S) (n : ∀ b, b ∈ S → H0 b = none) : Dice K H0 H1 d := by
  obtain ⟨⟨a, ns, i, m, r, h1, h2⟩, h3, h4⟩ := x
  exact ⟨⟨a, ns, i, m, r, k.1 _ _ nd h1, h2⟩, h3, h4.keep k n⟩
theorem Dice.lst {K : PySem.W.Frag} {H0 H : Hp} {d : Addr} (x : Dice K H0 H d) : ∃ xs, H d = some (.lst xs) := by
  obtain ⟨⟨a, ns, i, m, r, h1, h2⟩, h3, h4⟩ := x
  exact ⟨_, h1⟩
def spNext (K : PySem.W.Frag) : Sp := fun vs H Q _ => ∃ (H0 : Hp) (d : Addr) (n : Int), vs = [.ref d, .int n] ∧ 0 < n ∧ n < 1073741824 ∧ Dice K H0 H d ∧
  ∀ r H', 0 ≤ r → r < n → Dice K H0 H' d → Keep [d] H H' → Q (.int r) H'
def spDice (K : PySem.W.Frag) : Sp := fun vs H Q _ => ∃ (a : Addr) (ns : List Int), vs = [.ref a] ∧ SqL K H a (ns.map V.int) ∧ ns.length ≤ 63 ∧ ∀ d H', H d = none → Dice K H H' d → Keep [] H H' → Q (.ref d) H'
theorem next_go {K : PySem.W.Frag} {H0 H : Hp} {d : Addr} {n : Int} {Q : VK} {E : XK} (x : Dice K H0 H d) (h0 : 0 < n) (h1 : n < 1073741824) (h : ∀ r H' xs, 0 ≤ r → r < n → Dice K H0 H' d → H' d = some (.lst xs) → Keep [d] H H' → Q (.int r) H') : spNext K [.ref d, .int n] H Q E :=
  ⟨H0, d, n, rfl, h0, h1, x, fun r H' a b c k => by
    obtain ⟨xs, e⟩ := c.lst
    exact h r H' xs a b c e k⟩
theorem pickP {K : PySem.W.Frag} {H : Hp} {p : Addr} {i : Int} {xs : List V} {Q : VK} (Pr : Int → Prop) (e : SqL K H p xs) (i0 : 0 ≤ i) (i1 : i < xs.length) (hp : ∀ x, x ∈ xs → ∃ v, x = .int v ∧ Pr v) (h : ∀ v, Pr v → Q (.int v) H) : rIx K (.ref p) (.int i) H Q := by
  have hl : i.toNat < xs.length := by omega
  obtain ⟨v, ev, pv⟩ := hp _ (List.getElem_mem hl)
  have e2 : i = ((i.toNat : Nat) : Int) := by omega
  refine w_ixL e (v := .int v) ?_ (h v pv)
  rw [e2]
  refine atI_nat ?_
  rw [List.getElem?_eq_getElem hl, ev]
/-! ### settings -/
structure SetOk (m w l a : Int) : Prop where
  m0 : 2 ≤ m
  m1 : m ≤ 64
  w0 : 0 ≤ w
  w1 : w ≤ 16
  l0 : 0 ≤ l
  l1 : l ≤ 8
  a0 : 1 ≤ a
  a1 : a ≤ 16
def spSetting (K : PySem.W.Frag) : Sp := fun vs H Q _ => ∃ (H0 : Hp) (d : Addr), vs = [.ref d] ∧ Dice K H0 H d ∧
  ∀ p m w l a H', SetOk m w l a → H p = none → H' p = some (.tup [.int m, .int w, .int l, .int a]) → Dice K H0 H' d → Keep [d] H H' → Q (.ref p) H'
/-! ### _law_like: the same data -/
def Alike (K : PySem.W.Frag) (H : Hp) : Nat → V → V → Prop
  | 0, _, _ => False
  | n + 1, x, y => (∃ b, x = .bl b ∧ y = .bl b) ∨ (∃ i, x = .int i ∧ y = .int i) ∨ (∃ s, x = .str s ∧ y = .str s) ∨ (x = .non ∧ y = .non) ∨
      (∃ a b xs ys, x = .ref a ∧ y = .ref b ∧ SqT K H a xs ∧ SqT K H b ys ∧ xs.length = ys.length ∧ xs.length ≤ 16777216 ∧ ∀ (k : Nat) u v, xs[k]? = some u → ys[k]? = some v → Alike K H n u v) ∨
      (∃ a b xs ys, x = .ref a ∧ y = .ref b ∧ SqL K H a xs ∧ SqL K H b ys ∧ xs.length = ys.length ∧ xs.length ≤ 16777216 ∧ ∀ (k : Nat) u v, xs[k]? = some u → ys[k]? = some v → Alike K H n u v)
def spLike (K : PySem.W.Frag) (n : Nat) : Sp := fun vs H Q _ => ∃ x y, vs = [x, y] ∧ Alike K H n x y ∧ Q (.bl true) H
theorem like_go {K : PySem.W.Frag} {H : Hp} {n : Nat} {x y : V} {Q : VK} {E : XK} (a : Alike K H n x y) (h : Q (.bl true) H) : spLike K n [x, y] H Q E := ⟨x, y, rfl, a, h⟩
theorem tyT {K : PySem.W.Frag} {H : Hp} {a : Addr} {xs : List V} (h : SqT K H a xs) : TyX K H (.ref a) (.type "tuple") := by
  rcases h with (h | ⟨o, h⟩) | ⟨o, its, n, h, c, _⟩
  · exact .base (.tup h)
  · exact .fTuple h
  · exact .kTuple h c
theorem tyLs {K : PySem.W.Frag} {H : Hp} {a : Addr} {xs : List V} (h : SqL K H a xs) : TyX K H (.ref a) (.type "list") := by
  rcases h with (h | ⟨o, h⟩) | ⟨o, its, n, h, c, _⟩
  · exact .base (.lst h)
  · exact .base (.frz h)
  · exact .kList h c
theorem w_isiB {K : PySem.W.Frag} {H : Hp} {x : V} {t u : String} {k : Bool} {Q : VK} (ht : TyX K H x (.type t)) (hk : kitB t u = some k) (h : Q (.bl k) H) : rIsi K [x, .ty u] H Q := w_isi (.ty u) ht (kit_ty hk) h
/-! ### any sequence that is tracked -/
def seqOf : HO → Option (List V)
  | .lst xs => some xs
  | .tup xs => some xs
  | .frz _ (.lst xs) => some xs
  | .frz _ (.tup xs) => some xs
  | _ => none
section
variable {K : PySem.W.Frag} {H : Hp} {Q : VK} {a : Addr} {xs : List V} {o : HO} {i : Int} {v x : V}
theorem seqOf_sq (e : H a = some o) (q : seqOf o = some xs) : SqL K H a xs ∨ SqT K H a xs := by
  cases o with
  | lst ys => cases q; exact Or.inl (SqL.of e)
  | tup ys => cases q; exact Or.inr (SqT.of e)
  | frz ob u =>
    cases u with
    | lst ys => cases q; exact Or.inl (Or.inl (Or.inr ⟨ob, e⟩))
    | tup ys => cases q; exact Or.inr (Or.inl (Or.inr ⟨ob, e⟩))
    | _ => cases q
  | _ => cases q
theorem w_ixO (e : H a = some o) (q : seqOf o = some xs) (r : atI xs i = some v) (h : Q v H) : rIx K (.ref a) (.int i) H Q := by
  rcases seqOf_sq (K := K) e q with s | s
  · exact w_ixL s r h
  · exact w_ixT s r h
theorem w_ixO2 (r : atI xs i = some v) (e : H a = some o) (q : seqOf o = some xs) (h : Q v H) : rIx K (.ref a) (.int i) H Q := w_ixO e q r h
theorem w_ixL2 (r : atI xs i = some v) (e : SqL K H a xs) (h : Q v H) : rIx K (.ref a) (.int i) H Q := w_ixL e r h
theorem w_ixT2 (r : atI xs i = some v) (e : SqT K H a xs) (h : Q v H) : rIx K (.ref a) (.int i) H Q := w_ixT e r h
theorem w_lenO (e : H a = some o) (q : seqOf o = some xs) (h : Q (.int xs.length) H) : rLenX K [.ref a] H Q := by
  rcases seqOf_sq (K := K) e q with s | s
  · exact w_lenL s h
  · exact w_lenT s h
theorem w_gtupO {n : Nat} {gs : TGs} {σ : L2.St} {R : L2.St → Hp → Prop} (e : H a = some (.tup xs)) (l : xs.length = n) (h : gs xs σ H R) : gTup K n gs (.ref a) σ H R := w_gtup (SqT.of e) l h
theorem w_lisO (e : H a = some o) (q : seqOf o = some xs) (h : ∀ p, H p = none → Q (.ref p) (upd H p (.lst xs))) : rLisX K [.ref a] H Q := by
  rcases seqOf_sq (K := K) e q with s | s
  · exact w_lisL s h
  · exact w_lisT s h
theorem w_inO (e : H a = some o) (q : seqOf o = some xs) (fx : flatV x = true) (fa : xs.all flatV = true) (h : Q (.bl (inV x xs)) H) : rInX K x (.ref a) H Q := by
  rcases seqOf_sq (K := K) e q with s | s
  · exact w_inL s fx fa h
  · exact w_inT s fx fa h
theorem w_ninO (e : H a = some o) (q : seqOf o = some xs) (fx : flatV x = true) (fa : xs.all flatV = true) (h : Q (.bl (!inV x xs)) H) : rNinX K x (.ref a) H Q := by
  rcases seqOf_sq (K := K) e q with s | s
  · exact w_ninL s fx fa h
  · exact w_ninT s fx fa h
theorem chkL {H1 : Hp} {ys : List V} (_ : SqL K H1 a ys) (g : SqL K H a xs) : SqL K H a xs := g
theorem chkT {H1 : Hp} {ys : List V} (_ : SqT K H1 a ys) (g : SqT K H a xs) : SqT K H a xs := g
end
theorem fresh_of (S : List Addr) {H H1 : Hp} {p : Addr} (n : H1 p = none) (k : Keep S H H1) : H p = none := k.2 p n
theorem w_iT {A B : Prop} (h : A) : if true = true then A else B := by rw [if_pos rfl]; exact h
theorem w_iF {A B : Prop} (h : B) : if false = true then A else B := by rw [if_neg Bool.false_ne_true]; exact h
theorem w_nT {A B : Prop} (h : B) : if (!true) = true then A else B := by rw [if_neg (by decide)]; exact h
theorem w_nF {A B : Prop} (h : A) : if (!false) = true then A else B := by rw [if_pos (by decide)]; exact h
def tyOf : HO → Option String
  | .lst _ => some "list"
  | .tup _ => some "tuple"
  | .dK _ => some "dict"
  | .frz _ (.lst _) => some "list"
  | .frz _ (.tup _) => some "tuple"
  | _ => none
theorem tyO {K : PySem.W.Frag} {H : Hp} {a : Addr} {o : HO} {t : String} (e : H a = some o) (q : tyOf o = some t) : TyX K H (.ref a) (.type t) := by
  cases o with
  | lst ys => cases q; exact .base (.lst e)
  | tup ys => cases q; exact .base (.tup e)
  | dK ys => cases q; exact .base (.dK e)
  | frz ob u =>
    cases u with
    | lst ys => cases q; exact .base (.frz e)
    | tup ys => cases q; exact .fTuple e
    | _ => cases q
  | _ => cases q
theorem pe_ty {X : Cx} {x : Str} {T : String} {pos : Pos} (hg : Gl X x) (hm : X.mg x = none) (hv : bootBuiltins x = some (.type T)) (hn : x ≠ "__name__" := by decide) (hd : (x == ("__debug__" : Str)) = false := by decide) : PE X (.Name x pos) (tC (.ty T)) := pe_bltn (v := .ty T) hg hm hv rfl hn hd
section
variable {H : Hp} {Q : VK} {a : Addr} {i : Int} {b : Bool} {s : Str}
theorem w_isNN (h : Q (.bl true) H) : rIsNon .non .non H Q := ⟨rfl, h⟩
theorem w_isNR (h : Q (.bl false) H) : rIsNon (.ref a) .non H Q := ⟨rfl, h⟩
theorem w_isNI (h : Q (.bl false) H) : rIsNon (.int i) .non H Q := ⟨rfl, h⟩
theorem w_isNB (h : Q (.bl false) H) : rIsNon (.bl b) .non H Q := ⟨rfl, h⟩
theorem w_isNS (h : Q (.bl false) H) : rIsNon (.str s) .non H Q := ⟨rfl, h⟩
theorem w_ntNN (h : Q (.bl false) H) : rNotNon .non .non H Q := ⟨rfl, h⟩
theorem w_ntNR (h : Q (.bl true) H) : rNotNon (.ref a) .non H Q := ⟨rfl, h⟩
theorem w_ntNI (h : Q (.bl true) H) : rNotNon (.int i) .non H Q := ⟨rfl, h⟩
/-- two bools that are told -/
theorem w_neTT {K : PySem.W.Frag} (h : Q (.bl false) H) : rNeX K (.bl b) (.bl b) H Q := w_ne rfl (by rw [decide_eq_true rfl]; exact h)
end
/-! ### stores into an instance -/
theorem lt_of {n m : Nat} (h : Nat.blt n m = true) : n < m := by simpa using h
theorem w_sfldP {K : PySem.W.Frag} {H : Hp} {a C dx : Addr} {f : Str} {y : V} {fs fs' : List (Str × V)} {R : Hp → Prop} (e : H a = some (.ins C dx fs)) (c : Cls K C) (nn : NoAttr K C f) (l : fs.length < 1000) (pf : putF f y fs = fs') (h : R (upd H a (.ins C dx fs'))) : kSFld K f y (.ref a) H R :=
  w_sfldK e c nn l (by rw [pf]; exact h)
theorem Keep.own {S : List Addr} {H H1 : Hp} {p : Addr} {o : HO} (k : Keep S H H1) (n : H p = none) : Keep S H (upd H1 p o) := ⟨fun b u m e => by
  rw [upd_ne (ne_of_none e n)]
  exact k.1 b u m e, fun b e => by
  by_cases q : b = p
  · rw [q, upd_same] at e; cases e
  · rw [upd_ne q] at e; exact k.2 b e⟩
theorem Keep.own' {S : List Addr} {H H1 : Hp} {p : Addr} {o : HO} (n : H p = none) (k : Keep S H H1) : Keep S H (upd H1 p o) := k.own n
/-! ### list comprehensions: out i is what is made behind i items -/
def PvOf (H : Hp) (D : Addr) (out : Nat → List V) (i : Nat) (H' : Hp) : Prop := Keep [] H H' ∧ H' D = some (.lst (out i))
def kIn (H : Hp) (D : Addr) (out : Nat → List V) (i : Nat) (y : V) (H4 : Hp) : Prop := ∃ acc, H4 D = some (.lst acc) ∧ acc.length < sizeLine ∧ PvOf H D out (i + 1) (upd H4 D (.lst (acc ++ [y])))
section
variable {K : PySem.W.Frag} {σ : L2.St} {H H4 : Hp} {Q : VK} {D a : Addr} {out : Nat → List V} {i : Nat} {x y : V} {xs : List V} {g : TG} {tt : TT} {te tl : TE} {tr : TA} {vs : List Nat}
theorem kIn_go (n : H D = none) (e : H4 D = some (.lst (out i))) (k : Keep [] H H4) (l : (out i).length < sizeLine) (o : out (i + 1) = out i ++ [y]) : kIn H D out i y H4 :=
  ⟨out i, e, l, k.own n, by rw [upd_same, o]⟩
theorem kOut_go (e : H4 D = some (.lst (out i))) (k : Keep [] H H4) (o : out (i + 1) = out i) : PvOf H D out (i + 1) H4 := ⟨k, by rw [o]; exact e⟩
theorem w_yes {QT : Bool → Hp → Prop} (h : QT true H) : tYes σ H QT := h
/-- a turn -/
abbrev LcTurn (H : Hp) (g : TG) (tt : TT) (te : TE) (vs : List Nat) (σ : L2.St) (D : Addr) (out : Nat → List V) (i : Nat) (x : V) (H' : Hp) : Prop :=
  g x (wipe σ vs) H' fun σ2 H2 => wipe σ2 vs = wipe σ vs ∧ tt σ2 H2 fun b H3 => if b = true then te σ2 H3 fun y H4 => kIn H D out i y H4 else PvOf H D out (i + 1) H3
def kLcL (K : PySem.W.Frag) (g : TG) (tt : TT) (te : TE) (vs : List Nat) (σ : L2.St) (x : V) (H1 : Hp) (Q : VK) : Prop := ∃ a, x = .ref a ∧ (∃ xs, SqL K H1 a xs) ∧ ∀ D, H1 D = none → ∃ W : Nat → Nat → Hp → Prop, (∃ m, W 0 m (upd H1 D (.lst []))) ∧ ∀ i m H, W i m H →
  ((Itl K a).stop i H ∧ Q (.ref D) H) ∨ ((Itl K a).go i H ∧ ∃ Nx : Hp → Prop, (∀ H', Nx H' → ∃ m', m' < m ∧ W (i + 1) m' H') ∧ ∀ x H', (Itl K a).yld i H x H' → g x (wipe σ vs) H' fun σ2 H2 => wipe σ2 vs = wipe σ vs ∧ tt σ2 H2 fun b H3 =>
    if b = true then te σ2 H3 fun y H4 => ∃ acc, H4 D = some (.lst acc) ∧ acc.length < sizeLine ∧ Nx (upd H4 D (.lst (acc ++ [y]))) else Nx H3)
theorem w_lcL (h : tl σ H fun x H1 => kLcL K g tt te vs σ x H1 Q) : tLc (iList K tl) g tt te vs σ H Q := h
theorem l_lcL (e : SqL K H a xs) (out : Nat → List V) (o0 : out 0 = [])
    (hs : ∀ D i x H', H D = none → xs[i]? = some x → Keep [] H H' → H' D = some (.lst (out i)) → LcTurn H g tt te vs σ D out i x H') (hd : ∀ D H', H D = none → Keep [] H H' → H' D = some (.lst (out xs.length)) → Q (.ref D) H') : kLcL K g tt te vs σ (.ref a) H Q :=
  ⟨a, rfl, ⟨xs, e⟩, fun D hD => lc_list (xs := xs) (PvOf H D out) ⟨Keep.refl.own hD, by rw [upd_same, o0]⟩ (fun _ _ _ q => q.1.seqL nin_nil e) (fun i x H' hx q => hs D i x H' hD hx q.1 q.2) fun H' q => hd D H' hD q.1 q.2⟩
def kLcT (K : PySem.W.Frag) (g : TG) (tt : TT) (te : TE) (vs : List Nat) (σ : L2.St) (x : V) (H1 : Hp) (Q : VK) : Prop := ∃ a, x = .ref a ∧ (∃ xs, SqT K H1 a xs) ∧ ∀ D, H1 D = none → ∃ W : Nat → Nat → Hp → Prop, (∃ m, W 0 m (upd H1 D (.lst []))) ∧ ∀ i m H, W i m H →
  ((Itt K a).stop i H ∧ Q (.ref D) H) ∨ ((Itt K a).go i H ∧ ∃ Nx : Hp → Prop, (∀ H', Nx H' → ∃ m', m' < m ∧ W (i + 1) m' H') ∧ ∀ x H', (Itt K a).yld i H x H' → g x (wipe σ vs) H' fun σ2 H2 => wipe σ2 vs = wipe σ vs ∧ tt σ2 H2 fun b H3 =>
    if b = true then te σ2 H3 fun y H4 => ∃ acc, H4 D = some (.lst acc) ∧ acc.length < sizeLine ∧ Nx (upd H4 D (.lst (acc ++ [y]))) else Nx H3)
theorem w_lcT (h : tl σ H fun x H1 => kLcT K g tt te vs σ x H1 Q) : tLc (iTup K tl) g tt te vs σ H Q := h
theorem l_lcT (e : SqT K H a xs) (out : Nat → List V) (o0 : out 0 = [])
    (hs : ∀ D i x H', H D = none → xs[i]? = some x → Keep [] H H' → H' D = some (.lst (out i)) → LcTurn H g tt te vs σ D out i x H') (hd : ∀ D H', H D = none → Keep [] H H' → H' D = some (.lst (out xs.length)) → Q (.ref D) H') : kLcT K g tt te vs σ (.ref a) H Q :=
  ⟨a, rfl, ⟨xs, e⟩, fun D hD => lc_tup (xs := xs) (PvOf H D out) ⟨Keep.refl.own hD, by rw [upd_same, o0]⟩ (fun _ _ _ q => q.1.seqT nin_nil e) (fun i x H' hx q => hs D i x H' hD hx q.1 q.2) fun H' q => hd D H' hD q.1 q.2⟩
def LcR (lo : Int) (n : Nat) (g : TG) (tt : TT) (te : TE) (vs : List Nat) (σ : L2.St) (H1 : Hp) (Q : VK) : Prop := ∀ D, H1 D = none → ∃ W : Nat → Nat → Hp → Prop, (∃ m, W 0 m (upd H1 D (.lst []))) ∧ ∀ i m H, W i m H →
  ((Itr lo n).stop i H ∧ Q (.ref D) H) ∨ ((Itr lo n).go i H ∧ ∃ Nx : Hp → Prop, (∀ H', Nx H' → ∃ m', m' < m ∧ W (i + 1) m' H') ∧ ∀ x H', (Itr lo n).yld i H x H' → g x (wipe σ vs) H' fun σ2 H2 => wipe σ2 vs = wipe σ vs ∧ tt σ2 H2 fun b H3 =>
    if b = true then te σ2 H3 fun y H4 => ∃ acc, H4 D = some (.lst acc) ∧ acc.length < sizeLine ∧ Nx (upd H4 D (.lst (acc ++ [y]))) else Nx H3)
def kLcR1 (g : TG) (tt : TT) (te : TE) (vs : List Nat) (σ : L2.St) (ws : List V) (H1 : Hp) (Q : VK) : Prop := ∃ j : Int, ws = [.int j] ∧ -(2 ^ 62) ≤ j ∧ j < 2 ^ 62 ∧ LcR 0 j.toNat g tt te vs σ H1 Q
def kLcR2 (g : TG) (tt : TT) (te : TE) (vs : List Nat) (σ : L2.St) (ws : List V) (H1 : Hp) (Q : VK) : Prop := ∃ i j : Int, ws = [.int i, .int j] ∧ (-(2 ^ 62) ≤ i ∧ i < 2 ^ 62 ∧ -(2 ^ 62) ≤ j ∧ j < 2 ^ 62) ∧ LcR i (j - i).toNat g tt te vs σ H1 Q
theorem w_lcR1 (h : tr σ H fun ws H1 => kLcR1 g tt te vs σ ws H1 Q) : tLc (iRng1 tr) g tt te vs σ H Q := h
theorem w_lcR2 (h : tr σ H fun ws H1 => kLcR2 g tt te vs σ ws H1 Q) : tLc (iRng2 tr) g tt te vs σ H Q := h
theorem l_lcR {lo : Int} {n : Nat} (out : Nat → List V) (o0 : out 0 = [])
    (hs : ∀ D i H', H D = none → i < n → Keep [] H H' → H' D = some (.lst (out i)) → LcTurn H g tt te vs σ D out i (.int (lo + i)) H') (hd : ∀ D H', H D = none → Keep [] H H' → H' D = some (.lst (out n)) → Q (.ref D) H') : LcR lo n g tt te vs σ H Q :=
  fun D hD => lc_range (PvOf H D out) ⟨Keep.refl.own hD, by rw [upd_same, o0]⟩ (fun i H' hi q => hs D i H' hD hi q.1 q.2) fun H' q => hd D H' hD q.1 q.2
theorem l_lcR1 {j : Int} (b : -(2 ^ 62) ≤ j ∧ j < 2 ^ 62) (out : Nat → List V) (o0 : out 0 = [])
    (hs : ∀ D i H', H D = none → i < j.toNat → Keep [] H H' → H' D = some (.lst (out i)) → LcTurn H g tt te vs σ D out i (.int i) H') (hd : ∀ D H', H D = none → Keep [] H H' → H' D = some (.lst (out j.toNat)) → Q (.ref D) H') : kLcR1 g tt te vs σ [.int j] H Q :=
  ⟨j, rfl, b.1, b.2, l_lcR out o0 (fun D i H' a b c d => by rw [Int.zero_add]; exact hs D i H' a b c d) hd⟩
theorem l_lcR2 {k j : Int} (b : -(2 ^ 62) ≤ k ∧ k < 2 ^ 62 ∧ -(2 ^ 62) ≤ j ∧ j < 2 ^ 62) (out : Nat → List V) (o0 : out 0 = [])
    (hs : ∀ D i H', H D = none → i < (j - k).toNat → Keep [] H H' → H' D = some (.lst (out i)) → LcTurn H g tt te vs σ D out i (.int (k + i)) H') (hd : ∀ D H', H D = none → Keep [] H H' → H' D = some (.lst (out (j - k).toNat)) → Q (.ref D) H') : kLcR2 g tt te vs σ [.int k, .int j] H Q :=
  ⟨k, j, rfl, b, l_lcR out o0 hs hd⟩
end
/-! ### lists of ints -/
theorem flat_ints (ns : List Int) : (ns.map V.int).all flatV = true := by
  induction ns with
  | nil => rfl
  | cons n r ih => simpa [flatV] using ih
theorem inV_ints (i : Int) (ns : List Int) : inV (.int i) (ns.map V.int) = decide (i ∈ ns) := by
  induction ns with
  | nil => simp [inV]
  | cons n r ih =>
    unfold inV at ih ⊢
    rw [List.map_cons, List.any_cons, ih]
    by_cases e : n = i
    · subst e; simp [eqV]
    · have e2 : ¬ i = n := fun z => e z.symm
      simp [eqV, e, e2]
section
variable {K : PySem.W.Frag} {H : Hp} {Q : VK} {a : Addr} {i : Int} {ns : List Int}
theorem w_inI (e : H a = some (.lst (ns.map V.int))) (h : Q (.bl (decide (i ∈ ns))) H) : rInX K (.int i) (.ref a) H Q := w_inL (SqL.of e) rfl (flat_ints ns) (by rw [inV_ints]; exact h)
theorem w_ninI (e : H a = some (.lst (ns.map V.int))) (h : Q (.bl (!decide (i ∈ ns))) H) : rNinX K (.int i) (.ref a) H Q := w_ninL (SqL.of e) rfl (flat_ints ns) (by rw [inV_ints]; exact h)
theorem map_at {x : V} {k : Nat} (h : (ns.map V.int)[k]? = some x) : ∃ c, ns[k]? = some c ∧ x = .int c := by
  rw [List.getElem?_map] at h
  cases e : ns[k]? with
  | none => rw [e] at h; cases h
  | some c => rw [e] at h; exact ⟨c, rfl, (Option.some.inj h).symm⟩
end
/-! ### zip of two tuples -/
def kForZ (K : PySem.W.Frag) (g : TG) (t : TS) (D : Ends) (σ : L2.St) (vs : List V) (H1 : Hp) : Prop := ∃ a b xs ys, vs = [.ref a, .ref b] ∧ ((SqL K H1 a xs ∧ SqL K H1 b ys ∧ ∃ W : Nat → Nat → L2.St → Hp → Prop, (∃ m, W 0 m σ H1) ∧ ∀ i m σ H, W i m σ H →
      ((Itz K a b).stop i H ∧ D.nx σ H) ∨ ((Itz K a b).go i H ∧ ∃ N : L2.St → Hp → Prop, (∀ σ' H', N σ' H' → ∃ m', m' < m ∧ W (i + 1) m' σ' H') ∧ ∀ v H', (Itz K a b).yld i H v H' → g v σ H' fun σ2 H2 => t { D with nx := N, ct := N, bk := D.nx } σ2 H2)) ∨
    (SqT K H1 a xs ∧ SqT K H1 b ys ∧ ∃ W : Nat → Nat → L2.St → Hp → Prop, (∃ m, W 0 m σ H1) ∧ ∀ i m σ H, W i m σ H →
      ((RZ.ItzT K a b).stop i H ∧ D.nx σ H) ∨ ((RZ.ItzT K a b).go i H ∧ ∃ N : L2.St → Hp → Prop, (∀ σ' H', N σ' H' → ∃ m', m' < m ∧ W (i + 1) m' σ' H') ∧ ∀ v H', (RZ.ItzT K a b).yld i H v H' → g v σ H' fun σ2 H2 => t { D with nx := N, ct := N, bk := D.nx } σ2 H2)))
section
variable {K : PySem.W.Frag} {σ : L2.St} {H : Hp} {a b : Addr} {xs ys : List V} {g : TG} {t : TS} {D : Ends} {tr : TA}
theorem w_forZ (h : tr σ H fun vs H1 => kForZ K g t D σ vs H1) : tFor (RZ.iZipA K tr) g t D σ H := h
theorem l_forZT (ea : SqT K H a xs) (eb : SqT K H b ys) (hl : xs.length = ys.length) (Pv : Nat → L2.St → Hp → Prop) (h0 : Pv 0 σ H) (hq : ∀ i σ' H', Pv i σ' H' → SqT K H' a xs ∧ SqT K H' b ys)
    (hs : ∀ (i : Nat) (x y : V) (T : Addr) (σ' : L2.St) (H' : Hp), xs[i]? = some x → ys[i]? = some y → Pv i σ' H' → H' T = none → g (.ref T) σ' (upd H' T (.tup [x, y])) fun σ2 H2 => t { D with nx := Pv (i + 1), ct := Pv (i + 1), bk := D.nx } σ2 H2)
    (hd : ∀ σ' H', Pv xs.length σ' H' → D.nx σ' H') : kForZ K g t D σ [.ref a, .ref b] H := ⟨a, b, xs, ys, rfl, Or.inr ⟨ea, eb, RZ.for_zipT hl Pv h0 hq hs hd⟩⟩
end
section
variable {α β : Type} {l : List α} {i : Nat} {c : α} {p : α → Bool} {f : α → β}
theorem take_at (h : l[i]? = some c) : l.take (i + 1) = l.take i ++ [c] := by rw [List.take_succ, h]; rfl
theorem filt_yes (h : l[i]? = some c) (q : p c = true) : ((l.take (i + 1)).filter p).map f = ((l.take i).filter p).map f ++ [f c] := by rw [take_at h, List.filter_append, List.map_append, List.filter_cons, if_pos q]; rfl
theorem filt_no (h : l[i]? = some c) (q : ¬ p c = true) : ((l.take (i + 1)).filter p).map f = ((l.take i).filter p).map f := by
  rw [take_at h, List.filter_append, List.map_append, List.filter_cons, if_neg q]
  simp
theorem filt_len : (((l.take i).filter p).map f).length ≤ l.length := by
  rw [List.length_map]
  exact Nat.le_trans (List.length_filter_le _ _) (by rw [List.length_take]; exact Nat.min_le_right _ _)
theorem map_succ (h : l[i]? = some c) : (l.take (i + 1)).map f = (l.take i).map f ++ [f c] := by rw [take_at h, List.map_append]; rfl
theorem range_succ {g : Nat → β} : (List.range (i + 1)).map g = (List.range i).map g ++ [g i] := by rw [List.range_succ, List.map_append]; rfl
theorem range_len {g : Nat → β} : ((List.range i).map g).length = i := by rw [List.length_map, List.length_range]
end
/-! ### the rules, the written part named -/
section
variable {X : Cx} {K : PySem.W.Frag} {a e o l value tg : Expr} {ta tv tl to : TE} {tr : TA} {f : Str} {pos pos' p tpos : Pos} {es elts : List Expr} {k kk n : Nat} {t : TGs}
theorem op_plusK (h : X.K = K) : OpR X (binaryOp .Add) (rPlus K) := h ▸ op_plus
theorem op_eqK (h : X.K = K) (hu : X.A.units + 64 < cLine) : OpR X (compareOp .Eq) (rEqX K) := h ▸ op_eqX hu
theorem op_neK (h : X.K = K) (hu : X.A.units + 64 < cLine) : OpR X (compareOp .NotEq) (rNeX K) := h ▸ op_neX hu
theorem op_inK (h : X.K = K) : OpR X (compareOp .In) (rInX K) := h ▸ op_inX
theorem op_ninK (h : X.K = K) : OpR X (compareOp .NotIn) (rNinX K) := h ▸ op_ninX
theorem cr_lenK (h : X.K = K) : CallR X (.builtin "len") (rLenX K) := h ▸ cr_lenX
theorem cr_maxK (h : X.K = K) (hc : X.calm = true) : CallR X (.builtin "max") (rMaxX K) := h ▸ cr_maxX hc
theorem cr_minK (h : X.K = K) (hc : X.calm = true) : CallR X (.builtin "min") (rMinX K) := h ▸ cr_minX hc
theorem cr_tupK (h : X.K = K) : CallR X (.type "tuple") (rTupX K) := h ▸ cr_tupX
theorem cr_lisK (h : X.K = K) : CallR X (.type "list") (rLisX K) := h ▸ cr_lisX
theorem cr_isiK (h : X.K = K) : CallR X (.builtin "isinstance") (rIsi K) := h ▸ call_isi
theorem ix_K (h : X.K = K) : IxR X (rIx K) := h ▸ ix_seq
theorem pe_fldK (h : X.K = K) (he : PE X e ta) (hb : attributeBase e f X.env (eval e X.env) = eval e X.env) : PE X (.Attribute e f pos) (tFld K ta f) := h ▸ pe_fld he hb
theorem ps_fldK (h : X.K = K) (ha : PE X o ta) (hv : PE X value tv) (hs : swapsWith value (some (.Attribute o f pos')) pos.line X.env = pure false) : PS X (.Assign [.Attribute o f pos'] value pos) (sFld K ta tv f) := h ▸ ps_fld ha hv hs
theorem pt_truK (h : X.K = K) (ha : PE X a ta) (he : ∀ whole, isTrue a X.env whole = (do let v ← whole; standAt a.pos; holding [v] (truthy v)) := by intro _; rfl) : PT X a (tTru K ta) := h ▸ pt_tru ha he
theorem pi_listK (h : X.K = K) (hl : PE X l tl) : PI X tg l (iList K tl) := h ▸ pi_list hl
theorem pi_tupK (h : X.K = K) (hl : PE X l tl) : PI X tg l (iTup K tl) := h ▸ pi_tup hl
theorem pi_zipK {e2 : Expr} (h : X.K = K) (hg : Gl X "zip") (hm : X.mg "zip" = none) (ha : PA X [e, e2] tr)
    (hs : starEach [e, e2] X.env = (false, eval e X.env) :: starEach [e2] X.env := by rfl) (hpl : (backTo pos (starEach [e2] X.env)).any (·.1) = false := by rfl) :
    PI X (.Tuple elts kk tpos) (.Call (.Name "zip" p) [e, e2] [] pos) (RZ.iZipA K tr) := h ▸ RZ.pi_zipA hg hm ha hs hpl
theorem pg_tupK (h : X.K = K) (hc : X.calm = true) (hg : PGs X es t) (hn : (assignEach es X.env).length = n := by rfl) (hst : (assignEach es X.env).findIdx? (·.1) = none := by rfl) : PG X (.Tuple es k pos) (gTup K n t) := h ▸ pg_tup hc hg hn hst
theorem pe_bm0K {T id : String} {name : Str} {apos cpos : Pos} {r : V → List V → Hp → VK → Prop} (h : X.K = K) (pa : PlainAttrs T) (slot : Slot T name id) (hty : typeOf (.builtin id) = pure (.type "method_descriptor")) (hm : MtR X id r) (ho : PE X o to)
    (hbase : attributeBase o name X.env (eval o X.env) = eval o X.env := by rfl) (hline : (apos.endLine == cpos.line) = true := by rfl) : PE X (.Call (.Attribute o name apos) [] [] cpos) (tBM0 K T r to) := h ▸ pe_bm0 pa slot hty hm ho hbase hline
theorem pe_bmK {T id : String} {name : Str} {apos cpos : Pos} {r : V → List V → Hp → VK → Prop} (h : X.K = K) (pa : PlainAttrs T) (slot : Slot T name id) (hty : typeOf (.builtin id) = pure (.type "method_descriptor")) (hm : MtR X id r) (ho : PE X o to) (ha : PA X (e :: es) tr)
    (hbase : attributeBase o name X.env (eval o X.env) = eval o X.env := by rfl)
    (hfew : ((backTo cpos (starEach (e :: es) X.env)).all (fun x => !x.1) && (backToKw cpos (keywordEach [] X.env)).all (fun x => x.1.isSome)
      && decide ((e :: es).length + ([] : List Keyword).length + (if ([] : List Keyword).isEmpty then 0 else 1) < 30)) = true := by rfl)
    (hline : (apos.endLine == cpos.line) = true := by rfl) (hs : starEach (e :: es) X.env = (false, eval e X.env) :: starEach es X.env := by rfl) (hplain : (backTo cpos (starEach es X.env)).any (·.1) = false := by rfl) :
    PE X (.Call (.Attribute o name apos) (e :: es) [] cpos) (tBM K T r to tr) := h ▸ pe_bm pa slot hty hm ho ha hbase hfew hline hs hplain
end
/-! ### while -/
def kTurn (W : Nat → L2.St → Hp → Prop) (tb : TS) (D : Ends) (m : Nat) (σ : L2.St) (H1 : Hp) : Prop := ∃ N : L2.St → Hp → Prop, (∀ σ' H', N σ' H' → ∃ m', m' < m ∧ W m' σ' H') ∧ tb { D with nx := N, ct := N, bk := D.nx } σ H1
theorem w_turn {W : Nat → L2.St → Hp → Prop} {tb : TS} {D : Ends} {m : Nat} {σ : L2.St} {H1 : Hp} (h : tb { D with nx := fun σ2 H2 => ∃ m', m' < m ∧ W m' σ2 H2, ct := fun σ2 H2 => ∃ m', m' < m ∧ W m' σ2 H2, bk := D.nx } σ H1) : kTurn W tb D m σ H1 := ⟨_, fun _ _ q => q, h⟩
theorem l_while {c : TT} {tb : TS} {D : Ends} {σ : L2.St} {H : Hp} (W : Nat → L2.St → Hp → Prop) (m0 : Nat) (h0 : W m0 σ H)
    (hs : ∀ m σ' H', W m σ' H' → c σ' H' fun b H1 => if b = true then kTurn W tb D m σ' H1 else D.nx σ' H1) : tWhile c tb D σ H := ⟨W, ⟨m0, h0⟩, hs⟩
/-! ### count of flat items -/
theorem countP_eqU {x : V} : ∀ {xs : List V} {us : List Value}, Vals xs us → xs.all flatV = true → us.countP (eqU x) = xs.countP fun y => eqV y x
  | _, _, .nil, _ => rfl
  | _, _, .cons r t, f => by
    rw [List.all_cons, Bool.and_eq_true] at f
    rw [List.countP_cons, List.countP_cons, countP_eqU t f.2, eqU_of r f.1]
def rCntX (K : PySem.W.Frag) : V → List V → Hp → VK → Prop := fun x xs H Q => ∃ (p : Addr) (ys : List V) (y : V), x = .ref p ∧ xs = [y] ∧ SqL K H p ys ∧ flatV y = true ∧ ys.all flatV = true ∧ Q (.int ((ys.countP fun z => eqV z y : Nat) : Int)) H
theorem mt_countX {X : Cx} : MtR X "list.count" (rCntX X.K) := by
  intro pn s₀ σ₀ H₀ x₀ xs₀ v₀ us₀ Q₀ I₀ rx rxs hq
  obtain ⟨p, ys, y, rfl, rfl, hs, fy, fa, q⟩ := hq
  cases rx
  obtain ⟨u, rfl, ru⟩ := rxs.one
  obtain ⟨its, rv, ⟨⟨cls, dd, data, sl⟩, n, ho, hc, hdn, hd⟩, hlen⟩ := I₀.list hs
  simp only at hc hd
  subst hc hd
  refine call_meets PySem.F.slot_list_count ⟨_, ho, rfl⟩ PySem.F.entry_list_count (PySem.F.args_list_count_2 _ _)
    (SeqAt.list_countAt p its.toArray n dd sl u (eqU y)) ⟨ho, fun z hz => mem_eqAt ru fy rv fa z (by simpa using hz), ?_⟩
  have ec : its.toArray.toList.countP (eqU y) = ys.countP fun z => eqV z y := countP_eqU rv fa
  refine ⟨.int ((ys.countP fun z => eqV z y : Nat) : Int), H₀, I₀.tok _, ⟨s₀.toks, ?_⟩, q⟩
  show Value.int ((its.toArray.toList.countP (eqU y) : Nat) : Int) s₀.toks = Value.int ((ys.countP fun z => eqV z y : Nat) : Int) s₀.toks
  rw [ec]
theorem mt_countK {X : Cx} {K : PySem.W.Frag} (h : X.K = K) : MtR X "list.count" (rCntX K) := h ▸ mt_countX
theorem mt_indexK {X : Cx} {K : PySem.W.Frag} (h : X.K = K) : MtR X "list.index" (rIndex K) := h ▸ mt_index
/-! ### an exception that is caught -/
theorem pe_never {X : Cx} {e : Expr} : PE X e (fun _ _ _ => False) := ⟨fun _ _ _ _ _ _ h => False.elim h⟩
def rIsE2 (K : PySem.W.Frag) (cls : Value) (d : Option Addr) (a : Addr) : List V → Hp → VK → Prop := fun xs H Q => ∃ D, cls = .ref D ∧ d = none ∧ ExcC K D ∧ rIsE K D a xs H Q
theorem call_isE2 {X : Cx} {K : PySem.W.Frag} {a : Addr} {cls : Value} {d : Option Addr} {oe : Obj} {pn : List (Addr × Obj)} (h : X.K = K) (hz : Zc cls d oe) (hf : ∃ vs, oe.data = .fields vs) : CallR (X.suite a ((a, oe) :: pn)) (.builtin "isinstance") (rIsE2 K cls d a) := by
  subst h
  intro pins s σ H xs us Q I r q
  obtain ⟨D, rfl, rfl, C, q⟩ := q
  exact call_isE C hz hf pins s σ H xs us Q I r q
theorem takesLen {X : Cx} {W : WX} (tk : Takes X W) : Takes X (fun cls d σ H => σ.length = X.N.length → W cls d σ H) := fun u s' x => by
  obtain ⟨a, B, sI, pins, σ, H, cls, d, e1, I, r1, r2, r3, r4, r5, r6, q⟩ := x
  exact tk u s' ⟨a, B, sI, pins, σ, H, cls, d, e1, I, r1, r2, r3, r4, r5, r6, q I.len⟩
/-! ### displays of dicts -/
theorem w_pairs0 {σ : L2.St} {H : Hp} {R : List (V × V) → Hp → Prop} (h : R [] H) : tPairs [] σ H R := h
theorem w_pairs {tk tv : TE} {r : List (TE × TE)} {σ : L2.St} {H : Hp} {R : List (V × V) → Hp → Prop} (h : tk σ H fun k H1 => tv σ H1 fun v H2 => tPairs r σ H2 fun ps H3 => R ((k, v) :: ps) H3) : tPairs ((tk, tv) :: r) σ H R := h
def kDisp (p : Addr) (ps : List (V × V)) (H2 : Hp) (Q : VK) : Prop := H2 p = some (.dK []) ∧ ∃ kvs : List (Key × V), ps = kvs.map (fun kv => (kV kv.1, kv.2)) ∧ kvs.length ≤ 15 ∧ Q (.ref p) (upd H2 p (.dK (mergeK [] kvs)))
theorem w_disp {trs : List (TE × TE)} {σ : L2.St} {H : Hp} {Q : VK} (h : ∀ p, H p = none → tPairs trs σ (upd H p (.dK [])) fun ps H2 => kDisp p ps H2 Q) : tDisp trs σ H Q := h
theorem l_disp {p : Addr} {H2 : Hp} {Q : VK} (kvs : List (Key × V)) (e : H2 p = some (.dK [])) (l : kvs.length ≤ 15) (m : mergeK [] kvs = kvs) (h : Q (.ref p) (upd H2 p (.dK kvs))) : kDisp p (kvs.map (fun kv => (kV kv.1, kv.2))) H2 Q :=
  ⟨e, kvs, rfl, l, by rw [m]; exact h⟩
theorem putK_new {kvs : List (Key × V)} {k : Key} {v : V} (h : k ∉ kvs.map (·.1)) : putK kvs k v = kvs ++ [(k, v)] := by
  unfold putK
  rw [if_neg]
  intro z
  rw [List.any_eq_true] at z
  obtain ⟨x, hx, e⟩ := z
  exact h (List.mem_map.mpr ⟨x, hx, of_decide_eq_true e⟩)
theorem merge_nd : ∀ (more kvs : List (Key × V)), ((kvs ++ more).map (·.1)).Nodup → mergeK kvs more = kvs ++ more
  | [], kvs, _ => by rw [List.append_nil]; rfl
  | (k, v) :: r, kvs, h => by
    have hk : k ∉ kvs.map (·.1) := fun m => by
      rw [List.map_append, List.map_cons, List.nodup_append] at h
      exact h.2.2 k m k List.mem_cons_self rfl
    show mergeK (putK kvs k v) r = _
    rw [putK_new hk, merge_nd r (kvs ++ [(k, v)]) (by rw [List.append_assoc]; exact h), List.append_assoc]
    rfl
theorem merge_ok (kvs : List (Key × V)) (h : (kvs.map (·.1)).Nodup) : mergeK [] kvs = kvs := merge_nd kvs [] h
theorem put_hd {κ : Type} [DecidableEq κ] {k : κ} {v x : V} {l : List (κ × V)} (h : k ∉ l.map (·.1)) : putK ((k, x) :: l) k v = (k, v) :: l := by
  unfold putK
  rw [if_pos (by rw [List.any_cons]; simp)]
  rw [List.map_cons, if_pos rfl]
  congr 1
  have e : ∀ y, y ∈ l → (if y.1 = k then (y.1, v) else y) = y := fun y hy => if_neg fun z => h (List.mem_map.mpr ⟨y, hy, z⟩)
  rw [List.map_congr_left e, List.map_id']
theorem put_tl {κ : Type} [DecidableEq κ] {k j : κ} {v x : V} {l : List (κ × V)} (h : ¬ j = k) : putK ((j, x) :: l) k v = (j, x) :: putK l k v := by
  unfold putK
  rw [List.any_cons, decide_eq_false h, Bool.false_or, List.map_cons, if_neg h]
  split <;> rfl
theorem w_dputP {H : Hp} {a : Addr} {v : V} {R : Hp → Prop} {kvs kvs' : List (Key × V)} {s : Str} (e : H a = some (.dK kvs)) (l : kvs.length < sizeLine) (p : putK kvs (Sum.inr s) v = kvs') (h : R (upd H a (.dK kvs'))) : kDPut v (.ref a) (.str s) H R := w_dputS e l (by rw [p]; exact h)
/-- == of scalars alone -/
theorem w_eq0S {s z : Str} {H : Hp} {Q : VK} (h : Q (.bl (decide (s = z))) H) : rEq (.str s) (.str z) H Q := ⟨rfl, by
  have e : decide (V.str s = V.str z) = decide (s = z) := by
    by_cases q : s = z
    · subst q; rw [decide_eq_true rfl, decide_eq_true rfl]
    · rw [decide_eq_false q, decide_eq_false (fun w => q (V.str.inj w))]
  rw [e]; exact h⟩
theorem w_ne0I {i j : Int} {H : Hp} {Q : VK} (h : Q (.bl (!decide (i = j))) H) : rNe (.int i) (.int j) H Q := ⟨rfl, by
  have e : decide (V.int i = V.int j) = decide (i = j) := by
    by_cases q : i = j
    · subst q; rw [decide_eq_true rfl, decide_eq_true rfl]
    · rw [decide_eq_false q, decide_eq_false (fun z => q (V.int.inj z))]
  rw [e]; exact h⟩
section
variable {κ : Type} {k j : κ} {x : V} {l : List (κ × V)}
theorem nk_nil : k ∉ ([] : List (κ × V)).map (·.1) := List.not_mem_nil
theorem nk_cons (h : ¬ k = j) (t : k ∉ l.map (·.1)) : k ∉ ((j, x) :: l).map (·.1) := fun m => by
  rw [List.map_cons] at m
  rcases List.mem_cons.mp m with z | z
  · exact h z
  · exact t z
theorem nd_nil : (([] : List (κ × V)).map (·.1)).Nodup := List.nodup_nil
theorem nd_cons (h : j ∉ l.map (·.1)) (t : (l.map (·.1)).Nodup) : (((j, x) :: l).map (·.1)).Nodup := by
  rw [List.map_cons]
  exact List.nodup_cons.mpr ⟨h, t⟩
end
theorem pe_cls {X : Cx} {x : Str} {C : Addr} {pos : Pos} (hg : Gl X x) (hm : X.mg x = some (.ref C)) (hd : (x == ("__debug__" : Str)) = false := by decide) : PE X (.Name x pos) (tC (.ref C)) := pe_glob (v := .ref C) hg hm rfl hd
section
variable {K : PySem.W.Frag} {H : Hp} {Q : VK} {a : Addr} {ys : List V} {y z : V} {cls : Value} {d : Option Addr}
theorem w_cnt {n : Nat} (e : H a = some (.lst ys)) (fy : flatV y = true) (fa : ys.all flatV = true) (hn : (ys.countP fun z => eqV z y) = n) (h : Q (.int (n : Nat)) H) : rCntX K (.ref a) [y] H Q := ⟨a, ys, y, rfl, rfl, SqL.of e, fy, fa, by rw [hn]; exact h⟩
theorem w_idx (j : Nat) (e : H a = some (.lst ys)) (fy : flatV y = true) (fa : ys.all flatV = true) (hz : ys[j]? = some z) (hy : eqV z y = true) (ha : ∀ (m : Nat) (z' : V), m < j → ys[m]? = some z' → eqV z' y = false) (h : Q (.int (j : Nat)) H) : rIndex K (.ref a) [y] H Q :=
  ⟨a, ys, y, j, z, rfl, rfl, SqL.of e, fy, fa, hz, hy, ha, h⟩
theorem w_isE {D C : Addr} {k : Bool} (hc : cls = .ref D) (hd : d = none) (x : ExcC K D) (hk : PySem.W.kitOne K (.ref D) (.ref C) = some k) (h : Q (.bl k) H) : rIsE2 K cls d a [.ref a, .ref C] H Q := ⟨D, hc, hd, x, .ref C, .ref C, k, rfl, fun _ r => r, hk, h⟩
theorem w_isET {D : Addr} {T : String} {k : Bool} (hc : cls = .ref D) (hd : d = none) (x : ExcC K D) (hk : PySem.W.kitOne K (.ref D) (.type T) = some k) (h : Q (.bl k) H) : rIsE2 K cls d a [.ref a, .ty T] H Q := ⟨D, hc, hd, x, .ty T, .type T, k, rfl, fun _ r => r, hk, h⟩
end
/-- what the text knows of an error class of its own (of six), without an __init__: which of the six it is -/
structure OneBad (K : PySem.W.Frag) (C0 C1 C2 C3 C4 C5 C6 D : Addr) (b1 b2 b3 b4 b5 b6 : Bool) : Prop where
  m : PySem.W.exmOne K (.ref D) (.ref C0) = some true
  x : ExcC K D
  k1 : PySem.W.kitOne K (.ref D) (.ref C1) = some b1
  k2 : PySem.W.kitOne K (.ref D) (.ref C2) = some b2
  k3 : PySem.W.kitOne K (.ref D) (.ref C3) = some b3
  k4 : PySem.W.kitOne K (.ref D) (.ref C4) = some b4
  k5 : PySem.W.kitOne K (.ref D) (.ref C5) = some b5
  k6 : PySem.W.kitOne K (.ref D) (.ref C6) = some b6
  kv : PySem.W.kitOne K (.ref D) (.type "ValueError") = some true
/-- told: what is returned, or the word of the refusal -/
def TTold2 (tab : Value → Str → Prop) : (XK → Hp → VK → Prop) → Hp → VK → Prop := fun tl H Q =>
  tl (fun cls d H' => d = none ∧ ∃ wd, tab cls wd ∧ ∀ p H2, H' p = none → Keep [] H' H2 → H2 p = some (.tup [.str wd]) → Q (.ref p) H2) H Q
theorem w_idxI {K : PySem.W.Frag} {H : Hp} {Q : VK} {a : Addr} {ys : List V} {y z : V} (j : Nat) (jj : Int) (ej : ((j : Nat) : Int) = jj) (e : H a = some (.lst ys)) (fy : flatV y = true) (fa : ys.all flatV = true) (hz : ys[j]? = some z) (hy : eqV z y = true)
    (ha : ∀ (m : Nat) (z' : V), m < j → ys[m]? = some z' → eqV z' y = false) (h : Q (.int jj) H) : rIndex K (.ref a) [y] H Q := w_idx j e fy fa hz hy ha (by rw [ej]; exact h)
/-- no True ahead of the j-th -/
theorem bl_ahead (bs : List Bool) (j : Nat) (h : (bs.take j).all (fun b => !b) = true) : ∀ (m : Nat) (z' : V), m < j → (bs.map V.bl)[m]? = some z' → eqV z' (.bl true) = false := fun m z' hm hz => by
  rw [List.getElem?_map] at hz
  cases e : bs[m]? with
  | none => rw [e] at hz; cases hz
  | some b =>
    rw [e] at hz
    cases hz
    have hb : b ∈ bs.take j := by
      rw [List.mem_iff_getElem?]
      exact ⟨m, by rw [List.getElem?_take, if_pos hm, e]⟩
    have := List.all_eq_true.mp h b hb
    cases b with
    | true => cases this
    | false => rfl
/-- a tuple of the written part -/
theorem sqT_of {K : PySem.W.Frag} {a : Addr} {xs : List V} {o : Obj} {its : Array Value} {n : Nat} (l : K.lookup a = some o) (c : o.cls = .type "tuple") (d : o.data = .seq its n) (z : its.size ≤ sizeLine) (v : Vals xs its.toList) : ∀ H, SqT K H a xs := fun _ => Or.inr ⟨o, its, n, l, c, d, z, v⟩
theorem cx_none {P : Program} {w : World} {H : Hp} {s : Shared} {e : Value} {s' : Shared} (h : L2.CX P w [] H s (fun _ _ _ => False) e s') : False := by
  obtain ⟨_, _, _, _, _, _, _, _, _, _, _, _, z⟩ := h
  exact z
end Ak
namespace Ak
open PySem PySem.Spec PyProof.Rows L2
/-! ### a built-in class called with keywords -/
theorem callWith_typeK {M : Model} {A : Around} {Eb : Value → Shared → Prop} {s : Shared} {env : Env} {pos : Pos} {T : String} {e : Expr} {rest : List Expr} {kws : List Keyword} {Q : Value → Shared → Prop}
    (h : wpAny M A (spliced (backTo pos (starEach (e :: rest) env))) (fun us s1 => wpAny M A (evalAll ((backToKw pos (keywordEach kws env)).map (·.2)))
      (fun ws s2 => wpAny M A (call (.type T) us (((backToKw pos (keywordEach kws env)).filterMap (·.1)).zip ws)) Q Eb s2) Eb s1) Eb s)
    (he : backTo pos (starEach (e :: rest) env) = (false, eval e env) :: backTo pos (starEach rest env) := by rfl) (hp : (backTo pos (starEach (e :: rest) env)).any (·.1) = false := by rfl)
    (ha : (backToKw pos (keywordEach kws env)).all (·.1.isSome) = true := by rfl) (hn : (backToKw pos (keywordEach kws env)).any (·.1.isNone) = false := by rfl) :
    wpAny M A (callWith pos (.type T) [] (backTo pos (starEach (e :: rest) env)) (backToKw pos (keywordEach kws env))) Q Eb s := by
  unfold callWith
  rw [he] at h
  have h2 := evalArgs_kwB (f := .type T) (Q := fun a s1 => wpAny M A (call (.type T) a.pos a.kw) Q Eb s1) ha h
  rw [← he] at h2
  refine wpAny_bind (wpAny_holding (wpAny_mono h2 (fun a s1 h1 => wpAny_bind (wpAny_standAt ?_)) fun _ _ z => z))
  simp only [hp, hn, Bool.or_false]
  refine wpAny_bind (wpAny_pure ?_)
  exact wpAny_bind (wpAny_mono h1 (fun r s2 hr => wpAny_bind (wpAny_holding (wpAny_point (wpAny_pure hr)))) fun _ _ z => z)
/-! ### enumerate(a tuple, start=c) -/
def IteT (K : PySem.W.Frag) (a : Addr) (c : Int) : It :=
  ⟨fun i H => ∃ (xs : List V) (x : V), SqT K H a xs ∧ xs[i]? = some x, fun i H v H' => ∃ T x, v = .ref T ∧ H T = none ∧ H' = upd H T (.tup [.int (c + (i : Int)), x]) ∧ ∀ xs, SqT K H a xs → xs[i]? = some x, fun i H => ∃ xs : List V, SqT K H a xs ∧ xs.length = i⟩
theorem turn_enumT {P : Program} {w : World} {K : PySem.W.Frag} {elts : List Expr} {kk : Nat} {tpos : Pos} (a e it : Addr) (c : Int) :
    Turn P w K (.Tuple elts kk tpos) (IteT K a c) [e, it] e (fun i h => (∃ old, IsEnum h e it (c + (i : Int)) old) ∧ h.IsTupleIter it a i ∧ e ≠ it) where
  mem := by simp
  obj := fun i h st b hb => by
    obtain ⟨⟨old, he⟩, ⟨o, ho, hc, hd⟩, _⟩ := st
    have e' : b = e ∨ b = it := by simpa using hb
    rcases e' with rfl | rfl
    · exact ⟨_, he, fun v q => nomatch q⟩
    · exact ⟨o, ho, fun v q => by rw [hd] at q; cases q⟩
  keep := fun i h h' st k => by
    obtain ⟨⟨old, he⟩, hi, hne⟩ := st
    exact ⟨⟨old, k e (by simp) _ he⟩, hi.at fun o q => k it (by simp) o q, hne⟩
  item := by
    intro X hP hw hK hc i pins s σ H E I hf st hg
    subst hP hw hK
    obtain ⟨⟨old, he⟩, hit, hne⟩ := st
    obtain ⟨xs, x, hq, hx⟩ := hg
    obtain ⟨its, rv, p, hz⟩ := I.tuple hq
    obtain ⟨u, hu, ru⟩ := rv.get hx
    have hel : e < s.heap.objs.size := Heap.lt_size he
    have hil : it < s.heap.objs.size := by obtain ⟨_, q, _⟩ := hit; exact Heap.lt_size q
    obtain ⟨ot, hot, hoc, n, hod⟩ := id p
    have hai : a ≠ it := fun z => by
      obtain ⟨o2, q2, q3, q4⟩ := hit
      rw [z, q2] at hot
      cases hot
      rw [q4] at hod
      cases hod
    have hea : e ≠ a := fun z => by
      rw [← z, show s.heap.get? e = _ from he] at hot
      cases hot
      cases hod
    have hi : i < its.toArray.size := by
      rw [List.size_toArray]
      exact (List.getElem?_eq_some_iff.mp hu).1
    refine wpAny_pyNext_enum_itemC (Draws.tuple (A := X.A.in1) (I.ok.hd hc) it a hai its.toArray) he ⟨hit, p⟩ hi hne (by simp [hne, hea]) fun u' h' tk hP ho hit' hT hsz hk => ?_
    obtain rfl : u' = u := by
      have hP' : its.toArray[i]? = some u' := hP
      rw [List.getElem?_toArray, hu] at hP'
      exact (Option.some.inj hP').symm
    refine ⟨_, rfl, wpAny_letOwnedTupleGo_enum (s := { s with heap := h', toks := tk + 1 }) ho fun h'' he' sb => ?_⟩
    have hT2 : h''.get? s.heap.objs.size = some { cls := .type "tuple", data := .seq #[.int (c + (i : Int)) tk, u'] } := (sb.2 _ (Nat.ne_of_gt hel)).trans hT
    have made : ObjOk X.prog X.w (upd H s.heap.objs.size (.tup [.int (c + (i : Int)), x])) h'' s.heap.objs.size (.tup [.int (c + (i : Int)), x]) :=
      ⟨by show 2 ≤ sizeLine; decide, [.int (c + (i : Int)) tk, u'], .cons ⟨_, rfl⟩ (.cons ru .nil), ⟨_, hT2, rfl, _, rfl⟩⟩
    have I1 : Inv X pins σ (upd H s.heap.objs.size (.tup [.int (c + (i : Int)), x])) { s with heap := h'', toks := tk + 1 } :=
      I.turnedNew (ch := [e, it]) (fun b ob hb q => (sb.2 b (fun z => hb (by simp [z]))).trans (hk b ob (fun z => hb (by simp [z])) (fun z => hb (by simp [z])) q)) hf (Nat.le_refl _) made
    refine ⟨.ref s.heap.objs.size, _, I1, rfl, ⟨_, x, rfl, I.hok.fresh (Nat.le_refl _), rfl, fun ys hy => by rw [I.tuple_inj hy hq]; exact hx⟩, ⟨⟨u', ?_⟩, hit'.1.at fun o q => (sb.2 it (Ne.symm hne)).trans q, hne⟩, fun b hb => ?_⟩
    · have e1 : c + ((i + 1 : Nat) : Int) = c + (i : Int) + 1 := by omega
      rw [e1]
      exact he'
    · have hlt : b < s.heap.objs.size := by
        have e' : b = e ∨ b = it := by simpa using hb
        rcases e' with rfl | rfl
        · exact hel
        · exact hil
      rw [upd_ne (Nat.ne_of_lt hlt)]
      exact (hf b hb).1
  done := by
    intro X hP hw hK hc i pins s σ H E I hf st hg
    subst hP hw hK
    obtain ⟨⟨old, he⟩, hit, hne⟩ := st
    obtain ⟨xs, hq, hx⟩ := hg
    obtain ⟨its, rv, p, hz⟩ := I.tuple hq
    obtain ⟨f0, f1, f2, f3, f4, f5⟩ := hf it (by simp)
    obtain ⟨ot, hot, hoc, n, hod⟩ := id p
    have hai : a ≠ it := fun z => by
      obtain ⟨o2, q2, q3, q4⟩ := hit
      rw [z, q2] at hot
      cases hot
      rw [q4] at hod
      cases hod
    have hi : i = its.toArray.size := by
      rw [List.size_toArray, ← rv.length]
      exact hx.symm
    rw [hi] at hit
    exact wpAny_pyNext_enum_endD (Draws.tuple (A := X.A.in1) (I.ok.hd hc) it a hai its.toArray) he ⟨hit, p⟩ fun h' eb => ⟨rfl, I.turned (t' := s.toks) (fun b o hb q => eb b o hb q) f0 f1 f3 f4 f5⟩
  self := fun A i s Q E st h => by
    obtain ⟨⟨_, he⟩, _⟩ := st
    exact wpAny_pyIter_enum he h
def iEnumTS (K : PySem.W.Frag) (ta tk : TA) : TI := fun σ H R => ta σ H fun vs H1 => tk σ H1 fun ks H2 => ∃ a xs c, vs = [.ref a] ∧ ks = [.int c] ∧ -(2 ^ 63) ≤ c ∧ c < 2 ^ 63 ∧ SqT K H2 a xs ∧ R (IteT K a c) H2
theorem pi_enumTS {X : Cx} {K : PySem.W.Frag} {e ke : Expr} {ta tk : TA} {p pos tpos kp : Pos} {elts : List Expr} {kk : Nat} (hX : X.K = K) (hg : Gl X "enumerate") (hm : X.mg "enumerate" = none) (ha : PA X [e] ta) (hk : PK X [⟨some "start", ke, kp⟩] tk)
    (he : backTo pos (starEach [e] X.env) = (false, eval e X.env) :: backTo pos (starEach [] X.env) := by rfl) (hs : (backTo pos (starEach [e] X.env)).any (·.1) = false := by rfl) :
    PI X (.Tuple elts kk tpos) (.Call (.Name "enumerate" p) [e] [⟨some "start", ke, kp⟩] pos) (iEnumTS K ta tk) := by
  subst hX
  refine ⟨fun pins s σ H R I h => ?_⟩
  refine wpAny_Call_Name_kw (ld_blt I hg hm PyProof.Rows.boot_enumerate (callWith_typeK (thn (ha.run pos pins s σ H _ I h) fun us s1 ⟨vs, H1, I1, r1, q1⟩ => thn (hk.run pos pins s1 σ H1 _ I1 q1) fun ws s2 ⟨ks, H2, I2, r2, q2⟩ => ?_) he hs))
  obtain ⟨a, xs, c, rfl, rfl, c0, c1, hq, q⟩ := q2
  obtain rfl := Vals.ref1 r1
  obtain ⟨w1, rfl, t, rfl⟩ := vals1 r2
  obtain ⟨its, rv, p', hz⟩ := I2.tuple hq
  show wpAny _ _ (call (.type "enumerate") [.ref a] [(Str.ofString "start", .int c t)]) _ _ s2
  refine enum_begins_start (begins_tuple a its.toArray) p' c0 c1 fun h' hen hit hsz hkp => wpAny_pyIter_enum hen ?_
  have I3 : Inv X pins σ H2 { s2 with heap := h' } := I2.kept (t' := s2.toks) hkp
  refine ⟨s2.heap.objs.size + 1, [s2.heap.objs.size + 1, s2.heap.objs.size], _, _, H2, rfl, I3, turn_enumT a (s2.heap.objs.size + 1) s2.heap.objs.size c, ⟨⟨.none, by rw [show c + ((0 : Nat) : Int) = c by omega]; exact hen⟩, ⟨_, hit, rfl, rfl⟩, Nat.succ_ne_self _⟩, fun b hb => ?_, q⟩
  have e' : b = s2.heap.objs.size + 1 ∨ b = s2.heap.objs.size := by simpa using hb
  have hle : s2.heap.objs.size ≤ b := by
    rcases e' with rfl | rfl
    · exact Nat.le_add_right _ _
    · exact Nat.le_refl _
  exact I2.fpOk hle (I2.hok.fresh hle)
end Ak
namespace Ak
open PySem PySem.Spec PyProof.Rows L2
/-! ### sorted ints -/
def srt (ns : List Int) : List Int := ns.mergeSort fun a b => decide (a ≤ b)
theorem srt_perm (ns : List Int) : (srt ns).Perm ns := List.mergeSort_perm _ _
theorem srt_le (ns : List Int) : (srt ns).Pairwise (· ≤ ·) := by
  have h := List.pairwise_mergeSort (le := fun (a b : Int) => decide (a ≤ b)) (fun a b c h1 h2 => by
    rw [decide_eq_true_eq] at h1 h2 ⊢
    omega) (fun a b => by
    rw [Bool.or_eq_true, decide_eq_true_eq, decide_eq_true_eq]
    omega) ns
  exact h.imp fun h1 => of_decide_eq_true h1
theorem srt_eq {ns ms : List Int} (p : ms.Perm ns) (s : ms.Pairwise (· ≤ ·)) : ms = srt ns :=
  List.Perm.eq_of_pairwise (le := fun (a b : Int) => a ≤ b) (fun a b _ _ h1 h2 => Int.le_antisymm h1 h2) s (srt_le ns) (p.trans (srt_perm ns).symm)
theorem srt_of {ns : List Int} (s : ns.Pairwise (· ≤ ·)) : srt ns = ns := (srt_eq (List.Perm.refl ns) s).symm
theorem srt_congr {ns ms : List Int} (p : ms.Perm ns) : srt ms = srt ns := srt_eq ((srt_perm ms).trans p) (srt_le ms)
theorem srt_mem {ns : List Int} {x : Int} : x ∈ srt ns ↔ x ∈ ns := (srt_perm ns).mem_iff
theorem srt_len {ns : List Int} : (srt ns).length = ns.length := (srt_perm ns).length_eq
theorem srt_filter {ns : List Int} (q : Int → Bool) : (srt ns).filter q = srt (ns.filter q) := srt_eq ((srt_perm ns).filter q) ((srt_le ns).filter q)
theorem srt_nodup {ns : List Int} (h : ns.Nodup) : (srt ns).Nodup := (srt_perm ns).nodup_iff.mpr h
/-- sorted: of a list of ints, of a dict's int keys, of any length -/
def rSortDI : List V → Hp → VK → Prop := fun xs H Q => ∃ (a : Addr) (kvs : List (Key × V)) (ks : List Int), xs = [.ref a] ∧ H a = some (.dK kvs) ∧ kvs.map (·.1) = ks.map Sum.inl ∧ ∀ (ys : List Int) (p : Addr), ys.Perm ks → ys.Pairwise (· ≤ ·) → H p = none → Q (.ref p) (upd H p (.lst (ys.map V.int)))
theorem cr_sortDI {X : Cx} (hcalm : X.calm = true) : CallR X (.builtin "sorted") rSortDI := by
  intro pins s σ H xs us Q I r q
  obtain ⟨a, kvs, ks, rfl, hd, hks, q⟩ := q
  obtain rfl := Vals.ref1 r
  obtain ⟨z, lo, vs, rel, dd⟩ := dk_rd I.hok (Or.inl hd)
  obtain ⟨ep, hat⟩ := dd.dictAt
  have hkeys : vs.map (·.1) = ks.map Sum.inl := rel.keys.symm.trans hks
  have hl : vs.length = ks.length := by
    have e := congrArg List.length hkeys
    rwa [List.length_map, List.length_map] at e
  have hz : vs.length ≤ sizeLine := by
    have e := congrArg List.length hks
    rw [List.length_map, List.length_map] at e
    omega
  refine Calls.call_function_entry PyProof.Rows.kind_sorted PyProof.Rows.plain_sorted PyProof.Rows.entry_sorted (PyProof.Rows.args_sorted1 _) ?_
  unfold Builtin.«sorted»
  refine wpAny_bind (m := checkCount "sorted" 1 1 _) (wpAny_pure ?_)
  refine wpAny_bind (PySem.W.kdu_collect (A := X.A.in1) (PySem.W.kdl_dict (knd := mixKind X.prog X.w) (kvs := vs) (ep := ep) lo) (I.ok.hd hcalm) hat hz fun h1 tk acc hk hacc => ?_)
  have hal : acc.toList.length = ks.length := by rw [Array.length_toList, hacc.1, hl]
  have hS : IntsAre acc.toList ks := ints_each hal fun j v e => by
    obtain ⟨k, x, e1, e2⟩ := hacc.2 j v (by rw [← Array.getElem?_toList]; exact e)
    have e3 : (vs.map (·.1))[j]? = some k := by rw [List.getElem?_map, e1]; rfl
    rw [hkeys, List.getElem?_map] at e3
    cases e4 : ks[j]? with
    | none => rw [e4] at e3; cases e3
    | some y =>
      rw [e4] at e3
      obtain rfl : Sum.inl y = k := Option.some.inj e3
      rcases keyIs_shape (show keyIs (Sum.inl y) v = true from e2) with ⟨i, t, ek, ev⟩ | ⟨z, t, ek, ev⟩
      · cases ek
        exact ⟨y, t, rfl, ev⟩
      · cases ek
  have I1 : Inv X pins σ H { s with heap := h1, toks := tk } := I.kept hk
  have hal2 : acc.toList.length ≤ sizeLine := by rw [hal, ← hl]; exact hz
  refine wpAny_bind (wpAny_newList ?_ hal2)
  have hoL : (h1.push (seqObj "list" acc.toList.toArray 0)).get? h1.objs.size = some (seqObj "list" acc.toList.toArray 0) := Heap.get?_push_size _ rfl
  show wpAny _ _ _ _ _ { s with heap := h1.push (seqObj "list" acc.toList.toArray 0), toks := tk }
  refine wpAny_bind (wpAny_holding (wpAny_call_entry PyProof.Rows.slot_list_sort ⟨_, hoL, rfl⟩ PyProof.Rows.entry_list_sort
    (SrtO.list_sort_ord (s := { s with heap := h1.push (seqObj "list" acc.toList.toArray 0), toks := tk }) SrtO.swo_int hoL hal2 (fun h2 => SrtO.ints_sortable hS h2) fun out g1 g2 => ⟨_, rfl, ?_⟩) (PyProof.Rows.args_list_sort _)))
  obtain ⟨k1, k2, k3⟩ := SrtO.ints_out hS g1 g2
  obtain ⟨e', he'⟩ := PyProof.Rows.sortedHeap_at (vs := acc.toList) (out := out.toArray) hoL
  have hlen : ((out.map SrtO.iv).map V.int).length ≤ sizeLine := by
    rw [List.length_map, k2.length_eq, ← hl]
    exact hz
  refine wpAny_pure ⟨_, rfl, .ref h1.objs.size, upd H h1.objs.size (.lst ((out.map SrtO.iv).map V.int)), I1.laid (t' := tk) (fun b u e => ?_) (Nat.le_refl _)
    (show ObjOk X.prog X.w _ _ _ (.lst ((out.map SrtO.iv).map V.int)) from ⟨hlen, out, e', vals_of_ints k1, he'⟩), rfl, q _ _ k2 k3 (I1.hok.fresh (Nat.le_refl _))⟩
  have hb : b < h1.objs.size := Heap.lt_size e
  rw [PyProof.Rows.sortedHeap_old (Nat.ne_of_lt hb) (by rw [size_push']; exact Nat.lt_succ_of_lt hb)]
  exact Heap.get?_push_of_some _ e
def rSortX (K : PySem.W.Frag) : List V → Hp → VK → Prop := fun xs H Q => rSortedI K xs H Q ∨ rSortDI xs H Q
theorem cr_sortK {X : Cx} {K : PySem.W.Frag} (h : X.K = K) (hc : X.calm = true) : CallR X (.builtin "sorted") (rSortX K) := by
  subst h
  exact CallR.or cr_sortedI (cr_sortDI hc)
/-! ### dicts whose keys are ints, each True -/
def sureD (ks : List Int) : List (Key × V) := ks.map fun k => (Sum.inl k, V.bl true)
section
variable {K : PySem.W.Frag} {H : Hp} {Q : VK} {a : Addr} {ns ks : List Int} {k : Int} {R : Hp → Prop}
theorem w_sortL (e : SqL K H a (ns.map V.int)) (h : ∀ p, H p = none → Q (.ref p) (upd H p (.lst ((srt ns).map V.int)))) : rSortX K [.ref a] H Q := Or.inl ⟨a, ns, rfl, e, fun ys p hp hs n => by rw [srt_eq hp hs]; exact h p n⟩
theorem w_sortO (e : H a = some (.lst (ns.map V.int))) (h : ∀ p, H p = none → Q (.ref p) (upd H p (.lst ((srt ns).map V.int)))) : rSortX K [.ref a] H Q := w_sortL (SqL.of e) h
theorem sureD_keys : (sureD ks).map (·.1) = ks.map Sum.inl := by unfold sureD; rw [List.map_map]; rfl
theorem w_sortD (e : H a = some (.dK (sureD ks))) (h : ∀ p, H p = none → Q (.ref p) (upd H p (.lst ((srt ks).map V.int)))) : rSortX K [.ref a] H Q := Or.inr ⟨a, _, ks, rfl, e, sureD_keys, fun ys p hp hs n => by rw [srt_eq hp hs]; exact h p n⟩
theorem val_sure : (valV (sureD ks) (Sum.inl k)).isSome = decide (k ∈ ks) := by
  unfold sureD
  induction ks with
  | nil => rfl
  | cons j r ih =>
    rw [List.map_cons]
    by_cases e : j = k
    · subst e
      rw [val_hd, decide_eq_true List.mem_cons_self]
      rfl
    · rw [val_tl (fun z => e (Sum.inl.inj z)), ih]
      by_cases m : k ∈ r
      · rw [decide_eq_true m, decide_eq_true (List.mem_cons_of_mem _ m)]
      · rw [decide_eq_false m, decide_eq_false (fun z => (List.mem_cons.mp z).elim (fun z => e z.symm) m)]
theorem sure_put (n : k ∉ ks) : putK (sureD ks) (Sum.inl k) (.bl true) = sureD (ks ++ [k]) := by
  rw [putK_new]
  · unfold sureD
    rw [List.map_append]
    rfl
  · rw [sureD_keys]
    intro m
    obtain ⟨j, hj, e⟩ := List.mem_map.mp m
    exact n (Sum.inl.inj e ▸ hj)
def kDNot (y x : V) (H : Hp) (Q : VK) : Prop := ∃ a o, x = .ref a ∧ DGet H a y o ∧ Q (.bl (!o.isSome)) H
theorem w_dnot {ty td : TE} {σ : L2.St} (h : ty σ H fun y H1 => td σ H1 fun x H2 => kDNot y x H2 Q) : tDNotIn ty td σ H Q := h
theorem w_dnotS (e : H a = some (.dK (sureD ks))) (h : Q (.bl (!decide (k ∈ ks))) H) : kDNot (.int k) (.ref a) H Q := ⟨a, _, rfl, DGet.k (k := Sum.inl k) e, by rw [val_sure]; exact h⟩
theorem sureD_len : (sureD ks).length = ks.length := by unfold sureD; rw [List.length_map]
theorem w_dputN (e : H a = some (.dK (sureD ks))) (n : k ∉ ks) (l : ks.length < sizeLine) (h : R (upd H a (.dK (sureD (ks ++ [k]))))) : kDPut (.bl true) (.ref a) (.int k) H R := w_dputI e (by rw [sureD_len]; exact l) (by rw [sure_put n]; exact h)
end
/-! ### o.f += e -/
section
variable {K : PySem.W.Frag} {σ : L2.St} {H : Hp} {D : Ends} {ta tv : TE} {rd : V → V → Hp → VK → Prop} {f : Str} {x v : V} {a C dx : Addr} {fs : List (Str × V)} {i j : Int} {Q : VK}
def kFA (K : PySem.W.Frag) (f : Str) (tv : TE) (rd : V → V → Hp → VK → Prop) (D : Ends) (σ : L2.St) (x : V) (H1 : Hp) : Prop := ∃ a C dx fs v, x = .ref a ∧ H1 a = some (.ins C dx fs) ∧ Cls K C ∧ NoAttr K C f ∧ fs.lookup f = some v ∧
  tv σ H1 fun y H2 => rd v y H2 fun z H3 => ∃ dx' fs', H3 a = some (.ins C dx' fs') ∧ fs'.length < 1000 ∧ D.nx σ (upd H3 a (.ins C dx' (putF f z fs')))
def kFS (f : Str) (a C : Addr) (D : Ends) (σ : L2.St) (z : V) (H3 : Hp) : Prop := ∃ dx' fs', H3 a = some (.ins C dx' fs') ∧ fs'.length < 1000 ∧ D.nx σ (upd H3 a (.ins C dx' (putF f z fs')))
theorem w_fldaug (h : ta σ H fun x H1 => kFA K f tv rd D σ x H1) : sFldAug K ta tv rd f D σ H := h
theorem w_fa (e : H a = some (.ins C dx fs)) (c : Cls K C) (nn : NoAttr K C f) (l : fs.lookup f = some v) (h : tv σ H fun y H2 => rd v y H2 fun z H3 => kFS f a C D σ z H3) : kFA K f tv rd D σ (.ref a) H := ⟨a, C, dx, fs, v, rfl, e, c, nn, l, h⟩
theorem w_fs {z : V} {fs' : List (Str × V)} (e : H a = some (.ins C dx fs)) (l : fs.length < 1000) (p : putF f z fs = fs') (h : D.nx σ (upd H a (.ins C dx fs'))) : kFS f a C D σ z H := ⟨dx, fs, e, l, by rw [p]; exact h⟩
theorem w_addI (h : Q (.int (i + j)) H) : rAdd (.int i) (.int j) H Q := ⟨i, j, rfl, rfl, h⟩
theorem w_subI (h : Q (.int (i - j)) H) : rSub (.int i) (.int j) H Q := ⟨i, j, rfl, rfl, h⟩
end
/-! ### comprehensions over enumerate(a tuple, start=c) -/
section
variable {K : PySem.W.Frag} {σ : L2.St} {H : Hp} {Q : VK} {a : Addr} {xs : List V} {g : TG} {tt : TT} {te : TE} {ta tk : TA} {vs : List Nat} {c : Int}
def kLcE (K : PySem.W.Frag) (g : TG) (tt : TT) (te : TE) (vs : List Nat) (σ : L2.St) (ws ks : List V) (H1 : Hp) (Q : VK) : Prop := ∃ a xs c, ws = [.ref a] ∧ ks = [.int c] ∧ -(2 ^ 63) ≤ c ∧ c < 2 ^ 63 ∧ SqT K H1 a xs ∧ ∀ D, H1 D = none → ∃ W : Nat → Nat → Hp → Prop, (∃ m, W 0 m (upd H1 D (.lst []))) ∧ ∀ i m H, W i m H →
  ((IteT K a c).stop i H ∧ Q (.ref D) H) ∨ ((IteT K a c).go i H ∧ ∃ Nx : Hp → Prop, (∀ H', Nx H' → ∃ m', m' < m ∧ W (i + 1) m' H') ∧ ∀ x H', (IteT K a c).yld i H x H' → g x (wipe σ vs) H' fun σ2 H2 => wipe σ2 vs = wipe σ vs ∧ tt σ2 H2 fun b H3 =>
    if b = true then te σ2 H3 fun y H4 => ∃ acc, H4 D = some (.lst acc) ∧ acc.length < sizeLine ∧ Nx (upd H4 D (.lst (acc ++ [y]))) else Nx H3)
theorem w_lcE (h : ta σ H fun ws H1 => tk σ H1 fun ks H2 => kLcE K g tt te vs σ ws ks H2 Q) : tLc (iEnumTS K ta tk) g tt te vs σ H Q := h
theorem l_lcE (e : SqT K H a xs) (c0 : -(2 ^ 63) ≤ c) (c1 : c < 2 ^ 63) (out : Nat → List V) (o0 : out 0 = [])
    (hs : ∀ D i x T H', H D = none → xs[i]? = some x → Keep [] H H' → H' D = some (.lst (out i)) → H' T = none → LcTurn H g tt te vs σ D out i (.ref T) (upd H' T (.tup [.int (c + (i : Int)), x])))
    (hd : ∀ D H', H D = none → Keep [] H H' → H' D = some (.lst (out xs.length)) → Q (.ref D) H') : kLcE K g tt te vs σ [.ref a] [.int c] H Q := by
  refine ⟨a, xs, c, rfl, rfl, c0, c1, e, fun D hD => ⟨fun i m H' => PvOf H D out i H' ∧ m + i = xs.length, ⟨xs.length, ⟨Keep.refl.own hD, by rw [upd_same, o0]⟩, rfl⟩, fun i m H' ⟨pv, hm⟩ => ?_⟩⟩
  have eH : SqT K H' a xs := pv.1.seqT nin_nil e
  by_cases hi : i < xs.length
  · refine Or.inr ⟨⟨xs, xs[i], eH, List.getElem?_eq_getElem hi⟩, PvOf H D out (i + 1), fun H2 q => ⟨m - 1, by omega, q, by omega⟩, fun x H2 hy => ?_⟩
    obtain ⟨T, y, rfl, nT, rfl, hx⟩ := hy
    exact hs D i y T H' hD (hx xs eH) pv.1 pv.2 nT
  · obtain rfl : i = xs.length := by omega
    exact Or.inl ⟨⟨xs, eH, rfl⟩, hd D H' hD pv.1 pv.2⟩
end
/-! for over a tuple -/
section
variable {K : PySem.W.Frag} {σ : L2.St} {H : Hp} {a : Addr} {xs : List V} {g : TG} {t : TS} {D : Ends} {te : TE} {Q : VK} {i : Int}
def kForT (K : PySem.W.Frag) (g : TG) (t : TS) (D : Ends) (σ : L2.St) (x : V) (H1 : Hp) : Prop := ∃ a, x = .ref a ∧ (∃ xs, SqT K H1 a xs) ∧ ∃ W : Nat → Nat → L2.St → Hp → Prop, (∃ m, W 0 m σ H1) ∧ ∀ i m σ H, W i m σ H →
      ((Itt K a).stop i H ∧ D.nx σ H) ∨ ((Itt K a).go i H ∧ ∃ N : L2.St → Hp → Prop, (∀ σ' H', N σ' H' → ∃ m', m' < m ∧ W (i + 1) m' σ' H') ∧ ∀ x H', (Itt K a).yld i H x H' → g x σ H' fun σ2 H2 => t { D with nx := N, ct := N, bk := D.nx } σ2 H2)
theorem w_forTup (h : te σ H fun x H1 => kForT K g t D σ x H1) : tFor (iTup K te) g t D σ H := h
theorem l_forTup (e : SqT K H a xs) (Pv : Nat → L2.St → Hp → Prop) (h0 : Pv 0 σ H) (hl : ∀ i σ' H', i ≤ xs.length → Pv i σ' H' → SqT K H' a xs)
    (hs : ∀ i x σ' H', xs[i]? = some x → Pv i σ' H' → g x σ' H' fun σ2 H2 => t { D with nx := Pv (i + 1), ct := Pv (i + 1), bk := D.nx } σ2 H2) (hd : ∀ σ' H', Pv xs.length σ' H' → D.nx σ' H') : kForT K g t D σ (.ref a) H :=
  ⟨a, rfl, ⟨xs, e⟩, for_tup Pv h0 hl hs hd⟩
end
theorem w_dnewK {σ : L2.St} {H : Hp} {Q : VK} (h : ∀ p, H p = none → Q (.ref p) (upd H p (.dK []))) : tDNewK σ H Q := h
end Ak
namespace Ak
open PySem PySem.Spec PyProof.Rows L2
/-! ### slices -/
def rSlX (K : PySem.W.Frag) : V → Option Int → Option Int → Hp → VK → Prop := fun x lo hi H Q => rSlL K x lo hi H Q ∨ rSlS x lo hi H Q
theorem sl_K {X : Cx} {K : PySem.W.Frag} (h : X.K = K) : SlR X (rSlX K) := by
  subst h
  intro pins s σ H x v vl vu lo hi sl Q I rx h1 h2 h3 q
  rcases q with q | q
  · exact sl_list pins s σ H x v vl vu lo hi sl Q I rx h1 h2 h3 q
  · exact sl_str pins s σ H x v vl vu lo hi sl Q I rx h1 h2 h3 q
section
variable {K : PySem.W.Frag} {σ : L2.St} {H : Hp} {Q : VK} {te : TE} {tl th : TO} {r : V → Option Int → Option Int → Hp → VK → Prop} {R : Option Int → Hp → Prop} {i j : Int} {a : Addr} {xs ys : List V} {S : Hp → Prop}
theorem w_slice (h : te σ H fun x H1 => tl σ H1 fun l H2 => th σ H2 fun u H3 => r x l u H3 Q) : tSl r te tl th σ H Q := h
theorem w_noP (h : R none H) : tNoPart σ H R := h
theorem w_part (h : te σ H fun x H1 => ∃ i, x = .int i ∧ R (some i) H1) : tPart te σ H R := h
theorem w_isI {R : Int → Prop} (h : R i) : ∃ j, V.int i = .int j ∧ R j := ⟨i, rfl, h⟩
theorem cut_take (h : 0 ≤ i) : cutV xs none (some i) = xs.take i.toNat := by
  unfold cutV HT.sIx
  simp only [List.drop_zero, Nat.sub_zero]
  rw [if_neg (by omega)]
  by_cases q : i.toNat ≤ xs.length
  · rw [Nat.min_eq_left q]
  · rw [Nat.min_eq_right (by omega), List.take_length, List.take_of_length_le (by omega)]
theorem cut_drop (h : 0 ≤ i) : cutV xs (some i) none = xs.drop i.toNat := by
  unfold cutV HT.sIx
  simp only []
  rw [if_neg (by omega)]
  by_cases q : i.toNat ≤ xs.length
  · rw [Nat.min_eq_left q, List.take_of_length_le (by rw [List.length_drop]; omega)]
  · rw [Nat.min_eq_right (by omega), List.drop_length, List.drop_of_length_le (by omega), List.take_nil]
theorem w_slTake (e : SqL K H a xs) (i0 : 0 ≤ i) (h : ∀ p, H p = none → Q (.ref p) (upd H p (.lst (xs.take i.toNat)))) : rSlX K (.ref a) none (some i) H Q := Or.inl ⟨a, xs, rfl, e, by rw [cut_take i0]; exact h⟩
theorem w_slDrop (e : SqL K H a xs) (i0 : 0 ≤ i) (h : ∀ p, H p = none → Q (.ref p) (upd H p (.lst (xs.drop i.toNat)))) : rSlX K (.ref a) (some i) none H Q := Or.inl ⟨a, xs, rfl, e, by rw [cut_drop i0]; exact h⟩
/-! ### extend -/
theorem w_ext {b : Addr} (e : H a = some (.lst xs)) (e2 : H b = some (.lst ys)) (l : xs.length + ys.length ≤ sizeLine) (h : Q .non (upd H a (.lst (xs ++ ys)))) : rExtend (.ref a) [.ref b] H Q := ⟨a, b, xs, ys, rfl, rfl, e, e2, l, h⟩
end
/-! ### dicts of int keys, each with a value by a function -/
def dOf (ks : List Int) (f : Int → V) : List (Key × V) := ks.map fun k => (Sum.inl k, f k)
section
variable {K : PySem.W.Frag} {H : Hp} {Q : VK} {a : Addr} {ns ks : List Int} {k : Int} {R : Hp → Prop} {f g : Int → V} {v x : V} {σ : L2.St} {D : Ends} {td ty : TE}
theorem dOf_keys : (dOf ks f).map (·.1) = ks.map Sum.inl := by unfold dOf; rw [List.map_map]; rfl
theorem dOf_len : (dOf ks f).length = ks.length := by unfold dOf; rw [List.length_map]
theorem dOf_congr (h : ∀ k, k ∈ ks → f k = g k) : dOf ks f = dOf ks g := by
  unfold dOf
  exact List.map_congr_left fun k hk => by rw [h k hk]
theorem val_dOf (h : k ∈ ks) : valV (dOf ks f) (Sum.inl k) = some (f k) := by
  unfold dOf
  induction ks with
  | nil => exact absurd h List.not_mem_nil
  | cons j r ih =>
    rw [List.map_cons]
    by_cases e : j = k
    · subst e
      exact val_hd
    · rw [val_tl (fun z => e (Sum.inl.inj z))]
      exact ih ((List.mem_cons.mp h).elim (fun z => absurd z.symm e) id)
theorem val_dOfN (h : k ∉ ks) : valV (dOf ks f) (Sum.inl k) = none := by
  unfold dOf
  induction ks with
  | nil => rfl
  | cons j r ih =>
    rw [List.map_cons, val_tl (fun z => h (by rw [Sum.inl.inj z]; exact List.mem_cons_self))]
    exact ih fun m => h (List.mem_cons_of_mem _ m)
theorem val_dOfS : (valV (dOf ks f) (Sum.inl k)).isSome = decide (k ∈ ks) := by
  by_cases h : k ∈ ks
  · rw [val_dOf h, decide_eq_true h]; rfl
  · rw [val_dOfN h, decide_eq_false h]; rfl
theorem put_dOf (h : k ∈ ks) : putK (dOf ks f) (Sum.inl k) v = dOf ks fun q => if q = k then v else f q := by
  unfold putK
  have e : ((dOf ks f).any fun kv => decide (kv.1 = Sum.inl k)) = true := by
    rw [List.any_eq_true]
    exact ⟨(Sum.inl k, f k), List.mem_map.mpr ⟨k, h, rfl⟩, decide_eq_true rfl⟩
  rw [if_pos e]
  unfold dOf
  rw [List.map_map]
  refine List.map_congr_left fun q _ => ?_
  show (if (Sum.inl q : Key) = Sum.inl k then ((Sum.inl q : Key), v) else (Sum.inl q, f q)) = (Sum.inl q, if q = k then v else f q)
  by_cases z : q = k
  · subst z; rw [if_pos rfl, if_pos rfl]
  · rw [if_neg (fun y => z (Sum.inl.inj y)), if_neg z]
theorem put_dOfN (h : k ∉ ks) : putK (dOf ks f) (Sum.inl k) v = dOf ks f ++ [(Sum.inl k, v)] := putK_new (by
  rw [dOf_keys]
  intro m
  obtain ⟨j, hj, e⟩ := List.mem_map.mp m
  exact h (Sum.inl.inj e ▸ hj))
theorem dOf_app : dOf (ns ++ ks) f = dOf ns f ++ dOf ks f := by unfold dOf; rw [List.map_append]
theorem drop_dOf : dropK (dOf ks f) (Sum.inl k) = dOf (ks.filter fun q => !decide (q = k)) f := by
  unfold dropK dOf
  rw [List.filter_map]
  congr 1
  refine List.filter_congr fun q _ => ?_
  show decide ((Sum.inl q : Key) ≠ Sum.inl k) = !decide (q = k)
  by_cases z : q = k
  · subst z; simp
  · simp [z]
theorem w_dgetO (e : H a = some (.dK (dOf ks f))) (h : k ∈ ks) (q : Q (f k) H) : kDGet (.ref a) (.int k) H Q := w_dgetI e (val_dOf h) q
theorem w_dputO (e : H a = some (.dK (dOf ks f))) (l : ks.length < sizeLine) (h : k ∈ ks) (q : R (upd H a (.dK (dOf ks fun q => if q = k then v else f q)))) : kDPut v (.ref a) (.int k) H R := w_dputI e (by rw [dOf_len]; exact l) (by rw [put_dOf h]; exact q)
theorem w_dputON (e : H a = some (.dK (dOf ks f))) (l : ks.length < sizeLine) (h : k ∉ ks) (hf : ∀ q, q ∈ ks → g q = f q) (hv : g k = v) (q : R (upd H a (.dK (dOf (ks ++ [k]) g)))) : kDPut v (.ref a) (.int k) H R :=
  w_dputI e (by rw [dOf_len]; exact l) (by
    rw [put_dOfN h]
    rw [dOf_app, dOf_congr hf, show dOf [k] g = [(Sum.inl k, v)] by unfold dOf; rw [← hv]; rfl] at q
    exact q)
def kDIn (y x : V) (H : Hp) (Q : VK) : Prop := ∃ a o, x = .ref a ∧ DGet H a y o ∧ Q (.bl o.isSome) H
theorem w_din (h : ty σ H fun y H1 => td σ H1 fun x H2 => kDIn y x H2 Q) : tDIn ty td σ H Q := h
theorem w_dinO (e : H a = some (.dK (dOf ks f))) (h : Q (.bl (decide (k ∈ ks))) H) : kDIn (.int k) (.ref a) H Q := ⟨a, _, rfl, DGet.k (k := Sum.inl k) e, by rw [val_dOfS]; exact h⟩
def kDDel (x y : V) (H : Hp) (R : Hp → Prop) : Prop := ∃ a kvs k, x = .ref a ∧ H a = some (.dK kvs) ∧ y = kV k ∧ (valV kvs k).isSome = true ∧ R (upd H a (.dK (dropK kvs k)))
theorem w_ddel (h : td σ H fun x H1 => ty σ H1 fun y H2 => kDDel x y H2 (D.nx σ)) : sDDel td ty D σ H := h
theorem w_ddelO (e : H a = some (.dK (dOf ks f))) (h : k ∈ ks) (q : R (upd H a (.dK (dOf (ks.filter fun q => !decide (q = k)) f)))) : kDDel (.ref a) (.int k) H R :=
  ⟨a, _, Sum.inl k, rfl, e, rfl, by rw [val_dOfS, decide_eq_true h], by rw [drop_dOf]; exact q⟩
theorem w_sortO2 (e : H a = some (.dK (dOf ks f))) (h : ∀ p, H p = none → Q (.ref p) (upd H p (.lst ((srt ks).map V.int)))) : rSortX K [.ref a] H Q := Or.inr ⟨a, _, ks, rfl, e, dOf_keys, fun ys p hp hs n => by rw [srt_eq hp hs]; exact h p n⟩
end
/-! ### the ints 0 .. n - 1 -/
def upTo (n : Nat) : List Int := (List.range n).map fun k : Nat => ((k : Nat) : Int)
theorem upTo_mem {n : Nat} {x : Int} : x ∈ upTo n ↔ 0 ≤ x ∧ x < n := by
  unfold upTo
  rw [List.mem_map]
  constructor
  · rintro ⟨k, hk, rfl⟩
    have := List.mem_range.mp hk
    omega
  · rintro ⟨h0, h1⟩
    exact ⟨x.toNat, List.mem_range.mpr (by omega), by omega⟩
theorem upTo_succ (n : Nat) : upTo (n + 1) = upTo n ++ [(n : Int)] := by unfold upTo; rw [List.range_succ, List.map_append]; rfl
theorem upTo_len (n : Nat) : (upTo n).length = n := by unfold upTo; rw [List.length_map, List.length_range]
theorem upTo_lt (n : Nat) : (upTo n).Pairwise (· < ·) := by
  unfold upTo
  rw [List.pairwise_map]
  exact List.pairwise_lt_range.imp fun h => Int.ofNat_lt.mpr h
theorem upTo_srt {n : Nat} {p : Int → Bool} : srt ((upTo n).filter p) = (upTo n).filter p := srt_of (((upTo_lt n).filter p).imp fun h => by omega)
/-- a list of ints that are told, in a list or a tuple -/
theorem w_inIT {K : PySem.W.Frag} {H : Hp} {Q : VK} {a : Addr} {i : Int} {ns : List Int} (e : SqT K H a (ns.map V.int)) (h : Q (.bl (decide (i ∈ ns))) H) : rInX K (.int i) (.ref a) H Q := w_inT e rfl (flat_ints ns) (by rw [inV_ints]; exact h)
/-! ### lists of ints that are the same -/
theorem dp_ints {K : PySem.W.Frag} {H : Hp} : ∀ {ns : List Int}, DpAll K H (ns.map V.int) (ns.map PyData.int)
  | [] => .nil
  | n :: r => .cons (.int n) dp_ints
theorem eqvAll_ints : ∀ ns : List Int, PyData.eqvAll (ns.map PyData.int) (ns.map PyData.int) = true
  | [] => by simp [PyData.eqvAll]
  | n :: r => by simp [PyData.eqvAll, PyData.eqv, eqvAll_ints r]
theorem eqv_ints (ns : List Int) : PyData.eqv (.list (ns.map PyData.int)) (.list (ns.map PyData.int)) = true := by
  simp [PyData.eqv, eqvAll_ints]
theorem depthAll_ints : ∀ ns : List Int, PyData.depthAll (ns.map PyData.int) ≤ 1
  | [] => by simp [PyData.depthAll]
  | n :: r => by
    have := depthAll_ints r
    simp [PyData.depthAll, PyData.depth]; omega
theorem layAll_ints : ∀ ns : List Int, PyData.canLayAll0 (ns.map PyData.int) = true
  | [] => by simp [PyData.canLayAll0]
  | n :: r => by simp [PyData.canLayAll0, PyData.canLay0, layAll_ints r]
theorem shaped_ints (ns : List Int) : SeqAt.shaped (.list (ns.map PyData.int)) = true := by
  unfold SeqAt.shaped
  simp [PyData.canLay0, PyData.depth, layAll_ints]
  have := depthAll_ints ns
  omega
theorem w_neLI {K : PySem.W.Frag} {H : Hp} {Q : VK} {a b : Addr} {ns : List Int} (ha : SqL K H a (ns.map V.int)) (hb : SqL K H b (ns.map V.int)) (h : Q (.bl false) H) : rNeX K (.ref a) (.ref b) H Q :=
  w_neD (Dp.lst ha dp_ints) (Dp.lst hb dp_ints) (shaped_ints ns) (shaped_ints ns) (by rw [eqv_ints]; exact h)
theorem atI_last {α : Type} {xs : List α} {x : α} (h : xs[xs.length - 1]? = some x) : atI xs (-1) = some x := by
  have hl : 0 < xs.length := by
    have := (List.getElem?_eq_some_iff.mp h).1
    omega
  unfold atI ixN
  rw [if_neg (by omega), if_pos (by omega)]
  show xs[_]? = some x
  rw [← h]
  congr 1
  omega
theorem eqv_intsE : ∀ ns : List Int, PyData.eqv (.list (ns.map PyData.int)) (.list []) = decide (ns = [])
  | [] => by simp [PyData.eqv, PyData.eqvAll]
  | n :: r => by simp [PyData.eqv, PyData.eqvAll]
theorem w_neE {K : PySem.W.Frag} {H : Hp} {Q : VK} {a b : Addr} {ns : List Int} (ha : SqL K H a (ns.map V.int)) (hb : SqL K H b []) (h : Q (.bl (!decide (ns = []))) H) : rNeX K (.ref a) (.ref b) H Q :=
  w_neD (Dp.lst ha dp_ints) (Dp.lst hb .nil) (shaped_ints ns) (shaped_ints []) (by rw [eqv_intsE]; exact h)
theorem w_eqE {K : PySem.W.Frag} {H : Hp} {Q : VK} {a b : Addr} {ns : List Int} (ha : SqL K H a (ns.map V.int)) (hb : SqL K H b []) (h : Q (.bl (decide (ns = []))) H) : rEqX K (.ref a) (.ref b) H Q :=
  w_eqD (Dp.lst ha dp_ints) (Dp.lst hb .nil) (shaped_ints ns) (shaped_ints []) (by rw [eqv_intsE]; exact h)
theorem w_chain {r r' : R2} {ta tb tc : TE} {σ : L2.St} {H : Hp} {Q : VK} (h : ta σ H fun x H1 => tb σ H1 fun y H2 => r x y H2 fun z H3 => ∃ k, z = V.bl k ∧ if k = true then tc σ H3 fun w' H4 => r' y w' H4 Q else Q (V.bl false) H3) : tChain r r' ta tb tc σ H Q := h
theorem w_par {i j : Nat} {ta : TA} {D : Ends} {σ : L2.St} {H : Hp} (h : ta σ H fun vs H1 => ∃ v w, vs = [v, w] ∧ D.nx ((List.set σ i (some v)).set j (some w)) H1) : tPar i j ta D σ H := h
theorem w_par2 {x y : V} {R : V → V → Prop} (h : R x y) : ∃ v w, [x, y] = [v, w] ∧ R v w := ⟨x, y, rfl, h⟩
def pdA : V → PyData
  | .str s => .str s
  | .int i => .int i
  | .bl b => .bool b
  | _ => .none
def atomV : V → Bool
  | .str s => PyData.strOk s
  | .int _ => true
  | _ => false
theorem dp_atom {K : PySem.W.Frag} {H : Hp} {x : V} (h : atomV x = true) : Dp K H x (pdA x) := by
  cases x with
  | str s => exact .str s
  | int i => exact .int i
  | _ => cases h
theorem dp_atoms {K : PySem.W.Frag} {H : Hp} : ∀ {xs : List V}, xs.all atomV = true → DpAll K H xs (xs.map pdA)
  | [], _ => .nil
  | x :: r, h => by
    rw [List.all_cons, Bool.and_eq_true] at h
    exact .cons (dp_atom h.1) (dp_atoms h.2)
theorem eqv_atom {x y : V} (hx : atomV x = true) (hy : atomV y = true) : PyData.eqv (pdA x) (pdA y) = decide (x = y) := by
  cases x <;> cases y <;> first | (cases hx; done) | (cases hy; done) | skip
  all_goals simp [pdA, PyData.eqv]
  all_goals first | rfl | (rw [Bool.eq_iff_iff]; simp)
theorem eqvAll_atoms : ∀ {xs ys : List V}, xs.all atomV = true → ys.all atomV = true → PyData.eqvAll (xs.map pdA) (ys.map pdA) = decide (xs = ys)
  | [], [], _, _ => by simp [PyData.eqvAll]
  | [], _ :: _, _, _ => by simp [PyData.eqvAll]
  | _ :: _, [], _, _ => by simp [PyData.eqvAll]
  | x :: r, y :: q, hx, hy => by
    rw [List.all_cons, Bool.and_eq_true] at hx hy
    simp [PyData.eqvAll, eqv_atom hx.1 hy.1, eqvAll_atoms hx.2 hy.2]
theorem depthAll_atoms : ∀ {xs : List V}, xs.all atomV = true → PyData.depthAll (xs.map pdA) ≤ 1
  | [], _ => by simp [PyData.depthAll]
  | x :: r, h => by
    rw [List.all_cons, Bool.and_eq_true] at h
    have := depthAll_atoms h.2
    have : PyData.depth (pdA x) ≤ 1 := by
      cases x <;> first | (cases h.1; done) | skip
      all_goals simp [pdA, PyData.depth]
    simp [PyData.depthAll]
    omega
theorem layAll_atoms : ∀ {xs : List V}, xs.all atomV = true → PyData.canLayAll0 (xs.map pdA) = true
  | [], _ => by simp [PyData.canLayAll0]
  | x :: r, h => by
    rw [List.all_cons, Bool.and_eq_true] at h
    have : PyData.canLay0 (pdA x) = true := by
      cases x <;> first | (cases h.1; done) | skip
      all_goals first | (simp [pdA, PyData.canLay0]; done) | (simpa [pdA, PyData.canLay0, atomV] using h.1)
    simp [PyData.canLayAll0, this, layAll_atoms h.2]
theorem shaped_atoms {xs : List V} (h : xs.all atomV = true) : SeqAt.shaped (.tuple (xs.map pdA)) = true := by
  unfold SeqAt.shaped
  simp [PyData.canLay0, PyData.depth, layAll_atoms h]
  have := depthAll_atoms h
  omega
theorem w_eqT {K : PySem.W.Frag} {H : Hp} {Q : VK} {a b : Addr} {xs ys : List V} (ha : SqT K H a xs) (hb : SqT K H b ys) (hx : xs.all atomV = true) (hy : ys.all atomV = true) (h : Q (.bl (decide (xs = ys))) H) : rEqX K (.ref a) (.ref b) H Q :=
  w_eqD (Dp.tup ha (dp_atoms hx)) (Dp.tup hb (dp_atoms hy)) (shaped_atoms hx) (shaped_atoms hy) (by
    have e : PyData.eqv (.tuple (xs.map pdA)) (.tuple (ys.map pdA)) = decide (xs = ys) := by simp [PyData.eqv, eqvAll_atoms hx hy]
    rw [e]; exact h)
theorem w_neT {K : PySem.W.Frag} {H : Hp} {Q : VK} {a b : Addr} {xs ys : List V} (ha : SqT K H a xs) (hb : SqT K H b ys) (hx : xs.all atomV = true) (hy : ys.all atomV = true) (h : Q (.bl (!decide (xs = ys))) H) : rNeX K (.ref a) (.ref b) H Q :=
  w_neD (Dp.tup ha (dp_atoms hx)) (Dp.tup hb (dp_atoms hy)) (shaped_atoms hx) (shaped_atoms hy) (by
    have e : PyData.eqv (.tuple (xs.map pdA)) (.tuple (ys.map pdA)) = decide (xs = ys) := by simp [PyData.eqv, eqvAll_atoms hx hy]
    rw [e]; exact h)
/-! ### for .. in enumerate(a list) -/
section
variable {K : PySem.W.Frag} {σ : L2.St} {H : Hp} {a : Addr} {xs : List V} {g : TG} {t : TS} {D : Ends} {ta : TA}
def kForEn (K : PySem.W.Frag) (g : TG) (t : TS) (D : Ends) (σ : L2.St) (vs : List V) (H1 : Hp) : Prop := ∃ a xs, vs = [V.ref a] ∧ SqL K H1 a xs ∧ ∃ W : Nat → Nat → L2.St → Hp → Prop, (∃ m, W 0 m σ H1) ∧ ∀ i m σ H, W i m σ H →
      ((Ite K a).stop i H ∧ D.nx σ H) ∨ ((Ite K a).go i H ∧ ∃ N : L2.St → Hp → Prop, (∀ σ' H', N σ' H' → ∃ m', m' < m ∧ W (i + 1) m' σ' H') ∧ ∀ x H', (Ite K a).yld i H x H' → g x σ H' fun σ2 H2 => t { D with nx := N, ct := N, bk := D.nx } σ2 H2)
theorem w_forEn (h : ta σ H fun vs H1 => kForEn K g t D σ vs H1) : tFor (iEnum K ta) g t D σ H := h
theorem l_forEn (e : SqL K H a xs) (Pv : Nat → L2.St → Hp → Prop) (h0 : Pv 0 σ H) (hl : ∀ i σ' H', Pv i σ' H' → SqL K H' a xs)
    (hs : ∀ i x T σ' H', xs[i]? = some x → Pv i σ' H' → H' T = none → g (.ref T) σ' (upd H' T (.tup [.int (i : Nat), x])) fun σ2 H2 => t { D with nx := Pv (i + 1), ct := Pv (i + 1), bk := D.nx } σ2 H2) (hd : ∀ σ' H', Pv xs.length σ' H' → D.nx σ' H') : kForEn K g t D σ [.ref a] H := by
  refine ⟨a, xs, rfl, e, fun i m σ' H' => Pv i σ' H' ∧ m + i = xs.length, ⟨xs.length, h0, rfl⟩, fun i m σ' H' ⟨pv, hm⟩ => ?_⟩
  have eH := hl i σ' H' pv
  by_cases hi : i < xs.length
  · refine Or.inr ⟨⟨xs, xs[i], eH, List.getElem?_eq_getElem hi⟩, Pv (i + 1), fun σ2 H2 q => ⟨m - 1, by omega, q, by omega⟩, fun x H2 hy => ?_⟩
    obtain ⟨T, y, rfl, nT, rfl, hx⟩ := hy
    exact hs i y T σ' H' (hx xs eH) pv nT
  · obtain rfl : i = xs.length := by omega
    exact Or.inl ⟨⟨xs, eH, Nat.le_refl _⟩, hd _ _ pv⟩
end
theorem pe_gint {X : Cx} {x : Str} {i : Int} {t : Tok} {pos : Pos} (hg : Gl X x) (hm : X.mg x = some (.int i t)) (hd : (x == ("__debug__" : Str)) = false := by decide) : PE X (.Name x pos) (tC (.int i)) := pe_glob (v := .int i) hg hm ⟨_, rfl⟩ hd
end Ak
local macro_rules | `(tactic| walk_at "as") => `(tactic| with_reducible assumption)
local macro_rules | `(tactic| walk_at "lkl") => `(tactic| first
  | walk_at "as"
  | with_reducible exact L2.upd_same
  | ((with_reducible show L2.upd _ _ _ _ = _); exact Ak.at_new (by walk_at "as") (by walk_at "lkl")))
local macro_rules | `(tactic| walk_at "nel") => `(tactic| first
  | walk_at "as"
  | exact Ne.symm (by walk_at "as")
  | exact Ne.symm (Ak.ne_new (by walk_at "as") (by walk_at "lkl"))
  | exact Ak.ne_new (by walk_at "as") (by walk_at "lkl")
  | exact L2.ne_of (by walk_at "as") (by walk_at "as") (by intro z; cases z))
local macro_rules | `(tactic| walk_at "ninl") => `(tactic| first | with_reducible exact Ak.nin_nil | walk_at "as" | ((with_reducible show ¬ (_ ∈ _ :: _)); exact Ak.nin_cons (by walk_at "nel") (by walk_at "ninl")))
local macro_rules | `(tactic| walk_at "lk") => `(tactic| first
  | walk_at "as"
  | with_reducible exact L2.upd_same
  | ((with_reducible show L2.upd _ _ _ _ = _); first | exact Ak.at_new (by walk_at "as") (by walk_at "lk") | exact Ak.at_upd (by walk_at "nel") (by walk_at "lk"))
  | exact Ak.Keep.at (by walk_at "as") (by walk_at "ninl") (by walk_at "lk"))
local macro_rules | `(tactic| walk_at "ne") => `(tactic| first
  | walk_at "nel"
  | exact Ne.symm (Ak.ne_new (by walk_at "as") (by walk_at "lk"))
  | exact Ak.ne_new (by walk_at "as") (by walk_at "lk"))
local macro_rules | `(tactic| walk_at "nin") => `(tactic| first | with_reducible exact Ak.nin_nil | walk_at "as" | ((with_reducible show ¬ (_ ∈ _ :: _)); exact Ak.nin_cons (by walk_at "ne") (by walk_at "nin")))
local macro_rules | `(tactic| walk_at "mem") => `(tactic| ((with_reducible show _ ∈ _ :: _); first | with_reducible exact List.mem_cons_self | exact List.mem_cons_of_mem _ (by walk_at "mem")))
local macro_rules | `(tactic| walk_at "sub") => `(tactic| first | with_reducible exact fun _ m => m | with_reducible exact Ak.sub_nil | ((with_reducible show ∀ b, b ∈ _ :: _ → _); exact Ak.sub_cons (by walk_at "mem") (by walk_at "sub")))
local macro_rules | `(tactic| walk_at "kp") => `(tactic| first
  | with_reducible exact Ak.Keep.refl
  | walk_at "as"
  | ((with_reducible show Ak.Keep _ _ (L2.upd _ _ _)); first | exact Ak.Keep.new' (by walk_at "as") (by walk_at "kp") | exact Ak.Keep.set' (by walk_at "mem") (by walk_at "kp") | exact Ak.Keep.own' (by walk_at "as") (by walk_at "kp"))
  | exact Ak.Keep.call (by walk_at "as") (by walk_at "sub") (by walk_at "kp"))
local macro_rules | `(tactic| walk_at "sqd") => `(tactic| first
  | walk_at "as"
  | ((with_reducible show L2.SqL _ (L2.upd _ _ _) _ _); exact Ak.SqL.upd (by walk_at "sqd") (by walk_at "as"))
  | ((with_reducible show L2.SqL _ _ _ _); exact Ak.Keep.seqL (by walk_at "as") (by walk_at "nin") (by walk_at "sqd"))
  | ((with_reducible show L2.SqT _ (L2.upd _ _ _) _ _); exact Ak.SqT.upd (by walk_at "sqd") (by walk_at "as"))
  | ((with_reducible show L2.SqT _ _ _ _); exact Ak.Keep.seqT (by walk_at "as") (by walk_at "nin") (by walk_at "sqd")))
local macro_rules | `(tactic| walk_at "sqh") => `(tactic| first
  | walk_at "as"
  | ((with_reducible show L2.SqL _ _ _ _); first | exact Ak.Ext0.seqL (by walk_at "as") (by walk_at "xt") | exact Ak.chkL (by walk_at "as") (by walk_at "sqd"))
  | ((with_reducible show L2.SqT _ _ _ _); first | exact Ak.Ext0.seqT (by walk_at "as") (by walk_at "xt") | exact Ak.chkT (by walk_at "as") (by walk_at "sqd")))
local macro_rules | `(tactic| walk_at "sq") => `(tactic| first
  | walk_at "sqh"
  | ((with_reducible show L2.SqL _ _ _ _); exact L2.SqL.of (by walk_at "lk"))
  | ((with_reducible show L2.SqT _ _ _ _); exact L2.SqT.of (by walk_at "lk")))
local macro_rules | `(tactic| walk_at "xt") => `(tactic| first
  | walk_at "as"
  | with_reducible exact Ak.Ext0.refl
  | ((with_reducible show LamX.ExtN _ (L2.upd _ _ _)); first | exact Ak.Ext0.set (by walk_at "xt") (by walk_at "as") | exact Ak.Ext0.new (by walk_at "xt") (by walk_at "as"))
  | exact Ak.Ext0.kept (by walk_at "as") (by walk_at "xt") (by walk_at "n0"))
local macro_rules | `(tactic| walk_at "n0") => `(tactic| first | exact Ak.none_nil | exact Ak.none_in (by walk_at "n0") (by walk_at "as"))
local macro_rules | `(tactic| walk_at "sz") => `(tactic| first | walk_at "as" | exact Ak.sz_of rfl | exact Ak.sz_lt rfl | (rw [PySem.sizeLine_eq]; omega) | (simp only [List.length_append, List.length_cons, List.length_nil, List.length_map, PySem.sizeLine_eq]; omega))
local macro_rules | `(tactic| walk_at "ix") => `(tactic| first | walk_at "as" | ((with_reducible show L2.atI _ (OfNat.ofNat _) = _); exact rfl))
local macro_rules | `(tactic| walk_at "fl") => `(tactic| first | walk_at "as" | with_reducible exact Ak.look_hd | with_reducible exact Ak.look_nil | ((with_reducible show List.lookup _ (_ :: _) = _); exact Eq.trans (Ak.look_tl (by decide +kernel)) (by walk_at "fl")))
local macro_rules | `(tactic| walk_at "dv") => `(tactic| first | walk_at "as" | with_reducible exact Ak.val_hd | with_reducible exact Ak.val_nil | ((with_reducible show L2.valV (_ :: _) _ = _); exact Eq.trans (Ak.val_tl (by decide +kernel)) (by walk_at "dv")))
local macro_rules | `(tactic| walk_at "s") => `(tactic| first
  | with_reducible refine Ak.w_seq ?_
  | with_reducible refine Ak.w_asg ?_
  | with_reducible refine Ak.w_name ?_
  | with_reducible refine Ak.w_op ?_
  | ((with_reducible show L2.tVar _ _ _ _); refine Ak.w_var (by exact rfl) ?_)
  | with_reducible refine Ak.w_c ?_
  | with_reducible refine Ak.w_plusI ?_
  | with_reducible refine Ak.w_I0 ?_
  | with_reducible refine Ak.w_fldE ?_
  | with_reducible refine Ak.w_if ?_
  | with_reducible refine Ak.w_iT ?_
  | with_reducible refine Ak.w_iF ?_
  | with_reducible refine Ak.w_nT ?_
  | with_reducible refine Ak.w_nF ?_
  | with_reducible refine Ak.w_test ?_
  | with_reducible refine Ak.w_eqI ?_
  | with_reducible refine Ak.w_neI ?_
  | with_reducible refine Ak.w_eqS ?_
  | with_reducible refine Ak.w_neS ?_
  | with_reducible refine Ak.w_neTT ?_
  | with_reducible refine Ak.w_eqB ?_
  | with_reducible refine Ak.w_neB ?_
  | with_reducible refine Ak.w_isNN ?_
  | with_reducible refine Ak.w_isNR ?_
  | with_reducible refine Ak.w_isNI ?_
  | with_reducible refine Ak.w_isNB ?_
  | with_reducible refine Ak.w_isNS ?_
  | with_reducible refine Ak.w_ntNN ?_
  | with_reducible refine Ak.w_ntNR ?_
  | with_reducible refine Ak.w_ntNI ?_
  | with_reducible refine Ak.w_isN ?_
  | with_reducible refine Ak.w_notN ?_
  | with_reducible refine Ak.w_bl ?_
  | with_reducible refine Ak.w_tru ?_
  | with_reducible refine Ak.w_truB ?_
  | with_reducible refine Ak.w_truI ?_
  | with_reducible refine Ak.w_tB ?_
  | with_reducible refine Ak.w_cons ?_
  | with_reducible refine Ak.w_nil ?_
  | with_reducible refine Ak.w_call ?_
  | with_reducible refine Ak.w_meth ?_
  | with_reducible refine Ak.w_cb ?_
  | with_reducible refine Ak.w_ret ?_
  | with_reducible refine Ak.w_retN ?_
  | with_reducible refine Ak.w_drop ?_
  | with_reducible refine Ak.w_next ?_
  | with_reducible refine Ak.w_cont ?_
  | with_reducible refine Ak.w_brk ?_
  | with_reducible refine Ak.w_and ?_
  | with_reducible refine Ak.w_or ?_
  | with_reducible refine Ak.w_not ?_
  | with_reducible refine Ak.w_andV ?_
  | with_reducible refine Ak.w_orV ?_
  | with_reducible refine Ak.w_notV ?_
  | with_reducible refine Ak.w_ifx ?_
  | with_reducible refine Ak.w_max2 ?_
  | with_reducible refine Ak.w_min2 ?_
  | with_reducible refine Ak.w_intI ?_
  | with_reducible refine Ak.w_intB ?_
  | with_reducible refine Ak.w_un ?_
  | with_reducible refine Ak.w_U ?_
  | with_reducible refine Ak.w_dget ?_
  | with_reducible refine Ak.w_dput ?_
  | with_reducible refine Ak.w_sfld ?_
  | with_reducible refine Ak.w_bm ?_
  | with_reducible refine Ak.w_bm0 ?_
  | with_reducible refine Ak.w_tup ?_
  | with_reducible refine Ak.w_lst ?_
  | with_reducible refine Ak.w_make ?_
  | with_reducible refine Ak.w_gnil ?_
  | with_reducible refine Ak.w_gcons ?_
  | with_reducible refine Ak.w_gsub ?_
  | with_reducible refine Ak.w_forList ?_
  | with_reducible refine Ak.w_forR1 ?_
  | with_reducible refine Ak.w_forR2 ?_
  | with_reducible refine Ak.w_forZ ?_
  | with_reducible refine Ak.w_lcL ?_
  | with_reducible refine Ak.w_lcT ?_
  | with_reducible refine Ak.w_lcR1 ?_
  | with_reducible refine Ak.w_lcR2 ?_
  | with_reducible refine Ak.w_yes ?_
  | with_reducible refine Ak.w_turn ?_
  | with_reducible refine Ak.w_pairs0 ?_
  | with_reducible refine Ak.w_pairs ?_
  | with_reducible refine Ak.w_eq0S ?_
  | with_reducible refine Ak.w_ne0I ?_
  | with_reducible refine Ak.w_disp fun _ _ => ?_
  | ((with_reducible show L2.wipe _ _ = L2.wipe _ _ ∧ _); refine ⟨by exact rfl, ?_⟩)
  | ((with_reducible show Ak.kFld _ _ _ _ _); refine Ak.w_fldK (by walk_at "lk") (by walk_at "as") (by walk_at "as") (by walk_at "fl") ?_)
  | ((with_reducible show Ak.kMeth _ _ _ _ _); refine Ak.w_methK (by walk_at "lk") (by walk_at "fl") ?_)
  | ((with_reducible show Ak.rPlus _ (L2.V.ref _) (L2.V.ref _) _ _); refine Ak.w_plusL (by walk_at "lk") (by walk_at "lk") (by walk_at "sz") fun _ _ => ?_)
  | ((with_reducible show Ak.rTimes (L2.V.int _) (L2.V.int _) _ _); refine Ak.w_timesI (by first | exact Or.inl (by omega) | exact Or.inr (by omega)) ?_)
  | ((with_reducible show L2.rI _ _ _ _ _ _); refine Ak.w_I (by walk_at "ci") ?_)
  | ((with_reducible show L2.rIx _ _ (L2.V.int (OfNat.ofNat _)) _ _); first | refine Ak.w_ixO (by walk_at "lk") (by exact rfl) (by exact rfl) ?_ | refine Ak.w_ixL (by walk_at "sqh") (by exact rfl) ?_ | refine Ak.w_ixT (by walk_at "sqh") (by exact rfl) ?_)
  | ((with_reducible show L2.rIx _ _ (L2.V.int _) _ _); first | refine Ak.w_ixL (by walk_at "sqh") (by walk_at "as") ?_ | refine Ak.w_ixT (by walk_at "sqh") (by walk_at "as") ?_ | refine Ak.w_ixO (by walk_at "lk") (by exact rfl) (by walk_at "as") ?_)
  | ((with_reducible show Ak.rLenX _ [L2.V.ref _] _ _); first | refine Ak.w_lenL (by walk_at "sqh") ?_ | refine Ak.w_lenT (by walk_at "sqh") ?_ | refine Ak.w_lenO (by walk_at "lk") (by exact rfl) ?_)
  | ((with_reducible show Ak.rTupX _ [L2.V.ref _] _ _); refine Ak.w_tupL (by walk_at "sq") fun _ _ => ?_)
  | ((with_reducible show L2.rSetL (L2.V.ref _) (L2.V.int _) _ _ _); (with_reducible show L2.rSetL (L2.V.ref _) (L2.V.int (OfNat.ofNat _)) _ _ _); refine Ak.w_setL (by walk_at "lk") (by exact rfl) ?_)
  | ((with_reducible show Ak.kDGet _ (L2.V.str _) _ _); refine Ak.w_dgetS (by walk_at "lk") (by walk_at "dv") ?_)
  | ((with_reducible show L2.rAppend _ _ _ _); refine Ak.w_app (by walk_at "lk") (by walk_at "sz") ?_)
  | ((with_reducible show L2.gTup _ _ _ _ _ _ _); first | refine Ak.w_gtup (by walk_at "sqh") (by exact rfl) ?_ | refine Ak.w_gtupO (by walk_at "lk") (by exact rfl) ?_)
  | ((with_reducible show L2.tyV _ _ _ _ ∧ _); refine ⟨Ak.tyL (by walk_at "lk"), ?_⟩)
  | ((with_reducible show _ ≤ PySem.sizeLine ∧ ∀ _, _); refine ⟨by walk_at "sz", fun _ _ => ?_⟩))
local macro_rules | `(tactic| walk_at "ty") => `(tactic| first | with_reducible exact L2.TyX.base (.int _) | with_reducible exact L2.TyX.base (.bl _) | with_reducible exact L2.TyX.base (.str _) | with_reducible exact L2.TyX.base .non | exact Ak.tyT (by walk_at "sqh") | exact Ak.tyLs (by walk_at "sqh") | exact Ak.tyO (by walk_at "lk") (by exact rfl))
local macro_rules | `(tactic| walk_at "s") => `(tactic| ((with_reducible show L2.rIsi _ [_, L2.V.ty _] _ _); first | refine Ak.w_isiB (k := true) (by walk_at "ty") (by decide +kernel) ?_ | refine Ak.w_isiB (k := false) (by walk_at "ty") (by decide +kernel) ?_))
local macro_rules | `(tactic| walk_at "pf") => `(tactic| first | with_reducible exact Ak.putF_hd | with_reducible exact Ak.putF_nil | ((with_reducible show L2.putF _ _ (_ :: _) = _); exact Eq.trans (Ak.putF_tl (by decide +kernel)) (congrArg (List.cons _) (by walk_at "pf"))))
local macro_rules | `(tactic| walk_at "s") => `(tactic| ((with_reducible show Ak.kSFld _ _ _ _ _ _); refine Ak.w_sfldP (by walk_at "lk") (by walk_at "as") (by walk_at "as") (Ak.lt_of rfl) (by walk_at "pf") ?_))
local macro_rules | `(tactic| walk_at "s") => `(tactic| ((with_reducible show Ak.rInX _ (L2.V.int _) (L2.V.ref _) _ _); refine Ak.w_inI (by walk_at "lk") ?_))
local macro_rules | `(tactic| walk_at "s") => `(tactic| ((with_reducible show Ak.rNinX _ (L2.V.int _) (L2.V.ref _) _ _); refine Ak.w_ninI (by walk_at "lk") ?_))
local macro_rules | `(tactic| walk_at "nk") => `(tactic| first | exact Ak.nk_nil | exact Ak.nk_cons (by decide +kernel) (by walk_at "nk"))
local macro_rules | `(tactic| walk_at "nd") => `(tactic| first | exact Ak.nd_nil | exact Ak.nd_cons (by walk_at "nk") (by walk_at "nd"))
local macro_rules | `(tactic| walk_at "dp") => `(tactic| ((with_reducible show L2.putK (_ :: _) _ _ = _); first | exact Ak.put_hd (by walk_at "nk") | exact Eq.trans (Ak.put_tl (by decide +kernel)) (congrArg (List.cons _) (by walk_at "dp"))))
local macro_rules | `(tactic| walk_at "s") => `(tactic| ((with_reducible show Ak.kDPut _ (L2.V.ref _) (L2.V.str _) _ _); refine Ak.w_dputP (by walk_at "lk") (Ak.sz_lt rfl) (by walk_at "dp") ?_))
local macro_rules | `(tactic| walk_at "s") => `(tactic| ((with_reducible show Ak.rIsE2 _ _ _ _ _ _ _); first | refine Ak.w_isE (by exact rfl) (by exact rfl) (by walk_at "as") (by walk_at "as") ?_ | refine Ak.w_isET (by exact rfl) (by exact rfl) (by walk_at "as") (by walk_at "as") ?_))
local macro_rules | `(tactic| walk_at "s") => `(tactic| ((with_reducible show Ak.rCntX _ _ _ _ _); refine Ak.w_cnt (by walk_at "lk") (by exact rfl) (by exact rfl) (by exact rfl) ?_))
local macro_rules | `(tactic| walk_at "s") => `(tactic| first
  | with_reducible refine Ak.w_fldaug ?_
  | with_reducible refine Ak.w_addI ?_
  | with_reducible refine Ak.w_dnot ?_
  | with_reducible refine Ak.w_lcE ?_
  | ((with_reducible show L2.rClear (L2.V.ref _) _ _ _); refine Ak.w_clear (by walk_at "lk") ?_)
  | with_reducible refine Ak.w_dnewK fun _ _ => ?_
  | with_reducible refine Ak.w_forTup ?_
  | ((with_reducible show Ak.kFA _ _ _ _ _ _ _ _); refine Ak.w_fa (by walk_at "lk") (by walk_at "as") (by walk_at "as") (by walk_at "fl") ?_)
  | ((with_reducible show Ak.kFS _ _ _ _ _ _ _); refine Ak.w_fs (by walk_at "lk") (Ak.lt_of rfl) (by walk_at "pf") ?_)
  | ((with_reducible show Ak.kDNot (L2.V.int _) (L2.V.ref _) _ _); refine Ak.w_dnotS (by walk_at "lk") ?_)
  | ((with_reducible show Ak.rSortX _ [L2.V.ref _] _ _); first | refine Ak.w_sortO (by walk_at "lk") fun _ _ => ?_ | refine Ak.w_sortD (by walk_at "lk") fun _ _ => ?_))
local macro_rules | `(tactic| walk_at "ci") => `(tactic| first | decide | omega | (constructor <;> first | decide | omega) | exact ⟨by decide, by decide, by decide⟩)
local macro_rules | `(tactic| walk_at "dc") => `(tactic| first | walk_at "as" | exact Ak.Dice.keep (S := []) (by walk_at "as") (by walk_at "kp") Ak.nin_nil Ak.none_nil)
local macro_rules | `(tactic| walk_at "s") => `(tactic| ((with_reducible show Ak.spNext _ _ _ _ _); refine Ak.next_go (by walk_at "dc") (by omega) (by omega) fun _ _ _ _ _ _ _ _ => ?_))
local macro_rules | `(tactic| walk_at "pk") => `(tactic| (intro x hx; (repeat (rcases List.mem_cons.mp hx with rfl | hx; · exact ⟨_, rfl, by omega⟩)); exact absurd hx List.not_mem_nil))
local macro_rules | `(tactic| walk_at "rd") => `(tactic| repeat (walk_at "s"))
local macro_rules | `(tactic| walk_at "lv") => `(tactic| first | decide | omega)
local macro_rules | `(tactic| walk_at "s") => `(tactic| first
  | with_reducible refine Ak.w_slice ?_
  | with_reducible refine Ak.w_forEn ?_
  | with_reducible refine Ak.w_par ?_
  | with_reducible refine Ak.w_par2 ?_
  | with_reducible refine Ak.w_chain ?_
  | with_reducible refine Ak.w_noP ?_
  | with_reducible refine Ak.w_part ?_
  | with_reducible refine Ak.w_isI ?_
  | with_reducible refine Ak.w_din ?_
  | with_reducible refine Ak.w_ddel ?_
  | ((with_reducible show L2.rExtend (L2.V.ref _) [L2.V.ref _] _ _); refine Ak.w_ext (by walk_at "lk") (by walk_at "lk") (by walk_at "sz") ?_)
  | ((with_reducible show Ak.kDGet _ (L2.V.int _) _ _); refine Ak.w_dgetO (by walk_at "lk") (by walk_at "as") ?_)
  | ((with_reducible show Ak.kDIn (L2.V.int _) (L2.V.ref _) _ _); refine Ak.w_dinO (by walk_at "lk") ?_)
  | ((with_reducible show Ak.rSortX _ [L2.V.ref _] _ _); refine Ak.w_sortO2 (by walk_at "lk") fun _ _ => ?_))
namespace Ak
open PySem PySem.Spec PyProof.Rows L2
def top (i : Nat) : Stmt := PySem.Challenge.pw_ackbits_k04_what_happens.main.body.getD i (.Pass ⟨0, 0, 0, 0⟩)
abbrev s_l_next : Stmt := top 25
abbrev N_l_next : List Str := ["_law_dice_here", "_law_many", "_law_found", "_law_cell"]
theorem sc_l_next : FnScope N_l_next ["_law_dice_here", "_law_many"] (defScope s_l_next) := ⟨rfl, rfl, rfl, by decide +kernel, rfl, by decide +kernel, by decide +kernel⟩
abbrev s_l_dice : Stmt := top 24
abbrev N_l_dice : List Str := ["_law_script", "_law_mixed", "_law_cell"]
theorem sc_l_dice : FnScope N_l_dice ["_law_script"] (defScope s_l_dice) := ⟨rfl, rfl, rfl, by decide +kernel, rfl, by decide +kernel, by decide +kernel⟩
abbrev s_l_setting : Stmt := top 27
abbrev N_l_setting : List Str := ["_law_d", "_law_late", "_law_ahead", "_law_wide", "_law_marks"]
theorem sc_l_setting : FnScope N_l_setting ["_law_d"] (defScope s_l_setting) := ⟨rfl, rfl, rfl, by decide +kernel, rfl, by decide +kernel, by decide +kernel⟩
abbrev s_l_like : Stmt := top 26
abbrev N_l_like : List Str := ["_law_found", "_law_due", "_law_key", "_law_k"]
theorem sc_l_like : FnScope N_l_like ["_law_found", "_law_due"] (defScope s_l_like) := ⟨rfl, rfl, rfl, by decide +kernel, rfl, by decide +kernel, by decide +kernel⟩
abbrev s_l_told : Stmt := top 42
abbrev N_l_told : List Str := ["_law_work", "e", "_law_kinds", "_law_words", "_law_word"]
theorem sc_l_told : FnScope N_l_told ["_law_work"] (defScope s_l_told) := ⟨rfl, rfl, rfl, by decide +kernel, rfl, by decide +kernel, by decide +kernel⟩
abbrev s_check_mark : Stmt := top 12
abbrev N_check_mark : List Str := ["mark", "marks"]
theorem sc_check_mark : FnScope N_check_mark ["mark", "marks"] (defScope s_check_mark) := ⟨rfl, rfl, rfl, by decide +kernel, rfl, by decide +kernel, by decide +kernel⟩
abbrev s_check_number : Stmt := top 10
abbrev N_check_number : List Str := ["word", "number", "least", "most"]
theorem sc_check_number : FnScope N_check_number ["word", "number"] (defScope s_check_number) := ⟨rfl, rfl, rfl, by decide +kernel, rfl, by decide +kernel, by decide +kernel⟩
abbrev s_check_setting : Stmt := top 11
abbrev N_check_setting : List Str := ["setting", "marks", "wide", "late", "ahead"]
theorem sc_check_setting : FnScope N_check_setting ["setting"] (defScope s_check_setting) := ⟨rfl, rfl, rfl, by decide +kernel, rfl, by decide +kernel, by decide +kernel⟩
abbrev s_check_bits : Stmt := top 13
abbrev N_check_bits : List Str := ["bits", "wide", "bit"]
theorem sc_check_bits : FnScope N_check_bits ["bits", "wide"] (defScope s_check_bits) := ⟨rfl, rfl, rfl, by decide +kernel, rfl, by decide +kernel, by decide +kernel⟩
abbrev s_check_telling : Stmt := top 14
abbrev N_check_telling : List Str := ["told", "marks", "wide", "mark", "bits"]
theorem sc_check_telling : FnScope N_check_telling ["told", "marks", "wide"] (defScope s_check_telling) := ⟨rfl, rfl, rfl, by decide +kernel, rfl, by decide +kernel, by decide +kernel⟩
abbrev s_Ear___init : Stmt := inClass (top 16) 0
abbrev N_Ear___init : List Str := ["self", "setting", "marks", "wide", "late", "_"]
theorem sc_Ear___init : FnScope N_Ear___init ["self", "setting"] (defScope s_Ear___init) := ⟨rfl, rfl, rfl, by decide +kernel, rfl, by decide +kernel, by decide +kernel⟩
abbrev s_Ear_come : Stmt := inClass (top 16) 1
abbrev N_Ear_come : List Str := ["self", "mark", "number", "word"]
theorem sc_Ear_come : FnScope N_Ear_come ["self", "mark"] (defScope s_Ear_come) := ⟨rfl, rfl, rfl, by decide +kernel, rfl, by decide +kernel, by decide +kernel⟩
abbrev s_Ear_tell : Stmt := inClass (top 16) 2
abbrev N_Ear_tell : List Str := ["self"]
theorem sc_Ear_tell : FnScope N_Ear_tell ["self"] (defScope s_Ear_tell) := ⟨rfl, rfl, rfl, by decide +kernel, rfl, by decide +kernel, by decide +kernel⟩
abbrev s_Ear_last : Stmt := inClass (top 16) 3
abbrev N_Ear_last : List Str := ["self"]
theorem sc_Ear_last : FnScope N_Ear_last ["self"] (defScope s_Ear_last) := ⟨rfl, rfl, rfl, by decide +kernel, rfl, by decide +kernel, by decide +kernel⟩
abbrev s_Ear__number_of : Stmt := inClass (top 16) 4
abbrev N_Ear__number_of : List Str := ["self", "mark", "least"]
theorem sc_Ear__number_of : FnScope N_Ear__number_of ["self", "mark"] (defScope s_Ear__number_of) := ⟨rfl, rfl, rfl, by decide +kernel, rfl, by decide +kernel, by decide +kernel⟩
abbrev s_Ear__word_of : Stmt := inClass (top 16) 5
abbrev N_Ear__word_of : List Str := ["self", "number"]
theorem sc_Ear__word_of : FnScope N_Ear__word_of ["self", "number"] (defScope s_Ear__word_of) := ⟨rfl, rfl, rfl, by decide +kernel, rfl, by decide +kernel, by decide +kernel⟩
abbrev s_Ear__oldest : Stmt := inClass (top 16) 6
abbrev N_Ear__oldest : List Str := ["self"]
theorem sc_Ear__oldest : FnScope N_Ear__oldest ["self"] (defScope s_Ear__oldest) := ⟨rfl, rfl, rfl, by decide +kernel, rfl, by decide +kernel, by decide +kernel⟩
abbrev s_Ear__keep : Stmt := inClass (top 16) 7
abbrev N_Ear__keep : List Str := ["self", "number", "oldest", "kept"]
theorem sc_Ear__keep : FnScope N_Ear__keep ["self", "number"] (defScope s_Ear__keep) := ⟨rfl, rfl, rfl, by decide +kernel, rfl, by decide +kernel, by decide +kernel⟩
abbrev s_Ear__bits : Stmt := inClass (top 16) 8
abbrev N_Ear__bits : List Str := ["self", "numbers", "back", "number"]
theorem sc_Ear__bits : FnScope N_Ear__bits ["self"] (defScope s_Ear__bits) := ⟨rfl, rfl, rfl, by decide +kernel, rfl, by decide +kernel, by decide +kernel⟩
abbrev s_Mouth___init : Stmt := inClass (top 18) 0
abbrev N_Mouth___init : List Str := ["self", "setting", "marks", "wide", "_", "ahead"]
theorem sc_Mouth___init : FnScope N_Mouth___init ["self", "setting"] (defScope s_Mouth___init) := ⟨rfl, rfl, rfl, by decide +kernel, rfl, by decide +kernel, by decide +kernel⟩
abbrev s_Mouth_send : Stmt := inClass (top 18) 1
abbrev N_Mouth_send : List Str := ["self"]
theorem sc_Mouth_send : FnScope N_Mouth_send ["self"] (defScope s_Mouth_send) := ⟨rfl, rfl, rfl, by decide +kernel, rfl, by decide +kernel, by decide +kernel⟩
abbrev s_Mouth_is_full : Stmt := inClass (top 18) 2
abbrev N_Mouth_is_full : List Str := ["self"]
theorem sc_Mouth_is_full : FnScope N_Mouth_is_full ["self"] (defScope s_Mouth_is_full) := ⟨rfl, rfl, rfl, by decide +kernel, rfl, by decide +kernel, by decide +kernel⟩
abbrev s_Mouth_hear : Stmt := inClass (top 18) 3
abbrev N_Mouth_hear : List Str := ["self", "told", "numbers", "found", "number", "fresh"]
theorem sc_Mouth_hear : FnScope N_Mouth_hear ["self", "told"] (defScope s_Mouth_hear) := ⟨rfl, rfl, rfl, by decide +kernel, rfl, by decide +kernel, by decide +kernel⟩
abbrev s_Mouth_sure : Stmt := inClass (top 18) 4
abbrev N_Mouth_sure : List Str := ["self"]
theorem sc_Mouth_sure : FnScope N_Mouth_sure ["self"] (defScope s_Mouth_sure) := ⟨rfl, rfl, rfl, by decide +kernel, rfl, by decide +kernel, by decide +kernel⟩
abbrev s_Mouth_last : Stmt := inClass (top 18) 5
abbrev N_Mouth_last : List Str := ["self"]
theorem sc_Mouth_last : FnScope N_Mouth_last ["self"] (defScope s_Mouth_last) := ⟨rfl, rfl, rfl, by decide +kernel, rfl, by decide +kernel, by decide +kernel⟩
abbrev s_Mouth__numbers_of : Stmt := inClass (top 18) 6
abbrev N_Mouth__numbers_of : List Str := ["self", "told", "mark", "bits", "newest", "others", "back", "bit"]
theorem sc_Mouth__numbers_of : FnScope N_Mouth__numbers_of ["self", "told"] (defScope s_Mouth__numbers_of) := ⟨rfl, rfl, rfl, by decide +kernel, rfl, by decide +kernel, by decide +kernel⟩
abbrev s_World___init : Stmt := inClass (top 21) 0
abbrev N_World___init : List Str := ["self", "setting"]
theorem sc_World___init : FnScope N_World___init ["self", "setting"] (defScope s_World___init) := ⟨rfl, rfl, rfl, by decide +kernel, rfl, by decide +kernel, by decide +kernel⟩
abbrev s_World_can_be : Stmt := inClass (top 21) 1
abbrev N_World_can_be : List Str := ["self", "event", "word", "number"]
theorem sc_World_can_be : FnScope N_World_can_be ["self", "event"] (defScope s_World_can_be) := ⟨rfl, rfl, rfl, by decide +kernel, rfl, by decide +kernel, by decide +kernel⟩
abbrev s_World_happen : Stmt := inClass (top 21) 2
abbrev N_World_happen : List Str := ["self", "event", "word"]
theorem sc_World_happen : FnScope N_World_happen ["self", "event"] (defScope s_World_happen) := ⟨rfl, rfl, rfl, by decide +kernel, rfl, by decide +kernel, by decide +kernel⟩
abbrev s_World__can_come : Stmt := inClass (top 21) 3
abbrev N_World__can_come : List Str := ["self", "number", "last"]
theorem sc_World__can_come : FnScope N_World__can_come ["self", "number"] (defScope s_World__can_come) := ⟨rfl, rfl, rfl, by decide +kernel, rfl, by decide +kernel, by decide +kernel⟩
abbrev s_World__can_be_heard : Stmt := inClass (top 21) 4
abbrev N_World__can_be_heard : List Str := ["self", "number", "_", "last"]
theorem sc_World__can_be_heard : FnScope N_World__can_be_heard ["self", "number"] (defScope s_World__can_be_heard) := ⟨rfl, rfl, rfl, by decide +kernel, rfl, by decide +kernel, by decide +kernel⟩
abbrev s_World__send : Stmt := inClass (top 21) 5
abbrev N_World__send : List Str := ["self", "number", "mark"]
theorem sc_World__send : FnScope N_World__send ["self"] (defScope s_World__send) := ⟨rfl, rfl, rfl, by decide +kernel, rfl, by decide +kernel, by decide +kernel⟩
abbrev s_World__come : Stmt := inClass (top 21) 6
abbrev N_World__come : List Str := ["self", "number", "taken", "word"]
theorem sc_World__come : FnScope N_World__come ["self", "number"] (defScope s_World__come) := ⟨rfl, rfl, rfl, by decide +kernel, rfl, by decide +kernel, by decide +kernel⟩
abbrev s_World__tell : Stmt := inClass (top 21) 7
abbrev N_World__tell : List Str := ["self", "telling"]
theorem sc_World__tell : FnScope N_World__tell ["self"] (defScope s_World__tell) := ⟨rfl, rfl, rfl, by decide +kernel, rfl, by decide +kernel, by decide +kernel⟩
abbrev s_World__hear : Stmt := inClass (top 21) 8
abbrev N_World__hear : List Str := ["self", "number", "telling", "_", "found", "letter"]
theorem sc_World__hear : FnScope N_World__hear ["self", "number"] (defScope s_World__hear) := ⟨rfl, rfl, rfl, by decide +kernel, rfl, by decide +kernel, by decide +kernel⟩
abbrev s_played : Stmt := top 22
abbrev N_played : List Str := ["setting", "events", "world", "told", "wrong", "number", "event", "answer", "is_wrong"]
theorem sc_played : FnScope N_played ["setting", "events"] (defScope s_played) := ⟨rfl, rfl, rfl, by decide +kernel, rfl, by decide +kernel, by decide +kernel⟩
abbrev s_l_ear : Stmt := top 29
abbrev N_l_ear : List Str := []
theorem sc_l_ear : FnScope N_l_ear [] (defScope s_l_ear) := ⟨rfl, rfl, rfl, by decide +kernel, rfl, by decide +kernel, by decide +kernel⟩
abbrev s_l_taken : Stmt := top 30
abbrev N_l_taken : List Str := ["_law_setting_here", "_law_ear_here", "_law_mark", "_law_number"]
theorem sc_l_taken : FnScope N_l_taken ["_law_setting_here", "_law_ear_here", "_law_mark"] (defScope s_l_taken) := ⟨rfl, rfl, rfl, by decide +kernel, rfl, by decide +kernel, by decide +kernel⟩
abbrev s_l_come : Stmt := top 31
abbrev N_l_come : List Str := ["_law_setting_here", "_law_ear_here", "_law_mark", "_law_number", "_law_one"]
theorem sc_l_come : FnScope N_l_come ["_law_setting_here", "_law_ear_here", "_law_mark"] (defScope s_l_come) := ⟨rfl, rfl, rfl, by decide +kernel, rfl, by decide +kernel, by decide +kernel⟩
abbrev s_l_tell : Stmt := top 32
abbrev N_l_tell : List Str := ["_law_setting_here", "_law_ear_here", "_law_bits", "_law_far"]
theorem sc_l_tell : FnScope N_l_tell ["_law_setting_here", "_law_ear_here"] (defScope s_l_tell) := ⟨rfl, rfl, rfl, by decide +kernel, rfl, by decide +kernel, by decide +kernel⟩
abbrev s_l_mouth : Stmt := top 33
abbrev N_l_mouth : List Str := []
theorem sc_l_mouth : FnScope N_l_mouth [] (defScope s_l_mouth) := ⟨rfl, rfl, rfl, by decide +kernel, rfl, by decide +kernel, by decide +kernel⟩
abbrev s_l_is_full : Stmt := top 34
abbrev N_l_is_full : List Str := ["_law_setting_here", "_law_mouth_here"]
theorem sc_l_is_full : FnScope N_l_is_full ["_law_setting_here", "_law_mouth_here"] (defScope s_l_is_full) := ⟨rfl, rfl, rfl, by decide +kernel, rfl, by decide +kernel, by decide +kernel⟩
abbrev s_l_hear : Stmt := top 35
abbrev N_l_hear : List Str := ["_law_setting_here", "_law_mouth_here", "_law_told_here", "_law_number", "_law_some", "_law_far", "_law_found", "_law_one"]
theorem sc_l_hear : FnScope N_l_hear ["_law_setting_here", "_law_mouth_here", "_law_told_here"] (defScope s_l_hear) := ⟨rfl, rfl, rfl, by decide +kernel, rfl, by decide +kernel, by decide +kernel⟩
abbrev s_l_world : Stmt := top 36
abbrev N_l_world : List Str := []
theorem sc_l_world : FnScope N_l_world [] (defScope s_l_world) := ⟨rfl, rfl, rfl, by decide +kernel, rfl, by decide +kernel, by decide +kernel⟩
abbrev s_l_can : Stmt := top 37
abbrev N_l_can : List Str := ["_law_setting_here", "_law_w", "_law_event_here", "_law_sent"]
theorem sc_l_can : FnScope N_l_can ["_law_setting_here", "_law_w", "_law_event_here"] (defScope s_l_can) := ⟨rfl, rfl, rfl, by decide +kernel, rfl, by decide +kernel, by decide +kernel⟩
abbrev s_l_do : Stmt := top 38
abbrev N_l_do : List Str := ["_law_setting_here", "_law_w", "_law_event_here", "_law_number", "_law_told_here", "_law_found", "_law_one"]
theorem sc_l_do : FnScope N_l_do ["_law_setting_here", "_law_w", "_law_event_here"] (defScope s_l_do) := ⟨rfl, rfl, rfl, by decide +kernel, rfl, by decide +kernel, by decide +kernel⟩
abbrev s_l_event : Stmt := top 39
abbrev N_l_event : List Str := ["_law_d", "_law_setting_here", "_law_w", "_law_often", "_law_kind", "_law_sent", "_law_event_here"]
theorem sc_l_event : FnScope N_l_event ["_law_d", "_law_setting_here", "_law_w", "_law_often"] (defScope s_l_event) := ⟨rfl, rfl, rfl, by decide +kernel, rfl, by decide +kernel, by decide +kernel⟩
abbrev s_l_events : Stmt := top 40
abbrev N_l_events : List Str := ["_law_d", "_law_setting_here", "_law_most", "_law_w", "_law_found", "_law_often", "_law_turn", "_law_event_here"]
theorem sc_l_events : FnScope N_l_events ["_law_d", "_law_setting_here", "_law_most"] (defScope s_l_events) := ⟨rfl, rfl, rfl, by decide +kernel, rfl, by decide +kernel, by decide +kernel⟩
abbrev s_l_played : Stmt := top 41
abbrev N_l_played : List Str := ["_law_setting_here", "_law_events_here", "_law_w", "_law_found", "_law_wrong", "_law_number", "_law_told_here", "_law_is_wrong"]
theorem sc_l_played : FnScope N_l_played ["_law_setting_here", "_law_events_here"] (defScope s_l_played) := ⟨rfl, rfl, rfl, by decide +kernel, rfl, by decide +kernel, by decide +kernel⟩
abbrev s_l_odd : Stmt := top 43
abbrev N_l_odd : List Str := ["_law_d", "_law_events_here", "_law_at", "_law_far", "_law_some"]
theorem sc_l_odd : FnScope N_l_odd ["_law_d", "_law_events_here"] (defScope s_l_odd) := ⟨rfl, rfl, rfl, by decide +kernel, rfl, by decide +kernel, by decide +kernel⟩
abbrev s_law : Stmt := top 44
abbrev N_law : List Str := ["_law_script", "_law_d", "_law_setting_here", "_law_events_here", "_law_some", "_law_due", "_law_handed", "_law_again", "_law_found"]
theorem sc_law : FnScope N_law ["_law_script"] (defScope s_law) := ⟨rfl, rfl, rfl, by decide +kernel, rfl, by decide +kernel, by decide +kernel⟩
end Ak
namespace Ak
open PySem PySem.Spec PyProof.Rows L2
def spCheckMark : Sp := fun vs H Q _ => ∃ k m, vs = [.int k, .int m] ∧ 0 ≤ k ∧ k < m ∧ Q .non H
/-- what is raised as a class of one's own, without __init__ -/
structure RaiseC (K : PySem.W.Frag) (mg : Str → Option Value) (x : Str) (C : Addr) : Prop where
  q : PySem.W.excIn K C [.type "ValueError", .type "Exception", .type "BaseException", .type "object"] "ValueError.__new__" = true
  g : mg x = some (.ref C)
  k : PySem.W.keepIn K (.ref C) = true
  s : PySem.W.subIn K (.ref C) (.type "BaseException") = some true
  t : PySem.W.typeIn K (.ref C) = some (.type "type")
theorem RaiseC.r {X : Cx} {x : Str} {C : Addr} (R : RaiseC X.K X.mg x C) : Raises X (.ref C) := raises_own R.s R.t
/-- the bounds of each number, by its word -/
inductive BoundOf : Str → Int → Int → Prop
  | marks : BoundOf "marks" 2 64
  | wide : BoundOf "wide" 0 16
  | late : BoundOf "late" 0 8
  | ahead : BoundOf "ahead" 1 16
  | room : BoundOf "room" 1 8
  | wait : BoundOf "wait" 1 20
structure BoundsT (K : PySem.W.Frag) (w : World) (mg : Str → Option Value) (b : Addr) : Prop where
  g : mg "BOUNDS" = some (.ref b)
  get : ∀ wd lo hi, BoundOf wd lo hi → ∃ t, KDct K w b wd (.ref t) ∧ ∀ H, SqT K H t [.int lo, .int hi]
theorem bounds_mk {K : PySem.W.Frag} {w : World} {mg : Str → Option Value} {b t1 t2 t3 t4 t5 t6 : Addr} {es : Array DictEntry} {n : Nat} (g : mg "BOUNDS" = some (.ref b))
    (lk : K.lookup b = some { cls := .type "dict", data := .dict es n }) (kl : PySem.W.KeysLit w.params es.toList)
    (n1 : PySem.W.nsIn K b "marks" = some (some (.ref t1))) (n2 : PySem.W.nsIn K b "wide" = some (some (.ref t2))) (n3 : PySem.W.nsIn K b "late" = some (some (.ref t3)))
    (n4 : PySem.W.nsIn K b "ahead" = some (some (.ref t4))) (n5 : PySem.W.nsIn K b "room" = some (some (.ref t5))) (n6 : PySem.W.nsIn K b "wait" = some (some (.ref t6)))
    (s1 : ∀ H, SqT K H t1 [.int 2, .int 64]) (s2 : ∀ H, SqT K H t2 [.int 0, .int 16]) (s3 : ∀ H, SqT K H t3 [.int 0, .int 8])
    (s4 : ∀ H, SqT K H t4 [.int 1, .int 16]) (s5 : ∀ H, SqT K H t5 [.int 1, .int 8]) (s6 : ∀ H, SqT K H t6 [.int 1, .int 20]) : BoundsT K w mg b :=
  ⟨g, fun wd lo hi h => by
    cases h with
    | marks => exact ⟨t1, ⟨es, n, _, lk, kl, n1, rfl⟩, s1⟩
    | wide => exact ⟨t2, ⟨es, n, _, lk, kl, n2, rfl⟩, s2⟩
    | late => exact ⟨t3, ⟨es, n, _, lk, kl, n3, rfl⟩, s3⟩
    | ahead => exact ⟨t4, ⟨es, n, _, lk, kl, n4, rfl⟩, s4⟩
    | room => exact ⟨t5, ⟨es, n, _, lk, kl, n5, rfl⟩, s5⟩
    | wait => exact ⟨t6, ⟨es, n, _, lk, kl, n6, rfl⟩, s6⟩⟩
theorem ix_kd {X : Cx} {K : PySem.W.Frag} {w : World} (h : X.K = K) (hw : X.w = w) : IxR X (rIxD K w) := by
  subst h hw
  exact ix_kdict
def spCheckNumber : Sp := fun vs H Q _ => ∃ wd n lo hi, vs = [.str wd, .int n] ∧ BoundOf wd lo hi ∧ lo ≤ n ∧ n ≤ hi ∧ Q .non H
def spCheckSetting (K : PySem.W.Frag) : Sp := fun vs H Q _ => ∃ q m w l a, vs = [.ref q] ∧ SqT K H q [.int m, .int w, .int l, .int a] ∧ SetOk m w l a ∧ ∀ H', Keep [] H H' → Q .non H'
end Ak

namespace Ak
open PySem PySem.Spec PyProof.Rows L2
/-! ### the ear -/
structure EarT (K : PySem.W.Frag) (C : Addr) : Prop where
  cl : Cls K C
  n1 : NoAttr K C "_marks"
  n2 : NoAttr K C "_wide"
  n3 : NoAttr K C "_late"
  n4 : NoAttr K C "_greatest"
  n5 : NoAttr K C "_came"
abbrev earF (m w l g : Int) (c : Addr) : List (Str × V) := [("_marks", .int m), ("_wide", .int w), ("_late", .int l), ("_greatest", .int g), ("_came", .ref c)]
/-- an ear stands at p -/
def EarAt (C : Addr) (H : Hp) (p c : Addr) (m w l g : Int) (cs : List Int) : Prop := ∃ dx, H p = some (.ins C dx (earF m w l g c)) ∧ H c = some (.lst (cs.map V.int))
theorem EarAt.keep {C : Addr} {S : List Addr} {H H' : Hp} {p c : Addr} {m w l g : Int} {cs : List Int} (x : EarAt C H p c m w l g cs) (k : Keep S H H') (np : p ∉ S) (nc : c ∉ S) : EarAt C H' p c m w l g cs := by
  obtain ⟨dx, h1, h2⟩ := x
  exact ⟨dx, k.1 _ _ np h1, k.1 _ _ nc h2⟩
theorem EarAt.ne {C : Addr} {H : Hp} {p c : Addr} {m w l g : Int} {cs : List Int} (x : EarAt C H p c m w l g cs) : p ≠ c := by
  obtain ⟨dx, h1, h2⟩ := x
  exact ne_of h1 h2 (by intro z; cases z)
/-- what is kept where n has come -/
def keptOf (w g : Int) (cs : List Int) (n : Int) : List Int := (cs ++ [n]).filter fun k => decide (max g n - w ≤ k)
def wordOf (w g : Int) (cs : List Int) (n : Int) : Str := if n < g - w then "old" else if n ∈ cs then "again" else "new"
def numOf (m l g k : Int) : Int := max 0 (g - l) + (k - max 0 (g - l)) % m
def spOldest (C : Addr) : Sp := fun vs H Q _ => ∃ p c m w l g cs, vs = [.ref p] ∧ EarAt C H p c m w l g cs ∧ Q (.int (g - w)) H
def spNumberOf (C : Addr) : Sp := fun vs H Q _ => ∃ p c k m w l g cs, vs = [.ref p, .int k] ∧ EarAt C H p c m w l g cs ∧ 0 < m ∧ Q (.int (numOf m l g k)) H
def spWordOf (C : Addr) : Sp := fun vs H Q _ => ∃ p c n m w l g cs, vs = [.ref p, .int n] ∧ EarAt C H p c m w l g cs ∧ Q (.str (wordOf w g cs n)) H
def spKeep (C : Addr) : Sp := fun vs H Q _ => ∃ p c n m w l g cs, vs = [.ref p, .int n] ∧ EarAt C H p c m w l g cs ∧ cs.length < 1000000 ∧ ∀ c' H', EarAt C H' p c' m w l (max g n) (keptOf w g cs n) → H c' = none → Keep [p] H H' → Q .non H'
def spLast (C : Addr) : Sp := fun vs H Q _ => ∃ p c m w l g cs, vs = [.ref p] ∧ EarAt C H p c m w l g cs ∧ Q (.int g) H
def bitsOf (w g : Int) (cs : List Int) : List V := (List.range w.toNat).map fun (k : Nat) => V.int (if g - (1 + (k : Int)) ∈ cs then 1 else 0)
def spBits (C : Addr) : Sp := fun vs H Q _ => ∃ p c m w l g cs, vs = [.ref p] ∧ EarAt C H p c m w l g cs ∧ 0 ≤ w ∧ w ≤ 16 ∧ ∀ q H', H q = none → H' q = some (.tup (bitsOf w g cs)) → Keep [] H H' → Q (.ref q) H'
def spTell (C CB : Addr) : Sp := fun vs H Q E => ∃ p c m w l g cs, vs = [.ref p] ∧ EarAt C H p c m w l g cs ∧ 0 < m ∧ 0 ≤ w ∧ w ≤ 16 ∧ (g < 0 → E (.ref CB) none H) ∧
  (0 ≤ g → ∀ q b H', H q = none → H b = none → H' q = some (.tup [.int (g % m), .ref b]) → H' b = some (.tup (bitsOf w g cs)) → Keep [] H H' → Q (.ref q) H')
def spCome (C : Addr) : Sp := fun vs H Q _ => ∃ p c k m w l g cs, vs = [.ref p, .int k] ∧ EarAt C H p c m w l g cs ∧ 0 ≤ k ∧ k < m ∧ cs.length < 1000000 ∧
  ∀ q H' n word g' cs' c', n = numOf m l g k → word = wordOf w g cs n → (g', cs') = (if word = "new" then (max g n, keptOf w g cs n) else (g, cs)) → H q = none → H' q = some (.tup [.int n, .str word]) → EarAt C H' p c' m w l g' cs' → c' = c ∨ H c' = none → Keep [p] H H' → Q (.ref q) H'
def spEarInit (K : PySem.W.Frag) (C : Addr) : Sp := fun vs H Q _ => ∃ p q m w l a dx, vs = [.ref p, .ref q] ∧ SqT K H q [.int m, .int w, .int l, .int a] ∧ SetOk m w l a ∧ H p = some (.ins C dx []) ∧
  ∀ c H', EarAt C H' p c m w l (-1) [] → H c = none → Keep [p] H H' → Q .non H'
end Ak

namespace Ak
open PySem PySem.Spec PyProof.Rows L2
/-! ### the mouth -/
structure MouthT (K : PySem.W.Frag) (C : Addr) : Prop where
  cl : Cls K C
  n1 : NoAttr K C "_marks"
  n2 : NoAttr K C "_wide"
  n3 : NoAttr K C "_ahead"
  n4 : NoAttr K C "_last"
  n5 : NoAttr K C "_greatest"
  n6 : NoAttr K C "_sure"
abbrev mouthF (m w a l g : Int) (c : Addr) : List (Str × V) := [("_marks", .int m), ("_wide", .int w), ("_ahead", .int a), ("_last", .int l), ("_greatest", .int g), ("_sure", .ref c)]
/-- a mouth stands at p, its dict at c -/
def MouthAt (C : Addr) (H : Hp) (p c : Addr) (m w a l g : Int) (ks : List Int) : Prop := ∃ dx, H p = some (.ins C dx (mouthF m w a l g c)) ∧ H c = some (.dK (sureD ks))
theorem MouthAt.keep {C : Addr} {S : List Addr} {H H' : Hp} {p c : Addr} {m w a l g : Int} {ks : List Int} (x : MouthAt C H p c m w a l g ks) (k : Keep S H H') (np : p ∉ S) (nc : c ∉ S) : MouthAt C H' p c m w a l g ks := by
  obtain ⟨dx, h1, h2⟩ := x
  exact ⟨dx, k.1 _ _ np h1, k.1 _ _ nc h2⟩
theorem MouthAt.ne {C : Addr} {H : Hp} {p c : Addr} {m w a l g : Int} {ks : List Int} (x : MouthAt C H p c m w a l g ks) : p ≠ c := by
  obtain ⟨dx, h1, h2⟩ := x
  exact ne_of h1 h2 (by intro z; cases z)
def newestOf (m l k : Int) : Int := l - (l - k) % m
/-- what the first i bits tell of -/
def othersOf (n : Int) (bs : List Int) (i : Nat) : List Int := ((List.range i).filter fun j => decide (bs[j]? = some 1)).map fun (j : Nat) => n - (1 + (j : Int))
def allOf (n : Int) (bs : List Int) : List Int := n :: othersOf n bs bs.length
theorem others_yes {n : Int} {bs : List Int} {i : Nat} (h : bs[i]? = some 1) : othersOf n bs (i + 1) = othersOf n bs i ++ [n - (1 + (i : Int))] := by
  unfold othersOf
  rw [List.range_succ, List.filter_append, List.map_append, List.filter_cons, if_pos (decide_eq_true h)]
  rfl
theorem others_no {n : Int} {bs : List Int} {i : Nat} (h : ¬ bs[i]? = some 1) : othersOf n bs (i + 1) = othersOf n bs i := by
  unfold othersOf
  rw [List.range_succ, List.filter_append, List.map_append, List.filter_cons, if_neg (by rw [decide_eq_false h]; exact Bool.false_ne_true)]
  simp
theorem others_len {n : Int} {bs : List Int} {i : Nat} : (othersOf n bs i).length ≤ i := by
  unfold othersOf
  rw [List.length_map]
  exact Nat.le_trans (List.length_filter_le _ _) (by rw [List.length_range]; exact Nat.le_refl _)
theorem others_lt {n x : Int} {bs : List Int} {i : Nat} (h : x ∈ othersOf n bs i) : x < n := by
  obtain ⟨j, _, rfl⟩ := List.mem_map.mp h
  omega
theorem others_nd {n : Int} {bs : List Int} {i : Nat} : (othersOf n bs i).Nodup := by
  unfold othersOf
  refine List.pairwise_map.mpr ((List.nodup_range.filter _).imp fun {a b} h e => h ?_)
  omega
theorem all_nd {n : Int} {bs : List Int} : (allOf n bs).Nodup := List.nodup_cons.mpr ⟨fun m => by have := others_lt m; omega, others_nd⟩
theorem all_le {n x : Int} {bs : List Int} (h : x ∈ allOf n bs) : x ≤ n := by
  rcases List.mem_cons.mp h with rfl | h
  · exact Int.le_refl _
  · exact Int.le_of_lt (others_lt h)
theorem all_len {n : Int} {bs : List Int} : (allOf n bs).length ≤ bs.length + 1 := Nat.succ_le_succ others_len
/-- the least and the greatest of what is sorted -/
theorem srt_first {ns : List Int} (h : ns ≠ []) : ∃ x, atI ((srt ns).map V.int) 0 = some (.int x) ∧ x ∈ ns ∧ ∀ y, y ∈ ns → x ≤ y := by
  have hl : 0 < (srt ns).length := by rw [srt_len]; exact List.length_pos_iff.mpr h
  refine ⟨(srt ns)[0], atI_nat ?_, srt_mem.mp (List.getElem_mem hl), fun y hy => ?_⟩
  · rw [List.getElem?_map, List.getElem?_eq_getElem hl]
    rfl
  · obtain ⟨i, hi, rfl⟩ := List.mem_iff_getElem.mp (srt_mem.mpr hy)
    rcases Nat.eq_zero_or_pos i with rfl | z
    · exact Int.le_refl _
    · exact List.pairwise_iff_getElem.mp (srt_le ns) 0 i hl hi z
theorem srt_last {ns : List Int} (h : ns ≠ []) : ∃ x, atI ((srt ns).map V.int) (-1) = some (.int x) ∧ x ∈ ns ∧ ∀ y, y ∈ ns → y ≤ x := by
  have hl : 0 < (srt ns).length := by rw [srt_len]; exact List.length_pos_iff.mpr h
  refine ⟨(srt ns)[(srt ns).length - 1], atI_last ?_, srt_mem.mp (List.getElem_mem _), fun y hy => ?_⟩
  · rw [List.length_map, List.getElem?_map, List.getElem?_eq_getElem (by omega)]
    rfl
  · obtain ⟨i, hi, rfl⟩ := List.mem_iff_getElem.mp (srt_mem.mpr hy)
    rcases Nat.lt_or_ge i ((srt ns).length - 1) with z | z
    · exact List.pairwise_iff_getElem.mp (srt_le ns) i _ hi (by omega) z
    · have e : i = (srt ns).length - 1 := by omega
      subst e
      exact Int.le_refl _
def Bits (bs : List Int) : Prop := ∀ x, x ∈ bs → x = 0 ∨ x = 1
def spCheckBits (K : PySem.W.Frag) : Sp := fun vs H Q _ => ∃ b bs w, vs = [.ref b, .int w] ∧ SqT K H b (bs.map V.int) ∧ (bs.length : Int) = w ∧ Bits bs ∧ bs.length ≤ 16 ∧ ∀ H', Keep [] H H' → Q .non H'
def spCheckTelling (K : PySem.W.Frag) : Sp := fun vs H Q _ => ∃ q b k bs m w, vs = [.ref q, .int m, .int w] ∧ SqT K H q [.int k, .ref b] ∧ SqT K H b (bs.map V.int) ∧ 0 ≤ k ∧ k < m ∧ (bs.length : Int) = w ∧ Bits bs ∧ bs.length ≤ 16 ∧ ∀ H', Keep [] H H' → Q .non H'
def spMouthInit (K : PySem.W.Frag) (C : Addr) : Sp := fun vs H Q _ => ∃ p q m w l a dx, vs = [.ref p, .ref q] ∧ SqT K H q [.int m, .int w, .int l, .int a] ∧ SetOk m w l a ∧ H p = some (.ins C dx []) ∧
  ∀ c H', MouthAt C H' p c m w a (-1) (-1) [] → H c = none → Keep [p] H H' → Q .non H'
def spIsFull (C : Addr) : Sp := fun vs H Q _ => ∃ p c m w a l g ks, vs = [.ref p] ∧ MouthAt C H p c m w a l g ks ∧ Q (.bl (decide (g + a < l + 1))) H
def spMLast (C : Addr) : Sp := fun vs H Q _ => ∃ p c m w a l g ks, vs = [.ref p] ∧ MouthAt C H p c m w a l g ks ∧ Q (.int l) H
def spSure (C : Addr) : Sp := fun vs H Q _ => ∃ p c m w a l g ks, vs = [.ref p] ∧ MouthAt C H p c m w a l g ks ∧ ∀ f H', H f = none → H' f = some (.lst ((srt ks).map V.int)) → Keep [] H H' → Q (.ref f) H'
def spSend (C CF : Addr) : Sp := fun vs H Q E => ∃ p c m w a l g ks, vs = [.ref p] ∧ MouthAt C H p c m w a l g ks ∧ 0 < m ∧ -1 ≤ l ∧ l < 1000000 ∧ (g + a < l + 1 → E (.ref CF) none H) ∧
  (¬ g + a < l + 1 → ∀ t H', H t = none → H' t = some (.tup [.int (l + 1), .int ((l + 1) % m)]) → MouthAt C H' p c m w a (l + 1) g ks → Keep [p] H H' → Q (.ref t) H')
def spNumbers (K : PySem.W.Frag) (C : Addr) : Sp := fun vs H Q _ => ∃ p c q b m w a l g ks k bs, vs = [.ref p, .ref q] ∧ MouthAt C H p c m w a l g ks ∧ SqT K H q [.int k, .ref b] ∧ SqT K H b (bs.map V.int) ∧ 0 < m ∧ bs.length ≤ 16 ∧
  ∀ f H', H f = none → H' f = some (.lst ((srt (allOf (newestOf m l k) bs)).map V.int)) → Keep [] H H' → Q (.ref f) H'
def foundOf (n : Int) (bs ks : List Int) : List Int := (srt (allOf n bs)).filter fun x => !decide (x ∈ ks)
def spHear (K : PySem.W.Frag) (C CB : Addr) : Sp := fun vs H Q E => ∃ p c q b m w a l g ks k bs, vs = [.ref p, .ref q] ∧ MouthAt C H p c m w a l g ks ∧ SqT K H q [.int k, .ref b] ∧ SqT K H b (bs.map V.int) ∧ 0 ≤ k ∧ k < m ∧ (bs.length : Int) = w ∧ Bits bs ∧ bs.length ≤ 16 ∧ ks.length < 1000000 ∧
  ((∃ x, x ∈ allOf (newestOf m l k) bs ∧ x < 0) → ∀ H', Keep [] H H' → E (.ref CB) none H') ∧
  ((∀ x, x ∈ allOf (newestOf m l k) bs → 0 ≤ x) → ∀ f H', H f = none → H' f = some (.lst ((foundOf (newestOf m l k) bs ks).map V.int)) → MouthAt C H' p c m w a l (max g (newestOf m l k)) (ks ++ foundOf (newestOf m l k) bs ks) → Keep [p, c] H H' → Q (.ref f) H')
end Ak

namespace Ak
open PySem PySem.Spec PyProof.Rows L2
/-! ### the law's own ear -/
abbrev ownF (n : Int) (c : Addr) : List (Key × V) := [(Sum.inr "newest", .int n), (Sum.inr "came", .ref c)]
def OwnAt (H : Hp) (o : Addr) (n : Int) (cs : List Int) : Prop := ∃ c, H o = some (.dK (ownF n c)) ∧ H c = some (.lst (cs.map V.int))
def ownKept (g : Int) (cs : List Int) (n : Int) : List Int := (cs ++ [n]).filter fun k => decide (max g n - 20 ≤ k)
def spOwnEar : Sp := fun vs H Q _ => vs = [] ∧ ∀ o c H', H o = none → H c = none → H' o = some (.dK (ownF (-1) c)) → H' c = some (.lst []) → Keep [] H H' → Q (.ref o) H'
def spTaken (K : PySem.W.Frag) : Sp := fun vs H Q _ => ∃ q o k m w l a n cs, vs = [.ref q, .ref o, .int k] ∧ SqT K H q [.int m, .int w, .int l, .int a] ∧ OwnAt H o n cs ∧ 0 ≤ k ∧ k < m ∧ Q (.int (numOf m l n k)) H
def spOwnCome (K : PySem.W.Frag) : Sp := fun vs H Q _ => ∃ q o k m w l a n cs, vs = [.ref q, .ref o, .int k] ∧ SqT K H q [.int m, .int w, .int l, .int a] ∧ OwnAt H o n cs ∧ 0 ≤ k ∧ k < m ∧ cs.length < 1000000 ∧
  ∀ p H' i word n' cs', i = numOf m l n k → word = wordOf w n cs i → (n', cs') = (if word = "new" then (max n i, ownKept n cs i) else (n, cs)) → H p = none → H' p = some (.tup [.int i, .str word]) → OwnAt H' o n' cs' → Keep [o] H H' → Q (.ref p) H'
def spOwnTell (K : PySem.W.Frag) : Sp := fun vs H Q _ => ∃ q o m w l a n cs, vs = [.ref q, .ref o] ∧ SqT K H q [.int m, .int w, .int l, .int a] ∧ OwnAt H o n cs ∧ 0 < m ∧ 0 ≤ w ∧ w ≤ 16 ∧
  ∀ p b H', H p = none → H b = none → H' p = some (.tup [.int (n % m), .ref b]) → H' b = some (.tup (bitsOf w n cs)) → Keep [] H H' → Q (.ref p) H'
theorem numOf_le {m l g k : Int} (m0 : 0 < m) : max 0 (g - l) ≤ numOf m l g k := by
  unfold numOf
  have := Int.emod_nonneg (k - max 0 (g - l)) (Int.ne_of_gt m0)
  omega
theorem numOf_mod {m l g k : Int} (k0 : 0 ≤ k) (k1 : k < m) : numOf m l g k % m = k := by
  unfold numOf
  rw [Int.add_emod, Int.emod_emod, ← Int.add_emod]
  have e : max 0 (g - l) + (k - max 0 (g - l)) = k := by omega
  rw [e, Int.emod_eq_of_lt k0 k1]
theorem numOf_uniq {m l g k i : Int} (k0 : 0 ≤ k) (k1 : k < m) (i0 : max 0 (g - l) ≤ i) (i1 : i ≤ numOf m l g k) (e : i % m = k) : i = numOf m l g k := by
  have h1 := numOf_mod (l := l) (g := g) k0 k1
  have h2 : numOf m l g k < max 0 (g - l) + m := by
    unfold numOf
    have := Int.emod_lt_of_pos (k - max 0 (g - l)) (show 0 < m by omega)
    omega
  have d1 := Int.emod_add_mul_ediv i m
  have d2 := Int.emod_add_mul_ediv (numOf m l g k) m
  rw [e] at d1
  rw [h1] at d2
  generalize numOf m l g k = t at *
  have e3 : t - i = m * (t / m - i / m) := by rw [Int.mul_sub]; omega
  generalize t / m - i / m = z at e3
  have z0 : 0 ≤ z := by
    by_cases q : z < 0
    · have := Int.mul_neg_of_pos_of_neg (show 0 < m by omega) q
      omega
    · omega
  have z1 : z < 1 := by
    by_cases q : 1 ≤ z
    · have := Int.mul_le_mul_of_nonneg_left q (show 0 ≤ m by omega)
      omega
    · omega
  have : z = 0 := by omega
  subst this
  omega
end Ak

namespace Ak
open PySem PySem.Spec PyProof.Rows L2
/-! ### the law's own mouth -/
abbrev ownMF (n : Int) (c : Addr) : List (Key × V) := [(Sum.inr "sent", .int n), (Sum.inr "sure", .ref c)]
def OwnMAt (H : Hp) (o : Addr) (n : Int) (S : List Int) : Prop := ∃ c, H o = some (.dK (ownMF n c)) ∧ H c = some (.lst (S.map V.int))
/-- g is the greatest of S and -1 -/
def IsMx (g : Int) (S : List Int) : Prop := g ∈ -1 :: S ∧ ∀ x, x ∈ -1 :: S → x ≤ g
theorem IsMx.uniq {g g' : Int} {S : List Int} (x : IsMx g S) (y : IsMx g' S) : g = g' := Int.le_antisymm (y.2 _ x.1) (x.2 _ y.1)
def spOwnMouth : Sp := fun vs H Q _ => vs = [] ∧ ∀ o c H', H o = none → H c = none → H' o = some (.dK (ownMF 0 c)) → H' c = some (.lst []) → Keep [] H H' → Q (.ref o) H'
def spOwnFull (K : PySem.W.Frag) : Sp := fun vs H Q _ => ∃ q o m w l a n S g, vs = [.ref q, .ref o] ∧ SqT K H q [.int m, .int w, .int l, .int a] ∧ OwnMAt H o n S ∧ S.length < 1000000 ∧ IsMx g S ∧ ∀ H', Keep [] H H' → Q (.bl (decide (g + a < n))) H'
def foundL (n : Int) (bs S : List Int) : List Int := srt ((allOf n bs).filter fun x => !decide (x ∈ S))
def spOwnHear (K : PySem.W.Frag) : Sp := fun vs H Q _ => ∃ q o t b m w l a n S k bs, vs = [.ref q, .ref o, .ref t] ∧ SqT K H q [.int m, .int w, .int l, .int a] ∧ SqT K H t [.int k, .ref b] ∧ SqT K H b (bs.map V.int) ∧ OwnMAt H o n S ∧ 0 ≤ k ∧ k < m ∧ (bs.length : Int) = w ∧ bs.length ≤ 16 ∧ S.length < 1000000 ∧
  ((∃ x, x ∈ allOf (newestOf m (n - 1) k) bs ∧ x < 0) → ∀ H', Keep [] H H' → Q .non H') ∧
  ((∀ x, x ∈ allOf (newestOf m (n - 1) k) bs → 0 ≤ x) → ∀ f H', H f = none → H' f = some (.lst ((foundL (newestOf m (n - 1) k) bs S).map V.int)) → OwnMAt H' o n (srt (S ++ foundL (newestOf m (n - 1) k) bs S)) → Keep [o] H H' → Q (.ref f) H')
theorem newest_mod {m l k : Int} (k0 : 0 ≤ k) (k1 : k < m) : newestOf m l k % m = k := by
  unfold newestOf
  rw [Int.sub_emod, Int.emod_emod, ← Int.sub_emod]
  have e : l - (l - k) = k := by omega
  rw [e, Int.emod_eq_of_lt k0 k1]
theorem newest_le {m l k : Int} (m0 : 0 < m) : newestOf m l k ≤ l := by
  unfold newestOf
  have := Int.emod_nonneg (l - k) (Int.ne_of_gt m0)
  omega
theorem newest_uniq {m l k i : Int} (k0 : 0 ≤ k) (k1 : k < m) (i0 : i ≤ l) (i1 : newestOf m l k ≤ i) (e : i % m = k) : i = newestOf m l k := by
  have h1 := newest_mod (l := l) k0 k1
  have h2 : l - m < newestOf m l k := by
    unfold newestOf
    have := Int.emod_lt_of_pos (l - k) (show 0 < m by omega)
    omega
  have d1 := Int.emod_add_mul_ediv i m
  have d2 := Int.emod_add_mul_ediv (newestOf m l k) m
  rw [e] at d1
  rw [h1] at d2
  generalize newestOf m l k = t at *
  have e3 : i - t = m * (i / m - t / m) := by rw [Int.mul_sub]; omega
  generalize i / m - t / m = z at e3
  have z0 : 0 ≤ z := by
    by_cases q : z < 0
    · have := Int.mul_neg_of_pos_of_neg (show 0 < m by omega) q
      omega
    · omega
  have z1 : z < 1 := by
    by_cases q : 1 ≤ z
    · have := Int.mul_le_mul_of_nonneg_left q (show 0 ≤ m by omega)
      omega
    · omega
  obtain rfl : z = 0 := by omega
  omega
end Ak

namespace Ak
open PySem PySem.Spec PyProof.Rows L2
/-! ### what happens between a mouth and an ear: the state by its numbers -/
inductive Ev where
  | send
  | tell
  | come (n : Int)
  | hear (n : Int)
  | odd (xs : List V)
def Ev.vs : Ev → List V
  | .send => [.str "send"]
  | .tell => [.str "tell"]
  | .come n => [.str "come", .int n]
  | .hear n => [.str "hear", .int n]
  | .odd xs => xs
/-- none of the four: empty, a text, a text and a number, a text and two -/
inductive OddEv : List V → Prop
  | e0 : OddEv []
  | e1 {s : Str} (o : PyData.strOk s = true) (h : s ≠ "send") (h2 : s ≠ "tell") : OddEv [.str s]
  | e2 {s : Str} {n : Int} (o : PyData.strOk s = true) (h : s ≠ "come") (h2 : s ≠ "hear") : OddEv [.str s, .int n]
  | e3 {s : Str} {n k : Int} (o : PyData.strOk s = true) : OddEv [.str s, .int n, .int k]
def Ev.Ok : Ev → Prop
  | .odd xs => OddEv xs
  | _ => True
theorem strOk_send : PyData.strOk "send" = true := by decide +kernel
theorem strOk_tell : PyData.strOk "tell" = true := by decide +kernel
theorem strOk_come : PyData.strOk "come" = true := by decide +kernel
theorem strOk_hear : PyData.strOk "hear" = true := by decide +kernel
theorem Ev.atoms {ev : Ev} (o : ev.Ok) : (Ev.vs ev).all atomV = true := by
  cases ev with
  | send => decide +kernel
  | tell => decide +kernel
  | come n => show (atomV _ && (atomV _ && true)) = true; rw [show atomV (.str "come") = true from strOk_come]; rfl
  | hear n => show (atomV _ && (atomV _ && true)) = true; rw [show atomV (.str "hear") = true from strOk_hear]; rfl
  | odd xs =>
    cases o with
    | e0 => rfl
    | e1 o => show (atomV _ && true) = true; rw [show atomV (.str _) = true from o]; rfl
    | e2 o => show (atomV _ && (atomV _ && true)) = true; rw [show atomV (.str _) = true from o]; rfl
    | e3 o => show (atomV _ && (atomV _ && (atomV _ && true))) = true; rw [show atomV (.str _) = true from o]; rfl
theorem atoms1 {s : Str} (h : PyData.strOk s = true) : [V.str s].all atomV = true := by show (atomV _ && true) = true; rw [show atomV (.str s) = true from h]; rfl
structure WS where
  g : Int
  K : List Int
  l : Int
  mg : Int
  ks : List Int
  tl : List (Int × List Int × Int)
  ar : List Int
def ws0 : WS := ⟨-1, [], -1, -1, [], [], []⟩
inductive Ans where
  | pr (i j : Int)
  | nw (i : Int) (w : Str)
  | tg (k : Int) (bs : List Int)
  | ls (xs : List Int)
  | no
def bitsI (w g : Int) (K : List Int) : List Int := (List.range w.toNat).map fun (k : Nat) => if g - (1 + (k : Int)) ∈ K then 1 else 0
def canB (late a : Int) (s : WS) : Ev → Bool
  | .send => !decide (s.mg + a < s.l + 1)
  | .tell => decide (0 ≤ s.g)
  | .come n => decide (0 ≤ n ∧ n ≤ s.l ∧ s.l - n ≤ late)
  | .hear n => decide (0 ≤ n ∧ n < s.tl.length ∧ s.l - (s.tl.getD n.toNat (0, [], 0)).2.2 ≤ late)
  | .odd _ => false
/-- what is told of an event, whether it is wrong, what is behind it -/
def stepW (m w late : Int) (s : WS) : Ev → WS × Ans × Bool
  | .send => ({ s with l := s.l + 1 }, .pr (s.l + 1) ((s.l + 1) % m), false)
  | .tell => ({ s with tl := s.tl ++ [(s.g % m, bitsI w s.g s.K, s.l)] }, .tg (s.g % m) (bitsI w s.g s.K), false)
  | .come n =>
    let i := numOf m late s.g (n % m)
    let wd := wordOf w s.g s.K i
    ({ s with g := if wd = "new" then max s.g i else s.g, K := if wd = "new" then s.K ++ [i] else s.K, ar := s.ar ++ [n] }, .nw i wd, !decide (i = n))
  | .hear n =>
    let t := s.tl.getD n.toNat (0, [], 0)
    let N := newestOf m s.l t.1
    if (∃ x, x ∈ allOf N t.2.1 ∧ x < 0) then (s, .no, true)
    else ({ s with ks := s.ks ++ foundOf N t.2.1 s.ks, mg := max s.mg N }, .ls (foundOf N t.2.1 s.ks), (foundOf N t.2.1 s.ks).any fun x => !decide (x ∈ s.ar))
  | .odd _ => (s, .no, false)
/-- what is so of every state behind n events -/
structure WOk (m w : Int) (s : WS) (n : Nat) : Prop where
  l0 : -1 ≤ s.l
  l1 : s.l < n
  g0 : -1 ≤ s.g
  kl : s.K.length ≤ n
  sl : s.ks.length ≤ 20 * n
  tl : s.tl.length ≤ n
  al : s.ar.length ≤ n
  t : ∀ x, x ∈ s.tl → 0 ≤ x.1 ∧ x.1 < m ∧ (x.2.1.length : Int) = w ∧ Bits x.2.1
theorem bitsI_map {w g : Int} {K : List Int} : (bitsI w g K).map V.int = bitsOf w g K := by
  unfold bitsI bitsOf
  rw [List.map_map]
  rfl
theorem bitsI_len {w g : Int} {K : List Int} : (bitsI w g K).length = w.toNat := by unfold bitsI; rw [List.length_map, List.length_range]
theorem bitsI_bits {w g : Int} {K : List Int} : Bits (bitsI w g K) := fun x hx => by
  obtain ⟨k, _, rfl⟩ := List.mem_map.mp hx
  split
  · exact Or.inr rfl
  · exact Or.inl rfl
/-! the same from g - w on -/
def Agree (w g : Int) (cs cs' : List Int) : Prop := ∀ k, g - w ≤ k → (k ∈ cs ↔ k ∈ cs')
theorem Agree.word {w g : Int} {cs cs' : List Int} (a : Agree w g cs cs') (n : Int) : wordOf w g cs n = wordOf w g cs' n := by
  unfold wordOf
  by_cases h : n < g - w
  · rw [if_pos h, if_pos h]
  · rw [if_neg h, if_neg h]
    have := a n (by omega)
    by_cases z : n ∈ cs
    · rw [if_pos z, if_pos (this.mp z)]
    · rw [if_neg z, if_neg (fun y => z (this.mpr y))]
theorem Agree.bits {w g : Int} {cs cs' : List Int} (a : Agree w g cs cs') (w0 : 0 ≤ w) : bitsOf w g cs = bitsOf w g cs' := by
  unfold bitsOf
  refine List.map_congr_left fun k hk => ?_
  have hk' := List.mem_range.mp hk
  have := a (g - (1 + (k : Int))) (by omega)
  by_cases z : g - (1 + (k : Int)) ∈ cs
  · rw [if_pos z, if_pos (this.mp z)]
  · rw [if_neg z, if_neg (fun y => z (this.mpr y))]
theorem Agree.kept {w g : Int} {cs K : List Int} (a : Agree w g cs K) (n : Int) : Agree w (max g n) (keptOf w g cs n) (K ++ [n]) := by
  intro k hk
  have := a k (by omega)
  unfold keptOf
  rw [List.mem_filter, List.mem_append, List.mem_append, List.mem_singleton, decide_eq_true_eq]
  constructor
  · rintro ⟨h1, h2⟩
    exact h1.imp this.mp id
  · intro h1
    exact ⟨h1.imp this.mpr id, by omega⟩
theorem Agree.own {w g : Int} {cs K : List Int} (a : Agree w g cs K) (w1 : w ≤ 16) (n : Int) : Agree w (max g n) (ownKept g cs n) (K ++ [n]) := by
  intro k hk
  have := a k (by omega)
  unfold ownKept
  rw [List.mem_filter, List.mem_append, List.mem_append, List.mem_singleton, decide_eq_true_eq]
  constructor
  · rintro ⟨h1, h2⟩
    exact h1.imp this.mp id
  · intro h1
    exact ⟨h1.imp this.mpr id, by omega⟩
theorem kept_len {w g : Int} {cs : List Int} {n : Int} : (keptOf w g cs n).length ≤ cs.length + 1 := by
  unfold keptOf
  have := List.length_filter_le (fun k => decide (max g n - w ≤ k)) (cs ++ [n])
  rw [List.length_append, List.length_singleton] at this
  exact this
theorem own_len {g : Int} {cs : List Int} {n : Int} : (ownKept g cs n).length ≤ cs.length + 1 := by
  unfold ownKept
  have := List.length_filter_le (fun k => decide (max g n - 20 ≤ k)) (cs ++ [n])
  rw [List.length_append, List.length_singleton] at this
  exact this
theorem found_len {n : Int} {bs ks : List Int} (h : bs.length ≤ 16) : (foundOf n bs ks).length ≤ 17 := by
  have e := List.length_filter_le (fun x => !decide (x ∈ ks)) (srt (allOf n bs))
  have e2 := all_len (n := n) (bs := bs)
  rw [srt_len] at e
  unfold foundOf
  omega
theorem WOk.step {m w late : Int} {s : WS} {n : Nat} {e : Ev} (x : WOk m w s n) (m0 : 0 < m) (w0 : 0 ≤ w) (w1 : w ≤ 16) (hc : ∀ k, e = .hear k → 0 ≤ k ∧ k < s.tl.length) : WOk m w (stepW m w late s e).1 (n + 1) := by
  obtain ⟨l0, l1, g0, kl, sl, tl, al, t⟩ := x
  cases e with
  | send => exact ⟨by show -1 ≤ s.l + 1; omega, by show s.l + 1 < _; omega, g0, by show s.K.length ≤ _; omega, by show s.ks.length ≤ _; omega, by show s.tl.length ≤ _; omega, by show s.ar.length ≤ _; omega, t⟩
  | tell =>
    refine ⟨l0, by show s.l < _; omega, g0, by show s.K.length ≤ _; omega, by show s.ks.length ≤ _; omega, ?_, by show s.ar.length ≤ _; omega, fun x hx => ?_⟩
    · show (s.tl ++ [_]).length ≤ _
      rw [List.length_append, List.length_singleton]
      omega
    · rcases List.mem_append.mp hx with h | h
      · exact t x h
      · rw [List.mem_singleton.mp h]
        exact ⟨Int.emod_nonneg _ (by omega), Int.emod_lt_of_pos _ m0, by show ((bitsI w s.g s.K).length : Int) = w; rw [bitsI_len]; omega, bitsI_bits⟩
  | come k =>
    refine ⟨l0, by show s.l < _; omega, ?_, ?_, by show s.ks.length ≤ _; omega, by show s.tl.length ≤ _; omega, ?_, t⟩
    · show -1 ≤ if _ then _ else _
      split
      · exact Int.le_trans g0 (Int.le_max_left _ _)
      · exact g0
    · show (if _ then _ else _ : List Int).length ≤ _
      split
      · rw [List.length_append, List.length_singleton]
        omega
      · omega
    · show (s.ar ++ [k]).length ≤ _
      rw [List.length_append, List.length_singleton]
      omega
  | hear k =>
    have hk := hc k rfl
    have hi : k.toNat < s.tl.length := by omega
    have ht : s.tl.getD k.toNat (0, [], 0) ∈ s.tl := by
      rw [List.getD_eq_getElem?_getD, List.getElem?_eq_getElem hi]
      exact List.getElem_mem hi
    unfold stepW
    simp only []
    split
    · exact ⟨l0, by show s.l < _; omega, g0, by show s.K.length ≤ _; omega, by show s.ks.length ≤ _; omega, by show s.tl.length ≤ _; omega, by show s.ar.length ≤ _; omega, t⟩
    · have h16 : (s.tl.getD k.toNat (0, [], 0)).2.1.length ≤ 16 := by have := (t _ ht).2.2.1; omega
      have fl := found_len (n := newestOf m s.l (s.tl.getD k.toNat (0, [], 0)).1) (ks := s.ks) h16
      refine ⟨l0, by show s.l < _; omega, g0, by show s.K.length ≤ _; omega, ?_, by show s.tl.length ≤ _; omega, by show s.ar.length ≤ _; omega, t⟩
      show (s.ks ++ _).length ≤ _
      rw [List.length_append]
      omega
  | odd xs => exact ⟨l0, by show s.l < _; omega, g0, by show s.K.length ≤ _; omega, by show s.ks.length ≤ _; omega, by show s.tl.length ≤ _; omega, by show s.ar.length ≤ _; omega, t⟩
/-! ### the world as it stands -/
inductive TellsAt (H : Hp) : List Addr → List (Int × List Int × Int) → Prop
  | nil : TellsAt H [] []
  | cons {t q b : Addr} {x : Int × List Int × Int} {ts : List Addr} {xs : List (Int × List Int × Int)} (h1 : H t = some (.tup [.ref q, .int x.2.2])) (h2 : H q = some (.tup [.int x.1, .ref b])) (h3 : H b = some (.tup (x.2.1.map V.int))) (r : TellsAt H ts xs) : TellsAt H (t :: ts) (x :: xs)
section
variable {H H' : Hp} {ts : List Addr} {xs : List (Int × List Int × Int)} {S : List Addr}
theorem TellsAt.len (x : TellsAt H ts xs) : ts.length = xs.length := by
  induction x with
  | nil => rfl
  | cons _ _ _ _ ih => rw [List.length_cons, List.length_cons, ih]
theorem TellsAt.at (x : TellsAt H ts xs) : ∀ {k : Nat}, k < xs.length → ∃ t q b, ts[k]? = some t ∧ H t = some (.tup [.ref q, .int (xs.getD k (0, [], 0)).2.2]) ∧ H q = some (.tup [.int (xs.getD k (0, [], 0)).1, .ref b]) ∧ H b = some (.tup ((xs.getD k (0, [], 0)).2.1.map V.int)) := by
  induction x with
  | nil => intro k h; exact absurd h (Nat.not_lt_zero _)
  | cons h1 h2 h3 r ih =>
    intro k hk
    match k, hk with
    | 0, _ => exact ⟨_, _, _, rfl, h1, h2, h3⟩
    | k + 1, hk =>
      obtain ⟨t, q, b, e1, e2, e3, e4⟩ := ih (k := k) (by rw [List.length_cons] at hk; omega)
      exact ⟨t, q, b, by simpa using e1, by simpa using e2, by simpa using e3, by simpa using e4⟩
theorem TellsAt.keep (x : TellsAt H ts xs) (k : Keep S H H') (nt : ∀ b, b ∈ S → ∀ xs, H b ≠ some (.tup xs)) : TellsAt H' ts xs := by
  induction x with
  | nil => exact .nil
  | cons h1 h2 h3 r ih => exact .cons (k.1 _ _ (fun m => nt _ m _ h1) h1) (k.1 _ _ (fun m => nt _ m _ h2) h2) (k.1 _ _ (fun m => nt _ m _ h3) h3) ih
theorem TellsAt.add (x : TellsAt H ts xs) {t q b : Addr} {y : Int × List Int × Int} (h1 : H t = some (.tup [.ref q, .int y.2.2])) (h2 : H q = some (.tup [.int y.1, .ref b])) (h3 : H b = some (.tup (y.2.1.map V.int))) : TellsAt H (ts ++ [t]) (xs ++ [y]) := by
  induction x with
  | nil => exact .cons h1 h2 h3 .nil
  | cons a1 a2 a3 r ih => exact .cons a1 a2 a3 ih
end
/-- an answer -/
def AnsAt (H : Hp) (v : V) : Ans → Prop
  | .pr i j => ∃ t, v = .ref t ∧ H t = some (.tup [.int i, .int j])
  | .nw i w => ∃ t, v = .ref t ∧ H t = some (.tup [.int i, .str w])
  | .tg k bs => ∃ t b, v = .ref t ∧ H t = some (.tup [.int k, .ref b]) ∧ H b = some (.tup (bs.map V.int))
  | .ls xs => ∃ f, v = .ref f ∧ H f = some (.lst (xs.map V.int))
  | .no => v = .non
theorem AnsAt.keep {H H' : Hp} {v : V} {an : Ans} {S : List Addr} (x : AnsAt H v an) (k : Keep S H H') (nt : ∀ b, b ∈ S → ∀ xs, H b ≠ some (.tup xs)) (nv : ∀ f, v = .ref f → f ∉ S) : AnsAt H' v an := by
  cases an with
  | pr i j => obtain ⟨t, e, h⟩ := x; exact ⟨t, e, k.1 _ _ (fun m => nt _ m _ h) h⟩
  | nw i w => obtain ⟨t, e, h⟩ := x; exact ⟨t, e, k.1 _ _ (fun m => nt _ m _ h) h⟩
  | tg i bs => obtain ⟨t, b, e, h, h2⟩ := x; exact ⟨t, b, e, k.1 _ _ (fun m => nt _ m _ h) h, k.1 _ _ (fun m => nt _ m _ h2) h2⟩
  | ls xs => obtain ⟨f, e, h⟩ := x; exact ⟨f, e, k.1 _ _ (nv f e) h⟩
  | no => exact x
structure WA where
  p : Addr
  mo : Addr
  mc : Addr
  ea : Addr
  ec : Addr
  lt : Addr
  te : Addr
  ta : Addr
  ts : List Addr
abbrev worldF (mo ea : Addr) (late : Int) (lt te ta : Addr) : List (Str × V) := [("_mouth", .ref mo), ("_ear", .ref ea), ("_late", .int late), ("_letters", .ref lt), ("_tellings", .ref te), ("_arrived", .ref ta)]
structure WorldT (K : PySem.W.Frag) (C : Addr) : Prop where
  cl : Cls K C
  n1 : NoAttr K C "_mouth"
  n2 : NoAttr K C "_ear"
  n3 : NoAttr K C "_late"
  n4 : NoAttr K C "_letters"
  n5 : NoAttr K C "_tellings"
  n6 : NoAttr K C "_arrived"
def marksOf (m l : Int) : List Int := (upTo (l + 1).toNat).map fun k => k % m
/-- what a world changes -/
abbrev WA.S (a : WA) : List Addr := [a.mo, a.mc, a.ea, a.lt, a.te, a.ta]
structure WorldAt (CW CE CM : Addr) (H : Hp) (a : WA) (m w late ah : Int) (s : WS) : Prop where
  p : ∃ dx, H a.p = some (.ins CW dx (worldF a.mo a.ea late a.lt a.te a.ta))
  e : ∃ cs, EarAt CE H a.ea a.ec m w late s.g cs ∧ Agree w s.g cs s.K ∧ cs.length ≤ s.K.length
  mo : MouthAt CM H a.mo a.mc m w ah s.l s.mg s.ks
  lt : H a.lt = some (.lst ((marksOf m s.l).map V.int))
  te : H a.te = some (.lst (a.ts.map V.ref))
  tt : TellsAt H a.ts s.tl
  ta : ∃ rs, H a.ta = some (.dK (sureD rs)) ∧ (∀ x, x ∈ rs ↔ x ∈ s.ar) ∧ rs.length ≤ s.ar.length
  n1 : a.ec ≠ a.lt
  n2 : a.ec ≠ a.te
  n3 : a.lt ≠ a.te
  n4 : a.mc ≠ a.ta
  n5 : a.p ≠ a.mo
  n6 : a.p ≠ a.ea
  n7 : a.mo ≠ a.ea
section
variable {CW CE CM : Addr} {H H' : Hp} {a : WA} {m w late ah : Int} {s : WS} {S : List Addr}
theorem WorldAt.noTup (x : WorldAt CW CE CM H a m w late ah s) : ∀ b, b ∈ a.S → ∀ xs, H b ≠ some (.tup xs) := fun b hb xs z => by
  obtain ⟨dx, _⟩ := x.p
  obtain ⟨cs, ⟨dx1, h1, h2⟩, _⟩ := x.e
  obtain ⟨dx2, h3, h4⟩ := x.mo
  obtain ⟨rs, h5, _⟩ := x.ta
  simp only [List.mem_cons, List.not_mem_nil, or_false] at hb
  rcases hb with h | h | h | h | h | h <;> rw [h] at z
  · rw [h3] at z; cases z
  · rw [h4] at z; cases z
  · rw [h1] at z; cases z
  · rw [x.lt] at z; cases z
  · rw [x.te] at z; cases z
  · rw [h5] at z; cases z
theorem WorldAt.keep0 (x : WorldAt CW CE CM H a m w late ah s) (k : Keep [] H H') : WorldAt CW CE CM H' a m w late ah s := by
  obtain ⟨⟨dx, hp⟩, ⟨cs, he, hg, hl⟩, hm, hlt, hte, htt, ⟨rs, hr, hr2, hr3⟩, n1, n2, n3, n4, n5, n6, n7⟩ := x
  exact ⟨⟨dx, k.1 _ _ nin_nil hp⟩, ⟨cs, he.keep k nin_nil nin_nil, hg, hl⟩, hm.keep k nin_nil nin_nil, k.1 _ _ nin_nil hlt, k.1 _ _ nin_nil hte, htt.keep k (fun b hb => absurd hb List.not_mem_nil), ⟨rs, k.1 _ _ nin_nil hr, hr2, hr3⟩, n1, n2, n3, n4, n5, n6, n7⟩
end
/-! promises -/
def spCanCome (CW CE CM : Addr) : Sp := fun vs H Q _ => ∃ a m w late ah s n, vs = [.ref a.p, .int n] ∧ WorldAt CW CE CM H a m w late ah s ∧ Q (.bl (canB late ah s (.come n))) H
def spCanHear (CW CE CM : Addr) : Sp := fun vs H Q _ => ∃ a m w late ah s n, vs = [.ref a.p, .int n] ∧ WorldAt CW CE CM H a m w late ah s ∧ Q (.bl (canB late ah s (.hear n))) H
def spCan (K : PySem.W.Frag) (CW CE CM : Addr) : Sp := fun vs H Q _ => ∃ a m w late ah s e ev, vs = [.ref a.p, .ref e] ∧ WorldAt CW CE CM H a m w late ah s ∧ SqT K H e (Ev.vs ev) ∧ ev.Ok ∧ ∀ H', Keep [] H H' → Q (.bl (canB late ah s ev)) H'
/-- behind an event: the state, the answer -/
structure DoneW (CW CE CM : Addr) (H H' : Hp) (a a' : WA) (m w late ah : Int) (s : WS) (v : V) (an : Ans) : Prop where
  x : WorldAt CW CE CM H' a' m w late ah s
  an : AnsAt H' v an
  nv : ∀ f, v = .ref f → H f = none
  k : Keep a.S H H'
  p : a'.p = a.p
  S : a'.S = a.S
  ec : a'.ec = a.ec ∨ H a'.ec = none
def spDo (CW CE CM : Addr) (e : Ev) : Sp := fun vs H Q _ => ∃ a m w late ah s n, vs = .ref a.p :: (match e with | .come k => [.int k] | .hear k => [.int k] | _ => []) ∧ WorldAt CW CE CM H a m w late ah s ∧ WOk m w s n ∧ n ≤ 500 ∧ 0 < m ∧ 0 ≤ w ∧ w ≤ 16 ∧ canB late ah s e = true ∧
  ∀ v a' H', DoneW CW CE CM H H' a a' m w late ah (stepW m w late s e).1 v (stepW m w late s e).2.1 →
    match e with
    | .send => Q v H'
    | .tell => Q v H'
    | _ => ∀ t, H t = none → H' t = some (.tup [v, .bl (stepW m w late s e).2.2]) → Q (.ref t) H'
def spSendW (CW CE CM : Addr) : Sp := spDo CW CE CM .send
def spTellW (CW CE CM : Addr) : Sp := spDo CW CE CM .tell
def spComeW (CW CE CM : Addr) : Sp := fun vs H Q E => ∃ n, spDo CW CE CM (.come n) vs H Q E
def spHearW (CW CE CM : Addr) : Sp := fun vs H Q E => ∃ n, spDo CW CE CM (.hear n) vs H Q E
def spHappen (K : PySem.W.Frag) (CW CE CM : Addr) : Sp := fun vs H Q _ => ∃ a m w late ah s n e ev, vs = [.ref a.p, .ref e] ∧ WorldAt CW CE CM H a m w late ah s ∧ WOk m w s n ∧ n ≤ 500 ∧ 0 < m ∧ 0 ≤ w ∧ w ≤ 16 ∧ SqT K H e (Ev.vs ev) ∧ canB late ah s ev = true ∧
  ∀ v a' H' t, DoneW CW CE CM H H' a a' m w late ah (stepW m w late s ev).1 v (stepW m w late s ev).2.1 → H t = none → H' t = some (.tup [v, .bl (stepW m w late s ev).2.2]) → Q (.ref t) H'
def spWorldInit (CW CE CM : Addr) : Sp := fun vs H Q _ => ∃ p q m w l a dx, vs = [.ref p, .ref q] ∧ H q = some (.tup [.int m, .int w, .int l, .int a]) ∧ SetOk m w l a ∧ H p = some (.ins CW dx []) ∧
  ∀ b H', b.p = p → WorldAt CW CE CM H' b m w l a ws0 → (∀ x, x ∈ b.S → H x = none) → H b.ec = none → Keep [p] H H' → Q .non H'
/-! ### events, one behind another -/
def runW (m w late : Int) (s : WS) : List Ev → WS
  | [] => s
  | e :: r => runW m w late (stepW m w late s e).1 r
def ansW (m w late : Int) (s : WS) : List Ev → List Ans
  | [] => []
  | e :: r => (stepW m w late s e).2.1 :: ansW m w late (stepW m w late s e).1 r
def wrW (m w late : Int) (s : WS) : List Ev → List Bool
  | [] => []
  | e :: r => (stepW m w late s e).2.2 :: wrW m w late (stepW m w late s e).1 r
def canW (m w late a : Int) (s : WS) : List Ev → Prop
  | [] => True
  | e :: r => canB late a s e = true ∧ canW m w late a (stepW m w late s e).1 r
section
variable {m w late a : Int} {s : WS} {evs : List Ev} {i : Nat} {e : Ev}
theorem runW_app {es : List Ev} : runW m w late s (evs ++ es) = runW m w late (runW m w late s evs) es := by
  induction evs generalizing s with
  | nil => rfl
  | cons e r ih => exact ih
theorem ansW_app {es : List Ev} : ansW m w late s (evs ++ es) = ansW m w late s evs ++ ansW m w late (runW m w late s evs) es := by
  induction evs generalizing s with
  | nil => rfl
  | cons e r ih => exact congrArg (List.cons _) ih
theorem wrW_app {es : List Ev} : wrW m w late s (evs ++ es) = wrW m w late s evs ++ wrW m w late (runW m w late s evs) es := by
  induction evs generalizing s with
  | nil => rfl
  | cons e r ih => exact congrArg (List.cons _) ih
theorem canW_app {es : List Ev} : canW m w late a s (evs ++ es) ↔ canW m w late a s evs ∧ canW m w late a (runW m w late s evs) es := by
  induction evs generalizing s with
  | nil => exact ⟨fun h => ⟨trivial, h⟩, fun h => h.2⟩
  | cons e r ih => exact ⟨fun h => ⟨⟨h.1, (ih.mp h.2).1⟩, (ih.mp h.2).2⟩, fun h => ⟨h.1.1, ih.mpr ⟨h.1.2, h.2⟩⟩⟩
theorem run_take (h : evs[i]? = some e) : runW m w late s (evs.take (i + 1)) = (stepW m w late (runW m w late s (evs.take i)) e).1 := by rw [take_at h, runW_app]; rfl
theorem ans_take (h : evs[i]? = some e) : ansW m w late s (evs.take (i + 1)) = ansW m w late s (evs.take i) ++ [(stepW m w late (runW m w late s (evs.take i)) e).2.1] := by rw [take_at h, ansW_app]; rfl
theorem wr_take (h : evs[i]? = some e) : wrW m w late s (evs.take (i + 1)) = wrW m w late s (evs.take i) ++ [(stepW m w late (runW m w late s (evs.take i)) e).2.2] := by rw [take_at h, wrW_app]; rfl
theorem ansW_len : (ansW m w late s evs).length = evs.length := by
  induction evs generalizing s with
  | nil => rfl
  | cons e r ih => exact congrArg Nat.succ ih
theorem wrW_len : (wrW m w late s evs).length = evs.length := by
  induction evs generalizing s with
  | nil => rfl
  | cons e r ih => exact congrArg Nat.succ ih
theorem can_at (h : evs[i]? = some e) (c : canW m w late a s evs) : canB late a (runW m w late s (evs.take i)) e = true := by
  have hi := (List.getElem?_eq_some_iff.mp h)
  have e1 : evs = evs.take i ++ (e :: evs.drop (i + 1)) := by
    rw [← hi.2, ← List.drop_eq_getElem_cons hi.1, List.take_append_drop]
  rw [e1] at c
  exact (canW_app.mp c).2.1
theorem can_hear {s : WS} {e : Ev} (c : canB late a s e = true) : ∀ k, e = .hear k → 0 ≤ k ∧ k < s.tl.length := fun k z => by
  subst z
  change decide (0 ≤ k ∧ k < s.tl.length ∧ s.l - (s.tl.getD k.toNat (0, [], 0)).2.2 ≤ late) = true at c
  have := of_decide_eq_true c
  exact ⟨this.1, this.2.1⟩
end
theorem WOk.init {m w : Int} : WOk m w ws0 0 := ⟨Int.le_refl _, by decide, Int.le_refl _, Nat.le_refl _, Nat.le_refl _, Nat.le_refl _, Nat.le_refl _, fun x hx => absurd hx List.not_mem_nil⟩
def firstW (bs : List Bool) : Option Nat := bs.findIdx? id
def optV : Option Nat → V
  | none => .non
  | some i => .int (i : Nat)
theorem firstW_app {bs : List Bool} {b : Bool} : firstW (bs ++ [b]) = match firstW bs with
    | some i => some i
    | none => if b = true then some bs.length else none := by
  unfold firstW
  rw [List.findIdx?_append]
  cases bs.findIdx? id with
  | some i => rfl
  | none => cases b <;> simp [List.findIdx?_cons]
inductive EvsAt (K : PySem.W.Frag) (H : Hp) : List Addr → List Ev → Prop
  | nil : EvsAt K H [] []
  | cons {e : Addr} {ev : Ev} {es : List Addr} {evs : List Ev} (h : SqT K H e (Ev.vs ev)) (o : ev.Ok) (r : EvsAt K H es evs) : EvsAt K H (e :: es) (ev :: evs)
section
variable {K : PySem.W.Frag} {H H' : Hp} {es : List Addr} {evs : List Ev} {S : List Addr}
theorem EvsAt.len (x : EvsAt K H es evs) : es.length = evs.length := by
  induction x with
  | nil => rfl
  | cons _ _ _ ih => rw [List.length_cons, List.length_cons, ih]
theorem EvsAt.at (x : EvsAt K H es evs) : ∀ {k : Nat} {v : V}, (es.map V.ref)[k]? = some v → ∃ e ev, v = .ref e ∧ evs[k]? = some ev ∧ SqT K H e (Ev.vs ev) ∧ ev.Ok := by
  induction x with
  | nil => intro k v h; simp at h
  | cons h o r ih =>
    intro k v hk
    match k, hk with
    | 0, hk => cases hk; exact ⟨_, _, rfl, rfl, h, o⟩
    | k + 1, hk =>
      obtain ⟨e, ev, e1, e2, e3, e4⟩ := ih (k := k) (v := v) (by simpa using hk)
      exact ⟨e, ev, e1, by simpa using e2, e3, e4⟩
theorem SqT.keepN {a : Addr} {xs : List V} (h : SqT K H a xs) (k : Keep S H H') (nt : ∀ b, b ∈ S → ∀ xs, H b ≠ some (.tup xs) ∧ ∀ o, H b ≠ some (.frz o (.tup xs))) : SqT K H' a xs := by
  rcases h with h | h
  · rcases h with h | ⟨o, h⟩
    · exact Or.inl (Or.inl (k.1 _ _ (fun m => (nt _ m xs).1 h) h))
    · exact Or.inl (Or.inr ⟨o, k.1 _ _ (fun m => (nt _ m xs).2 o h) h⟩)
  · exact Or.inr h
theorem EvsAt.keep (x : EvsAt K H es evs) (k : Keep [] H H') : EvsAt K H' es evs := by
  induction x with
  | nil => exact .nil
  | cons h o r ih => exact .cons (k.seqT nin_nil h) o ih
theorem EvsAt.add (x : EvsAt K H es evs) {e : Addr} {ev : Ev} (h : SqT K H e (Ev.vs ev)) (o : ev.Ok) : EvsAt K H (es ++ [e]) (evs ++ [ev]) := by
  induction x with
  | nil => exact .cons h o .nil
  | cons h2 o2 r ih => exact .cons h2 o2 ih
end
inductive AnsL (H : Hp) : List V → List Ans → Prop
  | nil : AnsL H [] []
  | cons {v : V} {an : Ans} {vs : List V} {as : List Ans} (h : AnsAt H v an) (r : AnsL H vs as) : AnsL H (v :: vs) (an :: as)
section
variable {H H' : Hp} {vs : List V} {as : List Ans} {S : List Addr}
theorem AnsL.keep (x : AnsL H vs as) (k : Keep S H H') (nt : ∀ b, b ∈ S → ∀ xs, H b ≠ some (.tup xs)) (nv : ∀ v, v ∈ vs → ∀ f, v = .ref f → f ∉ S) : AnsL H' vs as := by
  induction x with
  | nil => exact .nil
  | cons h r ih => exact .cons (h.keep k nt (nv _ List.mem_cons_self)) (ih fun v hv => nv v (List.mem_cons_of_mem _ hv))
theorem AnsL.add (x : AnsL H vs as) {v : V} {an : Ans} (h : AnsAt H v an) : AnsL H (vs ++ [v]) (as ++ [an]) := by
  induction x with
  | nil => exact .cons h .nil
  | cons h2 r ih => exact .cons h2 ih
theorem AnsL.len (x : AnsL H vs as) : vs.length = as.length := by
  induction x with
  | nil => rfl
  | cons _ _ ih => rw [List.length_cons, List.length_cons, ih]
end
/-- played, of events that may be -/
def spPlayed (K : PySem.W.Frag) : Sp := fun vs H Q _ => ∃ q e m w l a es evs, vs = [.ref q, .ref e] ∧ H q = some (.tup [.int m, .int w, .int l, .int a]) ∧ SetOk m w l a ∧ SqL K H e (es.map V.ref) ∧ EvsAt K H es evs ∧ evs.length ≤ 400 ∧ canW m w l a ws0 evs ∧
  ∀ t f ans H', H t = none → H f = none → t ≠ f → H' t = some (.tup [.ref f, optV (firstW (wrW m w l ws0 evs))]) → H' f = some (.lst ans) → AnsL H' ans (ansW m w l ws0 evs) → (∀ v, v ∈ ans → ∀ u, v = .ref u → H u = none ∧ u ≠ f) → Keep [] H H' → Q (.ref t) H'
end Ak

namespace Ak
open PySem PySem.Spec PyProof.Rows L2
theorem IsMx.srt {g : Int} {ks : List Int} (x : IsMx g ks) : IsMx g (srt ks) := ⟨by
  rcases List.mem_cons.mp x.1 with h | h
  · exact List.mem_cons.mpr (Or.inl h)
  · exact List.mem_cons.mpr (Or.inr (srt_mem.mpr h)), fun y hy => x.2 y (by
  rcases List.mem_cons.mp hy with h | h
  · exact List.mem_cons.mpr (Or.inl h)
  · exact List.mem_cons.mpr (Or.inr (srt_mem.mp h)))⟩
theorem found_eq {n : Int} {bs ks : List Int} : foundOf n bs ks = foundL n bs (srt ks) := by
  unfold foundOf foundL
  rw [srt_filter]
  congr 1
  refine List.filter_congr fun x _ => ?_
  by_cases h : x ∈ ks
  · rw [decide_eq_true h, decide_eq_true (srt_mem.mpr h)]
  · rw [decide_eq_false h, decide_eq_false (fun z => h (srt_mem.mp z))]
theorem found_mem {n x : Int} {bs ks : List Int} (h : x ∈ foundOf n bs ks) : x ∈ allOf n bs ∧ x ∉ ks := by
  have h2 := List.mem_filter.mp h
  refine ⟨srt_mem.mp h2.1, fun z => ?_⟩
  have := h2.2
  rw [decide_eq_true z] at this
  cases this
theorem found_in {n x : Int} {bs ks : List Int} (h : x ∈ allOf n bs) (nk : x ∉ ks) : x ∈ foundOf n bs ks := List.mem_filter.mpr ⟨srt_mem.mpr h, by rw [decide_eq_false nk]; rfl⟩
theorem found_nd {n : Int} {bs ks : List Int} (h : ks.Nodup) : (ks ++ foundOf n bs ks).Nodup :=
  List.nodup_append.mpr ⟨h, (srt_nodup all_nd).filter _, fun a ha b hb e => (found_mem hb).2 (e ▸ ha)⟩
theorem found_srt {n : Int} {bs ks : List Int} : srt (srt ks ++ foundL n bs (srt ks)) = srt (ks ++ foundOf n bs ks) := by
  rw [← found_eq]
  exact srt_congr ((srt_perm ks).append_right _)
theorem found_mx {n g : Int} {bs ks : List Int} (x : IsMx g ks) : IsMx (max g n) (ks ++ foundOf n bs ks) := by
  have hn : n ∈ allOf n bs := List.mem_cons_self
  refine ⟨?_, fun y hy => ?_⟩
  · by_cases q : n ≤ g
    · rw [show max g n = g by omega]
      rcases List.mem_cons.mp x.1 with h | h
      · exact List.mem_cons.mpr (Or.inl h)
      · exact List.mem_cons.mpr (Or.inr (List.mem_append.mpr (Or.inl h)))
    · rw [show max g n = n by omega]
      exact List.mem_cons.mpr (Or.inr (List.mem_append.mpr (Or.inr (found_in hn (fun z => q (x.2 n (List.mem_cons_of_mem _ z)))))))
  · rcases List.mem_cons.mp hy with h | h
    · have := x.2 y (List.mem_cons.mpr (Or.inl h))
      omega
    · rcases List.mem_append.mp h with h | h
      · have := x.2 y (List.mem_cons_of_mem _ h)
        omega
      · have := all_le (found_mem h).1
        omega
/-- the greatest that is sure is kept right -/
structure WMx (s : WS) : Prop where
  mx : IsMx s.mg s.ks
  nd : s.ks.Nodup
theorem WMx.init : WMx ws0 := ⟨⟨List.mem_cons_self, fun x hx => by
  rw [List.mem_singleton.mp hx]
  exact Int.le_refl _⟩, List.nodup_nil⟩
theorem WMx.step {m w late : Int} {s : WS} {e : Ev} (x : WMx s) : WMx (stepW m w late s e).1 := by
  cases e with
  | hear k =>
    unfold stepW
    simp only []
    split
    · exact x
    · exact ⟨found_mx x.mx, found_nd x.nd⟩
  | _ => exact ⟨x.mx, x.nd⟩
/-! ### the law's own world -/
abbrev ownWF (oe om ot oh : Addr) : List (Key × V) := [(Sum.inr "ear", .ref oe), (Sum.inr "mouth", .ref om), (Sum.inr "told", .ref ot), (Sum.inr "here", .ref oh)]
structure OA where
  o : Addr
  e : Addr
  m : Addr
  t : Addr
  h : Addr
  ts : List Addr
structure OwnW (H : Hp) (a : OA) (w : Int) (s : WS) : Prop where
  o : H a.o = some (.dK (ownWF a.e a.m a.t a.h))
  e : ∃ cs, OwnAt H a.e s.g cs ∧ Agree w s.g cs s.K ∧ cs.length ≤ s.K.length
  m : OwnMAt H a.m (s.l + 1) (srt s.ks)
  t : H a.t = some (.lst (a.ts.map V.ref))
  tt : TellsAt H a.ts (s.tl.map fun x => (x.1, x.2.1, x.2.2 + 1))
  h : H a.h = some (.lst (s.ar.map V.int))
  n1 : a.o ≠ a.e
  n2 : a.o ≠ a.m
  n3 : a.e ≠ a.m
section
variable {H H' : Hp} {a : OA} {w : Int} {s : WS} {S : List Addr}
theorem OwnW.keep0 (x : OwnW H a w s) (k : Keep [] H H') : OwnW H' a w s := by
  obtain ⟨ho, ⟨cs, ⟨c, h1, h2⟩, hg, hl⟩, ⟨c2, h3, h4⟩, ht, htt, hh, n1, n2, n3⟩ := x
  exact ⟨k.1 _ _ nin_nil ho, ⟨cs, ⟨c, k.1 _ _ nin_nil h1, k.1 _ _ nin_nil h2⟩, hg, hl⟩, ⟨c2, k.1 _ _ nin_nil h3, k.1 _ _ nin_nil h4⟩, k.1 _ _ nin_nil ht, htt.keep k (fun b hb => absurd hb List.not_mem_nil), k.1 _ _ nin_nil hh, n1, n2, n3⟩
end
theorem otells_at {s : WS} {k : Nat} (h : k < s.tl.length) : (s.tl.map fun x => (x.1, x.2.1, x.2.2 + 1)).getD k (0, [], 0) = ((s.tl.getD k (0, [], 0)).1, (s.tl.getD k (0, [], 0)).2.1, (s.tl.getD k (0, [], 0)).2.2 + 1) := by
  rw [List.getD_eq_getElem?_getD, List.getD_eq_getElem?_getD, List.getElem?_map, List.getElem?_eq_getElem h]
  rfl
def spOwnWorld : Sp := fun vs H Q _ => vs = [] ∧ ∀ a H', (∀ w, OwnW H' a w ws0) → H a.o = none → H a.e = none → H a.m = none → Keep [] H H' → Q (.ref a.o) H'
def spOwnCan (K : PySem.W.Frag) : Sp := fun vs H Q _ => ∃ q a e m w late ah s n ev, vs = [.ref q, .ref a.o, .ref e] ∧ H q = some (.tup [.int m, .int w, .int late, .int ah]) ∧ OwnW H a w s ∧ WOk m w s n ∧ n ≤ 500 ∧ WMx s ∧ SqT K H e (Ev.vs ev) ∧ ev.Ok ∧ ∀ H', Keep [] H H' → Q (.bl (canB late ah s ev)) H'
structure DoneO (H H' : Hp) (a a' : OA) (w : Int) (s0 s : WS) (v : V) (an : Ans) : Prop where
  x : OwnW H' a' w s
  an : AnsAt H' v an
  nv : ∀ f, v = .ref f → H f = none
  k : Keep [a.o, a.e, a.m] H H'
  o : a'.o = a.o
  e : a'.e = a.e
  m : a'.m = a.m
  t : a'.t = a.t ∨ H a'.t = none
  h : a'.h = a.h ∨ H a'.h = none
  fr : s0 = ws0 → (∀ c g, H' a'.e = some (.dK (ownF g c)) → ∃ g0, H a.e = some (.dK (ownF g0 c))) ∧ (∀ c n, H' a'.m = some (.dK (ownMF n c)) → ∃ n0, H a.m = some (.dK (ownMF n0 c)))
def spOwnDo (K : PySem.W.Frag) : Sp := fun vs H Q _ => ∃ q a e m w late ah s n ev, vs = [.ref q, .ref a.o, .ref e] ∧ H q = some (.tup [.int m, .int w, .int late, .int ah]) ∧ SetOk m w late ah ∧ OwnW H a w s ∧ WOk m w s n ∧ n ≤ 500 ∧ WMx s ∧ SqT K H e (Ev.vs ev) ∧ canB late ah s ev = true ∧
  ∀ v a' H' t, DoneO H H' a a' w s (stepW m w late s ev).1 v (stepW m w late s ev).2.1 → H t = none → H' t = some (.tup [v, .bl (stepW m w late s ev).2.2]) → Q (.ref t) H'
end Ak
namespace Ak
open PySem PySem.Spec PyProof.Rows L2
def spOwnEvent (K : PySem.W.Frag) : Sp := fun vs H Q _ => ∃ (H0 : Hp), ∃ d q a m w late ah s n often, vs = [.ref d, .ref q, .ref a.o, .int often] ∧ Dice K H0 H d ∧ H q = some (.tup [.int m, .int w, .int late, .int ah]) ∧ SetOk m w late ah ∧ OwnW H a w s ∧ WOk m w s n ∧ n ≤ 500 ∧ WMx s ∧ 1 ≤ often ∧ often ≤ 10 ∧
  ∀ e H', (H' e = some (.tup []) ∨ ∃ ev, H' e = some (.tup (Ev.vs ev)) ∧ ev.Ok ∧ canB late ah s ev = true) → Dice K H0 H' d → Keep [d] H H' → Q (.ref e) H'
def spOwnEvents (K : PySem.W.Frag) : Sp := fun vs H Q _ => ∃ (H0 : Hp), ∃ d q m w late ah most, vs = [.ref d, .ref q, .int most] ∧ Dice K H0 H d ∧ H q = some (.tup [.int m, .int w, .int late, .int ah]) ∧ SetOk m w late ah ∧ 0 ≤ most ∧ most ≤ 400 ∧
  ∀ f es evs H', H f = none → H' f = some (.lst (es.map V.ref)) → EvsAt K H' es evs → (evs.length : Int) ≤ most → canW m w late ah ws0 evs → Dice K H0 H' d → Keep [d] H H' → Q (.ref f) H'
theorem OwnW.keepF {H H' : Hp} {a : OA} {w : Int} {s : WS} {f : Addr} {l : List V} (x : OwnW H a w s) (k : Keep [f] H H') (hf : H f = some (.lst l)) (nt : a.t ≠ f) (nh : a.h ≠ f) (ne : ∀ c g, H a.e = some (.dK (ownF g c)) → c ≠ f) (nm : ∀ c n, H a.m = some (.dK (ownMF n c)) → c ≠ f) : OwnW H' a w s := by
  obtain ⟨ho, ⟨cs, ⟨c, h1, h2⟩, hg, hl⟩, ⟨c2, h3, h4⟩, ht, htt, hh, n1, n2, n3⟩ := x
  have nd : ∀ b kvs, H b = some (.dK kvs) → b ∉ [f] := fun b kvs h => nin_cons (ne_of h hf (by intro z; cases z)) nin_nil
  exact ⟨k.1 _ _ (nd _ _ ho) ho, ⟨cs, ⟨c, k.1 _ _ (nd _ _ h1) h1, k.1 _ _ (nin_cons (ne c _ h1) nin_nil) h2⟩, hg, hl⟩, ⟨c2, k.1 _ _ (nd _ _ h3) h3, k.1 _ _ (nin_cons (nm c2 _ h3) nin_nil) h4⟩, k.1 _ _ (nin_cons nt nin_nil) ht, htt.keep k (fun b hb xs z => by rw [List.mem_singleton.mp hb, hf] at z; cases z), k.1 _ _ (nin_cons nh nin_nil) hh, n1, n2, n3⟩
theorem OwnW.keepD {K : PySem.W.Frag} {H0 H H' : Hp} {d : Addr} {a : OA} {w : Int} {s : WS} (x : OwnW H a w s) (dc : Dice K H0 H d) (k : Keep [d] H H') (nt : a.t ≠ d) : OwnW H' a w s := by
  obtain ⟨ho, ⟨cs, ⟨c, h1, h2⟩, hg, hl⟩, ⟨c2, h3, h4⟩, ht, htt, hh, n1, n2, n3⟩ := x
  obtain ⟨⟨ad, ns, i, m, r, hd, _⟩, _, _⟩ := dc
  have nd : ∀ b kvs, H b = some (.dK kvs) → b ∉ [d] := fun b kvs h => nin_cons (ne_of h hd (by intro z; cases z)) nin_nil
  have ni : ∀ b (ns : List Int), H b = some (.lst (ns.map V.int)) → b ∉ [d] := fun b ns h => nin_cons (fun z => by
    rw [z, hd] at h
    cases ns with
    | nil => cases h
    | cons n t => cases h) nin_nil
  exact ⟨k.1 _ _ (nd _ _ ho) ho, ⟨cs, ⟨c, k.1 _ _ (nd _ _ h1) h1, k.1 _ _ (ni _ _ h2) h2⟩, hg, hl⟩, ⟨c2, k.1 _ _ (nd _ _ h3) h3, k.1 _ _ (ni _ _ h4) h4⟩, k.1 _ _ (nin_cons nt nin_nil) ht, htt.keep k (fun b hb xs z => by rw [List.mem_singleton.mp hb, hd] at z; cases z), k.1 _ _ (ni _ _ hh) hh, n1, n2, n3⟩
end Ak
namespace Ak
open PySem PySem.Spec PyProof.Rows L2
/-- the law's played: the number of the first that can't be, or what is told -/
def spOwnPlayed (K : PySem.W.Frag) : Sp := fun vs H Q _ => ∃ q e m w l a es evs, vs = [.ref q, .ref e] ∧ H q = some (.tup [.int m, .int w, .int l, .int a]) ∧ SetOk m w l a ∧ SqL K H e (es.map V.ref) ∧ EvsAt K H es evs ∧ evs.length ≤ 410 ∧
  (∀ i ev, evs[i]? = some ev → canW m w l a ws0 (evs.take i) → (400 ≤ i ∨ canB l a (runW m w l ws0 (evs.take i)) ev = false) → i ≤ 400 → ∀ H', Keep [] H H' → Q (.int (i : Nat)) H') ∧
  (evs.length ≤ 400 → canW m w l a ws0 evs → ∀ t f ans H', H t = none → H f = none → t ≠ f → H' t = some (.tup [.ref f, optV (firstW (wrW m w l ws0 evs))]) → H' f = some (.lst ans) → AnsL H' ans (ansW m w l ws0 evs) → (∀ v, v ∈ ans → ∀ u, v = .ref u → H u = none ∧ u ≠ f) → Keep [] H H' → Q (.ref t) H')
end Ak

namespace Ak
open PySem PySem.Spec PyProof.Rows L2
/-! ### lists of events -/
section
variable {K : PySem.W.Frag} {H H' : Hp} {es es2 : List Addr} {evs evs2 : List Ev}
theorem EvsAt.keepL {f : Addr} {l : List V} (x : EvsAt K H es evs) (k : Keep [f] H H') (hf : H f = some (.lst l)) : EvsAt K H' es evs := by
  induction x with
  | nil => exact .nil
  | cons h o r ih => exact .cons (SqT.keepN h k fun b hb xs => by
      rw [List.mem_singleton.mp hb, hf]
      exact ⟨fun z => (by cases z), fun o z => (by cases z)⟩) o ih
theorem EvsAt.app (x : EvsAt K H es evs) (y : EvsAt K H es2 evs2) : EvsAt K H (es ++ es2) (evs ++ evs2) := by
  induction x with
  | nil => exact y
  | cons h o r ih => exact .cons h o ih
theorem EvsAt.take (x : EvsAt K H es evs) : ∀ n, EvsAt K H (es.take n) (evs.take n) := by
  induction x with
  | nil => intro n; rw [List.take_nil, List.take_nil]; exact .nil
  | cons h o r ih =>
    intro n
    cases n with
    | zero => exact .nil
    | succ n => exact .cons h o (ih n)
theorem EvsAt.oks (x : EvsAt K H es evs) : ∀ ev, ev ∈ evs → ev.Ok := by
  induction x with
  | nil => exact fun _ h => absurd h List.not_mem_nil
  | cons h o r ih => exact fun ev hv => (List.mem_cons.mp hv).elim (fun z => z ▸ o) (ih ev)
theorem dp_evs (x : EvsAt K H es evs) : DpAll K H (es.map V.ref) (evs.map fun ev => PyData.tuple ((Ev.vs ev).map pdA)) := by
  induction x with
  | nil => exact .nil
  | cons h o r ih => exact .cons (Dp.tup h (dp_atoms (Ev.atoms o))) ih
end
theorem depthAll_evs {evs : List Ev} (h : ∀ ev, ev ∈ evs → ev.Ok) : PyData.depthAll (evs.map fun ev => PyData.tuple ((Ev.vs ev).map pdA)) ≤ 2 := by
  induction evs with
  | nil => simp [PyData.depthAll]
  | cons e r ih =>
    have h1 := depthAll_atoms (Ev.atoms (h e List.mem_cons_self))
    have h2 := ih fun ev hv => h ev (List.mem_cons_of_mem _ hv)
    simp [PyData.depthAll, PyData.depth]
    omega
theorem layAll_evs {evs : List Ev} (h : ∀ ev, ev ∈ evs → ev.Ok) : PyData.canLayAll0 (evs.map fun ev => PyData.tuple ((Ev.vs ev).map pdA)) = true := by
  induction evs with
  | nil => simp [PyData.canLayAll0]
  | cons e r ih =>
    have h1 := layAll_atoms (Ev.atoms (h e List.mem_cons_self))
    have h2 := ih fun ev hv => h ev (List.mem_cons_of_mem _ hv)
    simp [PyData.canLayAll0, PyData.canLay0, h1, h2]
theorem shaped_evs {evs : List Ev} (h : ∀ ev, ev ∈ evs → ev.Ok) : SeqAt.shaped (.list (evs.map fun ev => PyData.tuple ((Ev.vs ev).map pdA))) = true := by
  unfold SeqAt.shaped
  simp [PyData.canLay0, PyData.depth, layAll_evs h]
  have := depthAll_evs h
  omega
theorem w_neEvs {K : PySem.W.Frag} {H : Hp} {Q : VK} {a b : Addr} {es : List Addr} {evs : List Ev} (ha : SqL K H a (es.map V.ref)) (x : EvsAt K H es evs) (hb : SqL K H b []) (h : Q (.bl (!evs.isEmpty)) H) : rNeX K (.ref a) (.ref b) H Q :=
  w_neD (Dp.lst ha (dp_evs x)) (Dp.lst hb .nil) (shaped_evs x.oks) (shaped_ints []) (by
    have e : PyData.eqv (.list (evs.map fun ev => PyData.tuple ((Ev.vs ev).map pdA))) (.list []) = evs.isEmpty := by
      cases evs with
      | nil => simp [PyData.eqv, PyData.eqvAll]
      | cons e r => simp [PyData.eqv, PyData.eqvAll]
    rw [e]; exact h)
theorem w_neSameEvs {K : PySem.W.Frag} {H : Hp} {Q : VK} {a b : Addr} {es : List Addr} {evs : List Ev} (ha : SqL K H a (es.map V.ref)) (x : EvsAt K H es evs) (hb : SqL K H b (es.map V.ref)) (h : Q (.bl false) H) : rNeX K (.ref a) (.ref b) H Q :=
  w_neD (Dp.lst ha (dp_evs x)) (Dp.lst hb (dp_evs x)) (shaped_evs x.oks) (shaped_evs x.oks) (by
    rw [PySem.SeqAt.eqv_refl _ (by simp [PyData.canLay0, layAll_evs x.oks])]; exact h)
/-! ### which event is the first that can't be -/
section
variable {m w l a : Int} {evs : List Ev}
def BadAt (m w l a : Int) (evs : List Ev) (i : Nat) : Prop := ∃ ev, evs[i]? = some ev ∧ canW m w l a ws0 (evs.take i) ∧ (400 ≤ i ∨ canB l a (runW m w l ws0 (evs.take i)) ev = false) ∧ i ≤ 400
def GoodL (m w l a : Int) (evs : List Ev) : Prop := evs.length ≤ 400 ∧ canW m w l a ws0 evs
theorem bad_or_good : GoodL m w l a evs ∨ ∃ i, BadAt m w l a evs i := by
  have key : ∀ n, n ≤ 400 → n ≤ evs.length → canW m w l a ws0 (evs.take n) ∨ ∃ i, BadAt m w l a evs i := by
    intro n
    induction n with
    | zero => intro _ _; exact Or.inl trivial
    | succ n ih =>
      intro h1 h2
      rcases ih (by omega) (by omega) with h | h
      · have hx : evs[n]? = some evs[n] := List.getElem?_eq_getElem (by omega)
        cases hc : canB l a (runW m w l ws0 (evs.take n)) evs[n] with
        | true =>
          refine Or.inl ?_
          rw [take_at hx]
          exact canW_app.mpr ⟨h, hc, trivial⟩
        | false => exact Or.inr ⟨n, _, hx, h, Or.inr hc, by omega⟩
      · exact Or.inr h
  by_cases hl : evs.length ≤ 400
  · rcases key evs.length hl (Nat.le_refl _) with h | h
    · rw [List.take_length] at h
      exact Or.inl ⟨hl, h⟩
    · exact Or.inr h
  · rcases key 400 (Nat.le_refl _) (by omega) with h | h
    · exact Or.inr ⟨400, _, List.getElem?_eq_getElem (by omega), h, Or.inl (Nat.le_refl _), Nat.le_refl _⟩
    · exact Or.inr h
theorem bad_lt {i j : Nat} (x : BadAt m w l a evs i) (y : BadAt m w l a evs j) : ¬ i < j := fun h => by
  obtain ⟨ev, h1, h2, h3, h4⟩ := x
  obtain ⟨ev2, h5, h6, h7, h8⟩ := y
  have hi : (evs.take j)[i]? = some ev := by rw [List.getElem?_take_of_lt h]; exact h1
  have hc := can_at hi h6
  rw [List.take_take, Nat.min_eq_left (by omega)] at hc
  rcases h3 with h3 | h3
  · omega
  · rw [hc] at h3; cases h3
theorem bad_one {i j : Nat} (x : BadAt m w l a evs i) (y : BadAt m w l a evs j) : i = j := by
  have := bad_lt x y
  have := bad_lt y x
  omega
theorem bad_good {i : Nat} (x : BadAt m w l a evs i) (g : GoodL m w l a evs) : False := by
  obtain ⟨ev, h1, h2, h3, h4⟩ := x
  have hc := can_at h1 g.2
  rcases h3 with h3 | h3
  · have := (List.getElem?_eq_some_iff.mp h1).1
    have := g.1
    omega
  · rw [hc] at h3; cases h3
end
/-- played: what is told, or the number of the first event that can't be -/
def spPlayedX (K : PySem.W.Frag) (C5 : Addr) : Sp := fun vs H Q E => ∃ q e m w l a es evs, vs = [.ref q, .ref e] ∧ H q = some (.tup [.int m, .int w, .int l, .int a]) ∧ SetOk m w l a ∧ SqL K H e (es.map V.ref) ∧ EvsAt K H es evs ∧ evs.length ≤ 410 ∧
  (∀ i, BadAt m w l a evs i → ∀ d H', H d = none → Keep [] H H' → H' d = some (.xd [("number", .int (i : Nat))]) → E (.ref C5) (some d) H') ∧
  (GoodL m w l a evs → ∀ t f ans H', H t = none → H f = none → t ≠ f → H' t = some (.tup [.ref f, optV (firstW (wrW m w l ws0 evs))]) → H' f = some (.lst ans) → AnsL H' ans (ansW m w l ws0 evs) → (∀ v, v ∈ ans → ∀ u, v = .ref u → H u = none ∧ u ≠ f) → Keep [] H H' → Q (.ref t) H')
end Ak

namespace Ak
open PySem PySem.Spec PyProof.Rows L2
section
variable {P : Program} {w : World} {K : PySem.W.Frag} {mg : Str → Option Value} {base : Heap}
theorem ok_next {f : Addr} {fd : FuncData} (F : L2.Fun K "_law_next" "_law_next" s_l_next f fd) (g_len : mg "len" = none) : FnOk P w K mg base (L2.CX P w) 1 f fd ["_law_dice_here", "_law_many"] (spNext K) := by
  refine Fun.okX F sc_l_next (fun vs H Q E h => ?_) (fun cdv A outer s H vs Q E hr h => ?_)
  · obtain ⟨_, _, _, rfl, _⟩ := h
    rfl
  · obtain ⟨H0, d, n, rfl, n0, n1, ⟨⟨a, ns, i, m, r, hd, ha, hl, i0⟩, dn, dx⟩, k⟩ := h
    refine ⟨_, (pss_cons (ps_if (pt_cmpR op_gt (pe_ix (Ak.ix_K (K := K) (by rfl)) (pv 0) pe_int (by intro _ _; rfl)) pe_int (nomark _))
      (pss_cons (ps_set (i := 2) sc_l_next.nd rfl (Or.inl rfl) (pe_op op_mod (pe_ix (Ak.ix_K (K := K) (by rfl)) (pv 0) pe_int (by intro _ _; rfl)) (pv 1)))
      (pss_cons (ps_asg (pe_op op_fdiv (pe_ix (Ak.ix_K (K := K) (by rfl)) (pv 0) pe_int (by intro _ _; rfl)) (pv 1)) (pg_sub (pv 0) pe_int set_list))
      (pss_one (ps_ret (pv 2)))))
      pss_nil)
      (pss_cons (ps_asg (pe_op (Ak.op_plusK (K := K) (by rfl)) (pe_ix (Ak.ix_K (K := K) (by rfl)) (pv 0) pe_int (by intro _ _; rfl)) pe_int) (pg_sub (pv 0) pe_int set_list))
      (pss_cons (ps_if (pt_cmpR op_le (pe_ix (Ak.ix_K (K := K) (by rfl)) (pv 0) pe_int (by intro _ _; rfl)) (pe_callB (Ak.cr_lenK (K := K) (by rfl)) (by rfl) g_len (by decide +kernel) (pa_cons (pe_ix (Ak.ix_K (K := K) (by rfl)) (pv 0) pe_int (by intro _ _; rfl)) pa_nil)) (nomark _))
      (pss_cons (ps_set (i := 3) sc_l_next.nd rfl (Or.inl rfl) (pe_ix (Ak.ix_K (K := K) (by rfl)) (pe_ix (Ak.ix_K (K := K) (by rfl)) (pv 0) pe_int (by intro _ _; rfl)) (pe_op op_sub (pe_ix (Ak.ix_K (K := K) (by rfl)) (pv 0) pe_int (by intro _ _; rfl)) pe_int) (by intro _ _; rfl)))
      (pss_cons (ps_asg (pe_ifExp (pt_cmpR op_ge (pv 3) (pe_op op_pow pe_int pe_int) (nomark _)) (pe_op op_fdiv (pv 3) (pv 1)) pe_int) (pg_sub (pv 0) pe_int set_list))
      (pss_one (ps_ret (pe_op op_mod (pv 3) (pv 1))))))
      pss_nil)
      (pss_cons (ps_asg (pe_op op_mod (pe_op Ak.op_times (pe_ix (Ak.ix_K (K := K) (by rfl)) (pv 0) pe_int (by intro _ _; rfl)) pe_int) pe_int) (pg_sub (pv 0) pe_int set_list))
      (pss_one (ps_ret (pe_op op_mod (pe_op op_fdiv (pe_ix (Ak.ix_K (K := K) (by rfl)) (pv 0) pe_int (by intro _ _; rfl)) pe_int) (pv 1)))))))), ?_⟩
    have e0 : L2.start N_l_next [V.ref d, V.int n] = [some (V.ref d), some (V.int n), none, none] := rfl
    rw [e0]
    try dsimp only [cxOf]
    walk_at "rd"
    have fin : ∀ (x y z u : Int), 0 ≤ y → 0 ≤ x → x < n → Q (.int x) (upd H d (.lst [.ref a, .int y, .int z, .int u])) := fun x y z u y0 x0 x1 =>
      k _ _ x0 x1 ⟨⟨a, ns, y, z, u, upd_same, ha, hl, y0⟩, dn, dx.keep (S := [d]) (by walk_at "kp") (fun b hb => by
        rw [List.mem_singleton.mp hb]
        exact dn)⟩ (by walk_at "kp")
    refine Ak.w_ite (fun h0 => ?_) (fun h0 => ?_)
    · walk_at "rd"
      exact fin _ _ _ _ i0 (Int.emod_nonneg _ (by omega)) (Int.emod_lt_of_pos _ n0)
    · walk_at "rd"
      refine Ak.w_ite (fun h1 => ?_) (fun h1 => ?_)
      · walk_at "rd"
        rw [List.length_map] at h1
        obtain ⟨c, hc⟩ : ∃ c, atI (ns.map V.int) (i + 1 - 1) = some (V.int c) := by
          have e : i + 1 - 1 = ((i.toNat : Nat) : Int) := by omega
          rw [e]
          refine ⟨ns[i.toNat]'(by omega), atI_nat ?_⟩
          rw [List.getElem?_map, List.getElem?_eq_getElem (by omega)]
          rfl
        walk_at "rd"
        refine Ak.w_ite (fun h2 => ?_) (fun h2 => ?_)
        all_goals
          walk_at "rd"
          rw [upd_upd]
          exact fin _ _ _ _ (by omega) (Int.emod_nonneg _ (by omega)) (Int.emod_lt_of_pos _ n0)
      · walk_at "rd"
        rw [upd_upd]
        exact fin _ _ _ _ (by omega) (Int.emod_nonneg _ (by omega)) (Int.emod_lt_of_pos _ n0)
theorem ok_dice {f : Addr} {fd : FuncData} (F : L2.Fun K "_law_dice" "_law_dice" s_l_dice f fd) (g_len : mg "len" = none) (g_int : mg "int" = none) : FnOk P w K mg base (L2.CX P w) 1 f fd ["_law_script"] (spDice K) := by
  refine Fun.okX F sc_l_dice (fun vs H Q E h => ?_) (fun cdv A outer s H vs Q E hr h => ?_)
  · obtain ⟨_, _, rfl, _⟩ := h
    rfl
  · obtain ⟨a, ns, rfl, ha, hl, k⟩ := h
    refine ⟨_, (pss_cons (ps_set (i := 1) sc_l_dice.nd rfl (Or.inl rfl) pe_int)
      (pss_cons (ps_for (passes_of rfl) rfl (Ak.pi_listK (K := K) (by rfl) (pv 0)) (pg_name (i := 2) sc_l_dice.nd rfl (Or.inl rfl))
      (pss_one (ps_set (i := 1) sc_l_dice.nd rfl (Or.inl rfl) (pe_op op_mod (pe_op (Ak.op_plusK (K := K) (by rfl)) (pe_op (Ak.op_plusK (K := K) (by rfl)) (pe_op Ak.op_times (pv 1) pe_int) (pe_op Ak.op_times (pe_op op_mod (pv 2) pe_int) pe_int)) pe_int) pe_int))))
      (pss_one (ps_ret (pe_lst (pa_cons (pv 0) (pa_cons pe_int (pa_cons (pe_op Ak.op_times (pv 1) (pe_callTy Ak.cr_intX (by rfl) g_int (by decide +kernel) (pa_cons (pe_cmpR op_gt (pe_callB (Ak.cr_lenK (K := K) (by rfl)) (by rfl) g_len (by decide +kernel) (pa_cons (pv 0) pa_nil)) pe_int (nomark _)) pa_nil))) (pa_cons pe_int pa_nil))))))))), ?_⟩
    have e0 : L2.start N_l_dice [V.ref a] = [some (V.ref a), none, none] := rfl
    rw [e0]
    try dsimp only [cxOf]
    walk_at "rd"
    refine Ak.l_forList ha (fun _ σ H' => ∃ m v, σ = [some (.ref a), some (.int m), v] ∧ H' = H) ⟨0, none, rfl, rfl⟩ (fun i σ' H' _ q => by obtain ⟨_, _, _, rfl⟩ := q; exact ha) (fun i x σ' H' hx q => ?_) (fun σ' H' q => ?_)
    · obtain ⟨m, v, rfl, rfl⟩ := q
      obtain ⟨c, rfl⟩ : ∃ c, x = V.int c := by
        rw [List.getElem?_map] at hx
        cases e : ns[i]? with
        | none => rw [e] at hx; cases hx
        | some c => rw [e] at hx; exact ⟨c, (Option.some.inj hx).symm⟩
      walk_at "rd"
      exact ⟨_, _, rfl, rfl⟩
    · obtain ⟨m, v, rfl, rfl⟩ := q
      walk_at "rd"
      exact k _ _ (by walk_at "as") ⟨⟨a, ns, 0, _, 0, upd_same, ha, hl, Int.le_refl 0⟩, by walk_at "as", by walk_at "xt"⟩ (by walk_at "kp")
end
end Ak

namespace Ak
open PySem PySem.Spec PyProof.Rows L2
section
variable {P : Program} {w : World} {K : PySem.W.Frag} {mg : Str → Option Value} {base : Heap}
theorem ok_setting {f : Addr} {fd : FuncData} (F : L2.Fun K "_law_setting" "_law_setting" s_l_setting f fd) (g_max : mg "max" = none) (g_min : mg "min" = none) (c_l_next : CalX P w K mg base 1 "_law_next" (spNext K)) : FnOk P w K mg base (L2.CX P w) 2 f fd ["_law_d"] (spSetting K) := by
  refine Fun.okX F sc_l_setting (fun vs H Q E h => ?_) (fun cdv A outer s H vs Q E hr h => ?_)
  · obtain ⟨_, _, rfl, _⟩ := h
    rfl
  · obtain ⟨H0, d, rfl, hd, k⟩ := h
    refine ⟨_, (pss_cons (ps_set (i := 1) sc_l_setting.nd rfl (Or.inl rfl) (pe_ix (Ak.ix_K (K := K) (by rfl)) (pe_lst (pa_cons (Ak.pe_cx c_l_next hr (by walk_at "lv") (by rfl) (takes_of rfl rfl rfl rfl) (pa_cons (pv 0) (pa_cons pe_int pa_nil))) (pa_cons (Ak.pe_cx c_l_next hr (by walk_at "lv") (by rfl) (takes_of rfl rfl rfl rfl) (pa_cons (pv 0) (pa_cons pe_int pa_nil))) pa_nil))) (Ak.pe_cx c_l_next hr (by walk_at "lv") (by rfl) (takes_of rfl rfl rfl rfl) (pa_cons (pv 0) (pa_cons pe_int pa_nil))) (by intro _ _; rfl)))
      (pss_cons (ps_set (i := 2) sc_l_setting.nd rfl (Or.inl rfl) (pe_op (Ak.op_plusK (K := K) (by rfl)) pe_int (pe_ix (Ak.ix_K (K := K) (by rfl)) (pe_lst (pa_cons (Ak.pe_cx c_l_next hr (by walk_at "lv") (by rfl) (takes_of rfl rfl rfl rfl) (pa_cons (pv 0) (pa_cons pe_int pa_nil))) (pa_cons (Ak.pe_cx c_l_next hr (by walk_at "lv") (by rfl) (takes_of rfl rfl rfl rfl) (pa_cons (pv 0) (pa_cons pe_int pa_nil))) pa_nil))) (Ak.pe_cx c_l_next hr (by walk_at "lv") (by rfl) (takes_of rfl rfl rfl rfl) (pa_cons (pv 0) (pa_cons pe_int pa_nil))) (by intro _ _; rfl))))
      (pss_cons (ps_set (i := 3) sc_l_setting.nd rfl (Or.inl rfl) (pe_ix (Ak.ix_K (K := K) (by rfl)) (pe_lst (pa_cons (Ak.pe_cx c_l_next hr (by walk_at "lv") (by rfl) (takes_of rfl rfl rfl rfl) (pa_cons (pv 0) (pa_cons pe_int pa_nil))) (pa_cons (Ak.pe_cx c_l_next hr (by walk_at "lv") (by rfl) (takes_of rfl rfl rfl rfl) (pa_cons (pv 0) (pa_cons pe_int pa_nil))) pa_nil))) (Ak.pe_cx c_l_next hr (by walk_at "lv") (by rfl) (takes_of rfl rfl rfl rfl) (pa_cons (pv 0) (pa_cons pe_int pa_nil))) (by intro _ _; rfl)))
      (pss_cons (ps_set (i := 4) sc_l_setting.nd rfl (Or.inl rfl) (pe_op (Ak.op_plusK (K := K) (by rfl)) (pe_op (Ak.op_plusK (K := K) (by rfl)) (pv 1) (pv 2)) (pe_ix (Ak.ix_K (K := K) (by rfl)) (pe_lst (pa_cons pe_int (pa_cons pe_int (pa_cons pe_int (pa_cons pe_int (pa_cons (pe_op op_sub (Ak.pe_cx c_l_next hr (by walk_at "lv") (by rfl) (takes_of rfl rfl rfl rfl) (pa_cons (pv 0) (pa_cons pe_int pa_nil))) pe_int) pa_nil)))))) (Ak.pe_cx c_l_next hr (by walk_at "lv") (by rfl) (takes_of rfl rfl rfl rfl) (pa_cons (pv 0) (pa_cons pe_int pa_nil))) (by intro _ _; rfl))))
      (pss_cons (ps_set (i := 4) sc_l_setting.nd rfl (Or.inl rfl) (pe_ix (Ak.ix_K (K := K) (by rfl)) (pe_lst (pa_cons (pv 4) (pa_cons (pe_op (Ak.op_plusK (K := K) (by rfl)) pe_int (Ak.pe_cx c_l_next hr (by walk_at "lv") (by rfl) (takes_of rfl rfl rfl rfl) (pa_cons (pv 0) (pa_cons pe_int pa_nil)))) (pa_cons pe_int pa_nil)))) (pe_callB (Ak.cr_maxK (K := K) (by rfl) rfl) (by rfl) g_max (by decide +kernel) (pa_cons pe_int (pa_cons (pe_op op_sub (Ak.pe_cx c_l_next hr (by walk_at "lv") (by rfl) (takes_of rfl rfl rfl rfl) (pa_cons (pv 0) (pa_cons pe_int pa_nil))) pe_int) pa_nil))) (by intro _ _; rfl)))
      (pss_one (ps_ret (pe_tup (pa_cons (pe_callB (Ak.cr_minK (K := K) (by rfl) rfl) (by rfl) g_min (by decide +kernel) (pa_cons pe_int (pa_cons (pe_callB (Ak.cr_maxK (K := K) (by rfl) rfl) (by rfl) g_max (by decide +kernel) (pa_cons pe_int (pa_cons (pv 4) pa_nil))) pa_nil))) (pa_cons (pv 3) (pa_cons (pv 1) (pa_cons (pv 2) pa_nil)))))))))))), ?_⟩
    have e0 : L2.start N_l_setting [V.ref d] = [some (V.ref d), none, none, none, none] := rfl
    rw [e0]
    try dsimp only [cxOf]
    walk_at "rd"
    refine Ak.pickP (fun v => 0 ≤ v ∧ v ≤ 8) (by walk_at "sq") (by omega) (by show _ < (2 : Int); omega) (by walk_at "pk") (fun late hlate => ?_)
    walk_at "rd"
    refine Ak.pickP (fun v => 0 ≤ v ∧ v ≤ 15) (by walk_at "sq") (by omega) (by show _ < (2 : Int); omega) (by walk_at "pk") (fun ah hah => ?_)
    walk_at "rd"
    refine Ak.pickP (fun v => 0 ≤ v ∧ v ≤ 16) (by walk_at "sq") (by omega) (by show _ < (2 : Int); omega) (by walk_at "pk") (fun wide hwide => ?_)
    walk_at "rd"
    refine Ak.pickP (fun v => True) (by walk_at "sq") (by omega) (by show _ < (5 : Int); omega) (by
      intro x hx
      (repeat (rcases List.mem_cons.mp hx with rfl | hx; · exact ⟨_, rfl, trivial⟩))
      exact absurd hx List.not_mem_nil) (fun mk _ => ?_)
    walk_at "rd"
    refine Ak.pickP (fun v => True) (by walk_at "sq") (by omega) (by show _ < (3 : Int); omega) (by
      intro x hx
      (repeat (rcases List.mem_cons.mp hx with rfl | hx; · exact ⟨_, rfl, trivial⟩))
      exact absurd hx List.not_mem_nil) (fun mk2 _ => ?_)
    walk_at "rd"
    exact k _ _ _ _ _ _ ⟨by omega, by omega, by omega, by omega, by omega, by omega, by omega, by omega⟩ (Ak.fresh_of [d] (by walk_at "as") (by walk_at "kp")) upd_same (by walk_at "dc") (by walk_at "kp")
end
end Ak

namespace Ak
open PySem PySem.Spec PyProof.Rows L2
section
variable {P : Program} {w : World} {K : PySem.W.Frag} {mg : Str → Option Value} {base : Heap}
theorem like_step {n : Nat} {f : Addr} {fd : FuncData} (F : L2.Fun K "_law_like" "_law_like" s_l_like f fd) (g_isinstance : mg "isinstance" = none) (g_bool : mg "bool" = none) (g_str : mg "str" = none) (g_int : mg "int" = none) (g_dict : mg "dict" = none) (g_tuple : mg "tuple" = none) (g_list : mg "list" = none)
    (g_len : mg "len" = none) (g_range : mg "range" = none) (c_l_like : CalX P w K mg base (n + 1) "_law_like" (spLike K n)) : FnOk P w K mg base (L2.CX P w) (n + 2) f fd ["_law_found", "_law_due"] (spLike K (n + 1)) := by
  refine Fun.okX F sc_l_like (fun vs H Q E h => ?_) (fun cdv A outer s H vs Q E hr h => ?_)
  · obtain ⟨_, _, rfl, _⟩ := h
    rfl
  · obtain ⟨x, y, rfl, al, k⟩ := h
    refine ⟨_, (pss_cons (ps_if (Ak.pt_truK (K := K) (by rfl) (pe_callB (Ak.cr_isiK (K := K) (by rfl)) (by rfl) g_isinstance (by decide +kernel) (pa_cons (pv 1) (pa_cons (Ak.pe_ty (T := "bool") (by rfl) g_bool (by decide +kernel)) pa_nil))))
      (pss_one (ps_ret (pe_and (pe_callB (Ak.cr_isiK (K := K) (by rfl)) (by rfl) g_isinstance (by decide +kernel) (pa_cons (pv 0) (pa_cons (Ak.pe_ty (T := "bool") (by rfl) g_bool (by decide +kernel)) pa_nil))) (pe_one (pe_cmpR (Ak.op_eqK (K := K) (by rfl) hr.units) (pv 0) (pv 1) (nomark _))))))
      pss_nil)
      (pss_cons (ps_if (Ak.pt_truK (K := K) (by rfl) (pe_callB (Ak.cr_isiK (K := K) (by rfl)) (by rfl) g_isinstance (by decide +kernel) (pa_cons (pv 1) (pa_cons (Ak.pe_ty (T := "str") (by rfl) g_str (by decide +kernel)) pa_nil))))
      (pss_one (ps_ret (pe_and (pe_callB (Ak.cr_isiK (K := K) (by rfl)) (by rfl) g_isinstance (by decide +kernel) (pa_cons (pv 0) (pa_cons (Ak.pe_ty (T := "str") (by rfl) g_str (by decide +kernel)) pa_nil))) (pe_one (pe_cmpR (Ak.op_eqK (K := K) (by rfl) hr.units) (pv 0) (pv 1) (nomark _))))))
      pss_nil)
      (pss_cons (ps_if (Ak.pt_truK (K := K) (by rfl) (pe_callB (Ak.cr_isiK (K := K) (by rfl)) (by rfl) g_isinstance (by decide +kernel) (pa_cons (pv 1) (pa_cons (Ak.pe_ty (T := "int") (by rfl) g_int (by decide +kernel)) pa_nil))))
      (pss_one (ps_ret (pe_and (pe_callB (Ak.cr_isiK (K := K) (by rfl)) (by rfl) g_isinstance (by decide +kernel) (pa_cons (pv 0) (pa_cons (Ak.pe_ty (T := "int") (by rfl) g_int (by decide +kernel)) pa_nil))) (pe_and (pe_not (pe_callB (Ak.cr_isiK (K := K) (by rfl)) (by rfl) g_isinstance (by decide +kernel) (pa_cons (pv 0) (pa_cons (Ak.pe_ty (T := "bool") (by rfl) g_bool (by decide +kernel)) pa_nil)))) (pe_one (pe_cmpR (Ak.op_eqK (K := K) (by rfl) hr.units) (pv 0) (pv 1) (nomark _)))))))
      pss_nil)
      (pss_cons (ps_if (pt_cmpR Ak.op_isNon (pv 1) pe_non (nomark _))
      (pss_one (ps_ret (pe_cmpR Ak.op_isNon (pv 0) pe_non (nomark _))))
      pss_nil)
      (pss_cons (ps_if (Ak.pt_truK (K := K) (by rfl) (pe_callB (Ak.cr_isiK (K := K) (by rfl)) (by rfl) g_isinstance (by decide +kernel) (pa_cons (pv 1) (pa_cons (Ak.pe_ty (T := "dict") (by rfl) g_dict (by decide +kernel)) pa_nil))))
      (pss_cons ps_never
      (pss_one ps_never))
      pss_nil)
      (pss_cons (ps_if (PW.pt (pw_or (pt_cmpR (Ak.op_neK (K := K) (by rfl) hr.units) (pe_callB (Ak.cr_isiK (K := K) (by rfl)) (by rfl) g_isinstance (by decide +kernel) (pa_cons (pv 1) (pa_cons (Ak.pe_ty (T := "tuple") (by rfl) g_tuple (by decide +kernel)) pa_nil))) (pe_callB (Ak.cr_isiK (K := K) (by rfl)) (by rfl) g_isinstance (by decide +kernel) (pa_cons (pv 0) (pa_cons (Ak.pe_ty (T := "tuple") (by rfl) g_tuple (by decide +kernel)) pa_nil))) (nomark _)) (pw_or1 (pt_cmpR (Ak.op_neK (K := K) (by rfl) hr.units) (pe_callB (Ak.cr_isiK (K := K) (by rfl)) (by rfl) g_isinstance (by decide +kernel) (pa_cons (pv 1) (pa_cons (Ak.pe_ty (T := "list") (by rfl) g_list (by decide +kernel)) pa_nil))) (pe_callB (Ak.cr_isiK (K := K) (by rfl)) (by rfl) g_isinstance (by decide +kernel) (pa_cons (pv 0) (pa_cons (Ak.pe_ty (T := "list") (by rfl) g_list (by decide +kernel)) pa_nil))) (nomark _)))))
      (pss_one (ps_ret pe_bl))
      pss_nil)
      (pss_cons (ps_if (pt_cmpR (Ak.op_neK (K := K) (by rfl) hr.units) (pe_callB (Ak.cr_lenK (K := K) (by rfl)) (by rfl) g_len (by decide +kernel) (pa_cons (pv 0) pa_nil)) (pe_callB (Ak.cr_lenK (K := K) (by rfl)) (by rfl) g_len (by decide +kernel) (pa_cons (pv 1) pa_nil)) (nomark _))
      (pss_one (ps_ret pe_bl))
      pss_nil)
      (pss_cons (ps_for (passes_of rfl) rfl (pi_range1 (by rfl) g_range (pa_cons (pe_callB (Ak.cr_lenK (K := K) (by rfl)) (by rfl) g_len (by decide +kernel) (pa_cons (pv 1) pa_nil)) pa_nil)) (pg_name (i := 3) sc_l_like.nd rfl (Or.inl rfl))
      (pss_one (ps_if (pt_not (Ak.pt_truK (K := K) (by rfl) (Ak.pe_cx c_l_like hr (by walk_at "lv") (by rfl) (takes_of rfl rfl rfl rfl) (pa_cons (pe_ix (Ak.ix_K (K := K) (by rfl)) (pv 0) (pv 3) (by intro _ _; rfl)) (pa_cons (pe_ix (Ak.ix_K (K := K) (by rfl)) (pv 1) (pv 3) (by intro _ _; rfl)) pa_nil)))))
      (pss_one (ps_ret pe_bl))
      pss_nil)))
      (pss_one (ps_ret pe_bl)))))))))), ?_⟩
    have e0 : L2.start N_l_like [x, y] = [some (x), some (y), none, none] := rfl
    rw [e0]
    try dsimp only [cxOf]
    rcases al with ⟨b, rfl, rfl⟩ | ⟨b, rfl, rfl⟩ | ⟨b, rfl, rfl⟩ | ⟨rfl, rfl⟩ | ⟨a, b, xs, ys, rfl, rfl, hx, hy, hl, hz, hk⟩ | ⟨a, b, xs, ys, rfl, rfl, hx, hy, hl, hz, hk⟩
    · walk_at "rd"
      rw [decide_eq_true rfl]
      exact k
    · walk_at "rd"
      rw [decide_eq_true rfl]
      exact k
    · walk_at "rd"
      rw [decide_eq_true rfl]
      exact k
    · walk_at "rd"
      exact k
    all_goals
      walk_at "rd"
      refine Ak.w_iteN (fun z => absurd (by rw [hl]) z) (fun _ => ?_)
      walk_at "rd"
      refine Ak.l_forR1 (by omega) (by omega) (fun _ σ H' => (∃ v, σ = [some (.ref a), some (.ref b), none, v]) ∧ H' = H) ⟨⟨none, rfl⟩, rfl⟩ (fun i σ' H' hi q => ?_) (fun σ' H' q => ?_)
      · obtain ⟨⟨v, rfl⟩, rfl⟩ := q
        have i1 : i < ys.length := by omega
        have i2 : i < xs.length := by omega
        have q1 : atI xs (i : Int) = some (xs[i]'i2) := atI_nat (List.getElem?_eq_getElem i2)
        have q2 : atI ys (i : Int) = some (ys[i]'i1) := atI_nat (List.getElem?_eq_getElem i1)
        walk_at "rd"
        refine Ak.like_go (hk i _ _ (List.getElem?_eq_getElem i2) (List.getElem?_eq_getElem i1)) ?_
        walk_at "rd"
        exact ⟨⟨_, rfl⟩, rfl⟩
      · obtain ⟨⟨v, rfl⟩, rfl⟩ := q
        walk_at "rd"
        exact k
theorem ok_like {f : Addr} {fd : FuncData} (F : L2.Fun K "_law_like" "_law_like" s_l_like f fd) (g_isinstance : mg "isinstance" = none) (g_bool : mg "bool" = none) (g_str : mg "str" = none) (g_int : mg "int" = none) (g_dict : mg "dict" = none) (g_tuple : mg "tuple" = none) (g_list : mg "list" = none)
    (g_len : mg "len" = none) (g_range : mg "range" = none) (gf : mg "_law_like" = some (.ref f)) (b : Binds K fd ["_law_found", "_law_due"] []) : ∀ n, CalX P w K mg base (n + 1) "_law_like" (spLike K n)
  | 0 => ⟨f, fd, ["_law_found", "_law_due"], ⟨fun _ _ _ _ ⟨_, _, _, al, _⟩ => al.elim, fun _ _ _ _ _ _ _ _ _ _ _ _ _ ⟨_, _, _, al, _⟩ => al.elim⟩, gf, F.kp, b⟩
  | n + 1 => ⟨f, fd, ["_law_found", "_law_due"], like_step F g_isinstance g_bool g_str g_int g_dict g_tuple g_list g_len g_range (ok_like F g_isinstance g_bool g_str g_int g_dict g_tuple g_list g_len g_range gf b n), gf, F.kp, b⟩
end
end Ak

namespace Ak
open PySem PySem.Spec PyProof.Rows L2
section
variable {P : Program} {w : World} {K : PySem.W.Frag} {mg : Str → Option Value} {base : Heap} {C : Addr}
theorem ok_check_number {b : Addr} {f : Addr} {fd : FuncData} (F : L2.Fun K "check_number" "check_number" s_check_number f fd) (B : BoundsT K w mg b) : FnOk P w K mg base (L2.CX P w) 1 f fd ["word", "number"] spCheckNumber := by
  refine Fun.okX F sc_check_number (fun vs H Q E h => ?_) (fun cdv A outer s H vs Q E hr h => ?_)
  · obtain ⟨_, _, _, _, rfl, _⟩ := h
    rfl
  · obtain ⟨wd, n, lo, hi, rfl, hb, h0, h1, hQ⟩ := h
    refine ⟨_, (pss_cons (ps_asg (pe_ix (Ak.ix_kd (K := K) (w := w) (by rfl) (by rfl)) (Ak.pe_cls (by rfl) B.g) (pv 0) (by intro _ _; rfl)) (Ak.pg_tupK (K := K) (n := 2) (by rfl) rfl (pgs_cons (pg_name (i := 2) sc_check_number.nd rfl (Or.inl rfl)) (pgs_cons (pg_name (i := 3) sc_check_number.nd rfl (Or.inl rfl)) pgs_nil))))
      (pss_one (ps_if (PW.pt (pw_or (pt_cmpR op_lt (pv 1) (pv 2) (nomark _)) (pw_or1 (pt_cmpR op_gt (pv 1) (pv 3) (nomark _)))))
      (pss_one ps_never)
      pss_nil))), ?_⟩
    have e0 : L2.start N_check_number [V.str wd, V.int n] = [some (V.str wd), some (V.int n), none, none] := rfl
    rw [e0]
    try dsimp only [cxOf]
    obtain ⟨t, kt, st⟩ := B.get wd lo hi hb
    walk_at "rd"
    refine ⟨b, wd, _, rfl, rfl, kt, ?_⟩
    have st' := st H
    walk_at "rd"
    refine Ak.w_ite (fun z => by omega) (fun _ => ?_)
    walk_at "rd"
    refine Ak.w_ite (fun z => by omega) (fun _ => ?_)
    walk_at "rd"
    exact hQ
end
end Ak

namespace Ak
open PySem PySem.Spec PyProof.Rows L2
section
variable {P : Program} {w : World} {K : PySem.W.Frag} {mg : Str → Option Value} {base : Heap} {C : Addr}
theorem ok_check_mark {f : Addr} {fd : FuncData} (F : L2.Fun K "check_mark" "check_mark" s_check_mark f fd) : FnOk P w K mg base (L2.CX P w) 1 f fd ["mark", "marks"] spCheckMark := by
  refine Fun.okX F sc_check_mark (fun vs H Q E h => ?_) (fun cdv A outer s H vs Q E hr h => ?_)
  · obtain ⟨_, _, rfl, _⟩ := h
    rfl
  · obtain ⟨k, m, rfl, k0, k1, hQ⟩ := h
    refine ⟨_, (pss_one (ps_if (PW.pt (pw_or (pt_cmpR op_lt (pv 0) pe_int (nomark _)) (pw_or1 (pt_cmpR op_ge (pv 0) (pv 1) (nomark _)))))
      (pss_one ps_never)
      pss_nil)), ?_⟩
    have e0 : L2.start N_check_mark [V.int k, V.int m] = [some (V.int k), some (V.int m)] := rfl
    rw [e0]
    try dsimp only [cxOf]
    walk_at "rd"
    refine Ak.w_ite (fun z => by omega) (fun _ => ?_)
    walk_at "rd"
    refine Ak.w_ite (fun z => by omega) (fun _ => ?_)
    walk_at "rd"
    exact hQ
theorem ok_check_setting {f : Addr} {fd : FuncData} (F : L2.Fun K "check_setting" "check_setting" s_check_setting f fd) (c_check_number : CalX P w K mg base 1 "check_number" spCheckNumber) : FnOk P w K mg base (L2.CX P w) 2 f fd ["setting"] (spCheckSetting K) := by
  refine Fun.okX F sc_check_setting (fun vs H Q E h => ?_) (fun cdv A outer s H vs Q E hr h => ?_)
  · obtain ⟨_, _, _, _, _, rfl, _⟩ := h
    rfl
  · obtain ⟨q, m, w, l, a, rfl, hq, so, k⟩ := h
    obtain ⟨so1, so2, so3, so4, so5, so6, so7, so8⟩ := so
    refine ⟨_, (pss_cons (ps_asg (pv 0) (Ak.pg_tupK (K := K) (n := 4) (by rfl) rfl (pgs_cons (pg_name (i := 1) sc_check_setting.nd rfl (Or.inl rfl)) (pgs_cons (pg_name (i := 2) sc_check_setting.nd rfl (Or.inl rfl)) (pgs_cons (pg_name (i := 3) sc_check_setting.nd rfl (Or.inl rfl)) (pgs_cons (pg_name (i := 4) sc_check_setting.nd rfl (Or.inl rfl)) pgs_nil))))))
      (pss_cons (ps_expr (Ak.pe_cx c_check_number hr (by walk_at "lv") (by rfl) (takes_of rfl rfl rfl rfl) (pa_cons pe_str (pa_cons (pv 1) pa_nil))))
      (pss_cons (ps_expr (Ak.pe_cx c_check_number hr (by walk_at "lv") (by rfl) (takes_of rfl rfl rfl rfl) (pa_cons pe_str (pa_cons (pv 2) pa_nil))))
      (pss_cons (ps_expr (Ak.pe_cx c_check_number hr (by walk_at "lv") (by rfl) (takes_of rfl rfl rfl rfl) (pa_cons pe_str (pa_cons (pv 3) pa_nil))))
      (pss_one (ps_expr (Ak.pe_cx c_check_number hr (by walk_at "lv") (by rfl) (takes_of rfl rfl rfl rfl) (pa_cons pe_str (pa_cons (pv 4) pa_nil))))))))), ?_⟩
    have e0 : L2.start N_check_setting [V.ref q] = [some (V.ref q), none, none, none, none] := rfl
    rw [e0]
    try dsimp only [cxOf]
    walk_at "rd"
    refine ⟨_, _, _, _, rfl, .marks, so1, so2, ?_⟩
    walk_at "rd"
    refine ⟨_, _, _, _, rfl, .wide, so3, so4, ?_⟩
    walk_at "rd"
    refine ⟨_, _, _, _, rfl, .late, so5, so6, ?_⟩
    walk_at "rd"
    refine ⟨_, _, _, _, rfl, .ahead, so7, so8, ?_⟩
    walk_at "rd"
    exact k _ Keep.refl
end
end Ak

namespace Ak
open PySem PySem.Spec PyProof.Rows L2
section
variable {P : Program} {w : World} {K : PySem.W.Frag} {mg : Str → Option Value} {base : Heap} {C : Addr}
theorem ok_oldest {f : Addr} {fd : FuncData} (F : L2.Fun K "_oldest" "Ear._oldest" s_Ear__oldest f fd) (T : EarT K C) : FnOk P w K mg base (L2.CX P w) 1 f fd ["self"] (spOldest C) := by
  refine Fun.okX F sc_Ear__oldest (fun vs H Q E h => ?_) (fun cdv A outer s H vs Q E hr h => ?_)
  · obtain ⟨_, _, _, _, _, _, _, rfl, _⟩ := h
    rfl
  · obtain ⟨p, c, m, w, l, g, cs, rfl, ⟨dx, hp, hc⟩, hQ⟩ := h
    obtain ⟨cl, n1, n2, n3, n4, n5⟩ := T
    refine ⟨_, (pss_one (ps_ret (pe_op op_sub (Ak.pe_fldK (K := K) (by rfl) (pv 0) (by rfl)) (Ak.pe_fldK (K := K) (by rfl) (pv 0) (by rfl))))), ?_⟩
    have e0 : L2.start N_Ear__oldest [V.ref p] = [some (V.ref p)] := rfl
    rw [e0]
    try dsimp only [cxOf]
    walk_at "rd"
    exact hQ
theorem ok_last {f : Addr} {fd : FuncData} (F : L2.Fun K "last" "Ear.last" s_Ear_last f fd) (T : EarT K C) : FnOk P w K mg base (L2.CX P w) 1 f fd ["self"] (spLast C) := by
  refine Fun.okX F sc_Ear_last (fun vs H Q E h => ?_) (fun cdv A outer s H vs Q E hr h => ?_)
  · obtain ⟨_, _, _, _, _, _, _, rfl, _⟩ := h
    rfl
  · obtain ⟨p, c, m, w, l, g, cs, rfl, ⟨dx, hp, hc⟩, hQ⟩ := h
    obtain ⟨cl, n1, n2, n3, n4, n5⟩ := T
    refine ⟨_, (pss_one (ps_ret (Ak.pe_fldK (K := K) (by rfl) (pv 0) (by rfl)))), ?_⟩
    have e0 : L2.start N_Ear_last [V.ref p] = [some (V.ref p)] := rfl
    rw [e0]
    try dsimp only [cxOf]
    walk_at "rd"
    exact hQ
theorem ok_number_of {f : Addr} {fd : FuncData} (F : L2.Fun K "_number_of" "Ear._number_of" s_Ear__number_of f fd) (T : EarT K C) (g_max : mg "max" = none) : FnOk P w K mg base (L2.CX P w) 1 f fd ["self", "mark"] (spNumberOf C) := by
  refine Fun.okX F sc_Ear__number_of (fun vs H Q E h => ?_) (fun cdv A outer s H vs Q E hr h => ?_)
  · obtain ⟨_, _, _, _, _, _, _, _, rfl, _⟩ := h
    rfl
  · obtain ⟨p, c, k, m, w, l, g, cs, rfl, ⟨dx, hp, hc⟩, m0, hQ⟩ := h
    obtain ⟨cl, n1, n2, n3, n4, n5⟩ := T
    refine ⟨_, (pss_cons (ps_set (i := 2) sc_Ear__number_of.nd rfl (Or.inl rfl) (pe_callB (Ak.cr_maxK (K := K) (by rfl) rfl) (by rfl) g_max (by decide +kernel) (pa_cons pe_int (pa_cons (pe_op op_sub (Ak.pe_fldK (K := K) (by rfl) (pv 0) (by rfl)) (Ak.pe_fldK (K := K) (by rfl) (pv 0) (by rfl))) pa_nil))))
      (pss_one (ps_ret (pe_op (Ak.op_plusK (K := K) (by rfl)) (pv 2) (pe_op op_mod (pe_op op_sub (pv 1) (pv 2)) (Ak.pe_fldK (K := K) (by rfl) (pv 0) (by rfl))))))), ?_⟩
    have e0 : L2.start N_Ear__number_of [V.ref p, V.int k] = [some (V.ref p), some (V.int k), none] := rfl
    rw [e0]
    try dsimp only [cxOf]
    walk_at "rd"
    exact hQ
theorem ok_word_of {f : Addr} {fd : FuncData} (F : L2.Fun K "_word_of" "Ear._word_of" s_Ear__word_of f fd) (T : EarT K C) (m_Ear_oldest : MetX P w K mg base 1 C "_oldest" (spOldest C)) : FnOk P w K mg base (L2.CX P w) 2 f fd ["self", "number"] (spWordOf C) := by
  refine Fun.okX F sc_Ear__word_of (fun vs H Q E h => ?_) (fun cdv A outer s H vs Q E hr h => ?_)
  · obtain ⟨_, _, _, _, _, _, _, _, rfl, _⟩ := h
    rfl
  · obtain ⟨p, c, n, m, w, l, g, cs, rfl, hE, hQ⟩ := h
    obtain ⟨dx, hp, hc⟩ := id hE
    obtain ⟨cl, n1, n2, n3, n4, n5⟩ := T
    refine ⟨_, (pss_cons (ps_if (pt_cmpR op_lt (pv 1) (Ak.pe_mx0 (pv 0) m_Ear_oldest hr (by walk_at "lv") (takes_of rfl rfl rfl rfl)) (nomark _))
      (pss_one (ps_ret pe_str))
      pss_nil)
      (pss_cons (ps_if (pt_cmpR (Ak.op_inK (K := K) (by rfl)) (pv 1) (Ak.pe_fldK (K := K) (by rfl) (pv 0) (by rfl)) (by rfl))
      (pss_one (ps_ret pe_str))
      pss_nil)
      (pss_one (ps_ret pe_str)))), ?_⟩
    have e0 : L2.start N_Ear__word_of [V.ref p, V.int n] = [some (V.ref p), some (V.int n)] := rfl
    rw [e0]
    try dsimp only [cxOf]
    walk_at "rd"
    refine ⟨p, c, m, w, l, g, cs, rfl, hE, ?_⟩
    walk_at "rd"
    unfold wordOf at hQ
    refine Ak.w_ite (fun z => ?_) (fun z => ?_)
    · rw [if_pos z] at hQ
      walk_at "rd"
      exact hQ
    · rw [if_neg z] at hQ
      walk_at "rd"
      refine Ak.w_ite (fun z => ?_) (fun z => ?_)
      · rw [if_pos z] at hQ
        walk_at "rd"
        exact hQ
      · rw [if_neg z] at hQ
        walk_at "rd"
        exact hQ
theorem ok_keep {f : Addr} {fd : FuncData} (F : L2.Fun K "_keep" "Ear._keep" s_Ear__keep f fd) (T : EarT K C) (g_max : mg "max" = none) (m_Ear_oldest : MetX P w K mg base 1 C "_oldest" (spOldest C)) : FnOk P w K mg base (L2.CX P w) 2 f fd ["self", "number"] (spKeep C) := by
  refine Fun.okX F sc_Ear__keep (fun vs H Q E h => ?_) (fun cdv A outer s H vs Q E hr h => ?_)
  · obtain ⟨_, _, _, _, _, _, _, _, rfl, _⟩ := h
    rfl
  · obtain ⟨p, c, n, m, w, l, g, cs, rfl, ⟨dx, hp, hc⟩, hl, k⟩ := h
    obtain ⟨cl, n1, n2, n3, n4, n5⟩ := T
    have cp : c ≠ p := ne_of hc hp (by intro z; cases z)
    refine ⟨_, (pss_cons (Ak.ps_fldK (K := K) (by rfl) (pv 0) (pe_callB (Ak.cr_maxK (K := K) (by rfl) rfl) (by rfl) g_max (by decide +kernel) (pa_cons (Ak.pe_fldK (K := K) (by rfl) (pv 0) (by rfl)) (pa_cons (pv 1) pa_nil))) rfl)
      (pss_cons (ps_set (i := 2) sc_Ear__keep.nd rfl (Or.inr rfl) (Ak.pe_mx0 (pv 0) m_Ear_oldest hr (by walk_at "lv") (takes_of rfl rfl rfl rfl)))
      (pss_one (Ak.ps_fldK (K := K) (by rfl) (pv 0) (pe_lc (own := [("kept", 3)]) (g := (gName 3)) rfl sc_Ear__keep.nd (Ak.pi_listK (K := K) (by rfl) (pe_op (Ak.op_plusK (K := K) (by rfl)) (Ak.pe_fldK (K := K) (by rfl) (pv 0) (by rfl)) (pe_lst (pa_cons (pv 1) pa_nil)))) (blkOk_by (N := N_Ear__keep) (sc := defScope s_Ear__keep) (by decide +kernel)) (fun _ _ _ _ _ => by exact (pg_name (i := 3) sc_Ear__keep.nd rfl (Or.inl rfl))) (fun _ _ _ _ _ => by exact (pts_one (pt_cmpR op_ge (pv 3) (pv 2) (nomark _)))) (fun _ _ _ _ _ => by exact (pv 3))) rfl)))), ?_⟩
    have e0 : L2.start N_Ear__keep [V.ref p, V.int n] = [some (V.ref p), some (V.int n), none, none] := rfl
    rw [e0]
    try dsimp only [cxOf]
    walk_at "rd"
    refine ⟨p, c, m, w, l, max g n, cs, rfl, ⟨dx, upd_same, by walk_at "lk"⟩, ?_⟩
    walk_at "rd"
    refine Ak.l_lcL (xs := (cs ++ [n]).map V.int) (by rw [List.map_append]; exact SqL.of upd_same) (fun i => (((cs ++ [n]).take i).filter fun k => decide (max g n - w ≤ k)).map V.int) rfl (fun D i x H' hD hx hk hd => ?_) (fun D H' hD hk hd => ?_)
    · obtain ⟨c', hc', rfl⟩ := map_at hx
      walk_at "rd"
      refine Ak.w_ite (fun z => ?_) (fun z => ?_)
      · walk_at "rd"
        refine kIn_go hD hd hk ?_ (filt_yes hc' (decide_eq_true z))
        have e := filt_len (l := cs ++ [n]) (i := i) (p := fun k => decide (max g n - w ≤ k)) (f := V.int)
        rw [List.length_append, List.length_singleton] at e
        rw [sizeLine_eq]
        omega
      · exact kOut_go hd hk (filt_no hc' (by rw [decide_eq_false z]; exact Bool.false_ne_true))
    · rw [List.length_map, List.take_length] at hd
      have hp' : H' p = some (.ins C dx (earF m w l (max g n) c)) := by walk_at "lk"
      walk_at "rd"
      have nD : D ≠ p := by walk_at "nel"
      refine k D _ ⟨dx, upd_same, ?_⟩ ?_ ?_
      · unfold keptOf
        walk_at "lk"
      · exact fresh_of [p] hD (by walk_at "kp")
      · walk_at "kp"
theorem ok_bits {f : Addr} {fd : FuncData} (F : L2.Fun K "_bits" "Ear._bits" s_Ear__bits f fd) (T : EarT K C) (g_range : mg "range" = none) (g_tuple : mg "tuple" = none) : FnOk P w K mg base (L2.CX P w) 1 f fd ["self"] (spBits C) := by
  refine Fun.okX F sc_Ear__bits (fun vs H Q E h => ?_) (fun cdv A outer s H vs Q E hr h => ?_)
  · obtain ⟨_, _, _, _, _, _, _, rfl, _⟩ := h
    rfl
  · obtain ⟨p, c, m, w, l, g, cs, rfl, ⟨dx, hp, hc⟩, w0, w1, k⟩ := h
    obtain ⟨cl, n1, n2, n3, n4, n5⟩ := T
    refine ⟨_, (pss_cons (ps_setLc (i := 1) (own := [("back", 2)]) (g := (gName 2)) (tt := tYes) rfl sc_Ear__bits.nd rfl rfl (sw_true rfl rfl rfl (by decide +kernel)) (pi_range2 (by rfl) g_range (pa_cons pe_int (pa_cons (pe_op (Ak.op_plusK (K := K) (by rfl)) (Ak.pe_fldK (K := K) (by rfl) (pv 0) (by rfl)) pe_int) pa_nil))) (blkOk_by (N := N_Ear__bits) (sc := defScope s_Ear__bits) (by decide +kernel)) (fun _ _ _ _ _ => by exact (pg_name (i := 2) sc_Ear__bits.nd rfl (Or.inl rfl))) (fun _ _ _ _ _ => by exact pts_nil) (fun _ _ _ _ _ => by exact (pe_op op_sub (Ak.pe_fldK (K := K) (by rfl) (pv 0) (by rfl)) (pv 2))))
      (pss_one (ps_ret (pe_callTy (Ak.cr_tupK (K := K) (by rfl)) (by rfl) g_tuple (by decide +kernel) (pa_cons (pe_lc (own := [("number", 3)]) (g := (gName 3)) (tt := tYes) rfl sc_Ear__bits.nd (Ak.pi_listK (K := K) (by rfl) (pv 1)) (blkOk_by (N := N_Ear__bits) (sc := defScope s_Ear__bits) (by decide +kernel)) (fun _ _ _ _ _ => by exact (pg_name (i := 3) sc_Ear__bits.nd rfl (Or.inl rfl))) (fun _ _ _ _ _ => by exact pts_nil) (fun _ _ _ _ _ => by exact (pe_ifExp (pt_cmpR (Ak.op_inK (K := K) (by rfl)) (pv 3) (Ak.pe_fldK (K := K) (by rfl) (pv 0) (by rfl)) (by rfl)) pe_int pe_int))) pa_nil))))), ?_⟩
    have e0 : L2.start N_Ear__bits [V.ref p] = [some (V.ref p), none, none, none] := rfl
    rw [e0]
    try dsimp only [cxOf]
    walk_at "rd"
    refine Ak.l_lcR2 ⟨by decide, by decide, by omega, by omega⟩ (fun i => (List.range i).map fun (k : Nat) => V.int (g - (1 + (k : Int)))) rfl (fun D i H' hD hi hk hd => ?_) (fun D H' hD hk hd => ?_)
    · walk_at "rd"
      exact kIn_go hD hd hk (by rw [range_len, sizeLine_eq]; omega) range_succ
    · have e : (w + 1 - 1).toNat = w.toNat := by omega
      rw [e] at hd
      have hd2 : H' D = some (.lst (((List.range w.toNat).map fun (k : Nat) => g - (1 + (k : Int))).map V.int)) := by rw [hd, List.map_map]; rfl
      walk_at "rd"
      refine Ak.l_lcL (SqL.of hd2) (fun i => (List.range i).map fun (k : Nat) => V.int (if g - (1 + (k : Int)) ∈ cs then 1 else 0)) rfl (fun D2 i x H2 hD2 hx hk2 hd3 => ?_) (fun D2 H2 hD2 hk2 hd3 => ?_)
      · obtain ⟨n, hn, rfl⟩ := map_at hx
        obtain ⟨j, hj, rfl⟩ : ∃ j, (List.range w.toNat)[i]? = some j ∧ n = g - (1 + (j : Int)) := by
          rw [List.getElem?_map] at hn
          cases e : (List.range w.toNat)[i]? with
          | none => rw [e] at hn; cases hn
          | some j => rw [e] at hn; exact ⟨j, rfl, (Option.some.inj hn).symm⟩
        obtain ⟨hi, e2⟩ := List.getElem?_eq_some_iff.mp hj
        rw [List.length_range] at hi
        rw [List.getElem_range] at e2
        subst e2
        walk_at "rd"
        refine Ak.w_ite (fun z => ?_) (fun z => ?_)
        · walk_at "rd"
          exact kIn_go hD2 hd3 hk2 (by rw [range_len, sizeLine_eq]; omega) (by rw [range_succ, if_pos z])
        · walk_at "rd"
          exact kIn_go hD2 hd3 hk2 (by rw [range_len, sizeLine_eq]; omega) (by rw [range_succ, if_neg z])
      · rw [List.length_map, List.length_map, List.length_range] at hd3
        walk_at "rd"
        exact k _ _ (fresh_of [] (by walk_at "as") (by walk_at "kp")) upd_same (by walk_at "kp")
theorem ok_tell {CB : Addr} {f : Addr} {fd : FuncData} (F : L2.Fun K "tell" "Ear.tell" s_Ear_tell f fd) (T : EarT K C) (x_BadBits : RaiseC K mg "BadBits" CB) (m_Ear_bits : MetX P w K mg base 1 C "_bits" (spBits C)) : FnOk P w K mg base (L2.CX P w) 2 f fd ["self"] (spTell C CB) := by
  refine Fun.okX F sc_Ear_tell (fun vs H Q E h => ?_) (fun cdv A outer s H vs Q E hr h => ?_)
  · obtain ⟨_, _, _, _, _, _, _, rfl, _⟩ := h
    rfl
  · obtain ⟨p, c, m, w, l, g, cs, rfl, hE, m0, w0, w1, kE, k⟩ := h
    obtain ⟨dx, hp, hc⟩ := id hE
    obtain ⟨cl, n1, n2, n3, n4, n5⟩ := T
    refine ⟨_, (pss_cons (ps_if (pt_cmpR op_lt (Ak.pe_fldK (K := K) (by rfl) (pv 0) (by rfl)) pe_int (nomark _))
      (pss_one (ps_raise rfl (takes_of rfl rfl rfl rfl) (pmk_own PySem.F.excBase_ValueError x_BadBits.q x_BadBits.g x_BadBits.k x_BadBits.r rfl)))
      pss_nil)
      (pss_one (ps_ret (pe_tup (pa_cons (pe_op op_mod (Ak.pe_fldK (K := K) (by rfl) (pv 0) (by rfl)) (Ak.pe_fldK (K := K) (by rfl) (pv 0) (by rfl))) (pa_cons (Ak.pe_mx0 (pv 0) m_Ear_bits hr (by walk_at "lv") (takes_of rfl rfl rfl rfl)) pa_nil)))))), ?_⟩
    have e0 : L2.start N_Ear_tell [V.ref p] = [some (V.ref p)] := rfl
    rw [e0]
    try dsimp only [cxOf]
    walk_at "rd"
    refine Ak.w_ite (fun z => ?_) (fun z => ?_)
    · walk_at "rd"
      exact kE z
    · walk_at "rd"
      refine ⟨p, c, m, w, l, g, cs, rfl, hE, w0, w1, fun b H' hb hb2 hk => ?_⟩
      walk_at "rd"
      exact k (by omega) _ b _ (fresh_of [] (by walk_at "as") (by walk_at "kp")) hb upd_same (by walk_at "lk") (by walk_at "kp")
theorem ok_come {f : Addr} {fd : FuncData} (F : L2.Fun K "come" "Ear.come" s_Ear_come f fd) (T : EarT K C) (c_check_mark : CalX P w K mg base 1 "check_mark" spCheckMark) (m_Ear_number_of : MetX P w K mg base 1 C "_number_of" (spNumberOf C)) (m_Ear_word_of : MetX P w K mg base 2 C "_word_of" (spWordOf C))
    (m_Ear_keep : MetX P w K mg base 2 C "_keep" (spKeep C)) : FnOk P w K mg base (L2.CX P w) 3 f fd ["self", "mark"] (spCome C) := by
  refine Fun.okX F sc_Ear_come (fun vs H Q E h => ?_) (fun cdv A outer s H vs Q E hr h => ?_)
  · obtain ⟨_, _, _, _, _, _, _, _, rfl, _⟩ := h
    rfl
  · obtain ⟨p, c, mk, m, w, l, g, cs, rfl, hE, k0, k1, hl, k⟩ := h
    obtain ⟨dx, hp, hc⟩ := id hE
    obtain ⟨cl, n1, n2, n3, n4, n5⟩ := T
    refine ⟨_, (pss_cons (ps_expr (Ak.pe_cx c_check_mark hr (by walk_at "lv") (by rfl) (takes_of rfl rfl rfl rfl) (pa_cons (pv 1) (pa_cons (Ak.pe_fldK (K := K) (by rfl) (pv 0) (by rfl)) pa_nil))))
      (pss_cons (ps_set (i := 2) sc_Ear_come.nd rfl (Or.inl rfl) (Ak.pe_mx (pv 0) m_Ear_number_of hr (by walk_at "lv") (takes_of rfl rfl rfl rfl) (pa_cons (pv 1) pa_nil)))
      (pss_cons (ps_set (i := 3) sc_Ear_come.nd rfl (Or.inl rfl) (Ak.pe_mx (pv 0) m_Ear_word_of hr (by walk_at "lv") (takes_of rfl rfl rfl rfl) (pa_cons (pv 2) pa_nil)))
      (pss_cons (ps_if (pt_cmpR (Ak.op_eqK (K := K) (by rfl) hr.units) (pv 3) pe_str (nomark _))
      (pss_one (ps_expr (Ak.pe_mx (pv 0) m_Ear_keep hr (by walk_at "lv") (takes_of rfl rfl rfl rfl) (pa_cons (pv 2) pa_nil))))
      pss_nil)
      (pss_one (ps_ret (pe_tup (pa_cons (pv 2) (pa_cons (pv 3) pa_nil))))))))), ?_⟩
    have e0 : L2.start N_Ear_come [V.ref p, V.int mk] = [some (V.ref p), some (V.int mk), none, none] := rfl
    rw [e0]
    try dsimp only [cxOf]
    walk_at "rd"
    refine ⟨mk, m, rfl, k0, k1, ?_⟩
    walk_at "rd"
    refine ⟨p, c, mk, m, w, l, g, cs, rfl, hE, by omega, ?_⟩
    walk_at "rd"
    refine ⟨p, c, _, m, w, l, g, cs, rfl, hE, ?_⟩
    walk_at "rd"
    refine Ak.w_ite (fun z => ?_) (fun z => ?_)
    · walk_at "rd"
      refine ⟨p, c, _, m, w, l, g, cs, rfl, hE, hl, fun c' H' hE' nc' hk => ?_⟩
      walk_at "rd"
      exact k _ _ _ _ _ _ c' rfl rfl (by rw [if_pos z]) (fresh_of [p] (by walk_at "as") (by walk_at "kp")) upd_same (by
        obtain ⟨dx', a1, a2⟩ := hE'
        exact ⟨dx', by walk_at "lk", by walk_at "lk"⟩) (Or.inr nc') (by walk_at "kp")
    · walk_at "rd"
      exact k _ _ _ _ _ _ c rfl rfl (by rw [if_neg z]) (by walk_at "as") upd_same ⟨dx, by walk_at "lk", by walk_at "lk"⟩ (Or.inl rfl) (by walk_at "kp")
theorem ok_ear_init {f : Addr} {fd : FuncData} (F : L2.Fun K "__init__" "Ear.__init__" s_Ear___init f fd) (T : EarT K C) (c_check_setting : CalX P w K mg base 2 "check_setting" (spCheckSetting K)) : FnOk P w K mg base (L2.CX P w) 3 f fd ["self", "setting"] (spEarInit K C) := by
  refine Fun.okX F sc_Ear___init (fun vs H Q E h => ?_) (fun cdv A outer s H vs Q E hr h => ?_)
  · obtain ⟨_, _, _, _, _, _, _, rfl, _⟩ := h
    rfl
  · obtain ⟨p, q, m, w, l, a, dx, rfl, hq, so, hp, k⟩ := h
    obtain ⟨cl, n1, n2, n3, n4, n5⟩ := T
    refine ⟨_, (pss_cons (ps_expr (Ak.pe_cx c_check_setting hr (by walk_at "lv") (by rfl) (takes_of rfl rfl rfl rfl) (pa_cons (pv 1) pa_nil)))
      (pss_cons (ps_asg (pv 1) (Ak.pg_tupK (K := K) (n := 4) (by rfl) rfl (pgs_cons (pg_name (i := 2) sc_Ear___init.nd rfl (Or.inl rfl)) (pgs_cons (pg_name (i := 3) sc_Ear___init.nd rfl (Or.inl rfl)) (pgs_cons (pg_name (i := 4) sc_Ear___init.nd rfl (Or.inl rfl)) (pgs_cons (pg_name (i := 5) sc_Ear___init.nd rfl (Or.inl rfl)) pgs_nil))))))
      (pss_cons (Ak.ps_fldK (K := K) (by rfl) (pv 0) (pv 2) rfl)
      (pss_cons (Ak.ps_fldK (K := K) (by rfl) (pv 0) (pv 3) rfl)
      (pss_cons (Ak.ps_fldK (K := K) (by rfl) (pv 0) (pv 4) rfl)
      (pss_cons (Ak.ps_fldK (K := K) (by rfl) (pv 0) (pe_un un_neg pe_int) rfl)
      (pss_one (Ak.ps_fldK (K := K) (by rfl) (pv 0) (pe_lst pa_nil) rfl)))))))), ?_⟩
    have e0 : L2.start N_Ear___init [V.ref p, V.ref q] = [some (V.ref p), some (V.ref q), none, none, none, none] := rfl
    rw [e0]
    try dsimp only [cxOf]
    walk_at "rd"
    refine ⟨q, m, w, l, a, rfl, hq, so, fun H' hk => ?_⟩
    have hp' : H' p = some (.ins C dx []) := by walk_at "lk"
    walk_at "rd"
    refine k _ _ ⟨dx, upd_same, ?_⟩ ?_ (by walk_at "kp")
    · show _ = some (HO.lst [])
      walk_at "lk"
    · exact fresh_of [p] (by walk_at "as") (by walk_at "kp")
end
end Ak

namespace Ak
open PySem PySem.Spec PyProof.Rows L2
section
variable {P : Program} {w : World} {K : PySem.W.Frag} {mg : Str → Option Value} {base : Heap} {C : Addr}
theorem w_nin01 {H : Hp} {Q : VK} {t : Addr} {i : Int} (e : H t = some (.tup [.int 0, .int 1])) (h : i = 0 ∨ i = 1) (q : Q (.bl false) H) : rNinX K (.int i) (.ref t) H Q := by
  refine w_ninO e rfl rfl rfl ?_
  rcases h with rfl | rfl
  · exact q
  · exact q
theorem ok_check_bits {f : Addr} {fd : FuncData} (F : L2.Fun K "check_bits" "check_bits" s_check_bits f fd) (g_len : mg "len" = none) : FnOk P w K mg base (L2.CX P w) 1 f fd ["bits", "wide"] (spCheckBits K) := by
  refine Fun.okX F sc_check_bits (fun vs H Q E h => ?_) (fun cdv A outer s H vs Q E hr h => ?_)
  · obtain ⟨_, _, _, rfl, _⟩ := h
    rfl
  · obtain ⟨b, bs, wi, rfl, hb, hl, h01, h16, k⟩ := h
    refine ⟨_, (pss_cons (ps_if (pt_cmpR (Ak.op_neK (K := K) (by rfl) hr.units) (pe_callB (Ak.cr_lenK (K := K) (by rfl)) (by rfl) g_len (by decide +kernel) (pa_cons (pv 0) pa_nil)) (pv 1) (nomark _))
      (pss_one ps_never)
      pss_nil)
      (pss_one (ps_for (passes_of rfl) rfl (Ak.pi_tupK (K := K) (by rfl) (pv 0)) (pg_name (i := 2) sc_check_bits.nd rfl (Or.inl rfl))
      (pss_one (ps_if (pt_cmpR (Ak.op_ninK (K := K) (by rfl)) (pv 2) (pe_tup (pa_cons pe_int (pa_cons pe_int pa_nil))) (by rfl))
      (pss_one ps_never)
      pss_nil))))), ?_⟩
    have e0 : L2.start N_check_bits [V.ref b, V.int wi] = [some (V.ref b), some (V.int wi), none] := rfl
    rw [e0]
    try dsimp only [cxOf]
    walk_at "rd"
    refine Ak.w_iteN (fun z => absurd (by rw [List.length_map]; exact hl) z) (fun _ => ?_)
    walk_at "rd"
    refine l_forTup hb (fun _ σ' H' => ∃ v, σ' = [some (.ref b), some (.int wi), v] ∧ Keep [] H H') ⟨none, rfl, Keep.refl⟩ (fun i σ' H' _ pv => by obtain ⟨_, _, pv⟩ := pv; exact pv.seqT nin_nil hb) (fun i x σ' H' hx pv => ?_) (fun σ' H' pv => ?_)
    · obtain ⟨v, rfl, hk⟩ := pv
      obtain ⟨c, hc, rfl⟩ := map_at hx
      walk_at "rd"
      refine w_nin01 (by walk_at "lk") (h01 _ (List.mem_of_getElem? hc)) ?_
      walk_at "rd"
      exact ⟨_, rfl, by walk_at "kp"⟩
    · obtain ⟨v, rfl, hk⟩ := pv
      walk_at "rd"
      exact k _ hk
theorem ok_check_telling {f : Addr} {fd : FuncData} (F : L2.Fun K "check_telling" "check_telling" s_check_telling f fd) (c_check_mark : CalX P w K mg base 1 "check_mark" spCheckMark) (c_check_bits : CalX P w K mg base 1 "check_bits" (spCheckBits K)) : FnOk P w K mg base (L2.CX P w) 2 f fd ["told", "marks", "wide"] (spCheckTelling K) := by
  refine Fun.okX F sc_check_telling (fun vs H Q E h => ?_) (fun cdv A outer s H vs Q E hr h => ?_)
  · obtain ⟨_, _, _, _, _, _, rfl, _⟩ := h
    rfl
  · obtain ⟨q, b, mk, bs, m, wi, rfl, hq, hb, k0, k1, hl, h01, h16, k⟩ := h
    refine ⟨_, (pss_cons (ps_asg (pv 0) (Ak.pg_tupK (K := K) (n := 2) (by rfl) rfl (pgs_cons (pg_name (i := 3) sc_check_telling.nd rfl (Or.inl rfl)) (pgs_cons (pg_name (i := 4) sc_check_telling.nd rfl (Or.inl rfl)) pgs_nil))))
      (pss_cons (ps_expr (Ak.pe_cx c_check_mark hr (by walk_at "lv") (by rfl) (takes_of rfl rfl rfl rfl) (pa_cons (pv 3) (pa_cons (pv 1) pa_nil))))
      (pss_one (ps_expr (Ak.pe_cx c_check_bits hr (by walk_at "lv") (by rfl) (takes_of rfl rfl rfl rfl) (pa_cons (pv 4) (pa_cons (pv 2) pa_nil))))))), ?_⟩
    have e0 : L2.start N_check_telling [V.ref q, V.int m, V.int wi] = [some (V.ref q), some (V.int m), some (V.int wi), none, none] := rfl
    rw [e0]
    try dsimp only [cxOf]
    walk_at "rd"
    refine ⟨mk, m, rfl, k0, k1, ?_⟩
    walk_at "rd"
    refine ⟨b, bs, wi, rfl, hb, hl, h01, h16, fun H' hk => ?_⟩
    walk_at "rd"
    exact k _ hk
theorem ok_mouth_init {f : Addr} {fd : FuncData} (F : L2.Fun K "__init__" "Mouth.__init__" s_Mouth___init f fd) (T : MouthT K C) (c_check_setting : CalX P w K mg base 2 "check_setting" (spCheckSetting K)) : FnOk P w K mg base (L2.CX P w) 3 f fd ["self", "setting"] (spMouthInit K C) := by
  refine Fun.okX F sc_Mouth___init (fun vs H Q E h => ?_) (fun cdv A outer s H vs Q E hr h => ?_)
  · obtain ⟨_, _, _, _, _, _, _, rfl, _⟩ := h
    rfl
  · obtain ⟨p, q, m, wi, l, a, dx, rfl, hq, so, hp, k⟩ := h
    obtain ⟨cl, n1, n2, n3, n4, n5, n6⟩ := T
    refine ⟨_, (pss_cons (ps_expr (Ak.pe_cx c_check_setting hr (by walk_at "lv") (by rfl) (takes_of rfl rfl rfl rfl) (pa_cons (pv 1) pa_nil)))
      (pss_cons (ps_asg (pv 1) (Ak.pg_tupK (K := K) (n := 4) (by rfl) rfl (pgs_cons (pg_name (i := 2) sc_Mouth___init.nd rfl (Or.inl rfl)) (pgs_cons (pg_name (i := 3) sc_Mouth___init.nd rfl (Or.inl rfl)) (pgs_cons (pg_name (i := 4) sc_Mouth___init.nd rfl (Or.inl rfl)) (pgs_cons (pg_name (i := 5) sc_Mouth___init.nd rfl (Or.inl rfl)) pgs_nil))))))
      (pss_cons (Ak.ps_fldK (K := K) (by rfl) (pv 0) (pv 2) rfl)
      (pss_cons (Ak.ps_fldK (K := K) (by rfl) (pv 0) (pv 3) rfl)
      (pss_cons (Ak.ps_fldK (K := K) (by rfl) (pv 0) (pv 5) rfl)
      (pss_cons (Ak.ps_fldK (K := K) (by rfl) (pv 0) (pe_un un_neg pe_int) rfl)
      (pss_cons (Ak.ps_fldK (K := K) (by rfl) (pv 0) (pe_un un_neg pe_int) rfl)
      (pss_one (Ak.ps_fldK (K := K) (by rfl) (pv 0) pe_dnewK rfl))))))))), ?_⟩
    have e0 : L2.start N_Mouth___init [V.ref p, V.ref q] = [some (V.ref p), some (V.ref q), none, none, none, none] := rfl
    rw [e0]
    try dsimp only [cxOf]
    walk_at "rd"
    refine ⟨q, m, wi, l, a, rfl, hq, so, fun H' hk => ?_⟩
    have hp' : H' p = some (.ins C dx []) := by walk_at "lk"
    walk_at "rd"
    refine k _ _ ⟨dx, upd_same, ?_⟩ ?_ (by walk_at "kp")
    · show _ = some (HO.dK [])
      walk_at "lk"
    · exact fresh_of [p] (by walk_at "as") (by walk_at "kp")
theorem ok_is_full {f : Addr} {fd : FuncData} (F : L2.Fun K "is_full" "Mouth.is_full" s_Mouth_is_full f fd) (T : MouthT K C) : FnOk P w K mg base (L2.CX P w) 1 f fd ["self"] (spIsFull C) := by
  refine Fun.okX F sc_Mouth_is_full (fun vs H Q E h => ?_) (fun cdv A outer s H vs Q E hr h => ?_)
  · obtain ⟨_, _, _, _, _, _, _, _, rfl, _⟩ := h
    rfl
  · obtain ⟨p, c, m, wi, a, l, g, ks, rfl, ⟨dx, hp, hc⟩, hQ⟩ := h
    obtain ⟨cl, n1, n2, n3, n4, n5, n6⟩ := T
    refine ⟨_, (pss_one (ps_ret (pe_cmpR op_gt (pe_op (Ak.op_plusK (K := K) (by rfl)) (Ak.pe_fldK (K := K) (by rfl) (pv 0) (by rfl)) pe_int) (pe_op (Ak.op_plusK (K := K) (by rfl)) (Ak.pe_fldK (K := K) (by rfl) (pv 0) (by rfl)) (Ak.pe_fldK (K := K) (by rfl) (pv 0) (by rfl))) (nomark _)))), ?_⟩
    have e0 : L2.start N_Mouth_is_full [V.ref p] = [some (V.ref p)] := rfl
    rw [e0]
    try dsimp only [cxOf]
    walk_at "rd"
    exact hQ
theorem ok_mlast {f : Addr} {fd : FuncData} (F : L2.Fun K "last" "Mouth.last" s_Mouth_last f fd) (T : MouthT K C) : FnOk P w K mg base (L2.CX P w) 1 f fd ["self"] (spMLast C) := by
  refine Fun.okX F sc_Mouth_last (fun vs H Q E h => ?_) (fun cdv A outer s H vs Q E hr h => ?_)
  · obtain ⟨_, _, _, _, _, _, _, _, rfl, _⟩ := h
    rfl
  · obtain ⟨p, c, m, wi, a, l, g, ks, rfl, ⟨dx, hp, hc⟩, hQ⟩ := h
    obtain ⟨cl, n1, n2, n3, n4, n5, n6⟩ := T
    refine ⟨_, (pss_one (ps_ret (Ak.pe_fldK (K := K) (by rfl) (pv 0) (by rfl)))), ?_⟩
    have e0 : L2.start N_Mouth_last [V.ref p] = [some (V.ref p)] := rfl
    rw [e0]
    try dsimp only [cxOf]
    walk_at "rd"
    exact hQ
theorem ok_sure {f : Addr} {fd : FuncData} (F : L2.Fun K "sure" "Mouth.sure" s_Mouth_sure f fd) (T : MouthT K C) (g_sorted : mg "sorted" = none) : FnOk P w K mg base (L2.CX P w) 1 f fd ["self"] (spSure C) := by
  refine Fun.okX F sc_Mouth_sure (fun vs H Q E h => ?_) (fun cdv A outer s H vs Q E hr h => ?_)
  · obtain ⟨_, _, _, _, _, _, _, _, rfl, _⟩ := h
    rfl
  · obtain ⟨p, c, m, wi, a, l, g, ks, rfl, ⟨dx, hp, hc⟩, k⟩ := h
    obtain ⟨cl, n1, n2, n3, n4, n5, n6⟩ := T
    refine ⟨_, (pss_one (ps_ret (pe_callB (Ak.cr_sortK (K := K) (by rfl) rfl) (by rfl) g_sorted (by decide +kernel) (pa_cons (Ak.pe_fldK (K := K) (by rfl) (pv 0) (by rfl)) pa_nil)))), ?_⟩
    have e0 : L2.start N_Mouth_sure [V.ref p] = [some (V.ref p)] := rfl
    rw [e0]
    try dsimp only [cxOf]
    walk_at "rd"
    exact k _ _ (by walk_at "as") upd_same (by walk_at "kp")
theorem w_fmt {te : TE} {σ : L2.St} {H : Hp} {Q : VK} (h : te σ H fun x H1 => (∃ y : Str, x = .str y ∧ y.length ≤ sizeLine ∧ Q (.str y) H1) ∨ ∃ i : Int, x = .int i ∧ i.natAbs.log2 < 1920 ∧ Q (.str (toString i)) H1) : tFmt te σ H Q := h
theorem log2_small {n : Nat} (h : n < 1152921504606846976) : n.log2 < 60 := by
  rcases Nat.eq_zero_or_pos n with rfl | z
  · decide
  · exact (Nat.log2_lt (by omega)).mpr h
theorem fmt_len {acc : Str} {i : Int} (h1 : acc.length ≤ 1000) (h2 : i.natAbs.log2 < 60) : (acc ++ Str.ofString (toString i)).length ≤ 1100 := by
  have e := int_text_length_le (k := 60) (by decide) h2
  rw [Str.length_append, PySem.ofString_length]
  omega
theorem ok_send {CF : Addr} {f : Addr} {fd : FuncData} (F : L2.Fun K "send" "Mouth.send" s_Mouth_send f fd) (T : MouthT K C) (x_Full : RaiseC K mg "Full" CF) (m_Mouth_is_full : MetX P w K mg base 1 C "is_full" (spIsFull C)) : FnOk P w K mg base (L2.CX P w) 2 f fd ["self"] (spSend C CF) := by
  refine Fun.okX F sc_Mouth_send (fun vs H Q E h => ?_) (fun cdv A outer s H vs Q E hr h => ?_)
  · obtain ⟨_, _, _, _, _, _, _, _, rfl, _⟩ := h
    rfl
  · obtain ⟨p, c, m, wi, a, l, g, ks, rfl, hM, m0, l0, l1, kE, k⟩ := h
    obtain ⟨dx, hp, hc⟩ := id hM
    have pc := hM.ne
    obtain ⟨cl, n1, n2, n3, n4, n5, n6⟩ := T
    refine ⟨_, (pss_cons (ps_if (Ak.pt_truK (K := K) (by rfl) (Ak.pe_mx0 (pv 0) m_Mouth_is_full hr (by walk_at "lv") (takes_of rfl rfl rfl rfl)))
      (pss_one (ps_raise rfl (takes_of rfl rfl rfl rfl) (pmk_ownA PySem.F.excBase_ValueError x_Full.q x_Full.g x_Full.k x_Full.r rfl (pa_cons (pe_joined (.cons pe_str (.cons (pe_fmt (pe_op (Ak.op_plusK (K := K) (by rfl)) (Ak.pe_fldK (K := K) (by rfl) (pv 0) (by rfl)) pe_int)) (.cons pe_str .nil)))) pa_nil))))
      pss_nil)
      (pss_cons (ps_fldaug (pv 0) pe_int in_add)
      (pss_one (ps_ret (pe_tup (pa_cons (Ak.pe_fldK (K := K) (by rfl) (pv 0) (by rfl)) (pa_cons (pe_op op_mod (Ak.pe_fldK (K := K) (by rfl) (pv 0) (by rfl)) (Ak.pe_fldK (K := K) (by rfl) (pv 0) (by rfl))) pa_nil))))))), ?_⟩
    have e0 : L2.start N_Mouth_send [V.ref p] = [some (V.ref p)] := rfl
    rw [e0]
    try dsimp only [cxOf]
    walk_at "rd"
    refine ⟨p, c, m, wi, a, l, g, ks, rfl, hM, ?_⟩
    walk_at "rd"
    refine Ak.w_ite (fun z => ?_) (fun z => ?_)
    · walk_at "rd"
      refine ⟨_, rfl, by decide, ?_⟩
      show tFmt _ _ _ _
      refine w_fmt ?_
      walk_at "rd"
      have hb : (l + 1).natAbs.log2 < 60 := log2_small (by omega)
      have e1 := fmt_len (acc := Str.empty ++ "letter ") (i := l + 1) (by decide) hb
      refine Or.inr ⟨_, rfl, by omega, _, rfl, by rw [sizeLine_eq]; omega, ?_⟩
      refine ⟨_, rfl, ?_, ?_⟩
      · rw [Str.length_append, sizeLine_eq]
        have : (Str.ofString " is too far ahead").length = 17 := by decide +kernel
        omega
      · exact ⟨by show 1 ≤ sizeLine; decide, kE z⟩
    · walk_at "rd"
      exact k z _ _ (fresh_of [p] (by walk_at "as") (by walk_at "kp")) upd_same ⟨dx, by walk_at "lk", by walk_at "lk"⟩ (by walk_at "kp")
theorem ok_numbers {f : Addr} {fd : FuncData} (F : L2.Fun K "_numbers_of" "Mouth._numbers_of" s_Mouth__numbers_of f fd) (T : MouthT K C) (g_enumerate : mg "enumerate" = none) (g_sorted : mg "sorted" = none) : FnOk P w K mg base (L2.CX P w) 1 f fd ["self", "told"] (spNumbers K C) := by
  refine Fun.okX F sc_Mouth__numbers_of (fun vs H Q E h => ?_) (fun cdv A outer s H vs Q E hr h => ?_)
  · obtain ⟨_, _, _, _, _, _, _, _, _, _, _, _, rfl, _⟩ := h
    rfl
  · obtain ⟨p, c, q, b, m, wi, a, l, g, ks, mk, bs, rfl, ⟨dx, hp, hc⟩, hq, hb, m0, h16, k⟩ := h
    obtain ⟨cl, n1, n2, n3, n4, n5, n6⟩ := T
    refine ⟨_, (pss_cons (ps_asg (pv 1) (Ak.pg_tupK (K := K) (n := 2) (by rfl) rfl (pgs_cons (pg_name (i := 2) sc_Mouth__numbers_of.nd rfl (Or.inl rfl)) (pgs_cons (pg_name (i := 3) sc_Mouth__numbers_of.nd rfl (Or.inl rfl)) pgs_nil))))
      (pss_cons (ps_set (i := 4) sc_Mouth__numbers_of.nd rfl (Or.inr rfl) (pe_op op_sub (Ak.pe_fldK (K := K) (by rfl) (pv 0) (by rfl)) (pe_op op_mod (pe_op op_sub (Ak.pe_fldK (K := K) (by rfl) (pv 0) (by rfl)) (pv 2)) (Ak.pe_fldK (K := K) (by rfl) (pv 0) (by rfl)))))
      (pss_cons (ps_setLc (i := 5) (own := [("back", 6), ("bit", 7)])  rfl sc_Mouth__numbers_of.nd rfl rfl (sw_true rfl rfl rfl (by decide +kernel)) (Ak.pi_enumTS (K := K) (by rfl) (by rfl) g_enumerate (pa_cons (pv 3) pa_nil) (pk_cons pe_int pk_nil)) (blkOk_by (N := N_Mouth__numbers_of) (sc := defScope s_Mouth__numbers_of) (by decide +kernel)) (fun _ _ _ _ _ => by exact (Ak.pg_tupK (K := K) (n := 2) (by rfl) rfl (pgs_cons (pg_name (i := 6) sc_Mouth__numbers_of.nd rfl (Or.inl rfl)) (pgs_cons (pg_name (i := 7) sc_Mouth__numbers_of.nd rfl (Or.inl rfl)) pgs_nil)))) (fun _ _ _ _ _ => by exact (pts_one (pt_cmpR (Ak.op_eqK (K := K) (by rfl) hr.units) (pv 7) pe_int (nomark _)))) (fun _ _ _ _ _ => by exact (pe_op op_sub (pv 4) (pv 6))))
      (pss_one (ps_ret (pe_callB (Ak.cr_sortK (K := K) (by rfl) rfl) (by rfl) g_sorted (by decide +kernel) (pa_cons (pe_op (Ak.op_plusK (K := K) (by rfl)) (pe_lst (pa_cons (pv 4) pa_nil)) (pv 5)) pa_nil))))))), ?_⟩
    have e0 : L2.start N_Mouth__numbers_of [V.ref p, V.ref q] = [some (V.ref p), some (V.ref q), none, none, none, none, none, none] := rfl
    rw [e0]
    try dsimp only [cxOf]
    walk_at "rd"
    change kLcE _ _ _ _ _ _ _ _ _ _
    refine l_lcE hb (by decide) (by decide) (fun i => (othersOf (newestOf m l mk) bs i).map V.int) rfl (fun D i x t H' hD hx hk hd nt => ?_) (fun D H' hD hk hd => ?_)
    · obtain ⟨v, hv, rfl⟩ := map_at hx
      walk_at "rd"
      refine Ak.w_ite (fun z => ?_) (fun z => ?_)
      · subst z
        walk_at "rd"
        refine kIn_go hD (by walk_at "lk") (by walk_at "kp") ?_ (by rw [others_yes hv, List.map_append]; rfl)
        have := others_len (n := newestOf m l mk) (bs := bs) (i := i)
        have hi := (List.getElem?_eq_some_iff.mp hv).1
        rw [List.length_map, sizeLine_eq]
        omega
      · exact kOut_go (by walk_at "lk") (by walk_at "kp") (by rw [others_no (fun e => z (by rw [hv] at e; exact Option.some.inj e))])
    · rw [List.length_map] at hd
      have e1 : (othersOf (newestOf m l mk) bs bs.length).length ≤ 16 := Nat.le_trans others_len h16
      walk_at "rd"
      refine w_sortO (ns := allOf (newestOf m l mk) bs) upd_same fun r nr => ?_
      walk_at "rd"
      exact k _ _ (fresh_of [] (by walk_at "as") (by walk_at "kp")) upd_same (by walk_at "kp")
theorem hear_all {n : Int} {bs ks : List Int} {i : Nat} (h : i < (foundOf n bs ks).length) : (foundOf n bs ks)[i] ∉ ks ++ (foundOf n bs ks).take i := by
  intro m
  rcases List.mem_append.mp m with m | m
  · have := List.getElem_mem h
    unfold foundOf at this
    have q := (List.mem_filter.mp this).2
    unfold foundOf at m
    rw [decide_eq_true m] at q
    cases q
  · have nd : (foundOf n bs ks).Nodup := (srt_nodup all_nd).filter _
    obtain ⟨j, hj, e⟩ := List.mem_iff_getElem.mp m
    rw [List.length_take] at hj
    rw [List.getElem_take] at e
    have := List.pairwise_iff_getElem.mp nd j i (by omega) h (by omega)
    exact this e
theorem ok_hear {CB : Addr} {f : Addr} {fd : FuncData} (F : L2.Fun K "hear" "Mouth.hear" s_Mouth_hear f fd) (T : MouthT K C) (g_max : mg "max" = none) (x_BadBits : RaiseC K mg "BadBits" CB) (c_check_telling : CalX P w K mg base 2 "check_telling" (spCheckTelling K)) (m_Mouth_numbers_of : MetX P w K mg base 1 C "_numbers_of" (spNumbers K C)) : FnOk P w K mg base (L2.CX P w) 3 f fd ["self", "told"] (spHear K C CB) := by
  refine Fun.okX F sc_Mouth_hear (fun vs H Q E h => ?_) (fun cdv A outer s H vs Q E hr h => ?_)
  · obtain ⟨_, _, _, _, _, _, _, _, _, _, _, _, rfl, _⟩ := h
    rfl
  · obtain ⟨p, c, q, b, m, wi, a, l, g, ks, mk, bs, rfl, hM, hq, hb, k0, k1, hl, h01, h16, hks, kE, k⟩ := h
    obtain ⟨dx, hp, hc⟩ := id hM
    have pc := hM.ne
    obtain ⟨cl, n1, n2, n3, n4, n5, n6⟩ := T
    refine ⟨_, (pss_cons (ps_expr (Ak.pe_cx c_check_telling hr (by walk_at "lv") (by rfl) (takes_of rfl rfl rfl rfl) (pa_cons (pv 1) (pa_cons (Ak.pe_fldK (K := K) (by rfl) (pv 0) (by rfl)) (pa_cons (Ak.pe_fldK (K := K) (by rfl) (pv 0) (by rfl)) pa_nil)))))
      (pss_cons (ps_set (i := 2) sc_Mouth_hear.nd rfl (Or.inl rfl) (Ak.pe_mx (pv 0) m_Mouth_numbers_of hr (by walk_at "lv") (takes_of rfl rfl rfl rfl) (pa_cons (pv 1) pa_nil)))
      (pss_cons (ps_if (pt_cmpR op_lt (pe_ix (Ak.ix_K (K := K) (by rfl)) (pv 2) pe_int (by intro _ _; rfl)) pe_int (nomark _))
      (pss_one (ps_raise rfl (takes_of rfl rfl rfl rfl) (pmk_own PySem.F.excBase_ValueError x_BadBits.q x_BadBits.g x_BadBits.k x_BadBits.r rfl)))
      pss_nil)
      (pss_cons (ps_setLc (i := 3) (own := [("number", 4)]) (g := (gName 4)) rfl sc_Mouth_hear.nd rfl rfl (sw_true rfl rfl rfl (by decide +kernel)) (Ak.pi_listK (K := K) (by rfl) (pv 2)) (blkOk_by (N := N_Mouth_hear) (sc := defScope s_Mouth_hear) (by decide +kernel)) (fun _ _ _ _ _ => by exact (pg_name (i := 4) sc_Mouth_hear.nd rfl (Or.inl rfl))) (fun _ _ _ _ _ => by exact (pts_one (pt_cmp (pc_dnotin (hu_of hr) (pv 4) (Ak.pe_fldK (K := K) (by rfl) (pv 0) (by rfl))) rfl))) (fun _ _ _ _ _ => by exact (pv 4)))
      (pss_cons (ps_for (passes_of rfl) rfl (Ak.pi_listK (K := K) (by rfl) (pv 3)) (pg_name (i := 5) sc_Mouth_hear.nd rfl (Or.inl rfl))
      (pss_one (ps_dput (hu_of hr) (Ak.pe_fldK (K := K) (by rfl) (pv 0) (by rfl)) (pv 5) pe_bl rfl)))
      (pss_cons (Ak.ps_fldK (K := K) (by rfl) (pv 0) (pe_callB (Ak.cr_maxK (K := K) (by rfl) rfl) (by rfl) g_max (by decide +kernel) (pa_cons (Ak.pe_fldK (K := K) (by rfl) (pv 0) (by rfl)) (pa_cons (pe_ix (Ak.ix_K (K := K) (by rfl)) (pv 2) (pe_un un_neg pe_int) (by intro _ _; rfl)) pa_nil))) rfl)
      (pss_one (ps_ret (pv 3))))))))), ?_⟩
    have e0 : L2.start N_Mouth_hear [V.ref p, V.ref q] = [some (V.ref p), some (V.ref q), none, none, none, none] := rfl
    rw [e0]
    try dsimp only [cxOf]
    walk_at "rd"
    refine ⟨q, b, mk, bs, m, wi, rfl, hq, hb, k0, k1, hl, h01, h16, fun H1 hk1 => ?_⟩
    walk_at "rd"
    refine ⟨p, c, q, b, m, wi, a, l, g, ks, mk, bs, rfl, hM.keep hk1 nin_nil nin_nil, hk1.seqT nin_nil hq, hk1.seqT nin_nil hb, by omega, h16, fun f H2 hf hf2 hk2 => ?_⟩
    have hk12 := hk1.trans hk2
    have hM2 := hM.keep hk12 nin_nil nin_nil
    obtain ⟨dx2, hp2, hc2⟩ := id hM2
    obtain ⟨x0, ex0, hx0, hx0'⟩ := srt_first (ns := allOf (newestOf m l mk) bs) (List.cons_ne_nil _ _)
    obtain ⟨x9, ex9, hx9, hx9'⟩ := srt_last (ns := allOf (newestOf m l mk) bs) (List.cons_ne_nil _ _)
    have e9 : x9 = newestOf m l mk := Int.le_antisymm (all_le hx9) (hx9' _ List.mem_cons_self)
    walk_at "rd"
    refine Ak.w_ite (fun z => ?_) (fun z => ?_)
    · walk_at "rd"
      exact kE ⟨x0, hx0, z⟩ _ hk12
    · walk_at "rd"
      refine Ak.l_lcL (xs := (srt (allOf (newestOf m l mk) bs)).map V.int) (SqL.of hf2) (fun i => (((srt (allOf (newestOf m l mk) bs)).take i).filter fun x => !decide (x ∈ ks)).map V.int) rfl (fun D i x H' hD hx hk hd => ?_) (fun D H' hD hk hd => ?_)
      · obtain ⟨c', hc', rfl⟩ := map_at hx
        have hp' : H' p = some (.ins C dx2 (mouthF m wi a l g c)) := by walk_at "lk"
        walk_at "rd"
        refine Ak.w_iteN (fun z => ?_) (fun z => ?_)
        · walk_at "rd"
          refine kIn_go hD hd hk ?_ (filt_yes hc' (by rw [decide_eq_false z]; rfl))
          have e := filt_len (l := srt (allOf (newestOf m l mk) bs)) (i := i) (p := fun x => !decide (x ∈ ks)) (f := V.int)
          have e2 := all_len (n := newestOf m l mk) (bs := bs)
          rw [srt_len] at e
          rw [sizeLine_eq]
          omega
        · exact kOut_go hd hk (filt_no hc' (by rw [decide_eq_true z]; exact Bool.false_ne_true))
      · rw [List.length_map, List.take_length] at hd
        have hd' : H' D = some (.lst ((foundOf (newestOf m l mk) bs ks).map V.int)) := hd
        have hp3 : H' p = some (.ins C dx2 (mouthF m wi a l g c)) := by walk_at "lk"
        have hc3 : H' c = some (.dK (sureD ks)) := by walk_at "lk"
        have hf3 : H' f = some (.lst ((srt (allOf (newestOf m l mk) bs)).map V.int)) := by walk_at "lk"
        have fl : (foundOf (newestOf m l mk) bs ks).length ≤ 17 := by
          have e := List.length_filter_le (fun x => !decide (x ∈ ks)) (srt (allOf (newestOf m l mk) bs))
          have e2 := all_len (n := newestOf m l mk) (bs := bs)
          rw [srt_len] at e
          unfold foundOf
          omega
        have cD : D ≠ c := ne_of hd' hc3 (by intro z; cases z)
        have cf : f ≠ c := ne_of hf3 hc3 (by intro z; cases z)
        walk_at "rd"
        refine l_forList (xs := (foundOf (newestOf m l mk) bs ks).map V.int) (SqL.of hd') (fun i σ' H4 => ∃ v5, σ' = [some (.ref p), some (.ref q), some (.ref f), some (.ref D), none, v5] ∧ Keep [c] H' H4 ∧ H4 c = some (.dK (sureD (ks ++ (foundOf (newestOf m l mk) bs ks).take i))))
          ⟨none, rfl, Keep.refl, by rw [List.take_zero, List.append_nil]; exact hc3⟩ (fun i σ' H4 _ pv => by obtain ⟨_, _, pv, _⟩ := pv; exact pv.seqL (nin_cons cD nin_nil) (SqL.of hd')) (fun i x σ' H4 hx pv => ?_) (fun σ' H4 pv => ?_)
        · obtain ⟨v5, rfl, hk4, hc4⟩ := pv
          obtain ⟨y, hy, rfl⟩ := map_at hx
          obtain ⟨hi, ey⟩ := List.getElem?_eq_some_iff.mp hy
          have nin : y ∉ ks ++ (foundOf (newestOf m l mk) bs ks).take i := ey ▸ hear_all hi
          have hp4 : H4 p = some (.ins C dx2 (mouthF m wi a l g c)) := by walk_at "lk"
          walk_at "rd"
          refine w_dputN hc4 nin ?_ ⟨_, rfl, by walk_at "kp", ?_⟩
          · rw [List.length_append, List.length_take, sizeLine_eq]
            omega
          · rw [upd_same, take_at hy, List.append_assoc]
        · obtain ⟨v5, rfl, hk4, hc4⟩ := pv
          rw [List.length_map, List.take_length] at hc4
          have hp4 : H4 p = some (.ins C dx2 (mouthF m wi a l g c)) := by walk_at "lk"
          have hf4 : H4 f = some (.lst ((srt (allOf (newestOf m l mk) bs)).map V.int)) := by walk_at "lk"
          have hd4 : H4 D = some (.lst ((foundOf (newestOf m l mk) bs ks).map V.int)) := by walk_at "lk"
          have pD : D ≠ p := ne_of hd4 hp4 (by intro z; cases z)
          have hk14 : Keep [p, c] H H4 := ((hk12.trans hk).mono sub_nil).trans (hk4.mono (fun b hb => by rw [List.mem_singleton.mp hb]; exact List.mem_cons_of_mem _ List.mem_cons_self))
          walk_at "rd"
          rw [e9]
          refine k (fun x hx => by have := hx0' x hx; omega) _ _ (hk12.2 _ hD) ((upd_ne pD).trans hd4) ⟨dx2, upd_same, ?_⟩ (hk14.set List.mem_cons_self)
          exact (upd_ne (Ne.symm pc)).trans hc4
end
end Ak

namespace Ak
open PySem PySem.Spec PyProof.Rows L2
section
variable {P : Program} {w : World} {K : PySem.W.Frag} {mg : Str → Option Value} {base : Heap}
theorem ok_own_ear {f : Addr} {fd : FuncData} (F : L2.Fun K "_law_ear" "_law_ear" s_l_ear f fd) : FnOk P w K mg base (L2.CX P w) 1 f fd [] spOwnEar := by
  refine Fun.okX F sc_l_ear (fun vs H Q E h => ?_) (fun cdv A outer s H vs Q E hr h => ?_)
  · obtain ⟨rfl, _⟩ := h
    rfl
  · obtain ⟨rfl, k⟩ := h
    refine ⟨_, (pss_one (ps_ret (pe_disp (pps_cons pe_str (pe_un un_neg pe_int) (pps_cons pe_str (pe_lst pa_nil) pps_nil)) (by rfl) (by rfl) (fun z => by cases z) (by decide)))), ?_⟩
    have e0 : L2.start N_l_ear [] = [] := rfl
    rw [e0]
    try dsimp only [cxOf]
    walk_at "rd"
    refine Ak.l_disp [(Sum.inr "newest", .int (-1)), (Sum.inr "came", .ref _)] (by walk_at "lk") (Nat.le_of_ble_eq_true rfl) (merge_ok _ (by walk_at "nd")) ?_
    refine k _ _ _ (by walk_at "as") ?_ upd_same ?_ (by walk_at "kp")
    · exact fresh_of [] (by walk_at "as") (by walk_at "kp")
    · walk_at "lk"
theorem ok_taken {f : Addr} {fd : FuncData} (F : L2.Fun K "_law_taken" "_law_taken" s_l_taken f fd) (g_max : mg "max" = none) : FnOk P w K mg base (L2.CX P w) 1 f fd ["_law_setting_here", "_law_ear_here", "_law_mark"] (spTaken K) := by
  refine Fun.okX F sc_l_taken (fun vs H Q E h => ?_) (fun cdv A outer s H vs Q E hr h => ?_)
  · obtain ⟨_, _, _, _, _, _, _, _, _, rfl, _⟩ := h
    rfl
  · obtain ⟨q, o, k, m, w, l, a, n, cs, rfl, hq, ⟨c, ho, hc⟩, k0, k1, hQ⟩ := h
    refine ⟨_, (pss_cons (ps_set (i := 3) sc_l_taken.nd rfl (Or.inl rfl) (pe_callB (Ak.cr_maxK (K := K) (by rfl) rfl) (by rfl) g_max (by decide +kernel) (pa_cons pe_int (pa_cons (pe_op op_sub (pe_dget (hu_of hr) (pv 1) pe_str (by intro _ _; rfl)) (pe_ix (Ak.ix_K (K := K) (by rfl)) (pv 0) pe_int (by intro _ _; rfl))) pa_nil))))
      (pss_cons (ps_while (passes_of rfl) (pt_cmpR (Ak.op_neK (K := K) (by rfl) hr.units) (pe_op op_mod (pv 3) (pe_ix (Ak.ix_K (K := K) (by rfl)) (pv 0) pe_int (by intro _ _; rfl))) (pv 2) (nomark _))
      (pss_one (ps_set (i := 3) sc_l_taken.nd rfl (Or.inl rfl) (pe_op (Ak.op_plusK (K := K) (by rfl)) (pv 3) pe_int))))
      (pss_one (ps_ret (pv 3))))), ?_⟩
    have e0 : L2.start N_l_taken [V.ref q, V.ref o, V.int k] = [some (V.ref q), some (V.ref o), some (V.int k), none] := rfl
    rw [e0]
    try dsimp only [cxOf]
    walk_at "rd"
    refine l_while (fun j σ' H' => ∃ i, σ' = [some (V.ref q), some (V.ref o), some (V.int k), some (V.int i)] ∧ H' = H ∧ max 0 (n - l) ≤ i ∧ i ≤ numOf m l n k ∧ j = (numOf m l n k - i).toNat) _ ⟨_, rfl, rfl, Int.le_refl _, numOf_le (by omega), rfl⟩ (fun j σ' H' w => ?_)
    obtain ⟨i, rfl, rfl, i0, i1, rfl⟩ := w
    walk_at "rd"
    refine Ak.w_iteN (fun z => ?_) (fun z => ?_)
    · have lt : i < numOf m l n k := by
        have : i ≠ numOf m l n k := fun e => z (by rw [e]; exact numOf_mod k0 k1)
        omega
      walk_at "rd"
      exact ⟨_, by omega, i + 1, rfl, rfl, by omega, by omega, rfl⟩
    · walk_at "rd"
      rw [numOf_uniq k0 k1 i0 i1 z]
      exact hQ
theorem ok_own_come {f : Addr} {fd : FuncData} (F : L2.Fun K "_law_come" "_law_come" s_l_come f fd) (g_max : mg "max" = none) (c_l_taken : CalX P w K mg base 1 "_law_taken" (spTaken K)) : FnOk P w K mg base (L2.CX P w) 2 f fd ["_law_setting_here", "_law_ear_here", "_law_mark"] (spOwnCome K) := by
  refine Fun.okX F sc_l_come (fun vs H Q E h => ?_) (fun cdv A outer s H vs Q E hr h => ?_)
  · obtain ⟨_, _, _, _, _, _, _, _, _, rfl, _⟩ := h
    rfl
  · obtain ⟨q, o, mk, m, w, l, a, n, cs, rfl, hq, hO, k0, k1, hl, k⟩ := h
    obtain ⟨c, ho, hc⟩ := id hO
    refine ⟨_, (pss_cons (ps_set (i := 3) sc_l_come.nd rfl (Or.inl rfl) (Ak.pe_cx c_l_taken hr (by walk_at "lv") (by rfl) (takes_of rfl rfl rfl rfl) (pa_cons (pv 0) (pa_cons (pv 1) (pa_cons (pv 2) pa_nil)))))
      (pss_cons (ps_if (pt_cmpR op_lt (pv 3) (pe_op op_sub (pe_dget (hu_of hr) (pv 1) pe_str (by intro _ _; rfl)) (pe_ix (Ak.ix_K (K := K) (by rfl)) (pv 0) pe_int (by intro _ _; rfl))) (nomark _))
      (pss_one (ps_ret (pe_tup (pa_cons (pv 3) (pa_cons pe_str pa_nil)))))
      pss_nil)
      (pss_cons (ps_if (pt_cmpR (Ak.op_inK (K := K) (by rfl)) (pv 3) (pe_dget (hu_of hr) (pv 1) pe_str (by intro _ _; rfl)) (by rfl))
      (pss_one (ps_ret (pe_tup (pa_cons (pv 3) (pa_cons pe_str pa_nil)))))
      pss_nil)
      (pss_cons (ps_dput (hu_of hr) (pv 1) pe_str (pe_callB (Ak.cr_maxK (K := K) (by rfl) rfl) (by rfl) g_max (by decide +kernel) (pa_cons (pe_dget (hu_of hr) (pv 1) pe_str (by intro _ _; rfl)) (pa_cons (pv 3) pa_nil))) rfl)
      (pss_cons (ps_dput (hu_of hr) (pv 1) pe_str (pe_lc (own := [("_law_one", 4)]) (g := (gName 4)) rfl sc_l_come.nd (Ak.pi_listK (K := K) (by rfl) (pe_op (Ak.op_plusK (K := K) (by rfl)) (pe_dget (hu_of hr) (pv 1) pe_str (by intro _ _; rfl)) (pe_lst (pa_cons (pv 3) pa_nil)))) (blkOk_by (N := N_l_come) (sc := defScope s_l_come) (by decide +kernel)) (fun _ _ _ _ _ => by exact (pg_name (i := 4) sc_l_come.nd rfl (Or.inl rfl))) (fun _ _ _ _ _ => by exact (pts_one (pt_cmpR op_ge (pv 4) (pe_op op_sub (pe_dget (hu_of hr) (pv 1) pe_str (by intro _ _; rfl)) pe_int) (nomark _)))) (fun _ _ _ _ _ => by exact (pv 4))) rfl)
      (pss_one (ps_ret (pe_tup (pa_cons (pv 3) (pa_cons pe_str pa_nil)))))))))), ?_⟩
    have e0 : L2.start N_l_come [V.ref q, V.ref o, V.int mk] = [some (V.ref q), some (V.ref o), some (V.int mk), none, none] := rfl
    rw [e0]
    try dsimp only [cxOf]
    walk_at "rd"
    refine ⟨q, o, mk, m, w, l, a, n, cs, rfl, hq, hO, k0, k1, ?_⟩
    have k' := k
    generalize hi : numOf m l n mk = i at k'
    walk_at "rd"
    unfold wordOf at k'
    refine Ak.w_ite (fun z => ?_) (fun z => ?_)
    · walk_at "rd"
      exact k' _ _ i "old" n cs rfl (by rw [if_pos z]) (by rw [if_neg (by decide +kernel)]) (by walk_at "as") upd_same ⟨c, by walk_at "lk", by walk_at "lk"⟩ (by walk_at "kp")
    · walk_at "rd"
      refine Ak.w_ite (fun z2 => ?_) (fun z2 => ?_)
      · walk_at "rd"
        exact k' _ _ i "again" n cs rfl (by rw [if_neg z, if_pos z2]) (by rw [if_neg (by decide +kernel)]) (by walk_at "as") upd_same ⟨c, by walk_at "lk", by walk_at "lk"⟩ (by walk_at "kp")
      · walk_at "rd"
        refine Ak.l_lcL (xs := (cs ++ [i]).map V.int) (by rw [List.map_append]; exact SqL.of upd_same) (fun j => (((cs ++ [i]).take j).filter fun k => decide (max n i - 20 ≤ k)).map V.int) rfl (fun D j x H' hD hx hk hd => ?_) (fun D H' hD hk hd => ?_)
        · obtain ⟨c', hc', rfl⟩ := map_at hx
          have ho' : H' o = some (.dK (ownF (max n i) c)) := by walk_at "lk"
          walk_at "rd"
          refine Ak.w_ite (fun z => ?_) (fun z => ?_)
          · walk_at "rd"
            refine kIn_go hD hd hk ?_ (filt_yes hc' (decide_eq_true z))
            have e := filt_len (l := cs ++ [i]) (i := j) (p := fun k => decide (max n i - 20 ≤ k)) (f := V.int)
            rw [List.length_append, List.length_singleton] at e
            rw [sizeLine_eq]
            omega
          · exact kOut_go hd hk (filt_no hc' (by rw [decide_eq_false z]; exact Bool.false_ne_true))
        · rw [List.length_map, List.take_length] at hd
          have ho' : H' o = some (.dK (ownF (max n i) c)) := by walk_at "lk"
          have nD : D ≠ o := by walk_at "nel"
          walk_at "rd"
          refine k' _ _ i "new" (max n i) (ownKept n cs i) rfl (by rw [if_neg z, if_neg z2]) (by rw [if_pos rfl]) (fresh_of [o] (by walk_at "as") (by walk_at "kp")) upd_same ⟨D, by walk_at "lk", ?_⟩ (by walk_at "kp")
          unfold ownKept
          walk_at "lk"
theorem ok_own_tell {f : Addr} {fd : FuncData} (F : L2.Fun K "_law_tell" "_law_tell" s_l_tell f fd) (g_range : mg "range" = none) (g_int : mg "int" = none) (g_tuple : mg "tuple" = none) : FnOk P w K mg base (L2.CX P w) 1 f fd ["_law_setting_here", "_law_ear_here"] (spOwnTell K) := by
  refine Fun.okX F sc_l_tell (fun vs H Q E h => ?_) (fun cdv A outer s H vs Q E hr h => ?_)
  · obtain ⟨_, _, _, _, _, _, _, _, rfl, _⟩ := h
    rfl
  · obtain ⟨q, o, m, w, l, a, n, cs, rfl, hq, ⟨c, ho, hc⟩, m0, w0, w1, k⟩ := h
    refine ⟨_, (pss_cons (ps_set (i := 2) sc_l_tell.nd rfl (Or.inl rfl) (pe_lst pa_nil))
      (pss_cons (ps_for (passes_of rfl) rfl (pi_range2 (by rfl) g_range (pa_cons pe_int (pa_cons (pe_op (Ak.op_plusK (K := K) (by rfl)) (pe_ix (Ak.ix_K (K := K) (by rfl)) (pv 0) pe_int (by intro _ _; rfl)) pe_int) pa_nil))) (pg_name (i := 3) sc_l_tell.nd rfl (Or.inl rfl))
      (pss_one (ps_expr (Ak.pe_bmK (K := K) (by rfl) PySem.F.plainAttrs_list PySem.F.slot_list_append PySem.F.type_list_append mt_append (pv 2) (pa_cons (pe_callTy Ak.cr_intX (by rfl) g_int (by decide +kernel) (pa_cons (pe_cmpR (Ak.op_inK (K := K) (by rfl)) (pe_op op_sub (pe_dget (hu_of hr) (pv 1) pe_str (by intro _ _; rfl)) (pv 3)) (pe_dget (hu_of hr) (pv 1) pe_str (by intro _ _; rfl)) (by rfl)) pa_nil)) pa_nil)))))
      (pss_one (ps_ret (pe_tup (pa_cons (pe_op op_mod (pe_dget (hu_of hr) (pv 1) pe_str (by intro _ _; rfl)) (pe_ix (Ak.ix_K (K := K) (by rfl)) (pv 0) pe_int (by intro _ _; rfl))) (pa_cons (pe_callTy (Ak.cr_tupK (K := K) (by rfl)) (by rfl) g_tuple (by decide +kernel) (pa_cons (pv 2) pa_nil)) pa_nil))))))), ?_⟩
    have e0 : L2.start N_l_tell [V.ref q, V.ref o] = [some (V.ref q), some (V.ref o), none, none] := rfl
    rw [e0]
    try dsimp only [cxOf]
    walk_at "rd"
    refine Ak.l_forR2 ⟨by decide, by decide, by omega, by omega⟩ (fun i σ' H' => ∃ v b, σ' = [some (V.ref q), some (V.ref o), some (V.ref b), v] ∧ Keep [] H H' ∧ H b = none ∧ H' b = some (.lst ((List.range i).map fun (k : Nat) => V.int (if n - (1 + (k : Int)) ∈ cs then 1 else 0)))) ⟨none, _, rfl, by walk_at "kp", by walk_at "as", upd_same⟩
      (fun i σ' H' hi pv => ?_) (fun σ' H' pv => ?_)
    · obtain ⟨v, b, rfl, hk, hb, hb2⟩ := pv
      have ho' : H' o = some (.dK (ownF n c)) := by walk_at "lk"
      have hc' : H' c = some (.lst (cs.map V.int)) := by walk_at "lk"
      have sz : ((List.range i).map fun (k : Nat) => V.int (if n - (1 + (k : Int)) ∈ cs then 1 else 0)).length < sizeLine := by
        rw [range_len, sizeLine_eq]
        omega
      walk_at "rd"
      refine ⟨_, _, rfl, hk.own hb, hb, ?_⟩
      rw [upd_same, range_succ]
      by_cases z : n - (1 + (i : Int)) ∈ cs
      · rw [decide_eq_true z, if_pos rfl, if_pos z]
      · rw [decide_eq_false z, if_neg Bool.false_ne_true, if_neg z]
    · obtain ⟨v, b, rfl, hk, hb, hb2⟩ := pv
      have ho' : H' o = some (.dK (ownF n c)) := by walk_at "lk"
      have hq' := hk.seqT nin_nil hq
      have e : (w + 1 - 1).toNat = w.toNat := by omega
      rw [e] at hb2
      walk_at "rd"
      refine k _ _ _ ?_ ?_ upd_same ?_ ?_
      · exact fresh_of [] (by walk_at "as") (by walk_at "kp")
      · exact fresh_of [] (by walk_at "as") (by walk_at "kp")
      · unfold bitsOf
        walk_at "lk"
      · walk_at "kp"
end
end Ak

namespace Ak
open PySem PySem.Spec PyProof.Rows L2
section
variable {P : Program} {w : World} {K : PySem.W.Frag} {mg : Str → Option Value} {base : Heap}
theorem ok_own_mouth {f : Addr} {fd : FuncData} (F : L2.Fun K "_law_mouth" "_law_mouth" s_l_mouth f fd) : FnOk P w K mg base (L2.CX P w) 1 f fd [] spOwnMouth := by
  refine Fun.okX F sc_l_mouth (fun vs H Q E h => ?_) (fun cdv A outer s H vs Q E hr h => ?_)
  · obtain ⟨rfl, _⟩ := h
    rfl
  · obtain ⟨rfl, k⟩ := h
    refine ⟨_, (pss_one (ps_ret (pe_disp (pps_cons pe_str pe_int (pps_cons pe_str (pe_lst pa_nil) pps_nil)) (by rfl) (by rfl) (fun z => by cases z) (by decide)))), ?_⟩
    have e0 : L2.start N_l_mouth [] = [] := rfl
    rw [e0]
    try dsimp only [cxOf]
    walk_at "rd"
    refine Ak.l_disp [(Sum.inr "sent", .int 0), (Sum.inr "sure", .ref _)] (by walk_at "lk") (Nat.le_of_ble_eq_true rfl) (merge_ok _ (by walk_at "nd")) ?_
    refine k _ _ _ (by walk_at "as") ?_ upd_same ?_ (by walk_at "kp")
    · exact fresh_of [] (by walk_at "as") (by walk_at "kp")
    · walk_at "lk"
theorem ok_own_full {f : Addr} {fd : FuncData} (F : L2.Fun K "_law_is_full" "_law_is_full" s_l_is_full f fd) (g_max : mg "max" = none) : FnOk P w K mg base (L2.CX P w) 1 f fd ["_law_setting_here", "_law_mouth_here"] (spOwnFull K) := by
  refine Fun.okX F sc_l_is_full (fun vs H Q E h => ?_) (fun cdv A outer s H vs Q E hr h => ?_)
  · obtain ⟨_, _, _, _, _, _, _, _, _, rfl, _⟩ := h
    rfl
  · obtain ⟨q, o, m, wi, l, a, n, S, g, rfl, hq, ⟨c, ho, hc⟩, hS, hg, k⟩ := h
    refine ⟨_, (pss_one (ps_ret (pe_cmpR op_gt (pe_dget (hu_of hr) (pv 1) pe_str (by intro _ _; rfl)) (pe_op (Ak.op_plusK (K := K) (by rfl)) (pe_callB (Ak.cr_maxK (K := K) (by rfl) rfl) (by rfl) g_max (by decide +kernel) (pa_cons (pe_op (Ak.op_plusK (K := K) (by rfl)) (pe_lst (pa_cons (pe_un un_neg pe_int) pa_nil)) (pe_dget (hu_of hr) (pv 1) pe_str (by intro _ _; rfl))) pa_nil)) (pe_ix (Ak.ix_K (K := K) (by rfl)) (pv 0) pe_int (by intro _ _; rfl))) (nomark _)))), ?_⟩
    have e0 : L2.start N_l_is_full [V.ref q, V.ref o] = [some (V.ref q), some (V.ref o)] := rfl
    rw [e0]
    try dsimp only [cxOf]
    walk_at "rd"
    refine w_maxL (ns := -1 :: S) (SqL.of upd_same) (Nat.succ_pos _) (fun g' h1 h2 => ?_)
    obtain rfl : g' = g := IsMx.uniq ⟨h1, h2⟩ hg
    walk_at "rd"
    exact k _ (by walk_at "kp")
theorem ok_own_hear {f : Addr} {fd : FuncData} (F : L2.Fun K "_law_hear" "_law_hear" s_l_hear f fd) (g_min : mg "min" = none) (g_range : mg "range" = none) (g_sorted : mg "sorted" = none) : FnOk P w K mg base (L2.CX P w) 1 f fd ["_law_setting_here", "_law_mouth_here", "_law_told_here"] (spOwnHear K) := by
  refine Fun.okX F sc_l_hear (fun vs H Q E h => ?_) (fun cdv A outer s H vs Q E hr h => ?_)
  · obtain ⟨_, _, _, _, _, _, _, _, _, _, _, _, rfl, _⟩ := h
    rfl
  · obtain ⟨q, o, t, b, m, wi, l, a, n, S, mk, bs, rfl, hq, ht, hb, ⟨c, ho, hc⟩, k0, k1, hl, h16, hS, kE, k⟩ := h
    refine ⟨_, (pss_cons (ps_set (i := 3) sc_l_hear.nd rfl (Or.inr rfl) (pe_op op_sub (pe_dget (hu_of hr) (pv 1) pe_str (by intro _ _; rfl)) pe_int))
      (pss_cons (ps_while (passes_of rfl) (pt_cmpR (Ak.op_neK (K := K) (by rfl) hr.units) (pe_op op_mod (pv 3) (pe_ix (Ak.ix_K (K := K) (by rfl)) (pv 0) pe_int (by intro _ _; rfl))) (pe_ix (Ak.ix_K (K := K) (by rfl)) (pv 2) pe_int (by intro _ _; rfl)) (nomark _))
      (pss_one (ps_set (i := 3) sc_l_hear.nd rfl (Or.inr rfl) (pe_op op_sub (pv 3) pe_int))))
      (pss_cons (ps_set (i := 4) sc_l_hear.nd rfl (Or.inl rfl) (pe_op (Ak.op_plusK (K := K) (by rfl)) (pe_lst (pa_cons (pv 3) pa_nil)) (pe_lc (own := [("_law_far", 5)]) (g := (gName 5)) rfl sc_l_hear.nd (pi_range2 (by rfl) g_range (pa_cons pe_int (pa_cons (pe_op (Ak.op_plusK (K := K) (by rfl)) (pe_ix (Ak.ix_K (K := K) (by rfl)) (pv 0) pe_int (by intro _ _; rfl)) pe_int) pa_nil))) (blkOk_by (N := N_l_hear) (sc := defScope s_l_hear) (by decide +kernel)) (fun _ _ _ _ _ => by exact (pg_name (i := 5) sc_l_hear.nd rfl (Or.inl rfl))) (fun _ _ _ _ _ => by exact (pts_one (pt_cmpR (Ak.op_eqK (K := K) (by rfl) hr.units) (pe_ix (Ak.ix_K (K := K) (by rfl)) (pe_ix (Ak.ix_K (K := K) (by rfl)) (pv 2) pe_int (by intro _ _; rfl)) (pe_op op_sub (pv 5) pe_int) (by intro _ _; rfl)) pe_int (nomark _)))) (fun _ _ _ _ _ => by exact (pe_op op_sub (pv 3) (pv 5))))))
      (pss_cons (ps_if (pt_cmpR op_lt (pe_callB (Ak.cr_minK (K := K) (by rfl) rfl) (by rfl) g_min (by decide +kernel) (pa_cons (pv 4) pa_nil)) pe_int (nomark _))
      (pss_one (ps_ret pe_non))
      pss_nil)
      (pss_cons (ps_set (i := 6) sc_l_hear.nd rfl (Or.inl rfl) (pe_callB (Ak.cr_sortK (K := K) (by rfl) rfl) (by rfl) g_sorted (by decide +kernel) (pa_cons (pe_lc (own := [("_law_one", 7)]) (g := (gName 7)) rfl sc_l_hear.nd (Ak.pi_listK (K := K) (by rfl) (pv 4)) (blkOk_by (N := N_l_hear) (sc := defScope s_l_hear) (by decide +kernel)) (fun _ _ _ _ _ => by exact (pg_name (i := 7) sc_l_hear.nd rfl (Or.inl rfl))) (fun _ _ _ _ _ => by exact (pts_one (pt_cmpR (Ak.op_ninK (K := K) (by rfl)) (pv 7) (pe_dget (hu_of hr) (pv 1) pe_str (by intro _ _; rfl)) (by rfl)))) (fun _ _ _ _ _ => by exact (pv 7))) pa_nil)))
      (pss_cons (ps_dput (hu_of hr) (pv 1) pe_str (pe_callB (Ak.cr_sortK (K := K) (by rfl) rfl) (by rfl) g_sorted (by decide +kernel) (pa_cons (pe_op (Ak.op_plusK (K := K) (by rfl)) (pe_dget (hu_of hr) (pv 1) pe_str (by intro _ _; rfl)) (pv 6)) pa_nil)) rfl)
      (pss_one (ps_ret (pv 6))))))))), ?_⟩
    have e0 : L2.start N_l_hear [V.ref q, V.ref o, V.ref t] = [some (V.ref q), some (V.ref o), some (V.ref t), none, none, none, none, none] := rfl
    rw [e0]
    try dsimp only [cxOf]
    walk_at "rd"
    refine l_while (fun j σ' H' => ∃ i, σ' = [some (V.ref q), some (V.ref o), some (V.ref t), some (V.int i), none, none, none, none] ∧ H' = H ∧ i ≤ n - 1 ∧ newestOf m (n - 1) mk ≤ i ∧ j = (i - newestOf m (n - 1) mk).toNat) _ ⟨_, rfl, rfl, Int.le_refl _, newest_le (by omega), rfl⟩ (fun j σ' H' w => ?_)
    obtain ⟨i, rfl, rfl, i0, i1, rfl⟩ := w
    walk_at "rd"
    refine Ak.w_iteN (fun z => ?_) (fun z => ?_)
    · have lt : newestOf m (n - 1) mk < i := by
        have : i ≠ newestOf m (n - 1) mk := fun e => z (by rw [e]; exact newest_mod k0 k1)
        omega
      walk_at "rd"
      exact ⟨_, by omega, i - 1, rfl, rfl, by omega, by omega, rfl⟩
    · walk_at "rd"
      have en := newest_uniq k0 k1 i0 i1 z
      rw [en]
      clear i0 i1 z en i
      generalize newestOf m (n - 1) mk = N at *
      rename_i t0 nt0
      refine l_lcR2 ⟨by decide, by decide, by omega, by omega⟩ (fun i => (othersOf N bs i).map V.int) rfl (fun D i H2 hD hi hk hd => ?_) (fun D H2 hD hk hd => ?_)
      · have hi' : i < bs.length := by omega
        have hv : bs[i]? = some bs[i] := List.getElem?_eq_getElem hi'
        have ea : atI (bs.map V.int) (1 + (i : Int) - 1) = some (.int bs[i]) := by
          rw [show 1 + (i : Int) - 1 = ((i : Nat) : Int) by omega]
          refine atI_nat ?_
          rw [List.getElem?_map, hv]
          rfl
        generalize bs[i] = v at hv ea
        walk_at "rd"
        refine Ak.w_ite (fun z => ?_) (fun z => ?_)
        · subst z
          walk_at "rd"
          refine kIn_go hD hd hk ?_ (by rw [others_yes hv, List.map_append]; rfl)
          have := others_len (n := N) (bs := bs) (i := i)
          rw [List.length_map, sizeLine_eq]
          omega
        · exact kOut_go hd hk (by rw [others_no (fun e => z (by rw [hv] at e; exact Option.some.inj e))])
      · have el : (wi + 1 - 1).toNat = bs.length := by omega
        rw [el] at hd
        have e1 : (othersOf N bs bs.length).length ≤ 16 := Nat.le_trans others_len h16
        have ho2 : H2 o = some (.dK (ownMF n c)) := by walk_at "lk"
        have hc2 : H2 c = some (.lst (S.map V.int)) := by walk_at "lk"
        walk_at "rd"
        rename_i r nr
        have hr2 : upd H2 r (.lst ([.int N] ++ (othersOf N bs bs.length).map V.int)) r = some (.lst ((allOf N bs).map V.int)) := upd_same
        refine w_minL (ns := allOf N bs) (SqL.of hr2) (Nat.succ_pos _) (fun x0 h1 h2 => ?_)
        walk_at "rd"
        refine Ak.w_ite (fun z => ?_) (fun z => ?_)
        · walk_at "rd"
          exact kE ⟨x0, h1, z⟩ _ (by walk_at "kp")
        · walk_at "rd"
          refine Ak.l_lcL (xs := (allOf N bs).map V.int) (SqL.of hr2) (fun i => (((allOf N bs).take i).filter fun x => !decide (x ∈ S)).map V.int) rfl (fun D3 i x H3 hD3 hx hk3 hd3 => ?_) (fun D3 H3 hD3 hk3 hd3 => ?_)
          · obtain ⟨c', hc', rfl⟩ := map_at hx
            have ho3 : H3 o = some (.dK (ownMF n c)) := by walk_at "lk"
            have hc3 : H3 c = some (.lst (S.map V.int)) := by walk_at "lk"
            walk_at "rd"
            refine Ak.w_iteN (fun z => ?_) (fun z => ?_)
            · walk_at "rd"
              refine kIn_go hD3 hd3 hk3 ?_ (filt_yes hc' (by rw [decide_eq_false z]; rfl))
              have e := filt_len (l := allOf N bs) (i := i) (p := fun x => !decide (x ∈ S)) (f := V.int)
              have e2 := all_len (n := N) (bs := bs)
              rw [sizeLine_eq]
              omega
            · exact kOut_go hd3 hk3 (filt_no hc' (by rw [decide_eq_true z]; exact Bool.false_ne_true))
          · rw [List.length_map, List.take_length] at hd3
            have ho3 : H3 o = some (.dK (ownMF n c)) := by walk_at "lk"
            have hc3 : H3 c = some (.lst (S.map V.int)) := by walk_at "lk"
            have fl : (foundL N bs S).length ≤ 17 := by
              have e := List.length_filter_le (fun x => !decide (x ∈ S)) (allOf N bs)
              have e2 := all_len (n := N) (bs := bs)
              unfold foundL
              rw [srt_len]
              omega
            walk_at "rd"
            rename_i f nf
            have hf4 : upd H3 f (.lst ((foundL N bs S).map V.int)) f = some (.lst ((foundL N bs S).map V.int)) := upd_same
            change rPlus K (.ref c) (.ref f) (upd H3 f (.lst ((foundL N bs S).map V.int))) _
            refine w_plusL (by walk_at "lk") hf4 (by rw [List.length_map, List.length_map, sizeLine_eq]; omega) fun r2 nr2 => ?_
            walk_at "rd"
            refine w_sortO (ns := S ++ foundL N bs S) (by rw [List.map_append]; exact upd_same) fun r3 nr3 => ?_
            have fo : f ≠ o := Ne.symm (ne_of_none ho3 nf)
            have n3o : r3 ≠ o := by
              refine Ne.symm (ne_of_none (H := H3) ho3 ?_)
              exact free_upd (free_upd nr3)
            have n3f : r3 ≠ f := by
              refine Ne.symm (ne_of_none hf4 (free_upd nr3))
            have n2f : r2 ≠ f := Ne.symm (ne_of_none hf4 nr2)
            have n2o : r2 ≠ o := Ne.symm (ne_of_none ho3 (free_upd nr2))
            walk_at "rd"
            have nfH : H' f = none := by
              refine fresh_of [] nf ?_
              walk_at "kp"
            refine k (fun x hx => by have := h2 x hx; omega) f _ nfH ?_ ⟨r3, upd_same, ?_⟩ ?_
            · rw [upd_ne fo, upd_ne (Ne.symm n3f), upd_ne (Ne.symm n2f)]
              exact hf4
            · rw [upd_ne n3o]
              exact upd_same
            · refine Keep.set (S := [o]) ?_ List.mem_cons_self
              walk_at "kp"
end
end Ak

namespace Ak
open PySem PySem.Spec PyProof.Rows L2
/-! ### super().__init__(x) in the __init__ of an own error over an own class over ValueError -/
section
open PySem.W
variable {prog : Program} {w : World} {A : Around} {E : Value → Shared → Prop} {hh : Heap} {g : Array GenState} {d : Drawn} {tk : Nat} {os : OsState} {B i newId : String} {bmB : List Value}
theorem sup_run {nm q : Str} {C N u x t : Addr} {bs bm : List Value} {hdct : Bool} {sn : List Str} {sub : List Value} {ab : Bool} {col : Option Bool} {dd dv : Option Addr} {k0 k1 k2 k3 k5 : Option Value} {c2 : Value} {rest : List Value} {Q : Value → Shared → Prop} (FB : ExcBaseFacts B newId i bmB)
    (hC : hh.get? C = some (excClassObj nm q C N bs bm hdct sn sub ab col dd k0 k1 k2 k3 k5 newId)) (he : hh.get? x = some (excObj C t dv c2)) (hu : hh.get? u = some (kxs_mw i x)) (hz : rest.length ≤ sizeLine)
    (h : ∀ h', (∀ b o, b ≠ x → hh.get? b = some o → h'.get? b = some o) → h'.get? x = some (excObj C hh.objs.size dv c2) → Q .none ⟨h', g, d, tk, os⟩) : wpAny (model prog w) A (call (.ref u) rest) Q E ⟨hh, g, d, tk, os⟩ := by
  refine wpAny_call (codeAny_of_tree ?_)
  show wpAny _ A.in1 (callAny (.ref u) ⟨rest, []⟩) _ _ _
  simp only [callAny]
  refine wpAny_bind (wpAny_load hu ?_)
  simp only [kxs_mw, show (Value.type "method-wrapper" == Value.type "method" || Value.type "method-wrapper" == Value.type "builtin_function_or_method" || Value.type "method-wrapper" == Value.type "method-wrapper") = true by decide, if_true]
  refine KFB.if_so (by decide) ?_
  refine wpAny_bind (check_bound_init FB.toExcCallFacts hC he rfl ?_)
  refine wpAny_bind (wpAny_pure (wpAny_pure ?_))
  refine ⟨plainId_quiet FB.init.plain _, codeAny_builtin FB.initEntry ?_⟩
  exact exc_init_tree (cls := .ref C) (t0 := t) (dv := dv) (c2 := c2) (c3 := .none) (b4 := .bool false) he hz fun h' k e _ => h h' k e
end
/-- what the written part says of the __init__ at f of the error at C -/
structure SupF (P : Program) (K : PySem.W.Frag) (mg : Str → Option Value) (C f cc cda : Addr) (fd : FuncData) (slf : Str) (of cx : Value) (od cd : Option Addr) (osl csl : Array (Option Value)) (vs : Array Value) (file : Str) (tf : Tok) (cl : Value) (cld : Option Addr) (cls : Array (Option Value)) : Prop where
  lk : K.lookup f = some ⟨of, od, .func fd, osl⟩
  arg : ∃ ar, (fd.params.posonlyargs ++ fd.params.args).head? = some ar ∧ ar.arg = slf
  lc : K.lookup cda = some ⟨cx, cd, .fields vs, csl⟩
  vs2 : vs[2]? = some (.str file tf)
  fl : ((P.main.file : Str) == file) = true
  tp : (P.main.scope.names.lookup ("super" : Str)).isSome = false
  ce : K.lookup cc = some ⟨cl, cld, .cell (some (.ref C)), cls⟩
  dc : (PySem.W.clsIn K C).isSome = true
  sb : PySem.W.mroIn K C (.ref C) = some true
  nm : mg "super" = none
  op : PySem.W.nsIn K cStatics "thirdparty.any" = some none
  su : PySem.W.ks_superIn K C C "__init__" = some (some (.builtin "ValueError.__init__"))
  sv : PySem.W.subIn K (.ref C) (.type "ValueError") = some true
section
variable {X : Cx} {pins : List (Addr × Obj)} {σ : L2.St} {H : Hp} {s : Shared} {a C f cc cda : Addr} {fd : FuncData} {slf : Str} {of cx : Value} {od cd : Option Addr} {osl csl : Array (Option Value)} {vs : Array Value} {file : Str} {tf : Tok} {cl : Value} {cld : Option Addr} {cls : Array (Option Value)}
theorem sup_eval {body : List Stmt} {e : Expr} {es : List Expr} {p0 p1 p2 pos : Pos} {pl : Sem Bool} {t : TA} {R : Hp → Prop} (S : SupF X.prog X.K X.mg C f cc cda fd slf of cx od cd osl csl vs file tf cl cld cls) (T : OexC X.K C) (I : Inv X pins σ H s) (ea : H a = some (exo a C none))
    (hself : σ[0]? = some (some (.ref a))) (hN : X.N[0]? = some slf) (hks : X.env.scope.names.lookup ("super" : Str) = some .globalImplicit) (hkc : X.env.scope.names.lookup ("__class__" : Str) = some .free) (hka : X.env.scope.names.lookup slf = some .local)
    (hfu : X.env.func = some f) (hco : X.env.code = .ref cda) (hcl : X.env.cells.lookup ("__class__" : Str) = some cc) (ha : PA X (e :: es) t)
    (hq : t σ H fun vs H1 => vs.length ≤ 1000 ∧ H1 a = some (exo a C none) ∧ R H1)
    (hmc : eval (.Call (.Attribute (.Call (.Name "super" p0) [] [] p1) "__init__" p2) (e :: es) [] pos) X.env = (do
      let ov ← attributeBase (.Call (.Name "super" p0) [] [] p1) "__init__" X.env (eval (.Call (.Name "super" p0) [] [] p1) X.env)
      standAt p2.atName
      let (f, first) ← holding [ov] (getMethod ov "__init__" pl)
      callWith pos f first (backTo pos (starEach (e :: es) X.env)) []))
    (he : starEach (e :: es) X.env = (false, eval e X.env) :: starEach es X.env) (hpl : (backTo pos (starEach es X.env)).any (·.1) = false) :
    PySem.wpAt (model X.prog X.w) X.A (.func body X.env) (eval (.Call (.Attribute (.Call (.Name "super" p0) [] [] p1) "__init__" p2) (e :: es) [] pos) X.env) (fun _ s' => ∃ H', Inv X pins σ H' s' ∧ R H') X.xe s := by
  obtain ⟨nm, q, N, bs, bm, sn, sub, ab, col, dd, k0, k1, k2, k3, k5, hC, hbm⟩ := T.cls
  have X0 := I.kIn
  obtain ⟨t1, ho⟩ := exo_at I.hok ea
  obtain ⟨ar, har, harg⟩ := S.arg
  obtain ⟨m, hns, hloc⟩ := I.loc
  obtain ⟨u0, ru0, hlk⟩ := hloc 0 slf _ hN hself (.inl hka)
  obtain rfl : u0 = Value.ref a := ru0
  have hma : m slf = some (.ref a) := by
    rcases hlk with ⟨_, h⟩ | ⟨h, _⟩
    · exact h
    · exfalso
      have hk : X.env.kindOf slf = some .local := hka
      rcases h with h | h <;> (rw [hk] at h; cases h)
  obtain ⟨cdC, hcd⟩ := Option.isSome_iff_exists.mp S.dc
  obtain ⟨oD, hD1, hD2⟩ : ∃ oD, s.heap.get? C = some oD ∧ oD.data = .cls cdC := by
    unfold PySem.W.clsIn at hcd
    split at hcd
    · rename_i c d cd' sl hoC
      cases hcd
      exact ⟨_, X0 _ _ hoC, rfl⟩
    · cases hcd
  refine PySem.ks_wpAt_MethodCall ?_ hmc
  refine PySem.ks_wpAt_super_base hks hkc (by decide) hfu (X0 _ _ S.lk) rfl har hco (X0 _ _ S.lc) rfl S.vs2 S.fl S.tp ?_
  obtain ⟨mb, hb1, hb2⟩ := I.ok.mod.blt
  refine PySem.W.ks_loadName_global I.ok.kind hks (Calls.loadGlobal_builtin (by rw [I.ok.glob]; exact I.ok.mod.glob.keeps I.bk) S.nm (by rw [I.ok.blt]; exact hb1.keeps I.bk) ((hb2 "super" (by decide)).trans (by first | rfl | kernel_rfl)) ⟨rfl, ?_⟩)
  refine wpAny_loadName_free I.ok.kind hkc hcl ⟨_, X0 _ _ S.ce, rfl⟩ ?_
  rw [harg]
  refine wpAny_loadName_local I.ok.kind hka hns hma ?_
  obtain ⟨hp, g, d, tk, os⟩ := s
  refine PySem.ks_wpAny_isType_cls hD1 hD2 ⟨rfl, ?_⟩
  refine PySem.ks_wpAny_call_super hD1 hD2 ho rfl (fun c z => by cases z) (PySem.W.looks_mroIn X0 S.sb) (fun h1 e1 kk1 => ?_)
  have I1 : Inv X pins σ H ⟨h1, g, d, tk, os⟩ := I.kept (s := ⟨hp, g, d, tk, os⟩) (t' := tk) kk1
  have ho1 := kk1 _ _ ho
  have inst : PySem.W.InstAt h1 a { cls := .ref C, dict := none, data := .fields #[.ref t1, .none, .none, .none, .bool false, .none] } C none := ⟨ho1, rfl, rfl, trivial⟩
  have hsu := S.su
  unfold PySem.W.ks_superIn at hsu
  rw [hcd, Option.bind_some] at hsu
  have hI : PySem.W.Looks (model X.prog X.w) h1 (isInstance (.ref a) (.type "ValueError")) true := inst.type.andThen (PySem.W.looks_subIn I1.kIn S.sv)
  refine PySem.W.kxs_getMethod PySem.W.kxs_ValueError e1 (PySem.W.looks_opaque I1.kIn S.op) (l₀ := cdC.mro) (fun A Q E s k q => wpAny_bind ((PySem.W.looks_clsIn I1.kIn hcd) A _ E s k (wpAny_pure q))) rfl I1.kIn hsu hI (PySem.W.ks_ne I1.kIn inst hcd) (by decide) ?_
  have hu : (h1.push (PySem.W.kxs_mw "ValueError.__init__" a)).get? h1.objs.size = some (PySem.W.kxs_mw "ValueError.__init__" a) := Heap.get?_push_at rfl rfl
  have I2 : Inv X pins σ H ⟨h1.push (PySem.W.kxs_mw "ValueError.__init__" a), g, d, tk + 1, os⟩ := I1.kept (s := ⟨h1, g, d, tk, os⟩) (t' := tk + 1) (fun b o z => Heap.get?_push_of_some _ z)
  have I3 := I2.pinned (fp := [h1.objs.size]) (fun b hb => by rw [List.mem_singleton.mp hb]; exact I1.fpOk (Nat.le_refl _) (I1.hok.fresh (Nat.le_refl _))) (fun b hb => by rw [List.mem_singleton.mp hb]; exact ⟨_, hu, fun v z => by cases z⟩)
  rw [he]
  refine PySem.W.kxs_callWith (i := "ValueError.__init__") (x := a) (by show (false || (backTo pos (starEach es X.env)).any (·.1)) = false; rw [hpl]; rfl) ?_
  refine Calls.evalArgs_plain ?_
  have har2 := ha.run pos _ _ σ H _ I3 hq
  rw [he] at har2
  refine thn har2 fun us s1 ⟨ws, H1, I4, r1, hl, ea1, hR⟩ => ?_
  have hpin := I4.pin (h1.objs.size, PySem.W.kxs_mw "ValueError.__init__" a) (List.mem_append_right _ (List.mem_append_right _ (by
    unfold pinsAt
    rw [List.filterMap_cons, show (Heap.get? (Shared.heap ⟨h1.push (PySem.W.kxs_mw "ValueError.__init__" a), g, d, tk + 1, os⟩) h1.objs.size) = _ from hu]
    exact List.mem_cons_self)))
  refine ⟨hpin.1, ?_⟩
  obtain ⟨t2, ho2⟩ := exo_at I4.hok ea1
  obtain ⟨hp1, g1, d1, tk1, os1⟩ := s1
  have hlen : us.length ≤ sizeLine := by
    rw [← r1.length, sizeLine_eq]
    omega
  show wpAny _ _ (call (.ref h1.objs.size) us) _ _ _
  refine sup_run PySem.F.excBase_ValueError (I4.kIn _ _ hC) ho2 hpin.1 hlen (fun h' k hx => ?_)
  have J := I4.unpinned.write (s := ⟨hp1, g1, d1, tk1, os1⟩) (t' := tk1) (x := a) (e := a) (o := exo a C none) (by rw [ea1]; exact True.intro) (.inl rfl) k ⟨_, hx⟩ (exo_ok hx)
  have eu : upd H1 a (exo a C none) = H1 := by
    funext b
    by_cases hb : b = a
    · rw [hb, upd_same, ea1]
    · rw [upd_ne hb]
  rw [eu] at J
  exact ⟨H1, J, hR⟩
end
/-- an own error is made: self.fld = v, nothing else is told -/
def spSup (K : PySem.W.Frag) (C : Addr) (fld : Str) : Sp := fun vs H Q _ => ∃ (a : Addr) (v : V), vs = [.ref a, v] ∧ ((∃ i, v = .int i ∧ i.natAbs < 2 ^ 59) ∨ ∃ z : Str, v = .str z ∧ z.length ≤ 100) ∧ OexC K C ∧ H a = some (exo a C none) ∧
  ∀ dx, H dx = none → dx ≠ a → Q .non (upd (upd H dx (exd dx [(fld, v)])) a (exo a C (some dx)))
abbrev supD (qual : Str) (st : Stmt) (cc cda : Addr) (kV doc pm ct : Value) (an : Option Addr) : FuncData := PySem.W.fnX "__init__" qual (defArgs st) (defBody st) (defScope st) [("__class__", cc)] .none kV doc pm an (.ref cda) ct
abbrev supN (qual : Str) (st : Stmt) (cc cda : Addr) : NdefX.NF := ⟨"__init__", qual, defArgs st, defBody st, defScope st, [("__class__", cc)], cda⟩
theorem sup_fn {P : Program} {w : World} {K : PySem.W.Frag} {mg : Str → Option Value} {base : Heap} {k : Nat} {C f cc cda : Addr} {st : Stmt} {qual prm fld : Str} {kV doc pm ct : Value} {an : Option Addr} {of cx : Value} {od cd : Option Addr} {osl csl : Array (Option Value)} {vs : Array Value} {file : Str} {tf : Tok} {cl : Value} {cld : Option Addr} {cls : Array (Option Value)}
    {arg : Expr} {p0 p1 p2 p3 p4 p5 p6 p7 p8 : Pos} {t : TA}
    (S : SupF P K mg C f cc cda (supD qual st cc cda kV doc pm ct an) "self" of cx od cd osl csl vs file tf cl cld cls) (hcd : PySem.W.codeIn K (.ref cda) qual = true)
    (NS : NdefX.NScope ["self", prm, "__class__"] ["self", prm] ["__class__"] (defScope st)) (hks : (defScope st).names.lookup ("super" : Str) = some .globalImplicit)
    (hbody : defBody st = [.Expr (.Call (.Attribute (.Call (.Name "super" p0) [] [] p1) "__init__" p2) [arg] [] p3) p4, .Assign [.Attribute (.Name "self" p5) fld p6] (.Name prm p7) p8])
    (hno : PySem.W.findIn K (.ref C) fld = some none)
    (hmc : ∀ env : Env, eval (.Call (.Attribute (.Call (.Name "super" p0) [] [] p1) "__init__" p2) [arg] [] p3) env = (do
      let ov ← attributeBase (.Call (.Name "super" p0) [] [] p1) "__init__" env (eval (.Call (.Name "super" p0) [] [] p1) env)
      standAt p2.atName
      let (f, first) ← holding [ov] (getMethod ov "__init__" (pure false))
      callWith p3 f first (backTo p3 (starEach [arg] env)) []))
    (hse : ∀ env : Env, starEach [arg] env = (false, eval arg env) :: starEach [] env)
    (hsw : ∀ env : Env, swapsWith (.Call (.Attribute (.Call (.Name "super" p0) [] [] p1) "__init__" p2) [arg] [] p3) none p4.line env = pure false)
    (hprm : (prm == ("__debug__" : Str)) = false) (hprm2 : (prm == ("__classdict__" : Str)) = false)
    (ha : ∀ (A : Around) (outer : List Env) (s : Shared) (H : Hp) (E : XK), Room k (A.deeper (NdefX.envF (supN qual st cc cda) f s.heap.objs.size)) → PA (NdefX.ncx (L2.CX P w) P w K mg base ["self", prm, "__class__"] (supN qual st cc cda) f A outer s H E) [arg] t)
    (hta : ∀ (a : Addr) (v : V) (H : Hp) (Q : List V → Hp → Prop), ((∃ i, v = .int i ∧ i.natAbs < 2 ^ 59) ∨ ∃ z : Str, v = .str z ∧ z.length ≤ 100) → (∀ z : Str, Q [.str z] H) → t [some (.ref a), some v, some (.ref C)] H Q) :
    FnOk P w K mg base (L2.CX P w) (k + 1) f (supD qual st cc cda kV doc pm ct an) ["self", prm] (spSup K C fld) := by
  refine ⟨fun vs H Q E h => ?_, fun A outer s H args us vs Q E hr e0 hb r hsp => ?_⟩
  · obtain ⟨a, v, rfl, _⟩ := h
    rfl
  · obtain ⟨a, v, rfl, hv, T, ea, hq⟩ := hsp
    have KX : K.In s.heap := e0.mod.kin.keeps fun b o e => (e0.bs b o e).1
    have lim : s.heap.NoLimit := e0.mod.nolimit.keeps fun b o e => (e0.bs b o e).1
    refine PySem.ks_codeAny_call_defAt (fd := supD qual st cc cda kV doc pm ct an) (body := defBody st) hr.depth (KX _ _ S.lk) rfl lim (PySem.W.codeRec_of KX hcd) rfl hb NS.nocell (fun ⟨n, _⟩ hy => NS.par n (List.of_mem_zip hy).1) (fun h1 hns kp => ?_) NS.co NS.gen NS.kind
    have hcc : s.heap.get? cc = some ⟨cl, cld, .cell (some (.ref C)), cls⟩ ∧ H cc = none := e0.bs _ _ (e0.mod.kin _ _ S.ce)
    have CA : NdefX.CellsAt [("__class__", cc)] ["__class__"] [some (.ref C)] s.heap H := by
      refine ⟨rfl, fun y c e => ?_, fun x y c e1 e2 => ?_, fun i y e => ?_⟩
      · have e' : c = cc ∧ y = "__class__" := by
          by_cases z : y = "__class__"
          · subst z
            exact ⟨(by simpa using e.symm), rfl⟩
          · exfalso
            have : (y == ("__class__" : Str)) = false := by simpa using z
            simp [List.lookup, this] at e
        rw [e'.1]
        exact ⟨hcc.2, _, _, hcc.1, rfl⟩
      · have key : ∀ {y : Str}, List.lookup y [(("__class__" : Str), cc)] = some c → y = "__class__" := fun {y} e => by
          by_cases z : y = "__class__"
          · exact z
          · exfalso
            have : (y == ("__class__" : Str)) = false := by simpa using z
            simp [List.lookup, this] at e
        rw [key e1, key e2]
      · match i, e with
        | 0, e =>
          cases e
          exact ⟨cc, by simp, fun v hv => by cases hv; exact ⟨.ref C, rfl, _, hcc.1, rfl⟩⟩
        | i + 1, e => cases e
    have I : Inv (NdefX.ncx (L2.CX P w) P w K mg base ["self", prm, "__class__"] (supN qual st cc cda) f A outer s H E) [] (NdefX.startF ["self", prm, "__class__"] [.ref a, v] [some (.ref C)]) H { s with heap := h1, toks := s.toks + ((["self", prm] : List Str).zip us).length } :=
      NdefX.inv_startN (F := supN qual st cc cda) NS hr.hd e0 rfl r CA hns kp
    have est : NdefX.startF ["self", prm, "__class__"] [.ref a, v] [some (.ref C)] = [some (.ref a), some v, some (.ref C)] := rfl
    rw [est] at I
    have hpar := NS.par
    have hself : (defScope st).names.lookup ("self" : Str) = some .local := hpar _ List.mem_cons_self
    have hprmL : (defScope st).names.lookup prm = some .local := hpar _ (List.mem_cons_of_mem _ List.mem_cons_self)
    have hcls : (defScope st).names.lookup ("__class__" : Str) = some .free := NS.frk _ List.mem_cons_self
    have hpa := ha A outer s H E (hr.deeper _)
    have hcel : List.lookup ("__class__" : Str) [(("__class__" : Str), cc)] = some cc := by simp [List.lookup]
    rw [hbody]
    refine PySem.ks_wpAt_execs_cons (PySem.ks_wpAt_Expr_any (PySem.ks_wpAt_mono (sup_eval (R := fun H1 => H1 = H) S T I ea rfl rfl hks hcls hself rfl rfl hcel hpa (hta a v H _ hv fun z => ⟨by simp, ea, rfl⟩) (hmc _) (hse _) rfl) (fun v' s' hs' => ?_) (fun e s' z => z)) (by unfold interactive; rw [show (callEnv (supD qual st cc cda kV doc pm ct an) s.heap.objs.size f).scope.kind = .function from NS.kind]; rfl) (hsw _))
    obtain ⟨H', I', rfl⟩ := hs'
    refine PySem.wpAt_of_wpAny ?_
    have hp0 : PE (NdefX.ncx (L2.CX P w) P w K mg base ["self", prm, "__class__"] (supN qual st cc cda) f A outer s H' E) (.Name "self" p5) (tVar 0) := pv 0 rfl (.inl hself)
    have hp1 : PE (NdefX.ncx (L2.CX P w) P w K mg base ["self", prm, "__class__"] (supN qual st cc cda) f A outer s H' E) (.Name prm p7) (tVar 1) := pv 1 rfl (.inl hprmL) hprm hprm2
    have ps := pss_one (ps_ost (f := fld) (p' := p6) (pos := p8) hp0 hp1)
    refine wpAny_mono (ps.run [] s' _ H' { nx := fun _ H1 => Q .non H1, rt := Q } I' ?_) (fun fl s'' hs => ?_) fun e s'' hs => hs
    · refine ⟨v, rfl, .ref a, rfl, a, C, rfl, T, hno, Or.inl ⟨ea, hq⟩⟩
    · have fin : ∀ {σ' : L2.St} {H'' : Hp} {v : V} {u : Value}, Inv (NdefX.ncx (L2.CX P w) P w K mg base ["self", prm, "__class__"] (supN qual st cc cda) f A outer s H' E) [] σ' H'' s'' → L2.RelV v u → Q v H'' → CE outer P w H' s Q u s'' :=
        fun {σ' H'' v u} J rv q => ⟨v, H'', J.os, J.bare, J.base, J.hok, rv, q⟩
      cases fl with
      | ret u =>
        obtain ⟨v, σ', H'', J, rv, q⟩ := hs
        exact fin J rv q
      | next =>
        obtain ⟨σ', H'', J, q⟩ := hs
        exact fin (v := V.non) (u := Value.none) J rfl q
      | brk =>
        obtain ⟨_, _, _, q⟩ := hs
        exact False.elim q
      | cont =>
        obtain ⟨_, _, _, q⟩ := hs
        exact False.elim q
/-! ### raise C(v) -/
/-- what an error may bear -/
def BearsV (v : V) : Prop := (∃ i, v = .int i ∧ i.natAbs < 2 ^ 59) ∨ ∃ z : Str, v = .str z ∧ z.length ≤ 100
structure RaiO (P : Program) (w : World) (K : PySem.W.Frag) (mg : Str → Option Value) (base : Heap) (k : Nat) (x : Str) (C : Addr) (fld : Str) : Prop where
  ex : ∃ (fI : Addr) (fd : FuncData) (ps : List Str), PySem.W.findIn K (.ref C) "__init__" = some (some (.ref fI)) ∧ PySem.W.typeIn K (.ref fI) = some (.type "function") ∧ FnOk P w K mg base (L2.CX P w) k fI fd ps (spSup K C fld) ∧ Binds K fd ps []
  T : OexC K C
  g : mg x = some (.ref C)
theorem pmk_o {X : Cx} {K : PySem.W.Frag} {k j : Nat} {x : Str} {C : Addr} {fld : Str} {p pos : Pos} {e : Expr} {t : TA} (hK : X.K = K) (c : RaiO X.prog X.w X.K X.mg X.base k x C fld) (hr : Room j X.A) (hk : k + 1 ≤ j) (hg : Gl X x) (ha : PA X [e] t)
    (hdb : (x == ("__debug__" : Str)) = false := by decide) (he : starEach [e] X.env = (false, eval e X.env) :: starEach [] X.env := by rfl) : PMk X (.Call (.Name x p) [e] [] pos) (tMkO C (spSup K C fld) [] t) := by
  subst hK
  obtain ⟨fI, fd, ps, iC, tI, F1, hb⟩ := c.ex
  exact pmk_oex (CX := L2.CX X.prog X.w) (p := p) (pos := pos) c.T iC tI F1 (hr.mono hk) hb (dvs := []) (ds := []) .nil (fun _ _ _ _ _ _ _ h => by
    obtain ⟨_, _, _, _, _, _, _, _, _, _, _, _, z⟩ := h
    exact z.elim) hg c.g ha hdb he rfl
def kMkO (K : PySem.W.Frag) (C : Addr) (fld : Str) (vs : List V) (H1 : Hp) (Q : XK) : Prop := vs.length ≤ 1000 ∧ ∀ a, H1 a = none → spSup K C fld (.ref a :: (vs ++ [])) (upd H1 a (exo a C none))
  (fun v H2 => v = .non ∧ ∃ (d : Addr) (fs : List (Str × V)), H2 a = some (exo a C (some d)) ∧ H2 d = some (exd d fs) ∧ H1 d = none ∧ Q (.ref C) (some d) (upd (del H2 a) d (.xd fs))) (fun _ _ _ => False)
theorem w_mkO {K : PySem.W.Frag} {C : Addr} {fld : Str} {t : TA} {σ : L2.St} {H : Hp} {Q : XK} (h : t σ H fun vs H1 => kMkO K C fld vs H1 Q) : tMkO C (spSup K C fld) [] t σ H Q := h
theorem l_mkO {K : PySem.W.Frag} {C : Addr} {fld : Str} {v : V} {H : Hp} {Q : XK} (hv : BearsV v) (T : OexC K C) (h : ∀ d, H d = none → Q (.ref C) (some d) (upd H d (.xd [(fld, v)]))) : kMkO K C fld [v] H Q :=
  ⟨by simp, fun a ha => ⟨a, v, rfl, hv, T, upd_same, fun dx ndx ne => ⟨rfl, dx, [(fld, v)], upd_same, by rw [upd_ne ne]; exact upd_same, (by rw [upd_ne ne] at ndx; exact ndx), by
    have nH : H dx = none := by rw [upd_ne ne] at ndx; exact ndx
    have e : upd (del (upd (upd (upd H a (exo a C none)) dx (exd dx [(fld, v)])) a (exo a C (some dx))) a) dx (.xd [(fld, v)]) = upd H dx (.xd [(fld, v)]) := by
      funext b
      by_cases hb : b = dx
      · rw [hb, upd_same, upd_same]
      · rw [upd_ne hb, upd_ne hb]
        by_cases hba : b = a
        · rw [hba, del_same, ha]
        · rw [del_ne hba, upd_ne hba, upd_ne hb, upd_ne hba]
    rw [e]
    exact h dx nH⟩⟩⟩
end Ak

namespace Ak
open PySem PySem.Spec PyProof.Rows L2
/-! ### the law's world: dice, a list of tuples, what each of them stands for -/
/-- not a list of ints -/
def NoInts (H : Hp) (b : Addr) : Prop := ∀ ns : List Int, H b ≠ some (.lst (ns.map V.int))
theorem NoInts.dice {K : PySem.W.Frag} {H0 H : Hp} {d : Addr} (x : Dice K H0 H d) : NoInts H d := by
  obtain ⟨⟨a, ns, i, m, r, h1, h2⟩, h3, h4⟩ := x
  intro ms e
  rw [h1] at e
  cases ms with
  | nil => cases e
  | cons n t => cases e
/-- no list, no tuple, no table, no code object -/
structure Solid (o : HO) : Prop where
  l : ∀ xs, o ≠ .lst xs
  t : ∀ xs, o ≠ .tup xs
  b : ∀ ps, o ≠ .tbl ps
  x : ∀ φ, o ≠ .ext φ
theorem Solid.ins {C dx : Addr} {fs : List (Str × V)} : Solid (.ins C dx fs) := ⟨fun _ z => (by cases z), fun _ z => (by cases z), fun _ z => (by cases z), fun _ z => (by cases z)⟩
theorem Solid.dK {kvs : List (Key × V)} : Solid (.dK kvs) := ⟨fun _ z => (by cases z), fun _ z => (by cases z), fun _ z => (by cases z), fun _ z => (by cases z)⟩
theorem NoInts.solid {H : Hp} {b : Addr} {o : HO} (h : H b = some o) (s : Solid o) : NoInts H b := fun ns e => s.l _ (Option.some.inj (h.symm.trans e))
theorem Dice.ext' {K : PySem.W.Frag} {H0 H H' : Hp} {d : Addr} (x : Dice K H0 H d) (e : Ext0 H H') : Dice K H0 H' d := by
  obtain ⟨⟨a, ns, i, m, r, h1, h2⟩, h3, h4⟩ := x
  exact ⟨⟨a, ns, i, m, r, e _ _ h1 (fun _ z => by cases z), h2⟩, h3, h4.trans e⟩
theorem Keep.ext {H H' : Hp} (k : Keep [] H H') : Ext0 H H' := fun b o h _ => k.1 b o nin_nil h
/-- neither a table nor a code object -/
def Plain (H : Hp) (b : Addr) : Prop := ∃ o, H b = some o ∧ (∀ ps, o ≠ .tbl ps) ∧ ∀ φ, o ≠ .ext φ
theorem Plain.lst {H : Hp} {b : Addr} {xs : List V} (h : H b = some (.lst xs)) : Plain H b := ⟨_, h, fun _ z => (by cases z), fun _ z => (by cases z)⟩
theorem Plain.solid {H : Hp} {b : Addr} {o : HO} (h : H b = some o) (s : Solid o) : Plain H b := ⟨o, h, s.b, s.x⟩
theorem Tabs.keep {T : List (Addr × Str)} {S : List Addr} {H H' : Hp} (t : LamX.Tabs T H) (k : Keep S H H') (n : ∀ b, b ∈ S → Plain H b) : LamX.Tabs T H' := by
  intro x hx
  obtain ⟨ps, h1, h2, h3⟩ := t x hx
  refine ⟨ps, k.1 _ _ (fun m => ?_) h1, h2, fun pos cv hcv => ?_⟩
  · obtain ⟨o, e, ne, _⟩ := n _ m
    rw [h1] at e
    exact ne ps (Option.some.inj e).symm
  · obtain ⟨c, e1, e2⟩ := h3 pos cv hcv
    refine ⟨c, e1, k.1 _ _ (fun m => ?_) e2⟩
    obtain ⟨o, e, _, ne⟩ := n _ m
    rw [e2] at e
    exact ne _ (Option.some.inj e).symm
theorem plain0 {H : Hp} : ∀ c, c ∈ ([] : List Addr) → Plain H c := fun _ m => absurd m List.not_mem_nil
theorem plain1 {H : Hp} {b : Addr} (h : Plain H b) : ∀ c, c ∈ [b] → Plain H c := fun c m => by rw [List.mem_singleton.mp m]; exact h
theorem Tabs.one {P : Addr} {q : Str} {H : Hp} (h : LamX.TabS H P q) : LamX.Tabs [(P, q)] H := fun p hp => by rw [List.mem_singleton.mp hp]; exact h
/-- behind a call that changed what is new alone -/
theorem Keep.fresh {S T : List Addr} {H H1 H2 : Hp} (l : Keep T H1 H2) (h : ∀ b, b ∈ T → H b = none) (k : Keep S H H1) : Keep S H H2 :=
  ⟨fun b u n e => l.1 b u (fun m => by rw [h b m] at e; cases e) (k.1 b u n e), fun b e => k.2 b (l.2 b e)⟩
theorem Keep.old {S : List Addr} {H0 H H' : Hp} (old : ∀ b, H b = none → H0 b = none) (k : Keep S H H') : ∀ b, H' b = none → H0 b = none := fun b e => old b (k.2 b e)
/-- all but S and the tables stay -/
def KeepX (S : List Addr) (H H' : Hp) : Prop := ∀ a o, a ∉ S → H a = some o → (∀ ps, o ≠ .tbl ps) → H' a = some o
theorem Keep.x {S : List Addr} {H H' : Hp} (k : Keep S H H') : KeepX S H H' := fun a o n h _ => k.1 a o n h
theorem KeepX.ext {H H' : Hp} (e : Ext0 H H') : KeepX [] H H' := fun a o _ h n => e a o h n
theorem KeepX.trans {S : List Addr} {H H1 H2 : Hp} (a : KeepX S H H1) (b : KeepX S H1 H2) : KeepX S H H2 := fun c o n h t => b c o n (a c o n h t) t
theorem KeepX.mono {S T : List Addr} {H H1 : Hp} (a : KeepX T H H1) (h : ∀ b, b ∈ T → b ∈ S) : KeepX S H H1 := fun c o n => a c o fun m => n (h c m)
theorem KeepX.mono0 {S : List Addr} {H H1 : Hp} (a : KeepX [] H H1) : KeepX S H H1 := a.mono sub_nil
theorem KeepX.fresh {S T : List Addr} {H H1 H2 : Hp} (l : KeepX T H1 H2) (h : ∀ b, b ∈ T → b ∈ S ∨ H b = none) (k : KeepX S H H1) : KeepX S H H2 := fun a o n e t => l a o (fun m => by
  rcases h a m with z | z
  · exact n z
  · rw [e] at z; cases z) (k a o n e t) t
theorem KeepX.fresh' {S T : List Addr} {H H1 H2 : Hp} (l : KeepX T H1 H2) (h : ∀ b, b ∈ T → b ∈ S ∨ ∀ o, H b = some o → ¬ ∀ ps, o ≠ .tbl ps) (k : KeepX S H H1) : KeepX S H H2 := fun a o n e t => l a o (fun m => by
  rcases h a m with z | z
  · exact n z
  · exact z o e t) (k a o n e t) t
theorem Dice.keepX {K : PySem.W.Frag} {H0 H H1 : Hp} {d : Addr} {S : List Addr} (x : Dice K H0 H d) (k : KeepX S H H1) (nd : d ∉ S) (n : ∀ b, b ∈ S → H0 b = none) : Dice K H0 H1 d := by
  obtain ⟨⟨a, ns, i, m, r, h1, h2⟩, h3, h4⟩ := x
  exact ⟨⟨a, ns, i, m, r, k _ _ nd h1 (fun _ z => by cases z), h2⟩, h3, fun b o h t => k b o (fun m => by rw [n b m] at h; cases h) (h4 b o h t) t⟩
theorem Dice.own {K : PySem.W.Frag} {H0 H1 H2 : Hp} {d D : Addr} {o : HO} (x : Dice K H0 H1 d) (y : Dice K H0 H2 d) (n : H1 D = none) (ne : d ≠ D) : Dice K H0 (upd H2 D o) d := by
  obtain ⟨⟨a, ns, i, m, r, h1, h2⟩, h3, h4⟩ := y
  exact ⟨⟨a, ns, i, m, r, (upd_ne ne).trans h1, h2⟩, h3, fun b u h t => by
    rw [upd_ne (fun z => by
      have := x.ext b u h t
      rw [z, n] at this
      cases this)]
    exact h4 b u h t⟩
/-- what follows an if, said once -/
theorem cut_if {c : Bool} {t u : TS} {D : Ends} {σ : L2.St} {H : Hp} (N : L2.St → Hp → Prop) (a : ∀ σ' H', N σ' H' → D.nx σ' H') (b : (∀ σ' H', N σ' H' → D.nx σ' H') → if c = true then t D σ H else u D σ H) : if c = true then t D σ H else u D σ H := b a
/-- the same, what follows kept closed -/
theorem cut_ifO {c : Bool} {t u : TS} {D : Ends} {σ : L2.St} {H : Hp} (N : L2.St → Hp → Prop) (a : ∀ σ' H', N σ' H' → D.nx σ' H') (b : ∀ R : L2.St → Hp → Prop, (∀ σ' H', N σ' H' → R σ' H') → if c = true then t { D with nx := R } σ H else u { D with nx := R } σ H) : if c = true then t D σ H else u D σ H := b D.nx a
theorem cut_isi {K : PySem.W.Frag} {vf c : V} {t u : TS} {D : Ends} {σ : L2.St} {H : Hp} (N : L2.St → Hp → Prop) (a : ∀ σ' H', N σ' H' → D.nx σ' H') (b : ∀ R : L2.St → Hp → Prop, (∀ σ' H', N σ' H' → R σ' H') → rIsi K [vf, c] H fun x H' => ∃ k, TruV K x H' k ∧ if k = true then t { D with nx := R } σ H' else u { D with nx := R } σ H') : rIsi K [vf, c] H fun x H' => ∃ k, TruV K x H' k ∧ if k = true then t D σ H' else u D σ H' := b D.nx a
theorem cut_seq {t u : TS} {D : Ends} {σ : L2.St} {H : Hp} (N : L2.St → Hp → Prop) (a : ∀ σ' H', N σ' H' → u D σ' H') (b : ∀ R : L2.St → Hp → Prop, (∀ σ' H', N σ' H' → R σ' H') → t { D with nx := R } σ H) : tSeq t u D σ H := b (u D) a
/-! alike -/
section
variable {K : PySem.W.Frag} {H : Hp} {n : Nat} {p q : Addr}
theorem al_int {i : Int} : Alike K H (n + 1) (.int i) (.int i) := Or.inr (Or.inl ⟨i, rfl, rfl⟩)
theorem al_bl {b : Bool} : Alike K H (n + 1) (.bl b) (.bl b) := Or.inl ⟨b, rfl, rfl⟩
theorem al_str {s : Str} : Alike K H (n + 1) (.str s) (.str s) := Or.inr (Or.inr (Or.inl ⟨s, rfl, rfl⟩))
theorem al_non : Alike K H (n + 1) .non .non := Or.inr (Or.inr (Or.inr (Or.inl ⟨rfl, rfl⟩)))
inductive AlL (K : PySem.W.Frag) (H : Hp) (n : Nat) : List V → List V → Prop
  | nil : AlL K H n [] []
  | cons {x y : V} {xs ys : List V} (h : Alike K H n x y) (t : AlL K H n xs ys) : AlL K H n (x :: xs) (y :: ys)
theorem AlL.len {xs ys : List V} (h : AlL K H n xs ys) : xs.length = ys.length := by
  induction h with
  | nil => rfl
  | cons _ _ ih => rw [List.length_cons, List.length_cons, ih]
theorem AlL.at {xs ys : List V} (h : AlL K H n xs ys) : ∀ (k : Nat) u v, xs[k]? = some u → ys[k]? = some v → Alike K H n u v := by
  induction h with
  | nil => intro k u v a _; simp at a
  | cons h t ih =>
    intro k u v a b
    match k, a, b with
    | 0, a, b => cases a; cases b; exact h
    | k + 1, a, b => exact ih k u v (by simpa using a) (by simpa using b)
theorem al_tup {xs ys : List V} (hx : H p = some (.tup xs)) (hy : H q = some (.tup ys)) (h : AlL K H n xs ys) (hl : xs.length ≤ 16777216) : Alike K H (n + 1) (.ref p) (.ref q) :=
  Or.inr (Or.inr (Or.inr (Or.inr (Or.inl ⟨p, q, _, _, rfl, rfl, SqT.of hx, SqT.of hy, h.len, hl, h.at⟩))))
theorem al_lst {xs ys : List V} (hx : H p = some (.lst xs)) (hy : H q = some (.lst ys)) (h : AlL K H n xs ys) (hl : xs.length ≤ 16777216) : Alike K H (n + 1) (.ref p) (.ref q) :=
  Or.inr (Or.inr (Or.inr (Or.inr (Or.inr ⟨p, q, _, _, rfl, rfl, SqL.of hx, SqL.of hy, h.len, hl, h.at⟩))))
theorem AlL.same {xs : List V} (h : ∀ x, x ∈ xs → Alike K H n x x) : AlL K H n xs xs := by
  induction xs with
  | nil => exact .nil
  | cons x r ih => exact .cons (h x List.mem_cons_self) (ih fun y hy => h y (List.mem_cons_of_mem _ hy))
theorem AlL.ints {ns : List Int} : AlL K H (n + 1) (ns.map V.int) (ns.map V.int) := AlL.same fun x hx => by
  obtain ⟨i, _, rfl⟩ := List.mem_map.mp hx
  exact al_int
end
def Fr (H0 : Hp) (a : Addr) : Prop := ∀ o, H0 a = some o → ∃ ps, o = .tbl ps
theorem Fr.of {H0 H : Hp} {a : Addr} (e : Ext0 H0 H) (n : H a = none) : Fr H0 a := fun o h => by
  by_cases q : ∃ ps, o = .tbl ps
  · exact q
  · have := e a o h fun ps z => q ⟨ps, z⟩
    rw [n] at this
    cases this
theorem Dice.keepF {K : PySem.W.Frag} {H0 H H1 : Hp} {d : Addr} {S : List Addr} (x : Dice K H0 H d) (k : KeepX S H H1) (nd : d ∉ S) (n : ∀ b, b ∈ S → Fr H0 b) : Dice K H0 H1 d := by
  obtain ⟨⟨a, ns, i, m, r, h1, h2⟩, h3, h4⟩ := x
  exact ⟨⟨a, ns, i, m, r, k _ _ nd h1 (fun _ z => by cases z), h2⟩, h3, fun b o h t => k b o (fun m => by
    obtain ⟨ps, z⟩ := n b m o h
    exact t ps z) (h4 b o h t) t⟩
end Ak

namespace Ak
open PySem PySem.Spec PyProof.Rows L2
/-! ### isinstance of a caught error that carries fields -/
structure ExcD (K : PySem.W.Frag) (D : Addr) : Prop where
  c : ExcC K D
  k : (PySem.W.clsIn K D).isSome = true
def rIsE3 (K : PySem.W.Frag) (cls : Value) (d : Option Addr) (a : Addr) : List V → Hp → VK → Prop := fun xs H Q => ∃ D dd fs, cls = .ref D ∧ d = some dd ∧ H dd = some (.xd fs) ∧ ExcD K D ∧ rIsE K D a xs H Q
theorem call_isE3 {X : Cx} {K : PySem.W.Frag} {a : Addr} {cls : Value} {d : Option Addr} {oe : Obj} {pn : List (Addr × Obj)} (h : X.K = K) (hz : Zc cls d oe) (hf : ∃ vs, oe.data = .fields vs) : CallR (X.suite a ((a, oe) :: pn)) (.builtin "isinstance") (rIsE3 K cls d a) := by
  subst h
  intro pins s σ H xs us Q I r q
  obtain ⟨D, dd, fs, rfl, rfl, hdd, C, c, cv, b, rfl, hcv, hk, q⟩ := q
  obtain ⟨u1, u2, rfl, r1, r2⟩ : ∃ u1 u2, us = [u1, u2] ∧ RelV (.ref a) u1 ∧ RelV c u2 := by
    cases r with
    | cons r1 rr => cases rr with
      | cons r2 rn => cases rn with
        | nil => exact ⟨_, _, rfl, r1, r2⟩
  obtain rfl : u1 = Value.ref a := r1
  obtain rfl := hcv _ r2
  obtain ⟨hget, _⟩ := I.pin (a, oe) (List.mem_append.mpr (Or.inl List.mem_cons_self))
  have hx := I.hok dd _ hdd
  obtain ⟨odd, hodd⟩ : ∃ o, s.heap.get? dd = some o := by
    simp only [ObjOk] at hx
    obtain ⟨mA, hn, _⟩ := hx
    obtain ⟨o, _, _, ho, _⟩ := hn
    exact ⟨o, ho⟩
  obtain ⟨oc, od, oda, osl⟩ := oe
  obtain ⟨h1, h2⟩ := hz
  obtain ⟨vs, hv⟩ := hf
  simp only at h1 h2 hv hget
  subst h1 h2 hv
  have J : PySem.W.InstAt s.heap a ⟨.ref D, some dd, .fields vs, osl⟩ D (some odd) := ⟨hget, rfl, rfl, hodd⟩
  exact PySem.W.kia_one (PySem.W.kitx_exc C.k C.c.hg C.c.hk C.c.hs C.c.ha C.c.hn C.c.ht C.c.hm) I.kIn J hk (fun z => nomatch z) fun tk => ⟨.bl b, H, I.kept fun x x_1 z => z, rfl, q⟩
def rIsE4 (K : PySem.W.Frag) (cls : Value) (d : Option Addr) (a : Addr) : List V → Hp → VK → Prop := fun xs H Q => rIsE2 K cls d a xs H Q ∨ rIsE3 K cls d a xs H Q
theorem call_isE4 {X : Cx} {K : PySem.W.Frag} {a : Addr} {cls : Value} {d : Option Addr} {oe : Obj} {pn : List (Addr × Obj)} (h : X.K = K) (hz : Zc cls d oe) (hf : ∃ vs, oe.data = .fields vs) : CallR (X.suite a ((a, oe) :: pn)) (.builtin "isinstance") (rIsE4 K cls d a) :=
  CallR.or (call_isE2 h hz hf) (call_isE3 h hz hf)
section
variable {K : PySem.W.Frag} {H : Hp} {Q : VK} {a : Addr} {cls : Value} {d : Option Addr} {D C dd : Addr} {k : Bool} {fs : List (Str × V)} {T : String}
theorem w_isE4 (x : ExcC K D) (hk : PySem.W.kitOne K (.ref D) (.ref C) = some k) (h : Q (.bl k) H) : rIsE4 K (.ref D) none a [.ref a, .ref C] H Q := Or.inl (w_isE rfl rfl x hk h)
theorem w_isE4T (x : ExcC K D) (hk : PySem.W.kitOne K (.ref D) (.type T) = some k) (h : Q (.bl k) H) : rIsE4 K (.ref D) none a [.ref a, .ty T] H Q := Or.inl (w_isET rfl rfl x hk h)
theorem w_isE4d (x : ExcD K D) (e : H dd = some (.xd fs)) (hk : PySem.W.kitOne K (.ref D) (.ref C) = some k) (h : Q (.bl k) H) : rIsE4 K (.ref D) (some dd) a [.ref a, .ref C] H Q := Or.inr ⟨D, dd, fs, rfl, rfl, e, x, .ref C, .ref C, k, rfl, fun _ r => r, hk, h⟩
theorem w_isE4dT (x : ExcD K D) (e : H dd = some (.xd fs)) (hk : PySem.W.kitOne K (.ref D) (.type T) = some k) (h : Q (.bl k) H) : rIsE4 K (.ref D) (some dd) a [.ref a, .ty T] H Q := Or.inr ⟨D, dd, fs, rfl, rfl, e, x, .ty T, .type T, k, rfl, fun _ r => r, hk, h⟩
end
theorem w_xf {a : Addr} {cls : Value} {d : Option Addr} {C : Addr} {f : Str} {te : TE} {σ : L2.St} {H : Hp} {Q : VK} (h : te σ H fun x H1 => x = .ref a ∧ cls = .ref C ∧ ∃ (dd : Addr) (fs : List (Str × V)) (v : V), d = some dd ∧ H1 dd = some (.xd fs) ∧ fs.lookup f = some v ∧ Q v H1) : tXf a cls d C f te σ H Q := h
local macro_rules | `(tactic| walk_at "s") => `(tactic| ((with_reducible show Ak.rIsE4 _ _ _ _ _ _ _); first | refine Ak.w_isE4 (by walk_at "as") (by walk_at "as") ?_ | refine Ak.w_isE4T (by walk_at "as") (by walk_at "as") ?_ | refine Ak.w_isE4d (by walk_at "as") (by walk_at "lk") (by walk_at "as") ?_ | refine Ak.w_isE4dT (by walk_at "as") (by walk_at "lk") (by walk_at "as") ?_))
/-- what the text knows of its errors -/
structure ToldC (K : PySem.W.Frag) (C0 C1 C2 C3 C4 C5 C6 : Addr) : Prop where
  o1 : OneBad K C0 C1 C2 C3 C4 C5 C6 C1 true false false false false false
  o2 : OneBad K C0 C1 C2 C3 C4 C5 C6 C2 false true false false false false
  o3 : OneBad K C0 C1 C2 C3 C4 C5 C6 C3 false false true false false false
  o4 : OneBad K C0 C1 C2 C3 C4 C5 C6 C4 false false false true false false
  o5 : OneBad K C0 C1 C2 C3 C4 C5 C6 C5 false false false false true false
  o6 : OneBad K C0 C1 C2 C3 C4 C5 C6 C6 false false false false false true
  s1 : (PySem.W.clsIn K C1).isSome = true
  n1 : PySem.W.findIn K (.ref C1) "word" = some none
  s5 : (PySem.W.clsIn K C5).isSome = true
  n5 : PySem.W.findIn K (.ref C5) "number" = some none
  s6 : (PySem.W.clsIn K C6).isSome = true
  n6 : PySem.W.findIn K (.ref C6) "place" = some none
theorem ToldC.x1 {K : PySem.W.Frag} {C0 C1 C2 C3 C4 C5 C6 : Addr} (t : ToldC K C0 C1 C2 C3 C4 C5 C6) : XfC K C1 := ⟨t.o1.x.hg, t.o1.x.hk, t.o1.x.hs, t.o1.x.hd⟩
theorem ToldC.x5 {K : PySem.W.Frag} {C0 C1 C2 C3 C4 C5 C6 : Addr} (t : ToldC K C0 C1 C2 C3 C4 C5 C6) : XfC K C5 := ⟨t.o5.x.hg, t.o5.x.hk, t.o5.x.hs, t.o5.x.hd⟩
theorem ToldC.x6 {K : PySem.W.Frag} {C0 C1 C2 C3 C4 C5 C6 : Addr} (t : ToldC K C0 C1 C2 C3 C4 C5 C6) : XfC K C6 := ⟨t.o6.x.hg, t.o6.x.hk, t.o6.x.hs, t.o6.x.hd⟩
/-- what is told of a refusal -/
inductive ToldW (C1 C2 C3 C4 C5 C6 : Addr) (H : Hp) : Value → Option Addr → List V → Prop
  | setting {dd : Addr} {fs : List (Str × V)} {v : V} (h : H dd = some (.xd fs)) (l : fs.lookup ("word" : Str) = some v) : ToldW C1 C2 C3 C4 C5 C6 H (.ref C1) (some dd) [.str "setting", v]
  | mark : ToldW C1 C2 C3 C4 C5 C6 H (.ref C2) none [.str "mark"]
  | bits : ToldW C1 C2 C3 C4 C5 C6 H (.ref C3) none [.str "bits"]
  | full : ToldW C1 C2 C3 C4 C5 C6 H (.ref C4) none [.str "full"]
  | event {dd : Addr} {fs : List (Str × V)} {v : V} (h : H dd = some (.xd fs)) (l : fs.lookup ("number" : Str) = some v) : ToldW C1 C2 C3 C4 C5 C6 H (.ref C5) (some dd) [.str "event", v]
  | text {dd : Addr} {fs : List (Str × V)} {v : V} (h : H dd = some (.xd fs)) (l : fs.lookup ("place" : Str) = some v) : ToldW C1 C2 C3 C4 C5 C6 H (.ref C6) (some dd) [.str "text", v]
def TTold3 (C1 C2 C3 C4 C5 C6 : Addr) : (XK → Hp → VK → Prop) → Hp → VK → Prop := fun tl H Q =>
  tl (fun cls d H' => ∃ out, ToldW C1 C2 C3 C4 C5 C6 H' cls d out ∧ ∀ p H2, H' p = none → Keep [] H' H2 → H2 p = some (.tup out) → Q (.ref p) H2) H Q
theorem told_gives3 {X : Cx} {g C0 C1 C2 C3 C4 C5 C6 : Addr} {cdg : Value} {q : Str} (TC : ToldC X.K C0 C1 C2 C3 C4 C5 C6) (g_BitsError : X.mg "BitsError" = some (.ref C0)) (g_BadSetting : X.mg "BadSetting" = some (.ref C1)) (g_BadMark : X.mg "BadMark" = some (.ref C2))
    (g_BadBits : X.mg "BadBits" = some (.ref C3)) (g_Full : X.mg "Full" = some (.ref C4)) (g_BadEvent : X.mg "BadEvent" = some (.ref C5)) (g_BadText : X.mg "BadText" = some (.ref C6)) (g_isinstance : X.mg "isinstance" = none) (g_ValueError : X.mg "ValueError" = none) :
    LamX.GivesTo X N_l_told "_law_told" (defScope s_l_told) g cdg (defBody s_l_told) "_law_work" q (TTold3 C1 C2 C3 C4 C5 C6) := by
  intro f c' s H Q tl act hc h
  refine ⟨_, pss_one (ps_try_as (X := (cxOf C8.CX0 X.prog X.w X.K X.mg X.base N_l_told "_law_told" (defScope s_l_told) g cdg X.A X.stack s H C8.E0).nox) (i := 1) (c := .ref C0)
      (tb := fun W D σ H => ∃ Ech : XK, (∀ cls d σ' H', σ'.length = 5 → Ech cls d H' → W cls d σ' H') ∧ σ[0]? = some (some (.ref f)) ∧ H c' = some (LamX.CodeO c' q) ∧ tl Ech H D.rt)
      rfl rfl sc_l_told.nd rfl rfl ⟨by rfl, by decide, .inl g_BitsError⟩ takes0 (fun W pn xe tk _ => ?_) (fun a oe cls d pn hz hf => (pss_cons (ps_set (i := 2) sc_l_told.nd rfl (Or.inl rfl) (pe_lst (pa_cons (pe_callB (Ak.call_isE4 (K := X.K) (by rfl) hz hf) (by rfl) g_isinstance (by decide +kernel) (pa_cons (pv 1) (pa_cons (Ak.pe_cls (by rfl) g_BadSetting) pa_nil))) (pa_cons (pe_callB (Ak.call_isE4 (K := X.K) (by rfl) hz hf) (by rfl) g_isinstance (by decide +kernel) (pa_cons (pv 1) (pa_cons (Ak.pe_cls (by rfl) g_BadMark) pa_nil))) (pa_cons (pe_callB (Ak.call_isE4 (K := X.K) (by rfl) hz hf) (by rfl) g_isinstance (by decide +kernel) (pa_cons (pv 1) (pa_cons (Ak.pe_cls (by rfl) g_BadBits) pa_nil))) (pa_cons (pe_callB (Ak.call_isE4 (K := X.K) (by rfl) hz hf) (by rfl) g_isinstance (by decide +kernel) (pa_cons (pv 1) (pa_cons (Ak.pe_cls (by rfl) g_Full) pa_nil))) pa_nil))))))
      (pss_cons (ps_set (i := 2) sc_l_told.nd rfl (Or.inl rfl) (pe_op (Ak.op_plusK (K := X.K) (by rfl)) (pv 2) (pe_lst (pa_cons (pe_callB (Ak.call_isE4 (K := X.K) (by rfl) hz hf) (by rfl) g_isinstance (by decide +kernel) (pa_cons (pv 1) (pa_cons (Ak.pe_cls (by rfl) g_BadEvent) pa_nil))) (pa_cons (pe_callB (Ak.call_isE4 (K := X.K) (by rfl) hz hf) (by rfl) g_isinstance (by decide +kernel) (pa_cons (pv 1) (pa_cons (Ak.pe_cls (by rfl) g_BadText) pa_nil))) pa_nil)))))
      (pss_cons (ps_set (i := 3) sc_l_told.nd rfl (Or.inl rfl) (pe_lst (pa_cons pe_str (pa_cons pe_str (pa_cons pe_str (pa_cons pe_str (pa_cons pe_str (pa_cons pe_str pa_nil))))))))
      (pss_cons (ps_if (PW.pt (pw_or (pt_cmpR op_ne (Ak.pe_bmK (K := X.K) (by rfl) PySem.F.plainAttrs_list PySem.F.slot_list_count PySem.F.type_list_count (Ak.mt_countK (K := X.K) (by rfl)) (pv 2) (pa_cons pe_bl pa_nil)) pe_int (nomark _)) (pw_or1 (pt_not (Ak.pt_truK (K := X.K) (by rfl) (pe_callB (Ak.call_isE4 (K := X.K) (by rfl) hz hf) (by rfl) g_isinstance (by decide +kernel) (pa_cons (pv 1) (pa_cons (Ak.pe_ty (T := "ValueError") (by rfl) g_ValueError (by decide +kernel)) pa_nil))))))))
      (pss_one (ps_ret (pe_tup (pa_cons pe_str pa_nil))))
      pss_nil)
      (pss_cons (ps_set (i := 4) sc_l_told.nd rfl (Or.inl rfl) (pe_ix (Ak.ix_K (K := X.K) (by rfl)) (pv 3) (Ak.pe_bmK (K := X.K) (by rfl) PySem.F.plainAttrs_list PySem.F.slot_list_index PySem.F.type_list_index (Ak.mt_indexK (K := X.K) (by rfl)) (pv 2) (pa_cons pe_bl pa_nil)) (by intro _ _; rfl)))
      (pss_cons (ps_if (pt_cmpR op_eq (pv 4) pe_str (nomark _))
      (pss_one (ps_ret (pe_tup (pa_cons (pv 4) (pa_cons (L2.pe_xf TC.x1 TC.n1 hz hf (pv 1)) pa_nil)))))
      pss_nil)
      (pss_cons (ps_if (pt_cmpR op_eq (pv 4) pe_str (nomark _))
      (pss_one (ps_ret (pe_tup (pa_cons (pv 4) (pa_cons (L2.pe_xf TC.x5 TC.n5 hz hf (pv 1)) pa_nil)))))
      pss_nil)
      (pss_one (ps_ret (pe_ifExp (pt_cmpR op_eq (pv 4) pe_str (nomark _)) (pe_tup (pa_cons (pv 4) (pa_cons (L2.pe_xf TC.x6 TC.n6 hz hf (pv 1)) pa_nil))) (pe_tup (pa_cons (pv 4) pa_nil)))))))))))))), ?_⟩
  · refine ⟨fun pins s' σ H' D I h' => ?_⟩
    obtain ⟨Ech, hW, h1, h2, h3⟩ := h'
    exact (pss_one (ps_ret (act _ pn xe Ech _ _ (takesLen tk) (fun cls d σ' H' e l => hW cls d σ' H' l e)))).run pins s' σ H' D I ⟨h1, h2, h3⟩
  · refine ⟨_, fun cls d σ' H' hl he => ?_, rfl, hc, h⟩
    obtain ⟨out, to, k⟩ := he
    obtain ⟨v0, v1, v2, v3, v4, rfl⟩ : ∃ v0 v1 v2 v3 v4, σ' = [v0, v1, v2, v3, v4] := by
      match σ', hl with
      | [v0, v1, v2, v3, v4], _ => exact ⟨v0, v1, v2, v3, v4, rfl⟩
    obtain ⟨o1, o2, o3, o4, o5, o6, s1, n1, s5, n5, s6, n6⟩ := TC
    cases to with
    | setting h l =>
      obtain ⟨m, x, k1, k2, k3, k4, k5, k6, kv⟩ := o1
      have xd : ExcD X.K C1 := ⟨x, s1⟩
      refine ⟨true, m, fun _ a ha => ?_, fun z => nomatch z⟩
      walk_at "rd"
      refine Ak.w_iteN (fun z => absurd rfl z) (fun _ => ?_)
      walk_at "rd"
      refine Ak.w_idxI 0 0 rfl (by walk_at "lk") (by rfl) (by rfl) (by rfl) (by rfl) (by exact bl_ahead [true, false, false, false, false, false] 0 rfl) ?_
      walk_at "rd"
      refine Ak.w_ite (fun _ => ?_) (fun z => absurd rfl z)
      walk_at "rd"
      refine Ak.w_xf ?_
      walk_at "rd"
      refine ⟨rfl, rfl, _, _, _, rfl, (by walk_at "lk"), l, ?_⟩
      walk_at "rd"
      refine k _ _ ?_ ?_ upd_same
      · exact fresh_of [] (by walk_at "as") (by walk_at "kp")
      · walk_at "kp"
    | mark =>
      obtain ⟨m, x, k1, k2, k3, k4, k5, k6, kv⟩ := o2
      refine ⟨true, m, fun _ a ha => ?_, fun z => nomatch z⟩
      walk_at "rd"
      refine Ak.w_iteN (fun z => absurd rfl z) (fun _ => ?_)
      walk_at "rd"
      refine Ak.w_idxI 1 1 rfl (by walk_at "lk") (by rfl) (by rfl) (by rfl) (by rfl) (by exact bl_ahead [false, true, false, false, false, false] 1 rfl) ?_
      walk_at "rd"
      refine Ak.w_ite (fun z => absurd z (by decide +kernel)) (fun _ => ?_)
      walk_at "rd"
      refine Ak.w_ite (fun z => absurd z (by decide +kernel)) (fun _ => ?_)
      walk_at "rd"
      refine Ak.w_ite (fun z => absurd z (by decide +kernel)) (fun _ => ?_)
      walk_at "rd"
      refine k _ _ ?_ ?_ upd_same
      · exact fresh_of [] (by walk_at "as") (by walk_at "kp")
      · walk_at "kp"
    | bits =>
      obtain ⟨m, x, k1, k2, k3, k4, k5, k6, kv⟩ := o3
      refine ⟨true, m, fun _ a ha => ?_, fun z => nomatch z⟩
      walk_at "rd"
      refine Ak.w_iteN (fun z => absurd rfl z) (fun _ => ?_)
      walk_at "rd"
      refine Ak.w_idxI 2 2 rfl (by walk_at "lk") (by rfl) (by rfl) (by rfl) (by rfl) (by exact bl_ahead [false, false, true, false, false, false] 2 rfl) ?_
      walk_at "rd"
      refine Ak.w_ite (fun z => absurd z (by decide +kernel)) (fun _ => ?_)
      walk_at "rd"
      refine Ak.w_ite (fun z => absurd z (by decide +kernel)) (fun _ => ?_)
      walk_at "rd"
      refine Ak.w_ite (fun z => absurd z (by decide +kernel)) (fun _ => ?_)
      walk_at "rd"
      refine k _ _ ?_ ?_ upd_same
      · exact fresh_of [] (by walk_at "as") (by walk_at "kp")
      · walk_at "kp"
    | full =>
      obtain ⟨m, x, k1, k2, k3, k4, k5, k6, kv⟩ := o4
      refine ⟨true, m, fun _ a ha => ?_, fun z => nomatch z⟩
      walk_at "rd"
      refine Ak.w_iteN (fun z => absurd rfl z) (fun _ => ?_)
      walk_at "rd"
      refine Ak.w_idxI 3 3 rfl (by walk_at "lk") (by rfl) (by rfl) (by rfl) (by rfl) (by exact bl_ahead [false, false, false, true, false, false] 3 rfl) ?_
      walk_at "rd"
      refine Ak.w_ite (fun z => absurd z (by decide +kernel)) (fun _ => ?_)
      walk_at "rd"
      refine Ak.w_ite (fun z => absurd z (by decide +kernel)) (fun _ => ?_)
      walk_at "rd"
      refine Ak.w_ite (fun z => absurd z (by decide +kernel)) (fun _ => ?_)
      walk_at "rd"
      refine k _ _ ?_ ?_ upd_same
      · exact fresh_of [] (by walk_at "as") (by walk_at "kp")
      · walk_at "kp"
    | event h l =>
      obtain ⟨m, x, k1, k2, k3, k4, k5, k6, kv⟩ := o5
      have xd : ExcD X.K C5 := ⟨x, s5⟩
      refine ⟨true, m, fun _ a ha => ?_, fun z => nomatch z⟩
      walk_at "rd"
      refine Ak.w_iteN (fun z => absurd rfl z) (fun _ => ?_)
      walk_at "rd"
      refine Ak.w_idxI 4 4 rfl (by walk_at "lk") (by rfl) (by rfl) (by rfl) (by rfl) (by exact bl_ahead [false, false, false, false, true, false] 4 rfl) ?_
      walk_at "rd"
      refine Ak.w_ite (fun z => absurd z (by decide +kernel)) (fun _ => ?_)
      walk_at "rd"
      refine Ak.w_ite (fun _ => ?_) (fun z => absurd rfl z)
      walk_at "rd"
      refine Ak.w_xf ?_
      walk_at "rd"
      refine ⟨rfl, rfl, _, _, _, rfl, (by walk_at "lk"), l, ?_⟩
      walk_at "rd"
      refine k _ _ ?_ ?_ upd_same
      · exact fresh_of [] (by walk_at "as") (by walk_at "kp")
      · walk_at "kp"
    | text h l =>
      obtain ⟨m, x, k1, k2, k3, k4, k5, k6, kv⟩ := o6
      have xd : ExcD X.K C6 := ⟨x, s6⟩
      refine ⟨true, m, fun _ a ha => ?_, fun z => nomatch z⟩
      walk_at "rd"
      refine Ak.w_iteN (fun z => absurd rfl z) (fun _ => ?_)
      walk_at "rd"
      refine Ak.w_idxI 5 5 rfl (by walk_at "lk") (by rfl) (by rfl) (by rfl) (by rfl) (by exact bl_ahead [false, false, false, false, false, true] 5 rfl) ?_
      walk_at "rd"
      refine Ak.w_ite (fun z => absurd z (by decide +kernel)) (fun _ => ?_)
      walk_at "rd"
      refine Ak.w_ite (fun z => absurd z (by decide +kernel)) (fun _ => ?_)
      walk_at "rd"
      refine Ak.w_ite (fun _ => ?_) (fun z => absurd rfl z)
      walk_at "rd"
      refine Ak.w_xf ?_
      walk_at "rd"
      refine ⟨rfl, rfl, _, _, _, rfl, (by walk_at "lk"), l, ?_⟩
      walk_at "rd"
      refine k _ _ ?_ ?_ upd_same
      · exact fresh_of [] (by walk_at "as") (by walk_at "kp")
      · walk_at "kp"
end Ak

namespace Ak
open PySem PySem.Spec PyProof.Rows L2
section
variable {P : Program} {w : World} {K : PySem.W.Frag} {mg : Str → Option Value} {base : Heap} {CW CE CM : Addr}
theorem ok_can_come {f : Addr} {fd : FuncData} (F : L2.Fun K "_can_come" "World._can_come" s_World__can_come f fd) (T : WorldT K CW) (m_Mouth_last : MetX P w K mg base 1 CM "last" (spMLast CM)) : FnOk P w K mg base (L2.CX P w) 2 f fd ["self", "number"] (spCanCome CW CE CM) := by
  refine Fun.okX F sc_World__can_come (fun vs H Q E h => ?_) (fun cdv A outer s H vs Q E hr h => ?_)
  · obtain ⟨_, _, _, _, _, _, _, rfl, _⟩ := h
    rfl
  · obtain ⟨a, m, wi, late, ah, st, n, rfl, X, hQ⟩ := h
    obtain ⟨cl, n1, n2, n3, n4, n5, n6⟩ := T
    obtain ⟨dx, hp⟩ := X.p
    obtain ⟨dxm, hm, _⟩ := id X.mo
    refine ⟨_, (pss_cons (ps_set (i := 2) sc_World__can_come.nd rfl (Or.inl rfl) (Ak.pe_mx0 (Ak.pe_fldK (K := K) (by rfl) (pv 0) (by rfl)) m_Mouth_last hr (by walk_at "lv") (takes_of rfl rfl rfl rfl)))
      (pss_one (ps_ret (pe_and (pe_chain op_le op_le pe_int (pv 1) (pv 2)) (pe_one (pe_cmpR op_le (pe_op op_sub (pv 2) (pv 1)) (Ak.pe_fldK (K := K) (by rfl) (pv 0) (by rfl)) (nomark _))))))), ?_⟩
    have e0 : L2.start N_World__can_come [V.ref a.p, V.int n] = [some (V.ref a.p), some (V.int n), none] := rfl
    rw [e0]
    try dsimp only [cxOf]
    walk_at "rd"
    refine ⟨a.mo, a.mc, m, wi, ah, st.l, st.mg, st.ks, rfl, X.mo, ?_⟩
    change Q (.bl (decide (0 ≤ n ∧ n ≤ st.l ∧ st.l - n ≤ late))) H at hQ
    walk_at "rd"
    refine Ak.w_ite (fun z => ?_) (fun z => ?_)
    · walk_at "rd"
      refine Ak.w_ite (fun z2 => ?_) (fun z2 => ?_)
      · walk_at "rd"
        rw [show decide (st.l - n ≤ late) = decide (0 ≤ n ∧ n ≤ st.l ∧ st.l - n ≤ late) by
          by_cases z3 : st.l - n ≤ late
          · rw [decide_eq_true z3, decide_eq_true ⟨z, z2, z3⟩]
          · rw [decide_eq_false z3, decide_eq_false (fun y => z3 y.2.2)]]
        exact hQ
      · walk_at "rd"
        rw [decide_eq_false (fun y => z2 y.2.1)] at hQ
        exact hQ
    · walk_at "rd"
      rw [decide_eq_false (fun y => z y.1)] at hQ
      exact hQ
theorem ok_can_hear {f : Addr} {fd : FuncData} (F : L2.Fun K "_can_be_heard" "World._can_be_heard" s_World__can_be_heard f fd) (T : WorldT K CW) (g_len : mg "len" = none) (m_Mouth_last : MetX P w K mg base 1 CM "last" (spMLast CM)) : FnOk P w K mg base (L2.CX P w) 2 f fd ["self", "number"] (spCanHear CW CE CM) := by
  refine Fun.okX F sc_World__can_be_heard (fun vs H Q E h => ?_) (fun cdv A outer s H vs Q E hr h => ?_)
  · obtain ⟨_, _, _, _, _, _, _, rfl, _⟩ := h
    rfl
  · obtain ⟨a, m, wi, late, ah, st, n, rfl, X, hQ⟩ := h
    obtain ⟨cl, n1, n2, n3, n4, n5, n6⟩ := T
    obtain ⟨dx, hp⟩ := X.p
    obtain ⟨dxm, hm, _⟩ := id X.mo
    have hte := X.te
    have tl := X.tt.len
    change Q (.bl (decide (0 ≤ n ∧ n < st.tl.length ∧ st.l - (st.tl.getD n.toNat (0, [], 0)).2.2 ≤ late))) H at hQ
    refine ⟨_, (pss_cons (ps_if (PW.pt (pw_or (pt_cmpR op_lt (pv 1) pe_int (nomark _)) (pw_or1 (pt_cmpR op_ge (pv 1) (pe_callB (Ak.cr_lenK (K := K) (by rfl)) (by rfl) g_len (by decide +kernel) (pa_cons (Ak.pe_fldK (K := K) (by rfl) (pv 0) (by rfl)) pa_nil)) (nomark _)))))
      (pss_one (ps_ret pe_bl))
      pss_nil)
      (pss_cons (ps_asg (pe_ix (Ak.ix_K (K := K) (by rfl)) (Ak.pe_fldK (K := K) (by rfl) (pv 0) (by rfl)) (pv 1) (by intro _ _; rfl)) (Ak.pg_tupK (K := K) (n := 2) (by rfl) rfl (pgs_cons (pg_name (i := 2) sc_World__can_be_heard.nd rfl (Or.inl rfl)) (pgs_cons (pg_name (i := 3) sc_World__can_be_heard.nd rfl (Or.inl rfl)) pgs_nil))))
      (pss_one (ps_ret (pe_cmpR op_le (pe_op op_sub (Ak.pe_mx0 (Ak.pe_fldK (K := K) (by rfl) (pv 0) (by rfl)) m_Mouth_last hr (by walk_at "lv") (takes_of rfl rfl rfl rfl)) (pv 3)) (Ak.pe_fldK (K := K) (by rfl) (pv 0) (by rfl)) (nomark _)))))), ?_⟩
    have e0 : L2.start N_World__can_be_heard [V.ref a.p, V.int n] = [some (V.ref a.p), some (V.int n), none, none] := rfl
    rw [e0]
    try dsimp only [cxOf]
    walk_at "rd"
    refine Ak.w_ite (fun z => ?_) (fun z => ?_)
    · walk_at "rd"
      rw [decide_eq_false (fun y => by omega)] at hQ
      exact hQ
    · walk_at "rd"
      rw [List.length_map, tl]
      refine Ak.w_ite (fun z2 => ?_) (fun z2 => ?_)
      · walk_at "rd"
        rw [decide_eq_false (fun y => by omega)] at hQ
        exact hQ
      · have hk : n.toNat < st.tl.length := by omega
        obtain ⟨t, q, b, et, h1, h2, h3⟩ := X.tt.at hk
        have eix : atI (a.ts.map V.ref) n = some (.ref t) := by
          rw [show n = ((n.toNat : Nat) : Int) by omega]
          refine atI_nat ?_
          rw [List.getElem?_map, et]
          rfl
        walk_at "rd"
        refine ⟨a.mo, a.mc, m, wi, ah, st.l, st.mg, st.ks, rfl, X.mo, ?_⟩
        walk_at "rd"
        rw [show decide (st.l - (st.tl.getD n.toNat (0, [], 0)).2.2 ≤ late) = decide (0 ≤ n ∧ n < st.tl.length ∧ st.l - (st.tl.getD n.toNat (0, [], 0)).2.2 ≤ late) by
          by_cases z3 : st.l - (st.tl.getD n.toNat (0, [], 0)).2.2 ≤ late
          · rw [decide_eq_true z3, decide_eq_true ⟨by omega, by omega, z3⟩]
          · rw [decide_eq_false z3, decide_eq_false (fun y => z3 y.2.2)]]
        exact hQ
theorem ok_can_be {f : Addr} {fd : FuncData} (F : L2.Fun K "can_be" "World.can_be" s_World_can_be f fd) (T : WorldT K CW) (g_len : mg "len" = none) (m_Mouth_is_full : MetX P w K mg base 1 CM "is_full" (spIsFull CM)) (m_Ear_last : MetX P w K mg base 1 CE "last" (spLast CE))
    (m_World_can_come : MetX P w K mg base 2 CW "_can_come" (spCanCome CW CE CM)) (m_World_can_be_heard : MetX P w K mg base 2 CW "_can_be_heard" (spCanHear CW CE CM)) : FnOk P w K mg base (L2.CX P w) 3 f fd ["self", "event"] (spCan K CW CE CM) := by
  refine Fun.okX F sc_World_can_be (fun vs H Q E h => ?_) (fun cdv A outer s H vs Q E hr h => ?_)
  · obtain ⟨_, _, _, _, _, _, _, _, rfl, _⟩ := h
    rfl
  · obtain ⟨a, m, wi, late, ah, st, e, ev, rfl, X, he, ok, k⟩ := h
    obtain ⟨cl, n1, n2, n3, n4, n5, n6⟩ := T
    obtain ⟨dx, hp⟩ := X.p
    obtain ⟨dxm, hm, _⟩ := id X.mo
    obtain ⟨cs, hE, _⟩ := X.e
    obtain ⟨dxe, hea, _⟩ := id hE
    have at_ := Ev.atoms ok
    refine ⟨_, (pss_cons (ps_if (pt_cmpR (Ak.op_eqK (K := K) (by rfl) hr.units) (pv 1) (pe_tup (pa_cons pe_str pa_nil)) (nomark _))
      (pss_one (ps_ret (pe_not (Ak.pe_mx0 (Ak.pe_fldK (K := K) (by rfl) (pv 0) (by rfl)) m_Mouth_is_full hr (by walk_at "lv") (takes_of rfl rfl rfl rfl)))))
      pss_nil)
      (pss_cons (ps_if (pt_cmpR (Ak.op_eqK (K := K) (by rfl) hr.units) (pv 1) (pe_tup (pa_cons pe_str pa_nil)) (nomark _))
      (pss_one (ps_ret (pe_cmpR op_ge (Ak.pe_mx0 (Ak.pe_fldK (K := K) (by rfl) (pv 0) (by rfl)) m_Ear_last hr (by walk_at "lv") (takes_of rfl rfl rfl rfl)) pe_int (nomark _))))
      pss_nil)
      (pss_cons (ps_if (pt_cmpR (Ak.op_neK (K := K) (by rfl) hr.units) (pe_callB (Ak.cr_lenK (K := K) (by rfl)) (by rfl) g_len (by decide +kernel) (pa_cons (pv 1) pa_nil)) pe_int (nomark _))
      (pss_one (ps_ret pe_bl))
      pss_nil)
      (pss_cons (ps_asg (pv 1) (Ak.pg_tupK (K := K) (n := 2) (by rfl) rfl (pgs_cons (pg_name (i := 2) sc_World_can_be.nd rfl (Or.inl rfl)) (pgs_cons (pg_name (i := 3) sc_World_can_be.nd rfl (Or.inl rfl)) pgs_nil))))
      (pss_cons (ps_if (pt_cmpR (Ak.op_eqK (K := K) (by rfl) hr.units) (pv 2) pe_str (nomark _))
      (pss_one (ps_ret (Ak.pe_mx (pv 0) m_World_can_come hr (by walk_at "lv") (takes_of rfl rfl rfl rfl) (pa_cons (pv 3) pa_nil))))
      pss_nil)
      (pss_one (ps_ret (pe_and (pe_cmpR (Ak.op_eqK (K := K) (by rfl) hr.units) (pv 2) pe_str (nomark _)) (pe_one (Ak.pe_mx (pv 0) m_World_can_be_heard hr (by walk_at "lv") (takes_of rfl rfl rfl rfl) (pa_cons (pv 3) pa_nil))))))))))), ?_⟩
    have e0 : L2.start N_World_can_be [V.ref a.p, V.ref e] = [some (V.ref a.p), some (V.ref e), none, none] := rfl
    rw [e0]
    try dsimp only [cxOf]
    walk_at "rd"
    rename_i t1 nt1
    have k1 : Keep [] H (upd H t1 (.tup [.str "send"])) := Keep.refl.new nt1
    have he1 := k1.seqT nin_nil he
    refine w_eqT he1 (SqT.of upd_same) at_ (atoms1 strOk_send) ?_
    have X1 := X.keep0 k1
    have hp1 := k1.1 _ _ nin_nil hp
    have hm1 := k1.1 _ _ nin_nil hm
    have hea1 := k1.1 _ _ nin_nil hea
    generalize upd H t1 (.tup [.str "send"]) = H1 at k1 he1 X1 hp1 hm1 hea1 ⊢
    walk_at "rd"
    cases ev with
    | send =>
      refine Ak.w_ite (fun _ => ?_) (fun z => absurd rfl z)
      walk_at "rd"
      refine ⟨a.mo, a.mc, m, wi, ah, st.l, st.mg, st.ks, rfl, X1.mo, ?_⟩
      walk_at "rd"
      exact k _ k1
    | tell =>
      refine Ak.w_ite (fun z => absurd z (by decide +kernel)) (fun _ => ?_)
      walk_at "rd"
      rename_i t2 nt2
      have k2 : Keep [] H (upd H1 t2 (.tup [.str "tell"])) := k1.new nt2
      refine w_eqT (Ak.SqT.upd he1 nt2) (SqT.of upd_same) at_ (atoms1 strOk_tell) ?_
      have X2 := X.keep0 k2
      have hp2 := k2.1 _ _ nin_nil hp
      have hea2 := k2.1 _ _ nin_nil hea
      obtain ⟨cs2, hE2, _⟩ := X2.e
      walk_at "rd"
      refine Ak.w_ite (fun _ => ?_) (fun z => absurd rfl z)
      walk_at "rd"
      refine ⟨a.ea, a.ec, m, wi, late, st.g, cs2, rfl, hE2, ?_⟩
      walk_at "rd"
      exact k _ k2
    | come n =>
      refine Ak.w_ite (fun z => by cases z) (fun _ => ?_)
      walk_at "rd"
      rename_i t2 nt2
      have k2 : Keep [] H (upd H1 t2 (.tup [.str "tell"])) := k1.new nt2
      have he2 := Ak.SqT.upd (u := .tup [.str "tell"]) he1 nt2
      refine w_eqT he2 (SqT.of upd_same) at_ (atoms1 strOk_tell) ?_
      have X2 := X.keep0 k2
      have hp2 := k2.1 _ _ nin_nil hp
      generalize upd H1 t2 (.tup [.str "tell"]) = H2 at k2 he2 X2 hp2 ⊢
      change SqT K H2 e [.str "come", .int n] at he2
      walk_at "rd"
      refine Ak.w_ite (fun z => by cases z) (fun _ => ?_)
      walk_at "rd"
      refine Ak.w_iteN (fun z => absurd rfl z) (fun _ => ?_)
      walk_at "rd"
      refine Ak.w_ite (fun _ => ?_) (fun z => absurd rfl z)
      walk_at "rd"
      refine ⟨a, m, wi, late, ah, st, n, rfl, X2, ?_⟩
      walk_at "rd"
      exact k _ k2
    | hear n =>
      refine Ak.w_ite (fun z => by cases z) (fun _ => ?_)
      walk_at "rd"
      rename_i t2 nt2
      have k2 : Keep [] H (upd H1 t2 (.tup [.str "tell"])) := k1.new nt2
      have he2 := Ak.SqT.upd (u := .tup [.str "tell"]) he1 nt2
      refine w_eqT he2 (SqT.of upd_same) at_ (atoms1 strOk_tell) ?_
      have X2 := X.keep0 k2
      have hp2 := k2.1 _ _ nin_nil hp
      generalize upd H1 t2 (.tup [.str "tell"]) = H2 at k2 he2 X2 hp2 ⊢
      change SqT K H2 e [.str "hear", .int n] at he2
      walk_at "rd"
      refine Ak.w_ite (fun z => by cases z) (fun _ => ?_)
      walk_at "rd"
      refine Ak.w_iteN (fun z => absurd rfl z) (fun _ => ?_)
      walk_at "rd"
      refine Ak.w_ite (fun z => absurd z (by decide +kernel)) (fun _ => ?_)
      walk_at "rd"
      refine Ak.w_ite (fun _ => ?_) (fun z => absurd rfl z)
      walk_at "rd"
      refine ⟨a, m, wi, late, ah, st, n, rfl, X2, ?_⟩
      walk_at "rd"
      exact k _ k2
    | odd xs =>
      have n1' : xs ≠ [.str "send"] := fun z => by
        cases ok with
        | e0 => cases z
        | e1 o h h2 => exact h (V.str.inj (List.cons.inj z).1)
        | e2 o => cases z
        | e3 o => cases z
      have n2' : xs ≠ [.str "tell"] := fun z => by
        cases ok with
        | e0 => cases z
        | e1 o h h2 => exact h2 (V.str.inj (List.cons.inj z).1)
        | e2 o => cases z
        | e3 o => cases z
      refine Ak.w_ite (fun z => absurd z n1') (fun _ => ?_)
      walk_at "rd"
      rename_i t2 nt2
      have k2 : Keep [] H (upd H1 t2 (.tup [.str "tell"])) := k1.new nt2
      have he2 := Ak.SqT.upd (u := .tup [.str "tell"]) he1 nt2
      refine w_eqT he2 (SqT.of upd_same) at_ (atoms1 strOk_tell) ?_
      have X2 := X.keep0 k2
      have hp2 := k2.1 _ _ nin_nil hp
      generalize upd H1 t2 (.tup [.str "tell"]) = H2 at k2 he2 X2 hp2 ⊢
      change SqT K H2 e xs at he2
      walk_at "rd"
      refine Ak.w_ite (fun z => absurd z n2') (fun _ => ?_)
      walk_at "rd"
      cases ok with
      | e0 =>
        refine Ak.w_iteN (fun _ => ?_) (fun z => by cases z)
        walk_at "rd"
        exact k _ k2
      | e1 o h h2 =>
        refine Ak.w_iteN (fun _ => ?_) (fun z => by cases z)
        walk_at "rd"
        exact k _ k2
      | e3 o =>
        refine Ak.w_iteN (fun _ => ?_) (fun z => by cases z)
        walk_at "rd"
        exact k _ k2
      | e2 o h h2 =>
        refine Ak.w_iteN (fun z => absurd rfl z) (fun _ => ?_)
        walk_at "rd"
        refine Ak.w_ite (fun z => absurd z h) (fun _ => ?_)
        walk_at "rd"
        refine Ak.w_ite (fun z => absurd z h2) (fun _ => ?_)
        exact k _ k2
theorem marks_succ {m l : Int} (l0 : -1 ≤ l) : marksOf m (l + 1) = marksOf m l ++ [(l + 1) % m] := by
  unfold marksOf
  rw [show (l + 1 + 1).toNat = (l + 1).toNat + 1 by omega, upTo_succ, List.map_append, show (((l + 1).toNat : Nat) : Int) = l + 1 by omega]
  rfl
theorem marks_at {m l n : Int} (n0 : 0 ≤ n) (n1 : n ≤ l) : atI ((marksOf m l).map V.int) n = some (.int (n % m)) := by
  rw [show n = ((n.toNat : Nat) : Int) by omega]
  refine atI_nat ?_
  unfold marksOf upTo
  rw [List.getElem?_map, List.getElem?_map, List.getElem?_map, List.getElem?_range (by omega)]
  rfl
theorem marks_len {m l : Int} : (marksOf m l).length = (l + 1).toNat := by unfold marksOf; rw [List.length_map, upTo_len]
theorem ok_send_w {CF : Addr} {f : Addr} {fd : FuncData} (F : L2.Fun K "_send" "World._send" s_World__send f fd) (T : WorldT K CW) (m_Mouth_send : MetX P w K mg base 2 CM "send" (spSend CM CF)) : FnOk P w K mg base (L2.CX P w) 3 f fd ["self"] (spSendW CW CE CM) := by
  refine Fun.okX F sc_World__send (fun vs H Q E h => ?_) (fun cdv A outer s H vs Q E hr h => ?_)
  · obtain ⟨_, _, _, _, _, _, _, rfl, _⟩ := h
    rfl
  · obtain ⟨a, m, wi, late, ah, st, n, rfl, X, O, hn, m0, w0, w1, hc, k⟩ := h
    obtain ⟨cl, n1, n2, n3, n4, n5, n6⟩ := T
    obtain ⟨dx, hp⟩ := X.p
    obtain ⟨dxm, hm, hmc⟩ := id X.mo
    obtain ⟨cs, ⟨dxe, hea, hec⟩, hag, hcl⟩ := X.e
    obtain ⟨rs, hta, hta2, hta3⟩ := X.ta
    have hlt := X.lt
    have hte := X.te
    have l0 := O.l0
    have l1 := O.l1
    have nf : ¬ st.mg + ah < st.l + 1 := fun z => by
      change (!decide (st.mg + ah < st.l + 1)) = true at hc
      rw [decide_eq_true z] at hc
      cases hc
    refine ⟨_, (pss_cons (ps_asg (Ak.pe_mx0 (Ak.pe_fldK (K := K) (by rfl) (pv 0) (by rfl)) m_Mouth_send hr (by walk_at "lv") (takes_of rfl rfl rfl rfl)) (Ak.pg_tupK (K := K) (n := 2) (by rfl) rfl (pgs_cons (pg_name (i := 1) sc_World__send.nd rfl (Or.inl rfl)) (pgs_cons (pg_name (i := 2) sc_World__send.nd rfl (Or.inl rfl)) pgs_nil))))
      (pss_cons (ps_expr (Ak.pe_bmK (K := K) (by rfl) PySem.F.plainAttrs_list PySem.F.slot_list_append PySem.F.type_list_append mt_append (Ak.pe_fldK (K := K) (by rfl) (pv 0) (by rfl)) (pa_cons (pv 2) pa_nil)))
      (pss_one (ps_ret (pe_tup (pa_cons (pv 1) (pa_cons (pv 2) pa_nil))))))), ?_⟩
    have e0 : L2.start N_World__send [V.ref a.p] = [some (V.ref a.p), none, none] := rfl
    rw [e0]
    try dsimp only [cxOf]
    walk_at "rd"
    refine ⟨a.mo, a.mc, m, wi, ah, st.l, st.mg, st.ks, rfl, X.mo, m0, l0, by omega, fun z => absurd z nf, fun _ t H1 nt ht hM1 k1 => ?_⟩
    have hp1 := k1.1 _ _ (nin_cons X.n5 nin_nil) hp
    have ltm : a.lt ≠ a.mo := ne_of hlt hm (by intro z; cases z)
    have hlt1 := k1.1 _ _ (nin_cons ltm nin_nil) hlt
    have sz : ((marksOf m st.l).map V.int).length < sizeLine := by rw [List.length_map, marks_len, sizeLine_eq]; omega
    walk_at "rd"
    rename_i t2 nt2
    have kk : Keep [a.mo, a.lt] H (upd (upd H1 a.lt (.lst ((marksOf m st.l).map V.int ++ [.int ((st.l + 1) % m)]))) t2 (.tup [.int (st.l + 1), .int ((st.l + 1) % m)])) := by walk_at "kp"
    have kU : Keep [a.lt] H1 (upd (upd H1 a.lt (.lst ((marksOf m st.l).map V.int ++ [.int ((st.l + 1) % m)]))) t2 (.tup [.int (st.l + 1), .int ((st.l + 1) % m)])) := by walk_at "kp"
    have hl2 : upd (upd H1 a.lt (.lst ((marksOf m st.l).map V.int ++ [.int ((st.l + 1) % m)]))) t2 (.tup [.int (st.l + 1), .int ((st.l + 1) % m)]) a.lt = some (.lst ((marksOf m (st.l + 1)).map V.int)) := by
      rw [marks_succ l0, List.map_append]
      exact at_new nt2 upd_same
    have ht2 : upd (upd H1 a.lt (.lst ((marksOf m st.l).map V.int ++ [.int ((st.l + 1) % m)]))) t2 (.tup [.int (st.l + 1), .int ((st.l + 1) % m)]) t2 = some (.tup [.int (st.l + 1), .int ((st.l + 1) % m)]) := upd_same
    have nt2H : H t2 = none := by
      refine k1.2 _ (free_upd nt2)
    generalize upd (upd H1 a.lt (.lst ((marksOf m st.l).map V.int ++ [.int ((st.l + 1) % m)]))) t2 (.tup [.int (st.l + 1), .int ((st.l + 1) % m)]) = H2 at kk kU hl2 ht2 ⊢
    have eal : a.ea ≠ a.lt := ne_of hea hlt (by intro z; cases z)
    refine k (.ref t2) a H2 ⟨⟨⟨dx, kk.1 _ _ (nin_cons X.n5 (nin_cons (ne_of hp hlt (by intro z; cases z)) nin_nil)) hp⟩,
      ⟨cs, ⟨dxe, kk.1 _ _ (nin_cons (Ne.symm X.n7) (nin_cons eal nin_nil)) hea, kk.1 _ _ (nin_cons (ne_of hec hm (by intro z; cases z)) (nin_cons X.n1 nin_nil)) hec⟩, hag, hcl⟩,
      hM1.keep kU (nin_cons (Ne.symm ltm) nin_nil) (nin_cons (ne_of hmc hlt (by intro z; cases z)) nin_nil), hl2, kk.1 _ _ (nin_cons (ne_of hte hm (by intro z; cases z)) (nin_cons (Ne.symm X.n3) nin_nil)) hte,
      X.tt.keep kk (fun b hb => X.noTup b (by simp only [List.mem_cons, List.not_mem_nil, or_false] at hb ⊢; rcases hb with h | h <;> simp [h])), ⟨rs, kk.1 _ _ (nin_cons (ne_of hta hm (by intro z; cases z)) (nin_cons (ne_of hta hlt (by intro z; cases z)) nin_nil)) hta, hta2, hta3⟩,
      X.n1, X.n2, X.n3, X.n4, X.n5, X.n6, X.n7⟩, ⟨t2, rfl, ht2⟩, fun f e => by cases e; exact nt2H, kk.mono (fun b hb => by simp only [List.mem_cons, List.not_mem_nil, or_false] at hb ⊢; rcases hb with h | h <;> simp [h]), rfl, rfl, Or.inl rfl⟩
theorem ok_tell_w {CB : Addr} {f : Addr} {fd : FuncData} (F : L2.Fun K "_tell" "World._tell" s_World__tell f fd) (T : WorldT K CW) (m_Ear_tell : MetX P w K mg base 2 CE "tell" (spTell CE CB)) (m_Mouth_last : MetX P w K mg base 1 CM "last" (spMLast CM)) : FnOk P w K mg base (L2.CX P w) 3 f fd ["self"] (spTellW CW CE CM) := by
  refine Fun.okX F sc_World__tell (fun vs H Q E h => ?_) (fun cdv A outer s H vs Q E hr h => ?_)
  · obtain ⟨_, _, _, _, _, _, _, rfl, _⟩ := h
    rfl
  · obtain ⟨a, m, wi, late, ah, st, n, rfl, X, O, hn, m0, w0, w1, hc, k⟩ := h
    obtain ⟨cl, n1, n2, n3, n4, n5, n6⟩ := T
    obtain ⟨dx, hp⟩ := X.p
    obtain ⟨dxm, hm, hmc⟩ := id X.mo
    obtain ⟨cs, hE, hag, hcl⟩ := X.e
    obtain ⟨dxe, hea, hec⟩ := id hE
    obtain ⟨rs, hta, hta2, hta3⟩ := X.ta
    have hte := X.te
    have tl := X.tt.len
    have tll := O.tl
    have g0 : 0 ≤ st.g := by
      change decide (0 ≤ st.g) = true at hc
      exact of_decide_eq_true hc
    refine ⟨_, (pss_cons (ps_set (i := 1) sc_World__tell.nd rfl (Or.inl rfl) (Ak.pe_mx0 (Ak.pe_fldK (K := K) (by rfl) (pv 0) (by rfl)) m_Ear_tell hr (by walk_at "lv") (takes_of rfl rfl rfl rfl)))
      (pss_cons (ps_expr (Ak.pe_bmK (K := K) (by rfl) PySem.F.plainAttrs_list PySem.F.slot_list_append PySem.F.type_list_append mt_append (Ak.pe_fldK (K := K) (by rfl) (pv 0) (by rfl)) (pa_cons (pe_tup (pa_cons (pv 1) (pa_cons (Ak.pe_mx0 (Ak.pe_fldK (K := K) (by rfl) (pv 0) (by rfl)) m_Mouth_last hr (by walk_at "lv") (takes_of rfl rfl rfl rfl)) pa_nil))) pa_nil)))
      (pss_one (ps_ret (pv 1))))), ?_⟩
    have e0 : L2.start N_World__tell [V.ref a.p] = [some (V.ref a.p), none] := rfl
    rw [e0]
    try dsimp only [cxOf]
    walk_at "rd"
    refine ⟨a.ea, a.ec, m, wi, late, st.g, cs, rfl, hE, m0, w0, w1, fun z => by omega, fun _ q b H1 nq nb hq hb k1 => ?_⟩
    rw [hag.bits w0, ← bitsI_map] at hb
    have hp1 := k1.1 _ _ nin_nil hp
    have hm1 := k1.1 _ _ nin_nil hm
    have hte1 := k1.1 _ _ nin_nil hte
    walk_at "rd"
    refine ⟨a.mo, a.mc, m, wi, ah, st.l, st.mg, st.ks, rfl, X.mo.keep k1 nin_nil nin_nil, ?_⟩
    have sz : (a.ts.map V.ref).length < sizeLine := by rw [List.length_map, sizeLine_eq]; omega
    walk_at "rd"
    rename_i t nt
    have kk : Keep [a.te] H (upd (upd H1 t (.tup [.ref q, .int st.l])) a.te (.lst (a.ts.map V.ref ++ [.ref t]))) := by walk_at "kp"
    have kU : Keep [a.te] H1 (upd (upd H1 t (.tup [.ref q, .int st.l])) a.te (.lst (a.ts.map V.ref ++ [.ref t]))) := by walk_at "kp"
    have tte : t ≠ a.te := Ne.symm (ne_of_none hte1 nt)
    have ht2 : upd (upd H1 t (.tup [.ref q, .int st.l])) a.te (.lst (a.ts.map V.ref ++ [.ref t])) t = some (.tup [.ref q, .int st.l]) := (upd_ne tte).trans upd_same
    have hte2 : upd (upd H1 t (.tup [.ref q, .int st.l])) a.te (.lst (a.ts.map V.ref ++ [.ref t])) a.te = some (.lst ((a.ts ++ [t]).map V.ref)) := by rw [upd_same, List.map_append]; rfl
    generalize upd (upd H1 t (.tup [.ref q, .int st.l])) a.te (.lst (a.ts.map V.ref ++ [.ref t])) = H2 at kk kU ht2 hte2 ⊢
    have hq2 := kU.1 _ _ (nin_cons (ne_of hq hte1 (by intro z; cases z)) nin_nil) hq
    have hb2 := kU.1 _ _ (nin_cons (ne_of hb hte1 (by intro z; cases z)) nin_nil) hb
    refine k (.ref q) { a with ts := a.ts ++ [t] } H2 ⟨⟨⟨dx, kk.1 _ _ (nin_cons (ne_of hp hte (by intro z; cases z)) nin_nil) hp⟩,
      ⟨cs, ⟨dxe, kk.1 _ _ (nin_cons (ne_of hea hte (by intro z; cases z)) nin_nil) hea, kk.1 _ _ (nin_cons X.n2 nin_nil) hec⟩, hag, hcl⟩,
      X.mo.keep kk (nin_cons (ne_of hm hte (by intro z; cases z)) nin_nil) (nin_cons (ne_of hmc hte (by intro z; cases z)) nin_nil), kk.1 _ _ (nin_cons X.n3 nin_nil) X.lt, hte2,
      (X.tt.keep kk (fun b hb => X.noTup b (by simp only [List.mem_cons, List.not_mem_nil, or_false] at hb ⊢; simp [hb]))).add (y := (st.g % m, bitsI wi st.g st.K, st.l)) ht2 hq2 hb2, ⟨rs, kk.1 _ _ (nin_cons (ne_of hta hte (by intro z; cases z)) nin_nil) hta, hta2, hta3⟩,
      X.n1, X.n2, X.n3, X.n4, X.n5, X.n6, X.n7⟩, ⟨q, b, rfl, hq2, hb2⟩, fun f e => by cases e; exact nq, kk.mono (fun b hb => by simp only [List.mem_cons, List.not_mem_nil, or_false] at hb ⊢; simp [hb]), rfl, rfl, Or.inl rfl⟩
theorem sure_put_in {ks : List Int} {k : Int} (h : k ∈ ks) : putK (sureD ks) (Sum.inl k) (.bl true) = sureD ks := by
  have e : sureD ks = dOf ks fun _ => .bl true := rfl
  rw [e, put_dOf h]
  exact dOf_congr fun q _ => by split <;> rfl
theorem w_dputU {H : Hp} {a : Addr} {ks : List Int} {k : Int} {R : Hp → Prop} (e : H a = some (.dK (sureD ks))) (l : ks.length < sizeLine) (h : R (upd H a (.dK (sureD (if k ∈ ks then ks else ks ++ [k]))))) : kDPut (.bl true) (.ref a) (.int k) H R := by
  by_cases z : k ∈ ks
  · rw [if_pos z] at h
    exact w_dputI e (by rw [sureD_len]; exact l) (by rw [sure_put_in z]; exact h)
  · rw [if_neg z] at h
    exact w_dputN e z l h
theorem ok_come_w {f : Addr} {fd : FuncData} (F : L2.Fun K "_come" "World._come" s_World__come f fd) (T : WorldT K CW) (m_Ear_come : MetX P w K mg base 3 CE "come" (spCome CE)) : FnOk P w K mg base (L2.CX P w) 4 f fd ["self", "number"] (spComeW CW CE CM) := by
  refine Fun.okX F sc_World__come (fun vs H Q E h => ?_) (fun cdv A outer s H vs Q E hr h => ?_)
  · obtain ⟨_, _, _, _, _, _, _, _, rfl, _⟩ := h
    rfl
  · obtain ⟨no, a, m, wi, late, ah, st, n, rfl, X, O, hn, m0, w0, w1, hc, k⟩ := h
    obtain ⟨cl, n1, n2, n3, n4, n5, n6⟩ := T
    obtain ⟨dx, hp⟩ := X.p
    obtain ⟨dxm, hm, hmc⟩ := id X.mo
    obtain ⟨cs, hE, hag, hcl⟩ := X.e
    obtain ⟨dxe, hea, hec⟩ := id hE
    obtain ⟨rs, hta, hta2, hta3⟩ := X.ta
    have hlt := X.lt
    have hte := X.te
    have al := O.al
    have kl := O.kl
    obtain ⟨c0, c1, c2⟩ : 0 ≤ no ∧ no ≤ st.l ∧ st.l - no ≤ late := by
      change decide (0 ≤ no ∧ no ≤ st.l ∧ st.l - no ≤ late) = true at hc
      exact of_decide_eq_true hc
    have eix := marks_at (m := m) c0 c1
    refine ⟨_, (pss_cons (ps_dput (hu_of hr) (Ak.pe_fldK (K := K) (by rfl) (pv 0) (by rfl)) (pv 1) pe_bl rfl)
      (pss_cons (ps_asg (Ak.pe_mx (Ak.pe_fldK (K := K) (by rfl) (pv 0) (by rfl)) m_Ear_come hr (by walk_at "lv") (takes_of rfl rfl rfl rfl) (pa_cons (pe_ix (Ak.ix_K (K := K) (by rfl)) (Ak.pe_fldK (K := K) (by rfl) (pv 0) (by rfl)) (pv 1) (by intro _ _; rfl)) pa_nil)) (Ak.pg_tupK (K := K) (n := 2) (by rfl) rfl (pgs_cons (pg_name (i := 2) sc_World__come.nd rfl (Or.inl rfl)) (pgs_cons (pg_name (i := 3) sc_World__come.nd rfl (Or.inl rfl)) pgs_nil))))
      (pss_one (ps_ret (pe_tup (pa_cons (pe_tup (pa_cons (pv 2) (pa_cons (pv 3) pa_nil))) (pa_cons (pe_cmpR (Ak.op_neK (K := K) (by rfl) hr.units) (pv 2) (pv 1) (nomark _)) pa_nil))))))), ?_⟩
    have e0 : L2.start N_World__come [V.ref a.p, V.int no] = [some (V.ref a.p), some (V.int no), none, none] := rfl
    rw [e0]
    try dsimp only [cxOf]
    walk_at "rd"
    refine w_dputU hta (by rw [sizeLine_eq]; omega) ?_
    have k1 : Keep [a.ta] H (upd H a.ta (.dK (sureD (if no ∈ rs then rs else rs ++ [no])))) := Keep.refl.set List.mem_cons_self
    have hta1 : upd H a.ta (.dK (sureD (if no ∈ rs then rs else rs ++ [no]))) a.ta = some (.dK (sureD (if no ∈ rs then rs else rs ++ [no]))) := upd_same
    generalize upd H a.ta (.dK (sureD (if no ∈ rs then rs else rs ++ [no]))) = H1 at k1 hta1 ⊢
    have hp1 := k1.1 _ _ (nin_cons (ne_of hp hta (by intro z; cases z)) nin_nil) hp
    have eta : a.ea ≠ a.ta := ne_of hea hta (by intro z; cases z)
    have hea1 := k1.1 _ _ (nin_cons eta nin_nil) hea
    have hlt1 := k1.1 _ _ (nin_cons (ne_of hlt hta (by intro z; cases z)) nin_nil) hlt
    have hE1 := hE.keep k1 (nin_cons eta nin_nil) (nin_cons (ne_of hec hta (by intro z; cases z)) nin_nil)
    walk_at "rd"
    refine ⟨a.ea, a.ec, no % m, m, wi, late, st.g, cs, rfl, hE1, Int.emod_nonneg _ (by omega), Int.emod_lt_of_pos _ m0, by omega, fun q H2 i word g' cs' c' hi hw hgc nq hq hE2 nc' k2 => ?_⟩
    walk_at "rd"
    rename_i t1 nt1 t2 nt2
    have hv3 : upd H2 t1 (.tup [.int i, .str word]) t1 = some (.tup [.int i, .str word]) := upd_same
    have kV : Keep [] H2 (upd (upd H2 t1 (.tup [.int i, .str word])) t2 (.tup [.ref t1, .bl !decide (i = no)])) := (Keep.refl.new nt1).new nt2
    have hv4 := at_new (u := .tup [.ref t1, .bl !decide (i = no)]) nt2 hv3
    have ho4 : upd (upd H2 t1 (.tup [.int i, .str word])) t2 (.tup [.ref t1, .bl !decide (i = no)]) t2 = some (.tup [.ref t1, .bl !decide (i = no)]) := upd_same
    have nt2' : H2 t2 = none := free_upd nt2
    generalize upd (upd H2 t1 (.tup [.int i, .str word])) t2 (.tup [.ref t1, .bl !decide (i = no)]) = H4 at kV hv4 ho4 ⊢
    have kk : Keep [a.ta, a.ea] H H4 := (k1.mono (fun b hb => by rw [List.mem_singleton.mp hb]; exact List.mem_cons_self)).trans ((k2.mono (fun b hb => by rw [List.mem_singleton.mp hb]; exact List.mem_cons_of_mem _ List.mem_cons_self)).trans (kV.mono sub_nil))
    have k24 : Keep [a.ea] H1 H4 := k2.trans (kV.mono sub_nil)
    have cl' : c' ≠ a.lt := nc'.elim (fun z => by rw [z]; exact X.n1) fun z => Ne.symm (ne_of_none hlt1 z)
    have hte1 := k1.1 _ _ (nin_cons (ne_of hte hta (by intro z; cases z)) nin_nil) hte
    have ct' : c' ≠ a.te := nc'.elim (fun z => by rw [z]; exact X.n2) fun z => Ne.symm (ne_of_none hte1 z)
    have hta4 := k24.1 _ _ (nin_cons (Ne.symm eta) nin_nil) hta1
    have E4 := hE2.keep kV nin_nil nin_nil
    have nn : ∀ b o, H b = some o → b ≠ a.ta → b ≠ a.ea → H4 b = some o := fun b o h z1 z2 => kk.1 _ _ (nin_cons z1 (nin_cons z2 nin_nil)) h
    have hww := hag.word (w := wi) (g := st.g) i
    have he4 : ∃ cs'', EarAt CE H4 a.ea c' m wi late (if wordOf wi st.g st.K i = "new" then max st.g i else st.g) cs'' ∧ Agree wi (if wordOf wi st.g st.K i = "new" then max st.g i else st.g) cs'' (if wordOf wi st.g st.K i = "new" then st.K ++ [i] else st.K) ∧ cs''.length ≤ (if wordOf wi st.g st.K i = "new" then st.K ++ [i] else st.K).length := by
      rw [hw, hww] at hgc
      by_cases z : wordOf wi st.g st.K i = "new"
      · rw [if_pos z] at hgc
        obtain ⟨rfl, rfl⟩ := Prod.mk.inj hgc
        rw [if_pos z, if_pos z]
        refine ⟨_, E4, hag.kept i, ?_⟩
        have := kept_len (w := wi) (g := st.g) (cs := cs) (n := i)
        rw [List.length_append, List.length_singleton]
        omega
      · rw [if_neg z] at hgc
        obtain ⟨rfl, rfl⟩ := Prod.mk.inj hgc
        rw [if_neg z, if_neg z]
        exact ⟨_, E4, hag, hcl⟩
    subst hi
    rw [hww] at hw
    subst hw
    refine k (.ref t1) { a with ec := c' } H4 ⟨⟨⟨dx, nn _ _ hp (ne_of hp hta (by intro z; cases z)) X.n6⟩, he4,
      X.mo.keep kk (nin_cons (ne_of hm hta (by intro z; cases z)) (nin_cons X.n7 nin_nil)) (nin_cons X.n4 (nin_cons (ne_of hmc hea (by intro z; cases z)) nin_nil)), nn _ _ hlt (ne_of hlt hta (by intro z; cases z)) (ne_of hlt hea (by intro z; cases z)), nn _ _ hte (ne_of hte hta (by intro z; cases z)) (ne_of hte hea (by intro z; cases z)),
      X.tt.keep kk (fun b hb => X.noTup b (by simp only [List.mem_cons, List.not_mem_nil, or_false] at hb ⊢; rcases hb with h | h <;> simp [h])), ⟨_, hta4, fun x => ?_, ?_⟩,
      cl', ct', X.n3, X.n4, X.n5, X.n6, X.n7⟩, ⟨t1, rfl, hv4⟩, fun f e => by cases e; exact k1.2 _ (k2.2 _ nt1), kk.mono (fun b hb => by simp only [List.mem_cons, List.not_mem_nil, or_false] at hb ⊢; rcases hb with h | h <;> simp [h]), rfl, rfl, nc'.imp id fun z => k1.2 _ z⟩ t2 (k1.2 _ (k2.2 _ nt2')) ho4
    · show x ∈ (if no ∈ rs then rs else rs ++ [no]) ↔ x ∈ st.ar ++ [no]
      rw [List.mem_append, List.mem_singleton, ← hta2 x]
      by_cases z : no ∈ rs
      · rw [if_pos z]
        exact ⟨Or.inl, fun y => y.elim id fun e => e ▸ z⟩
      · rw [if_neg z, List.mem_append, List.mem_singleton]
    · show (if no ∈ rs then rs else rs ++ [no]).length ≤ (st.ar ++ [no]).length
      rw [List.length_append, List.length_singleton]
      split
      · omega
      · rw [List.length_append, List.length_singleton]
        omega
theorem ok_hear_w {CB : Addr} {f : Addr} {fd : FuncData} (F : L2.Fun K "_hear" "World._hear" s_World__hear f fd) (T : WorldT K CW) (g_any : mg "any" = none) (g_BadBits : mg "BadBits" = some (.ref CB)) (xm : PySem.W.exmOne K (.ref CB) (.ref CB) = some true) (m_Mouth_hear : MetX P w K mg base 3 CM "hear" (spHear K CM CB)) : FnOk P w K mg base (L2.CX P w) 4 f fd ["self", "number"] (spHearW CW CE CM) := by
  refine Fun.okX F sc_World__hear (fun vs H Q E h => ?_) (fun cdv A outer s H vs Q E hr h => ?_)
  · obtain ⟨_, _, _, _, _, _, _, _, rfl, _⟩ := h
    rfl
  · obtain ⟨no, a, m, wi, late, ah, st, n, rfl, X, O, hn, m0, w0, w1, hc, k⟩ := h
    obtain ⟨cl, n1, n2, n3, n4, n5, n6⟩ := T
    obtain ⟨dx, hp⟩ := X.p
    obtain ⟨dxm, hm, hmc⟩ := id X.mo
    obtain ⟨cs, hE, hag, hcl⟩ := X.e
    obtain ⟨dxe, hea, hec⟩ := id hE
    obtain ⟨rs, hta, hta2, hta3⟩ := X.ta
    have hlt := X.lt
    have hte := X.te
    have sl := O.sl
    obtain ⟨c0, c1, c2⟩ : 0 ≤ no ∧ no < st.tl.length ∧ st.l - (st.tl.getD no.toNat (0, [], 0)).2.2 ≤ late := by
      change decide (0 ≤ no ∧ no < st.tl.length ∧ st.l - (st.tl.getD no.toNat (0, [], 0)).2.2 ≤ late) = true at hc
      exact of_decide_eq_true hc
    have hk : no.toNat < st.tl.length := by omega
    obtain ⟨t, q, b, et, h1, h2, h3⟩ := X.tt.at hk
    have ht := O.t (st.tl.getD no.toNat (0, [], 0)) (by
      rw [List.getD_eq_getElem?_getD, List.getElem?_eq_getElem hk]
      exact List.getElem_mem hk)
    have eix : atI (a.ts.map V.ref) no = some (.ref t) := by
      rw [show no = ((no.toNat : Nat) : Int) by omega]
      refine atI_nat ?_
      rw [List.getElem?_map, et]
      rfl
    refine ⟨_, (pss_cons (ps_asg (pe_ix (Ak.ix_K (K := K) (by rfl)) (Ak.pe_fldK (K := K) (by rfl) (pv 0) (by rfl)) (pv 1) (by intro _ _; rfl)) (Ak.pg_tupK (K := K) (n := 2) (by rfl) rfl (pgs_cons (pg_name (i := 2) sc_World__hear.nd rfl (Or.inl rfl)) (pgs_cons (pg_name (i := 3) sc_World__hear.nd rfl (Or.inl rfl)) pgs_nil))))
      (pss_cons (ps_try_only rfl rfl ⟨by rfl, by decide, .inl g_BadBits⟩ takes0 (fun W pn xe tk _ => (pss_one (ps_set (i := 4) sc_World__hear.nd rfl (Or.inl rfl) (Ak.pe_mx (Ak.pe_fldK (K := K) (by rfl) (pv 0) (by rfl)) m_Mouth_hear hr (by walk_at "lv") tk (pa_cons (pv 2) pa_nil))))) (fun a oe cls d pn hz hf => (pss_one (ps_ret (pe_tup (pa_cons pe_non (pa_cons pe_bl pa_nil)))))))
      (pss_one (ps_ret (pe_tup (pa_cons (pv 4) (pa_cons (pe_callB (cr_any rfl) (by rfl) g_any (by decide +kernel) (pa_cons (pe_lc (own := [("letter", 5)]) (g := (gName 5)) (tt := tYes) rfl sc_World__hear.nd (Ak.pi_listK (K := K) (by rfl) (pv 4)) (blkOk_by (N := N_World__hear) (sc := defScope s_World__hear) (by decide +kernel)) (fun _ _ _ _ _ => by exact (pg_name (i := 5) sc_World__hear.nd rfl (Or.inl rfl))) (fun _ _ _ _ _ => by exact pts_nil) (fun _ _ _ _ _ => by exact (pe_cmp (pc_dnotin (hu_of hr) (pv 5) (Ak.pe_fldK (K := K) (by rfl) (pv 0) (by rfl))) rfl))) pa_nil)) pa_nil))))))), ?_⟩
    have e0 : L2.start N_World__hear [V.ref a.p, V.int no] = [some (V.ref a.p), some (V.int no), none, none, none, none] := rfl
    rw [e0]
    try dsimp only [cxOf]
    walk_at "rd"
    generalize hT : st.tl.getD no.toNat (0, [], 0) = tt at h1 h2 h3 ht c2
    obtain ⟨k0, k1, blen, bbits⟩ := ht
    have h16 : tt.2.1.length ≤ 16 := by omega
    have fl := found_len (n := newestOf m st.l tt.1) (ks := st.ks) h16
    refine ⟨a.mo, a.mc, q, b, m, wi, ah, st.l, st.mg, st.ks, tt.1, tt.2.1, rfl, X.mo, SqT.of h2, SqT.of h3, k0, k1, blen, bbits, h16, by omega, fun bad H1 k1 => ?_, fun good f H1 nf hf hM1 kh => ?_⟩
    · refine ⟨true, xm, fun _ a ha => ?_, fun z => nomatch z⟩
      have es : stepW m wi late st (.hear no) = (st, .no, true) := by
        unfold stepW
        simp only []
        rw [hT, if_pos bad]
      rw [es] at k
      walk_at "rd"
      rename_i t2 nt2
      have k2 : Keep [] H (upd H1 t2 (.tup [.non, .bl true])) := k1.new nt2
      exact k .non _ _ ⟨X.keep0 k2, rfl, fun f e => (by cases e), k2.mono sub_nil, rfl, rfl, Or.inl rfl⟩ t2 (k1.2 _ nt2) upd_same
    · have nb : ¬ ∃ x, x ∈ allOf (newestOf m st.l tt.1) tt.2.1 ∧ x < 0 := fun ⟨x, hx, h0⟩ => by have := good x hx; omega
      have es : stepW m wi late st (.hear no) = ({ st with ks := st.ks ++ foundOf (newestOf m st.l tt.1) tt.2.1 st.ks, mg := max st.mg (newestOf m st.l tt.1) }, .ls (foundOf (newestOf m st.l tt.1) tt.2.1 st.ks), (foundOf (newestOf m st.l tt.1) tt.2.1 st.ks).any fun x => !decide (x ∈ st.ar)) := by
        unfold stepW
        simp only []
        rw [hT, if_neg nb]
      rw [es] at k
      generalize foundOf (newestOf m st.l tt.1) tt.2.1 st.ks = fo at hf hM1 k fl
      have nn : ∀ b o, H b = some o → b ≠ a.mo → b ≠ a.mc → H1 b = some o := fun b o h z1 z2 => kh.1 _ _ (nin_cons z1 (nin_cons z2 nin_nil)) h
      have hp1 := nn _ _ hp X.n5 (ne_of hp hmc (by intro z; cases z))
      have hta1 := nn _ _ hta (ne_of hta hm (by intro z; cases z)) (Ne.symm X.n4)
      walk_at "rd"
      refine Ak.l_lcL (xs := fo.map V.int) (SqL.of hf) (fun i => ((fo.take i).map fun x => !decide (x ∈ rs)).map V.bl) rfl (fun D i x H' hD hx hk hdd => ?_) (fun D H' hD hk hdd => ?_)
      · obtain ⟨y, hy, rfl⟩ := map_at hx
        have hp2 := hk.1 _ _ nin_nil hp1
        have hta2' := hk.1 _ _ nin_nil hta1
        have hi := (List.getElem?_eq_some_iff.mp hy).1
        walk_at "rd"
        refine kIn_go hD hdd hk (by rw [List.length_map, List.length_map, List.length_take, sizeLine_eq]; omega) ?_
        rw [take_at hy, List.map_append, List.map_append]
        rfl
      · rw [List.length_map, List.take_length] at hdd
        have hf2 := hk.1 _ _ nin_nil hf
        walk_at "rd"
        refine ⟨D, _, rfl, SqL.of hdd, ?_⟩
        have ea : (fo.map fun x => !decide (x ∈ rs)).any id = fo.any fun x => !decide (x ∈ st.ar) := by
          rw [List.any_map]
          congr 1
          funext x
          show (!decide (x ∈ rs)) = !decide (x ∈ st.ar)
          rw [decide_eq_decide.mpr (hta2 x)]
        rw [ea]
        walk_at "rd"
        rename_i t2 nt2
        have k3 : Keep [] H1 (upd H' t2 (.tup [.ref f, .bl (fo.any fun x => !decide (x ∈ st.ar))])) := hk.new nt2
        have hf3 := k3.1 _ _ nin_nil hf
        have ho3 : upd H' t2 (.tup [.ref f, .bl (fo.any fun x => !decide (x ∈ st.ar))]) t2 = some (.tup [.ref f, .bl (fo.any fun x => !decide (x ∈ st.ar))]) := upd_same
        generalize upd H' t2 (.tup [.ref f, .bl (fo.any fun x => !decide (x ∈ st.ar))]) = H3 at k3 hf3 ho3 ⊢
        have kk : Keep [a.mo, a.mc] H H3 := kh.trans (k3.mono sub_nil)
        have n3 : ∀ b o, H b = some o → b ≠ a.mo → b ≠ a.mc → H3 b = some o := fun b o h z1 z2 => k3.1 _ _ nin_nil (nn b o h z1 z2)
        refine k (.ref f) a H3 ⟨⟨⟨dx, k3.1 _ _ nin_nil hp1⟩, ⟨cs, ⟨dxe, n3 _ _ hea (Ne.symm X.n7) (ne_of hea hmc (by intro z; cases z)), n3 _ _ hec (ne_of hec hm (by intro z; cases z)) (ne_of hec hmc (by intro z; cases z))⟩, hag, hcl⟩,
          hM1.keep k3 nin_nil nin_nil, n3 _ _ hlt (ne_of hlt hm (by intro z; cases z)) (ne_of hlt hmc (by intro z; cases z)), n3 _ _ hte (ne_of hte hm (by intro z; cases z)) (ne_of hte hmc (by intro z; cases z)),
          X.tt.keep kk (fun b hb => X.noTup b (by simp only [List.mem_cons, List.not_mem_nil, or_false] at hb ⊢; rcases hb with h | h <;> simp [h])), ⟨rs, k3.1 _ _ nin_nil hta1, hta2, hta3⟩,
          X.n1, X.n2, X.n3, X.n4, X.n5, X.n6, X.n7⟩, ⟨f, rfl, hf3⟩, fun f e => by cases e; exact nf, kk.mono (fun b hb => by simp only [List.mem_cons, List.not_mem_nil, or_false] at hb ⊢; rcases hb with h | h <;> simp [h]), rfl, rfl, Or.inl rfl⟩ t2 (kh.2 _ (hk.2 _ nt2)) ho3
end
end Ak

namespace Ak
open PySem PySem.Spec PyProof.Rows L2
section
variable {P : Program} {w : World} {K : PySem.W.Frag} {mg : Str → Option Value} {base : Heap} {CW CE CM : Addr}
theorem DoneW.keep0 {H H' H2 : Hp} {a a' : WA} {m w late ah : Int} {s : WS} {v : V} {an : Ans} (x : DoneW CW CE CM H H' a a' m w late ah s v an) (k : Keep [] H' H2) : DoneW CW CE CM H H2 a a' m w late ah s v an :=
  ⟨x.x.keep0 k, x.an.keep k (fun b hb => absurd hb List.not_mem_nil) (fun f _ => nin_nil), x.nv, x.k.trans (k.mono sub_nil), x.p, x.S, x.ec⟩
theorem ok_happen {f : Addr} {fd : FuncData} (F : L2.Fun K "happen" "World.happen" s_World_happen f fd) (T : WorldT K CW) (m_World_send : MetX P w K mg base 3 CW "_send" (spSendW CW CE CM)) (m_World_tell : MetX P w K mg base 3 CW "_tell" (spTellW CW CE CM)) (m_World_come : MetX P w K mg base 4 CW "_come" (spComeW CW CE CM))
    (m_World_hear : MetX P w K mg base 4 CW "_hear" (spHearW CW CE CM)) : FnOk P w K mg base (L2.CX P w) 5 f fd ["self", "event"] (spHappen K CW CE CM) := by
  refine Fun.okX F sc_World_happen (fun vs H Q E h => ?_) (fun cdv A outer s H vs Q E hr h => ?_)
  · obtain ⟨_, _, _, _, _, _, _, _, _, rfl, _⟩ := h
    rfl
  · obtain ⟨a, m, wi, late, ah, st, n, e, ev, rfl, X, O, hn, m0, w0, w1, he, hc, k⟩ := h
    obtain ⟨cl, n1, n2, n3, n4, n5, n6⟩ := T
    obtain ⟨dx, hp⟩ := X.p
    refine ⟨_, (pss_cons (ps_set (i := 2) sc_World_happen.nd rfl (Or.inl rfl) (pe_ix (Ak.ix_K (K := K) (by rfl)) (pv 1) pe_int (by intro _ _; rfl)))
      (pss_cons (ps_if (pt_cmpR (Ak.op_eqK (K := K) (by rfl) hr.units) (pv 2) pe_str (nomark _))
      (pss_one (ps_ret (pe_tup (pa_cons (Ak.pe_mx0 (pv 0) m_World_send hr (by walk_at "lv") (takes_of rfl rfl rfl rfl)) (pa_cons pe_bl pa_nil)))))
      pss_nil)
      (pss_cons (ps_if (pt_cmpR (Ak.op_eqK (K := K) (by rfl) hr.units) (pv 2) pe_str (nomark _))
      (pss_one (ps_ret (pe_tup (pa_cons (Ak.pe_mx0 (pv 0) m_World_tell hr (by walk_at "lv") (takes_of rfl rfl rfl rfl)) (pa_cons pe_bl pa_nil)))))
      pss_nil)
      (pss_cons (ps_if (pt_cmpR (Ak.op_eqK (K := K) (by rfl) hr.units) (pv 2) pe_str (nomark _))
      (pss_one (ps_ret (Ak.pe_mx (pv 0) m_World_come hr (by walk_at "lv") (takes_of rfl rfl rfl rfl) (pa_cons (pe_ix (Ak.ix_K (K := K) (by rfl)) (pv 1) pe_int (by intro _ _; rfl)) pa_nil))))
      pss_nil)
      (pss_one (ps_ret (Ak.pe_mx (pv 0) m_World_hear hr (by walk_at "lv") (takes_of rfl rfl rfl rfl) (pa_cons (pe_ix (Ak.ix_K (K := K) (by rfl)) (pv 1) pe_int (by intro _ _; rfl)) pa_nil)))))))), ?_⟩
    have e0 : L2.start N_World_happen [V.ref a.p, V.ref e] = [some (V.ref a.p), some (V.ref e), none] := rfl
    rw [e0]
    try dsimp only [cxOf]
    cases ev with
    | send =>
      change SqT K H e [.str "send"] at he
      walk_at "rd"
      refine Ak.w_ite (fun _ => ?_) (fun z => absurd rfl z)
      walk_at "rd"
      refine ⟨a, m, wi, late, ah, st, n, rfl, X, O, hn, m0, w0, w1, hc, fun v a' H' D => ?_⟩
      have kS := D.k
      walk_at "rd"
      rename_i t nt
      exact k v a' _ t (D.keep0 (Keep.refl.new nt)) (D.k.2 _ nt) upd_same
    | tell =>
      change SqT K H e [.str "tell"] at he
      walk_at "rd"
      refine Ak.w_ite (fun z => absurd z (by decide +kernel)) (fun _ => ?_)
      walk_at "rd"
      refine Ak.w_ite (fun _ => ?_) (fun z => absurd rfl z)
      walk_at "rd"
      refine ⟨a, m, wi, late, ah, st, n, rfl, X, O, hn, m0, w0, w1, hc, fun v a' H' D => ?_⟩
      walk_at "rd"
      rename_i t nt
      exact k v a' _ t (D.keep0 (Keep.refl.new nt)) (D.k.2 _ nt) upd_same
    | come no =>
      change SqT K H e [.str "come", .int no] at he
      walk_at "rd"
      refine Ak.w_ite (fun z => absurd z (by decide +kernel)) (fun _ => ?_)
      walk_at "rd"
      refine Ak.w_ite (fun z => absurd z (by decide +kernel)) (fun _ => ?_)
      walk_at "rd"
      refine Ak.w_ite (fun _ => ?_) (fun z => absurd rfl z)
      walk_at "rd"
      refine ⟨no, a, m, wi, late, ah, st, n, rfl, X, O, hn, m0, w0, w1, hc, fun v a' H' D t nt ht => ?_⟩
      walk_at "rd"
      exact k v a' H' t D nt ht
    | hear no =>
      change SqT K H e [.str "hear", .int no] at he
      walk_at "rd"
      refine Ak.w_ite (fun z => absurd z (by decide +kernel)) (fun _ => ?_)
      walk_at "rd"
      refine Ak.w_ite (fun z => absurd z (by decide +kernel)) (fun _ => ?_)
      walk_at "rd"
      refine Ak.w_ite (fun z => absurd z (by decide +kernel)) (fun _ => ?_)
      walk_at "rd"
      refine ⟨no, a, m, wi, late, ah, st, n, rfl, X, O, hn, m0, w0, w1, hc, fun v a' H' D t nt ht => ?_⟩
      walk_at "rd"
      exact k v a' H' t D nt ht
    | odd xs => cases hc
theorem ok_world_init {f : Addr} {fd : FuncData} (F : L2.Fun K "__init__" "World.__init__" s_World___init f fd) (T : WorldT K CW) (k_Mouth : MakX P w K mg base 3 "Mouth" CM (spMouthInit K CM)) (k_Ear : MakX P w K mg base 3 "Ear" CE (spEarInit K CE)) : FnOk P w K mg base (L2.CX P w) 5 f fd ["self", "setting"] (spWorldInit CW CE CM) := by
  refine Fun.okX F sc_World___init (fun vs H Q E h => ?_) (fun cdv A outer s H vs Q E hr h => ?_)
  · obtain ⟨_, _, _, _, _, _, _, rfl, _⟩ := h
    rfl
  · obtain ⟨p, q, m, wi, l, ah, dx, rfl, hq, so, hp, k⟩ := h
    obtain ⟨cl, n1, n2, n3, n4, n5, n6⟩ := T
    refine ⟨_, (pss_cons (Ak.ps_fldK (K := K) (by rfl) (pv 0) (Ak.pe_kx k_Mouth hr (by walk_at "lv") (by rfl) (takes_of rfl rfl rfl rfl) (pa_cons (pv 1) pa_nil)) rfl)
      (pss_cons (Ak.ps_fldK (K := K) (by rfl) (pv 0) (Ak.pe_kx k_Ear hr (by walk_at "lv") (by rfl) (takes_of rfl rfl rfl rfl) (pa_cons (pv 1) pa_nil)) rfl)
      (pss_cons (Ak.ps_fldK (K := K) (by rfl) (pv 0) (pe_ix (Ak.ix_K (K := K) (by rfl)) (pv 1) pe_int (by intro _ _; rfl)) rfl)
      (pss_cons (Ak.ps_fldK (K := K) (by rfl) (pv 0) (pe_lst pa_nil) rfl)
      (pss_cons (Ak.ps_fldK (K := K) (by rfl) (pv 0) (pe_lst pa_nil) rfl)
      (pss_one (Ak.ps_fldK (K := K) (by rfl) (pv 0) pe_dnewK rfl))))))), ?_⟩
    have e0 : L2.start N_World___init [V.ref p, V.ref q] = [some (V.ref p), some (V.ref q)] := rfl
    rw [e0]
    try dsimp only [cxOf]
    walk_at "rd"
    intro mo dx1 nmo ndx1 nxp1
    have k0 : Keep [] H (upd (upd H dx1 (.own mo)) mo (.ins CM dx1 [])) := (Keep.refl.own ndx1).own nmo
    refine ⟨mo, q, m, wi, l, ah, dx1, rfl, SqT.of (k0.1 _ _ nin_nil hq), so, upd_same, fun mc H1 hM nmc k1 => ⟨rfl, ?_⟩⟩
    have k01 : Keep [] H H1 := Keep.fresh k1 (fun b hb => by rw [List.mem_singleton.mp hb]; exact nmo) k0
    have nmc' : H mc = none := free_upd (free_upd nmc)
    have hp1 := k01.1 _ _ nin_nil hp
    have hq1 := k01.1 _ _ nin_nil hq
    have qp : q ≠ p := ne_of hq hp (by intro z; cases z)
    have pmo : p ≠ mo := ne_of_none hp nmo
    have pmc : p ≠ mc := ne_of_none hp nmc'
    walk_at "rd"
    have kU : Keep [p] H1 (upd H1 p (.ins CW dx [("_mouth", .ref mo)])) := Keep.refl.set List.mem_cons_self
    have hM2 := hM.keep kU (nin_cons (Ne.symm pmo) nin_nil) (nin_cons (Ne.symm pmc) nin_nil)
    have hq2 := kU.1 _ _ (nin_cons qp nin_nil) hq1
    have hp2 : upd H1 p (.ins CW dx [("_mouth", .ref mo)]) p = some (.ins CW dx [("_mouth", .ref mo)]) := upd_same
    have k02 : Keep [p] H (upd H1 p (.ins CW dx [("_mouth", .ref mo)])) := (k01.mono sub_nil).trans kU
    generalize upd H1 p (.ins CW dx [("_mouth", .ref mo)]) = H2 at kU hM2 hq2 hp2 k02 ⊢
    intro ea dx2 nea ndx2 nxp2
    have k3 : Keep [] H2 (upd (upd H2 dx2 (.own ea)) ea (.ins CE dx2 [])) := (Keep.refl.own ndx2).own nea
    refine ⟨ea, q, m, wi, l, ah, dx2, rfl, SqT.of (k3.1 _ _ nin_nil hq2), so, upd_same, fun ec H4 hE nec k4 => ⟨rfl, ?_⟩⟩
    have k24 : Keep [] H2 H4 := Keep.fresh k4 (fun b hb => by rw [List.mem_singleton.mp hb]; exact nea) k3
    have nec' : H2 ec = none := free_upd (free_upd nec)
    have hp4 := k24.1 _ _ nin_nil hp2
    have hq4 := k24.1 _ _ nin_nil hq2
    have hM4 := hM2.keep k24 nin_nil nin_nil
    have pea : p ≠ ea := ne_of_none hp2 nea
    have pec : p ≠ ec := ne_of_none hp2 nec'
    have k04 : Keep [p] H H4 := k02.trans (k24.mono sub_nil)
    have moea : mo ≠ ea := by
      obtain ⟨dxm, hm, _⟩ := hM2
      exact ne_of_none hm nea
    walk_at "rd"
    rename_i lt nlt te nte ta nta
    have lp : lt ≠ p := fun z => by rw [z, upd_same] at nlt; cases nlt
    have tp : te ≠ p := fun z => by rw [z, upd_same] at nte; cases nte
    have ap : ta ≠ p := fun z => by rw [z, upd_same] at nta; cases nta
    have lte : lt ≠ te := fun z => by rw [← z, upd_ne lp, upd_same] at nte; cases nte
    have lta : lt ≠ ta := fun z => by rw [← z, upd_ne lp, upd_ne lte, upd_ne lp, upd_same] at nta; cases nta
    have tta : te ≠ ta := fun z => by rw [← z, upd_ne tp, upd_same] at nta; cases nta
    have nl4 : H4 lt = none := by rw [upd_ne lp, upd_ne lp] at nlt; exact nlt
    have nt4 : H4 te = none := by rw [upd_ne tp, upd_ne (Ne.symm lte), upd_ne tp, upd_ne tp] at nte; exact nte
    have na4 : H4 ta = none := by rw [upd_ne ap, upd_ne (Ne.symm tta), upd_ne ap, upd_ne (Ne.symm lta), upd_ne ap, upd_ne ap] at nta; exact nta
    obtain ⟨dxe, hea4, hec4⟩ := id hE
    obtain ⟨dxm, hm4, hmc4⟩ := id hM4
    refine k ⟨p, mo, mc, ea, ec, lt, te, ta, []⟩ _ rfl ⟨⟨dx, upd_same⟩, ⟨[], hE.keep (S := [p]) (by walk_at "kp") (nin_cons (Ne.symm pea) nin_nil) (nin_cons (Ne.symm pec) nin_nil), fun _ _ => Iff.rfl, Nat.le_refl _⟩,
      hM4.keep (S := [p]) (by walk_at "kp") (nin_cons (Ne.symm pmo) nin_nil) (nin_cons (Ne.symm pmc) nin_nil), ?_, ?_, .nil, ⟨[], ?_, fun x => Iff.rfl, Nat.le_refl _⟩,
      ne_of_none hec4 nl4, ne_of_none hec4 nt4, lte, ne_of_none hmc4 na4, pmo, pea, moea⟩ (fun x hx => ?_) (k02.2 _ nec') ?_
    · show _ = some (HO.lst [])
      rw [upd_ne lp, upd_ne lta, upd_ne lp, upd_ne lte, upd_ne lp, upd_same]
    · show _ = some (HO.lst [])
      rw [upd_ne tp, upd_ne tta, upd_ne tp, upd_same]
    · show _ = some (HO.dK [])
      rw [upd_ne ap, upd_same]
    · simp only [List.mem_cons, List.not_mem_nil, or_false] at hx
      rcases hx with h | h | h | h | h | h <;> rw [h]
      · exact nmo
      · exact nmc'
      · exact k02.2 _ nea
      · exact k04.2 _ nl4
      · exact k04.2 _ nt4
      · exact k04.2 _ na4
    · walk_at "kp"
theorem WorldAt.live {H : Hp} {a : WA} {m w late ah : Int} {s : WS} (x : WorldAt CW CE CM H a m w late ah s) : ∀ b, b ∈ a.S → H b ≠ none := fun b hb z => by
  obtain ⟨cs, ⟨dx1, h1, h2⟩, _⟩ := x.e
  obtain ⟨dx2, h3, h4⟩ := x.mo
  obtain ⟨rs, h5, _⟩ := x.ta
  simp only [List.mem_cons, List.not_mem_nil, or_false] at hb
  rcases hb with h | h | h | h | h | h <;> rw [h] at z
  · rw [h3] at z; cases z
  · rw [h4] at z; cases z
  · rw [h1] at z; cases z
  · rw [x.lt] at z; cases z
  · rw [x.te] at z; cases z
  · rw [h5] at z; cases z
theorem WorldAt.keepS {H H' : Hp} {a : WA} {m w late ah : Int} {s : WS} {S : List Addr} (x : WorldAt CW CE CM H a m w late ah s) (k : Keep S H H') (nS : ∀ b, b ∈ a.S → b ∉ S) (np : a.p ∉ S) (ne : a.ec ∉ S) (nt : ∀ b, b ∈ S → ∀ xs, H b ≠ some (.tup xs)) : WorldAt CW CE CM H' a m w late ah s := by
  obtain ⟨⟨dx, hp⟩, ⟨cs, he, hg, hl⟩, hm, hlt, hte, htt, ⟨rs, hr, hr2, hr3⟩, n1, n2, n3, n4, n5, n6, n7⟩ := x
  have h1 := nS a.mo (by simp)
  have h2 := nS a.mc (by simp)
  have h3 := nS a.ea (by simp)
  have h4 := nS a.lt (by simp)
  have h5 := nS a.te (by simp)
  have h6 := nS a.ta (by simp)
  exact ⟨⟨dx, k.1 _ _ np hp⟩, ⟨cs, he.keep k h3 ne, hg, hl⟩, hm.keep k h1 h2, k.1 _ _ h4 hlt, k.1 _ _ h5 hte, htt.keep k nt, ⟨rs, k.1 _ _ h6 hr, hr2, hr3⟩, n1, n2, n3, n4, n5, n6, n7⟩
end
end Ak

namespace Ak
open PySem PySem.Spec PyProof.Rows L2
/-! ### what the written part says of an own error with an own __init__ -/
def oexIn (K : PySem.W.Frag) (C : Addr) : Bool := match K.lookup C with
  | some ⟨.type "type", _, .cls cd, sl⟩ => (match cd.mro, sl.toList with
    | .ref C' :: bm, [_, _, _, _, some (.builtin n), _] => C' == C && n == "ValueError.__new__" && !cd.hasDel && cd.hasDict && PySem.HandSPX.refsVE bm
    | _, _ => false)
  | _ => false
theorem oex_of {K : PySem.W.Frag} {C : Addr} (q : oexIn K C = true) : ∃ nm q N bs bm sn sub ab col dd k0 k1 k2 k3 k5, K.lookup C = some (excClassObj nm q C N bs bm true sn sub ab col dd k0 k1 k2 k3 k5 "ValueError.__new__") ∧ PySem.HandSPX.refsVE bm = true := by
  unfold oexIn at q
  split at q
  · rename_i dd cd sl ho
    split at q
    · rename_i C' bm k0 k1 k2 k3 n k5 hm hs
      simp only [Bool.and_eq_true, beq_iff_eq, Bool.not_eq_true'] at q
      obtain ⟨⟨⟨⟨rfl, rfl⟩, hdel⟩, hdct⟩, ht⟩ := q
      obtain ⟨nm, bs, mro, ns, qn, hd, sn, sub, ab, col, del⟩ := cd
      dsimp only at hm hdel hdct
      subst hm hdel hdct
      have hsl : sl = #[k0, k1, k2, k3, some (.builtin "ValueError.__new__"), k5] := by
        obtain ⟨l⟩ := sl
        simp only at hs
        rw [hs]
      subst hsl
      exact ⟨nm, qn, ns, bs, bm, sn, sub, ab, col, dd, k0, k1, k2, k3, k5, ho, ht⟩
    · cases q
  · cases q
end Ak

namespace Ak
open PySem PySem.Spec PyProof.Rows L2
theorem dec_len {i : Int} (h2 : i.natAbs < 2 ^ 59) : (Str.ofString (toString i)).length ≤ 100 := by
  have e := int_text_length_le (a := i) (k := 60) (by decide) (log2_small (by omega))
  rw [PySem.ofString_length]
  omega
section
variable {σ : L2.St} {H : Hp} {ts : List TE} {acc c : Str} {Q : Str → Hp → Prop} {te : TE} {i : Int} {R : VK}
theorem j_nil (h : Q acc H) : tJs [] acc σ H Q := h
theorem j_c (hl : acc.length + c.length ≤ 2000) (h : tJs ts (acc ++ c) σ H Q) : tJs (tC (.str c) :: ts) acc σ H Q := ⟨c, rfl, by rw [Str.length_append, sizeLine_eq]; omega, h⟩
def kJ (acc : Str) (ts : List TE) (σ : L2.St) (Q : Str → Hp → Prop) (x : V) (H1 : Hp) : Prop := ∃ y : Str, x = .str y ∧ (acc ++ y).length ≤ sizeLine ∧ tJs ts (acc ++ y) σ H1 Q
theorem j_t (h : te σ H fun x H1 => kJ acc ts σ Q x H1) : tJs (te :: ts) acc σ H Q := h
theorem k_J {y : Str} (hl : acc.length + y.length ≤ 2000) (h : tJs ts (acc ++ y) σ H Q) : kJ acc ts σ Q (.str y) H := ⟨y, rfl, by rw [Str.length_append, sizeLine_eq]; omega, h⟩
def kF (R : VK) (x : V) (H1 : Hp) : Prop := (∃ y : Str, x = .str y ∧ y.length ≤ sizeLine ∧ R (.str y) H1) ∨ ∃ i : Int, x = .int i ∧ i.natAbs.log2 < 1920 ∧ R (.str (toString i)) H1
theorem w_fmtK (h : te σ H fun x H1 => kF R x H1) : tFmt te σ H R := h
theorem k_Fi (hb : i.natAbs < 2 ^ 59) (h : R (.str (Str.ofString (toString i))) H) : kF R (.int i) H := Or.inr ⟨i, rfl, by have := log2_small (n := i.natAbs) (by omega); omega, h⟩
theorem k_Fs {y : Str} (hl : y.length ≤ 2000) (h : R (.str y) H) : kF R (.str y) H := Or.inl ⟨y, rfl, by rw [sizeLine_eq]; omega, h⟩
end
end Ak

namespace Ak
open PySem PySem.Spec PyProof.Rows L2
abbrev s_BadEvent___init : Stmt := inClass (top 6) 0
section
variable {P : Program} {w : World} {K : PySem.W.Frag} {mg : Str → Option Value} {base : Heap} {C f cc cda : Addr} {kV doc pm ct of cx cl : Value} {an od cd cld : Option Addr} {osl csl cls : Array (Option Value)} {vs : Array Value} {file : Str} {tf : Tok}
theorem init_BadEvent (S : SupF P K mg C f cc cda (supD "BadEvent.__init__" s_BadEvent___init cc cda kV doc pm ct an) "self" of cx od cd osl csl vs file tf cl cld cls) (hcd : PySem.W.codeIn K (.ref cda) "BadEvent.__init__" = true) (hno : PySem.W.findIn K (.ref C) "number" = some none) :
    FnOk P w K mg base (L2.CX P w) 1 f (supD "BadEvent.__init__" s_BadEvent___init cc cda kV doc pm ct an) ["self", "number"] (spSup K C "number") :=
  sup_fn (prm := "number") (k := 0) S hcd (NdefX.nscope_by (by decide +kernel)) (by decide +kernel) rfl hno (fun _ => rfl) (fun _ => rfl) (fun _ => rfl) (by decide) (by decide)
    (fun A outer s H E hr => pa_cons (pe_joined (.cons pe_str (.cons (pe_fmt (pv 1)) .nil))) pa_nil)
    (fun a v H Q hv q => by
      refine j_c (H := H) (ts := [tFmt (tVar 1)]) (c := "this event cannot be: ") (Q := fun out _ => Q [.str out] H) (by decide +kernel) ?_
      refine j_t (w_fmtK ?_)
      refine ⟨v, rfl, ?_⟩
      have l0 : (Str.empty ++ Str.ofString "this event cannot be: ").length ≤ 100 := by decide +kernel
      rcases hv with ⟨i, rfl, hi⟩ | ⟨z, rfl, hz⟩
      · have := dec_len hi
        exact k_Fi hi (k_J (by omega) (j_nil (q _)))
      · exact k_Fs (by omega) (k_J (by omega) (j_nil (q _))))
theorem rai_BadEvent (S : SupF P K mg C f cc cda (supD "BadEvent.__init__" s_BadEvent___init cc cda kV doc pm ct an) "self" of cx od cd osl csl vs file tf cl cld cls) (hcd : PySem.W.codeIn K (.ref cda) "BadEvent.__init__" = true) (hno : PySem.W.findIn K (.ref C) "number" = some none)
    (hi : PySem.W.findIn K (.ref C) "__init__" = some (some (.ref f))) (ht : PySem.W.typeIn K (.ref f) = some (.type "function")) (T : OexC K C) (g : mg "BadEvent" = some (.ref C)) : RaiO P w K mg base 1 "BadEvent" C "number" :=
  ⟨⟨f, _, _, hi, ht, init_BadEvent S hcd hno, .all fun us hl => match us, hl with | [_, _], _ => rfl⟩, T, g⟩
end
end Ak

namespace Ak
open PySem PySem.Spec PyProof.Rows L2
section
variable {P : Program} {w : World} {K : PySem.W.Frag} {mg : Str → Option Value} {base : Heap} {CW CE CM : Addr}
local macro_rules | `(tactic| walk_at "s") => `(tactic| first | with_reducible refine Ak.w_mkO ?_)
theorem ok_played {C5 : Addr} {tkM : Tok} {f : Addr} {fd : FuncData} (F : L2.Fun K "played" "played" s_played f fd) (r_BadEvent : RaiO P w K mg base 1 "BadEvent" C5 "number") (gM : mg "MOST_EVENTS" = some (.int 400 tkM)) (g_enumerate : mg "enumerate" = none) (k_World : MakX P w K mg base 5 "World" CW (spWorldInit CW CE CM)) (m_World_can_be : MetX P w K mg base 3 CW "can_be" (spCan K CW CE CM)) (m_World_happen : MetX P w K mg base 5 CW "happen" (spHappen K CW CE CM)) : FnOk P w K mg base (L2.CX P w) 7 f fd ["setting", "events"] (spPlayedX K C5) := by
  refine Fun.okX F sc_played (fun vs H Q E h => ?_) (fun cdv A outer s H vs Q E hr h => ?_)
  · obtain ⟨_, _, _, _, _, _, _, _, rfl, _⟩ := h
    rfl
  · obtain ⟨q, e, m, wi, l, ah, es, evs, rfl, hq, so, he, hev, hl, kbad, k⟩ := h
    have m0 := so.m0
    have w0 := so.w0
    have w1 := so.w1
    have el := hev.len
    refine ⟨_, (pss_cons (ps_set (i := 2) sc_played.nd rfl (Or.inl rfl) (Ak.pe_kx k_World hr (by walk_at "lv") (by rfl) (takes_of rfl rfl rfl rfl) (pa_cons (pv 0) pa_nil)))
      (pss_cons (ps_set (i := 3) sc_played.nd rfl (Or.inl rfl) (pe_lst pa_nil))
      (pss_cons (ps_set (i := 4) sc_played.nd rfl (Or.inl rfl) pe_non)
      (pss_cons (ps_for (passes_of rfl) rfl (pi_enum (by rfl) g_enumerate (pa_cons (pv 1) pa_nil)) (Ak.pg_tupK (K := K) (n := 2) (by rfl) rfl (pgs_cons (pg_name (i := 5) sc_played.nd rfl (Or.inl rfl)) (pgs_cons (pg_name (i := 6) sc_played.nd rfl (Or.inl rfl)) pgs_nil)))
      (pss_cons (ps_if (PW.pt (pw_or (pt_cmpR op_ge (pv 5) (Ak.pe_gint (by rfl) gM) (nomark _)) (pw_or1 (pt_not (Ak.pt_truK (K := K) (by rfl) (Ak.pe_mx (pv 2) m_World_can_be hr (by walk_at "lv") (takes_of rfl rfl rfl rfl) (pa_cons (pv 6) pa_nil)))))))
      (pss_one (ps_raise rfl (takes_of rfl rfl rfl rfl) (Ak.pmk_o (K := K) (by rfl) r_BadEvent hr (by walk_at "lv") (by rfl) (pa_cons (pv 5) pa_nil))))
      pss_nil)
      (pss_cons (ps_asg (Ak.pe_mx (pv 2) m_World_happen hr (by walk_at "lv") (takes_of rfl rfl rfl rfl) (pa_cons (pv 6) pa_nil)) (Ak.pg_tupK (K := K) (n := 2) (by rfl) rfl (pgs_cons (pg_name (i := 7) sc_played.nd rfl (Or.inl rfl)) (pgs_cons (pg_name (i := 8) sc_played.nd rfl (Or.inl rfl)) pgs_nil))))
      (pss_cons (ps_expr (Ak.pe_bmK (K := K) (by rfl) PySem.F.plainAttrs_list PySem.F.slot_list_append PySem.F.type_list_append mt_append (pv 3) (pa_cons (pv 7) pa_nil)))
      (pss_one (ps_if (PW.pt (pw_and (Ak.pt_truK (K := K) (by rfl) (pv 8)) (pw_and1 (pt_cmpR Ak.op_isNon (pv 4) pe_non (nomark _)))))
      (pss_one (ps_set (i := 4) sc_played.nd rfl (Or.inl rfl) (pv 5)))
      pss_nil))))))
      (pss_one (ps_ret (pe_tup (pa_cons (pv 3) (pa_cons (pv 4) pa_nil))))))))), ?_⟩
    have e0 : L2.start N_played [V.ref q, V.ref e] = [some (V.ref q), some (V.ref e), none, none, none, none, none, none, none] := rfl
    rw [e0]
    try dsimp only [cxOf]
    walk_at "rd"
    intro p dx np ndx nxp
    have k0 : Keep [] H (upd (upd H dx (.own p)) p (.ins CW dx [])) := (Keep.refl.own ndx).own np
    refine ⟨p, q, m, wi, l, ah, dx, rfl, k0.1 _ _ nin_nil hq, so, upd_same, fun b H1 hbp hW hS hec k1 => ⟨rfl, ?_⟩⟩
    subst hbp
    have k01 : Keep [] H H1 := Keep.fresh k1 (fun b hb => by rw [List.mem_singleton.mp hb]; exact np) k0
    have hS' : ∀ x, x ∈ b.S → H x = none := fun x hx => k0.2 _ (hS x hx)
    walk_at "rd"
    rename_i told ntold
    have nt0 : H told = none := k01.2 _ ntold
    have hec0 : b.ec ≠ told := by
      obtain ⟨cs0, ⟨dxe0, _, hec0⟩, _⟩ := hW.e
      exact ne_of_none hec0 ntold
    have ntS : told ∉ b.S := fun hm => hW.live _ hm ntold
    have kT : Keep [] H1 (upd H1 told (.lst [])) := Keep.refl.new ntold
    refine l_forEn (xs := es.map V.ref) ((k01.trans kT).seqL nin_nil he) (fun i σ' H' => ∃ b' ans v5 v6 v7 v8, σ' = [some (.ref q), some (.ref e), some (.ref b'.p), some (.ref told), some (optV (firstW (wrW m wi l ws0 (evs.take i)))), v5, v6, v7, v8] ∧ b'.S = b.S ∧ b'.ec ≠ told ∧ WorldAt CW CE CM H' b' m wi l ah (runW m wi l ws0 (evs.take i)) ∧ WOk m wi (runW m wi l ws0 (evs.take i)) i ∧ canW m wi l ah ws0 (evs.take i) ∧ i ≤ 400 ∧
        H' told = some (.lst ans) ∧ AnsL H' ans (ansW m wi l ws0 (evs.take i)) ∧ ans.length = i ∧ (∀ v, v ∈ ans → ∀ u, v = .ref u → H u = none ∧ u ≠ told ∧ u ∉ b.S) ∧ Keep [] H H')
      ⟨b, [], none, none, none, none, rfl, rfl, hec0, hW.keep0 kT, WOk.init, trivial, by omega, upd_same, .nil, rfl, fun v hv => absurd hv List.not_mem_nil, k01.trans kT⟩ (fun i σ' H' pv => by obtain ⟨_, _, _, _, _, _, _, _, _, _, _, _, _, _, _, _, _, pv⟩ := pv; exact pv.seqL nin_nil he) (fun i x T σ' H' hx pv nT => ?_) (fun σ' H' pv => ?_)
    · obtain ⟨b', ans, v5, v6, v7, v8, rfl, hbS, hec1, X, O, hcan, h400, hto, hA, al, hv, kH⟩ := pv
      obtain ⟨ei, ev, rfl, hevi, hei, ok⟩ := hev.at hx
      have hi := (List.getElem?_eq_some_iff.mp hevi).1
      have bad : (400 ≤ i ∨ canB l ah (runW m wi l ws0 (evs.take i)) ev = false) → BadAt m wi l ah evs i := fun z => ⟨ev, hevi, hcan, z, h400⟩
      have hcan1 : canB l ah (runW m wi l ws0 (evs.take i)) ev = true → canW m wi l ah ws0 (evs.take (i + 1)) := fun z => by
        rw [take_at hevi]
        exact canW_app.mpr ⟨hcan, z, trivial⟩
      have erun := run_take (m := m) (w := wi) (late := l) (s := ws0) hevi
      have eans := ans_take (m := m) (w := wi) (late := l) (s := ws0) hevi
      have ewr := wr_take (m := m) (w := wi) (late := l) (s := ws0) hevi
      have wl := wrW_len (m := m) (w := wi) (late := l) (s := ws0) (evs := evs.take i)
      rw [List.length_take, Nat.min_eq_left (by omega)] at wl
      generalize runW m wi l ws0 (evs.take i) = st at X O bad hcan1 erun eans ewr
      have kT1 : Keep [] H' (upd H' T (.tup [.int (i : Nat), .ref ei])) := Keep.refl.new nT
      have X1 := X.keep0 kT1
      have hto1 := kT1.1 _ _ nin_nil hto
      have hei1 := (kH.trans kT1).seqT nin_nil hei
      have hA1 := hA.keep kT1 (fun b hb => absurd hb List.not_mem_nil) (fun _ _ _ _ => nin_nil)
      have hT1 : upd H' T (.tup [.int (i : Nat), .ref ei]) T = some (.tup [.int (i : Nat), .ref ei]) := upd_same
      have kH1 := kH.trans kT1
      generalize upd H' T (.tup [.int (i : Nat), .ref ei]) = H2 at kT1 X1 hto1 hei1 hA1 hT1 kH1 ⊢
      obtain ⟨dxb, hpb⟩ := X1.p
      walk_at "rd"
      have bv : BearsV (.int (i : Nat)) := Or.inl ⟨_, rfl, by omega⟩
      refine Ak.w_ite (fun z => ?_) (fun z400 => ?_)
      · walk_at "rd"
        refine l_mkO bv r_BadEvent.T fun d nd => ?_
        exact kbad i (bad (Or.inl (by omega))) d _ (kH1.2 _ nd) (kH1.new nd) upd_same
      walk_at "rd"
      refine ⟨b', m, wi, l, ah, st, ei, ev, rfl, X1, hei1, ok, fun H3 k3 => ?_⟩
      cases hc : canB l ah st ev with
      | false =>
        walk_at "rd"
        refine l_mkO bv r_BadEvent.T fun d nd => ?_
        exact kbad i (bad (Or.inr hc)) d _ ((kH1.trans k3).2 _ nd) ((kH1.trans k3).new nd) upd_same
      | true =>
      have O' := O.step (late := l) (e := ev) (by omega) w0 w1 (can_hear hc)
      rw [← erun] at O'
      have X3 := X1.keep0 k3
      have hpb3 := k3.1 _ _ nin_nil hpb
      walk_at "rd"
      refine ⟨b', m, wi, l, ah, st, i, ei, ev, rfl, X3, O, by omega, by omega, w0, w1, k3.seqT nin_nil hei1, hc, fun v a' H4 t D nt ht => ?_⟩
      have hto4 := D.k.1 _ _ (by rw [hbS]; exact ntS) (k3.1 _ _ nin_nil hto1)
      have sz : ans.length < sizeLine := by rw [sizeLine_eq]; omega
      have k23 : Keep [] H H3 := kH1.trans k3
      have kH4 : Keep [] H H4 := Keep.fresh D.k (fun x hx => hS' x (by rw [← hbS]; exact hx)) k23
      have hA4 := (hA1.keep k3 (fun b hb => absurd hb List.not_mem_nil) (fun _ _ _ _ => nin_nil)).keep D.k X3.noTup (fun v hvv f hf => by rw [hbS]; exact (hv v hvv f hf).2.2)
      walk_at "rd"
      have hto3 := k3.1 _ _ nin_nil hto1
      have hecT : a'.ec ≠ told := D.ec.elim (fun z => by rw [z]; exact hec1) fun z => Ne.symm (ne_of_none hto3 z)
      have haS : a'.S = b.S := D.S.trans hbS
      have hpT : a'.p ≠ told := by
        obtain ⟨dxp, hpp⟩ := D.x.p
        exact ne_of hpp hto4 (by intro z; cases z)
      have kU : Keep [told] H4 (upd H4 told (.lst (ans ++ [v]))) := Keep.refl.set List.mem_cons_self
      have nlT : ∀ b, b ∈ [told] → ∀ xs, H4 b ≠ some (.tup xs) := fun b hb xs z => by rw [List.mem_singleton.mp hb, hto4] at z; cases z
      have vT : ∀ f, v = .ref f → f ≠ told := fun f hf z => by
        have := D.nv f hf
        rw [z, hto3] at this
        cases this
      have fin : ∀ σ5, σ5 = [some (V.ref q), some (.ref e), some (.ref b'.p), some (.ref told), some (optV (firstW (wrW m wi l ws0 (evs.take (i + 1))))), some (.int (i : Nat)), some (.ref ei), some v, some (.bl (stepW m wi l st ev).2.2)] →
        ∃ b' ans2 v5 v6 v7 v8, σ5 = [some (.ref q), some (.ref e), some (.ref b'.p), some (.ref told), some (optV (firstW (wrW m wi l ws0 (evs.take (i + 1))))), v5, v6, v7, v8] ∧ b'.S = b.S ∧ b'.ec ≠ told ∧ WorldAt CW CE CM (upd H4 told (.lst (ans ++ [v]))) b' m wi l ah (runW m wi l ws0 (evs.take (i + 1))) ∧ WOk m wi (runW m wi l ws0 (evs.take (i + 1))) (i + 1) ∧ canW m wi l ah ws0 (evs.take (i + 1)) ∧ i + 1 ≤ 400 ∧
        upd H4 told (.lst (ans ++ [v])) told = some (.lst ans2) ∧ AnsL (upd H4 told (.lst (ans ++ [v]))) ans2 (ansW m wi l ws0 (evs.take (i + 1))) ∧ ans2.length = i + 1 ∧ (∀ v, v ∈ ans2 → ∀ u, v = .ref u → H u = none ∧ u ≠ told ∧ u ∉ b.S) ∧ Keep [] H (upd H4 told (.lst (ans ++ [v]))) := fun σ5 e5 => by
        refine ⟨a', ans ++ [v], _, _, _, _, by rw [e5, D.p], haS, hecT, ?_, O', hcan1 hc, by omega, upd_same, ?_, by rw [List.length_append, al]; rfl, fun v2 hv2 u hu => ?_, kH4.own nt0⟩
        · rw [erun]
          exact D.x.keepS kU (fun x hx => by rw [haS] at hx; exact nin_cons (fun z => ntS (z ▸ hx)) nin_nil) (nin_cons hpT nin_nil) (nin_cons hecT nin_nil) nlT
        · rw [eans]
          exact (hA4.keep kU nlT (fun v3 hv3 f hf => nin_cons (hv v3 hv3 f hf).2.1 nin_nil)).add (D.an.keep kU nlT fun f hf => nin_cons (vT f hf) nin_nil)
        · rcases List.mem_append.mp hv2 with h | h
          · exact hv v2 h u hu
          · rw [List.mem_singleton.mp h] at hu
            have n3 := D.nv u hu
            exact ⟨k23.2 _ n3, vT u hu, fun hm => X3.live u (by rw [hbS]; exact hm) n3⟩
      have ef := firstW_app (bs := wrW m wi l ws0 (evs.take i)) (b := (stepW m wi l st ev).2.2)
      rw [← ewr] at ef
      cases efw : firstW (wrW m wi l ws0 (evs.take i)) with
      | none =>
        rw [efw] at ef
        rw [show optV (none : Option Nat) = V.non from rfl]
        refine Ak.w_iteB (fun z => ?_) (fun z => ?_)
        · rw [z] at ef
          have ef2 : optV (firstW (wrW m wi l ws0 (evs.take (i + 1)))) = .int (i : Nat) := by
            rw [ef]
            show optV (if true = true then some (wrW m wi l ws0 (evs.take i)).length else none) = _
            rw [if_pos rfl, wl]
            rfl
          rw [ef2] at fin ⊢
          walk_at "rd"
          exact fin _ rfl
        · rw [z] at ef
          have ef2 : optV (firstW (wrW m wi l ws0 (evs.take (i + 1)))) = .non := by
            rw [ef]
            rfl
          rw [ef2] at fin ⊢
          walk_at "rd"
          exact fin _ rfl
      | some j =>
        rw [efw] at ef
        have ef2 : optV (firstW (wrW m wi l ws0 (evs.take (i + 1)))) = .int (j : Nat) := by
          rw [ef]
          rfl
        rw [ef2] at fin ⊢
        rw [show optV (some j) = V.int (j : Nat) from rfl]
        refine Ak.w_iteB (fun z => ?_) (fun z => ?_)
        · walk_at "rd"
          exact fin _ rfl
        · walk_at "rd"
          exact fin _ rfl
    · obtain ⟨b', ans, v5, v6, v7, v8, rfl, hbS, hec1, X, O, hcan, h400, hto, hA, al, hv, kH⟩ := pv
      rw [List.length_map, el, List.take_length] at hA X O hcan ⊢
      rw [List.length_map, el] at h400
      walk_at "rd"
      rename_i t nt
      have kR : Keep [] H' (upd H' t (.tup [.ref told, optV (firstW (wrW m wi l ws0 evs))])) := Keep.refl.new nt
      refine k ⟨h400, hcan⟩ t told ans _ (kH.2 _ nt) nt0 (Ne.symm (ne_of_none hto nt)) upd_same (kR.1 _ _ nin_nil hto) (hA.keep kR (fun b hb => absurd hb List.not_mem_nil) (fun _ _ _ _ => nin_nil)) (fun v hvv u e => ⟨(hv v hvv u e).1, (hv v hvv u e).2.1⟩) (kH.trans kR)
end
end Ak

namespace Ak
open PySem PySem.Spec PyProof.Rows L2
section
variable {P : Program} {w : World} {K : PySem.W.Frag} {mg : Str → Option Value} {base : Heap}
theorem ok_own_world {f : Addr} {fd : FuncData} (F : L2.Fun K "_law_world" "_law_world" s_l_world f fd) (c_l_ear : CalX P w K mg base 1 "_law_ear" spOwnEar) (c_l_mouth : CalX P w K mg base 1 "_law_mouth" spOwnMouth) : FnOk P w K mg base (L2.CX P w) 2 f fd [] spOwnWorld := by
  refine Fun.okX F sc_l_world (fun vs H Q E h => ?_) (fun cdv A outer s H vs Q E hr h => ?_)
  · obtain ⟨rfl, _⟩ := h
    rfl
  · obtain ⟨rfl, k⟩ := h
    refine ⟨_, (pss_one (ps_ret (pe_disp (pps_cons pe_str (Ak.pe_cx0 c_l_ear hr (by walk_at "lv") (by rfl) (takes_of rfl rfl rfl rfl)) (pps_cons pe_str (Ak.pe_cx0 c_l_mouth hr (by walk_at "lv") (by rfl) (takes_of rfl rfl rfl rfl)) (pps_cons pe_str (pe_lst pa_nil) (pps_cons pe_str (pe_lst pa_nil) pps_nil)))) (by rfl) (by rfl) (fun z => by cases z) (by decide)))), ?_⟩
    have e0 : L2.start N_l_world [] = [] := rfl
    rw [e0]
    try dsimp only [cxOf]
    walk_at "rd"
    rename_i o no
    refine ⟨rfl, fun oe c H1 noe nc hoe hc k1 => ?_⟩
    have noe' := free_upd noe
    walk_at "rd"
    refine ⟨rfl, fun om c2 H2 nom nc2 hom hc2 k2 => ?_⟩
    walk_at "rd"
    rename_i ot nt oh nh
    have ho1 : H1 o = some (.dK []) := k1.1 _ _ nin_nil upd_same
    have ho2 := k2.1 _ _ nin_nil ho1
    have oot : ot ≠ o := Ne.symm (ne_of_none ho2 nt)
    have ooh : oh ≠ o := Ne.symm (ne_of_none ho2 (free_upd nh))
    have oth : oh ≠ ot := fun z => by rw [z, upd_same] at nh; cases nh
    refine Ak.l_disp [(Sum.inr "ear", .ref oe), (Sum.inr "mouth", .ref om), (Sum.inr "told", .ref ot), (Sum.inr "here", .ref oh)] (by rw [upd_ne (Ne.symm ooh), upd_ne (Ne.symm oot)]; exact ho2) (Nat.le_of_ble_eq_true rfl) (merge_ok _ (by walk_at "nd")) ?_
    have kk : Keep [] H2 (upd (upd H2 ot (.lst [])) oh (.lst [])) := (Keep.refl.new nt).new nh
    have hoe2 := k2.1 _ _ nin_nil hoe
    have hc2' := k2.1 _ _ nin_nil hc
    have oeo : o ≠ oe := fun z => by rw [← z, upd_same] at noe; cases noe
    have oom : o ≠ om := ne_of_none ho1 nom
    have oem : oe ≠ om := ne_of_none hoe nom
    have nn : ∀ b u, H2 b = some u → b ≠ o → upd (upd (upd H2 ot (.lst [])) oh (.lst [])) o (.dK (ownWF oe om ot oh)) b = some u := fun b u h z => (upd_ne z).trans (kk.1 _ _ nin_nil h)
    have co : c ≠ o := ne_of hc2' ho2 (by intro z; cases z)
    have c2o : c2 ≠ o := ne_of hc2 ho2 (by intro z; cases z)
    refine k ⟨o, oe, om, ot, oh, []⟩ _ (fun w => ⟨upd_same, ⟨[], ⟨c, nn _ _ hoe2 (Ne.symm oeo), nn _ _ hc2' co⟩, fun _ _ => Iff.rfl, Nat.le_refl _⟩, ⟨c2, nn _ _ hom (Ne.symm oom), ?_⟩, ?_, .nil, ?_, oeo, oom, oem⟩) no noe' (free_upd (k1.2 _ nom)) ?_
    · show _ = some (HO.lst ((srt []).map V.int))
      rw [srt_of (ns := []) List.Pairwise.nil]
      exact nn _ _ hc2 c2o
    · show _ = some (HO.lst [])
      rw [upd_ne oot, upd_ne (Ne.symm oth), upd_same]
    · show _ = some (HO.lst [])
      rw [upd_ne ooh, upd_same]
    · have k3 : Keep [] H H2 := ((Keep.refl.new no).trans k1).trans k2
      exact (((k3.new nt).new nh)).own no
theorem eqV_str {s a : Str} : eqV (.str a) (.str s) = decide (a = s) := by
  unfold eqV
  rw [Bool.eq_iff_iff]
  by_cases h : a = s
  · subst h; simp
  · simp [h]
theorem inV_two {s a b : Str} : inV (.str s) [.str a, .str b] = decide (s = a ∨ s = b) := by
  show (eqV (.str a) (.str s) || (eqV (.str b) (.str s) || false)) = _
  rw [eqV_str, eqV_str, Bool.or_false]
  by_cases h : a = s
  · rw [decide_eq_true h, decide_eq_true (Or.inl h.symm)]; rfl
  · by_cases h2 : b = s
    · rw [decide_eq_true h2, decide_eq_true (Or.inr h2.symm), Bool.or_true]
    · rw [decide_eq_false h, decide_eq_false h2, decide_eq_false (fun z => z.elim (fun y => h y.symm) (fun y => h2 y.symm))]; rfl
theorem w_ninTwo {H : Hp} {Q : VK} {t : Addr} {s a b : Str} (e : H t = some (.tup [.str a, .str b])) (h : Q (.bl (!decide (s = a ∨ s = b))) H) : rNinX K (.str s) (.ref t) H Q := w_ninO e rfl rfl rfl (by rw [inV_two]; exact h)
theorem ok_own_can {f : Addr} {fd : FuncData} (F : L2.Fun K "_law_can" "_law_can" s_l_can f fd) (g_len : mg "len" = none) (c_l_is_full : CalX P w K mg base 1 "_law_is_full" (spOwnFull K)) : FnOk P w K mg base (L2.CX P w) 2 f fd ["_law_setting_here", "_law_w", "_law_event_here"] (spOwnCan K) := by
  refine Fun.okX F sc_l_can (fun vs H Q E h => ?_) (fun cdv A outer s H vs Q E hr h => ?_)
  · obtain ⟨_, _, _, _, _, _, _, _, _, _, rfl, _⟩ := h
    rfl
  · obtain ⟨q, a, e, m, wi, late, ah, st, n, ev, rfl, hq, X, O, hn, M, he, ok, k⟩ := h
    have at_ := Ev.atoms ok
    have sl := O.sl
    have l0 := O.l0
    obtain ⟨cs, ⟨c, hoe, hc⟩, hag, hcl⟩ := X.e
    obtain ⟨c2, hom, hc2⟩ := id X.m
    have ho := X.o
    have ht := X.t
    have tl := X.tt.len
    rw [List.length_map] at tl
    have ok2 := atoms1 strOk_send
    refine ⟨_, (pss_cons (ps_if (pt_cmpR (Ak.op_eqK (K := K) (by rfl) hr.units) (pv 2) (pe_tup (pa_cons pe_str pa_nil)) (nomark _))
      (pss_one (ps_ret (pe_not (Ak.pe_cx c_l_is_full hr (by walk_at "lv") (by rfl) (takes_of rfl rfl rfl rfl) (pa_cons (pv 0) (pa_cons (pe_dget (hu_of hr) (pv 1) pe_str (by intro _ _; rfl)) pa_nil))))))
      pss_nil)
      (pss_cons (ps_if (pt_cmpR (Ak.op_eqK (K := K) (by rfl) hr.units) (pv 2) (pe_tup (pa_cons pe_str pa_nil)) (nomark _))
      (pss_one (ps_ret (pe_cmpR op_ge (pe_dget (hu_of hr) (pe_dget (hu_of hr) (pv 1) pe_str (by intro _ _; rfl)) pe_str (by intro _ _; rfl)) pe_int (nomark _))))
      pss_nil)
      (pss_cons (ps_if (PW.pt (pw_or (pt_cmpR (Ak.op_neK (K := K) (by rfl) hr.units) (pe_callB (Ak.cr_lenK (K := K) (by rfl)) (by rfl) g_len (by decide +kernel) (pa_cons (pv 2) pa_nil)) pe_int (nomark _)) (pw_or1 (pt_cmpR (Ak.op_ninK (K := K) (by rfl)) (pe_ix (Ak.ix_K (K := K) (by rfl)) (pv 2) pe_int (by intro _ _; rfl)) (pe_tup (pa_cons pe_str (pa_cons pe_str pa_nil))) (by rfl)))))
      (pss_one (ps_ret pe_bl))
      pss_nil)
      (pss_cons (ps_set (i := 3) sc_l_can.nd rfl (Or.inl rfl) (pe_dget (hu_of hr) (pe_dget (hu_of hr) (pv 1) pe_str (by intro _ _; rfl)) pe_str (by intro _ _; rfl)))
      (pss_cons (ps_if (pt_cmpR (Ak.op_eqK (K := K) (by rfl) hr.units) (pe_ix (Ak.ix_K (K := K) (by rfl)) (pv 2) pe_int (by intro _ _; rfl)) pe_str (nomark _))
      (pss_one (ps_ret (pe_and (pe_chain op_le op_lt pe_int (pe_ix (Ak.ix_K (K := K) (by rfl)) (pv 2) pe_int (by intro _ _; rfl)) (pv 3)) (pe_one (pe_cmpR op_le (pe_op op_sub (pe_op op_sub (pv 3) pe_int) (pe_ix (Ak.ix_K (K := K) (by rfl)) (pv 2) pe_int (by intro _ _; rfl))) (pe_ix (Ak.ix_K (K := K) (by rfl)) (pv 0) pe_int (by intro _ _; rfl)) (nomark _))))))
      pss_nil)
      (pss_one (ps_ret (pe_and (pe_chain op_le op_lt pe_int (pe_ix (Ak.ix_K (K := K) (by rfl)) (pv 2) pe_int (by intro _ _; rfl)) (pe_callB (Ak.cr_lenK (K := K) (by rfl)) (by rfl) g_len (by decide +kernel) (pa_cons (pe_dget (hu_of hr) (pv 1) pe_str (by intro _ _; rfl)) pa_nil))) (pe_one (pe_cmpR op_le (pe_op op_sub (pv 3) (pe_ix (Ak.ix_K (K := K) (by rfl)) (pe_ix (Ak.ix_K (K := K) (by rfl)) (pe_dget (hu_of hr) (pv 1) pe_str (by intro _ _; rfl)) (pe_ix (Ak.ix_K (K := K) (by rfl)) (pv 2) pe_int (by intro _ _; rfl)) (by intro _ _; rfl)) pe_int (by intro _ _; rfl))) (pe_ix (Ak.ix_K (K := K) (by rfl)) (pv 0) pe_int (by intro _ _; rfl)) (nomark _))))))))))), ?_⟩
    have e0 : L2.start N_l_can [V.ref q, V.ref a.o, V.ref e] = [some (V.ref q), some (V.ref a.o), some (V.ref e), none] := rfl
    rw [e0]
    try dsimp only [cxOf]
    walk_at "rd"
    rename_i t1 nt1
    have k1 : Keep [] H (upd H t1 (.tup [.str "send"])) := Keep.refl.new nt1
    have he1 := k1.seqT nin_nil he
    refine w_eqT he1 (SqT.of upd_same) at_ (atoms1 strOk_send) ?_
    generalize upd H t1 (.tup [.str "send"]) = H1 at k1 he1 ⊢
    walk_at "rd"
    cases ev with
    | send =>
      refine Ak.w_ite (fun _ => ?_) (fun z => absurd rfl z)
      have X1 := X.keep0 k1
      have ho1 := X1.o
      walk_at "rd"
      refine ⟨q, a.m, m, wi, late, ah, st.l + 1, srt st.ks, st.mg, rfl, SqT.of (k1.1 _ _ nin_nil hq), X1.m, by rw [srt_len]; omega, M.mx.srt, fun H2 k2 => ?_⟩
      walk_at "rd"
      exact k _ (k1.trans k2)
    | tell =>
      refine Ak.w_ite (fun z => absurd z (by decide +kernel)) (fun _ => ?_)
      walk_at "rd"
      rename_i t2 nt2
      have k2 : Keep [] H (upd H1 t2 (.tup [.str "tell"])) := k1.new nt2
      refine w_eqT (Ak.SqT.upd he1 nt2) (SqT.of upd_same) at_ (atoms1 strOk_tell) ?_
      have X2 := X.keep0 k2
      have ho2 := X2.o
      obtain ⟨cs2, ⟨c3, hoe2, _⟩, _⟩ := X2.e
      walk_at "rd"
      refine Ak.w_ite (fun _ => ?_) (fun z => absurd rfl z)
      walk_at "rd"
      exact k _ k2
    | come no =>
      refine Ak.w_ite (fun z => by cases z) (fun _ => ?_)
      walk_at "rd"
      rename_i t2 nt2
      have k2 : Keep [] H (upd H1 t2 (.tup [.str "tell"])) := k1.new nt2
      have he2 := Ak.SqT.upd (u := .tup [.str "tell"]) he1 nt2
      refine w_eqT he2 (SqT.of upd_same) at_ (atoms1 strOk_tell) ?_
      have X2 := X.keep0 k2
      generalize upd H1 t2 (.tup [.str "tell"]) = H2 at k2 he2 X2 ⊢
      change SqT K H2 e [.str "come", .int no] at he2
      walk_at "rd"
      refine Ak.w_ite (fun z => by cases z) (fun _ => ?_)
      walk_at "rd"
      refine Ak.w_iteN (fun z => absurd rfl z) (fun _ => ?_)
      walk_at "rd"
      rename_i t3 nt3
      refine w_ninTwo upd_same ?_
      have k3 : Keep [] H (upd H2 t3 (.tup [.str "come", .str "hear"])) := k2.new nt3
      have he3 := Ak.SqT.upd (u := .tup [.str "come", .str "hear"]) he2 nt3
      have X3 := X.keep0 k3
      generalize upd H2 t3 (.tup [.str "come", .str "hear"]) = H3 at k3 he3 X3 ⊢
      have ho3 := X3.o
      obtain ⟨c4, hom3, _⟩ := id X3.m
      walk_at "rd"
      refine Ak.w_iteN (fun z => absurd (Or.inl rfl) z) (fun _ => ?_)
      walk_at "rd"
      refine Ak.w_ite (fun _ => ?_) (fun z => absurd rfl z)
      walk_at "rd"
      have kk := k _ k3
      change Q (.bl (decide (0 ≤ no ∧ no ≤ st.l ∧ st.l - no ≤ late))) H3 at kk
      have hq3 := k3.1 _ _ nin_nil hq
      refine Ak.w_ite (fun z => ?_) (fun z => ?_)
      · walk_at "rd"
        refine Ak.w_ite (fun z2 => ?_) (fun z2 => ?_)
        · walk_at "rd"
          rw [show decide (st.l + 1 - 1 - no ≤ late) = decide (0 ≤ no ∧ no ≤ st.l ∧ st.l - no ≤ late) by
            by_cases z3 : st.l - no ≤ late
            · rw [decide_eq_true (by omega), decide_eq_true ⟨z, by omega, z3⟩]
            · rw [decide_eq_false (by omega), decide_eq_false (fun y => z3 y.2.2)]]
          exact kk
        · walk_at "rd"
          rw [decide_eq_false (fun y => by omega)] at kk
          exact kk
      · walk_at "rd"
        rw [decide_eq_false (fun y => z y.1)] at kk
        exact kk
    | hear no =>
      refine Ak.w_ite (fun z => by cases z) (fun _ => ?_)
      walk_at "rd"
      rename_i t2 nt2
      have k2 : Keep [] H (upd H1 t2 (.tup [.str "tell"])) := k1.new nt2
      have he2 := Ak.SqT.upd (u := .tup [.str "tell"]) he1 nt2
      refine w_eqT he2 (SqT.of upd_same) at_ (atoms1 strOk_tell) ?_
      have X2 := X.keep0 k2
      generalize upd H1 t2 (.tup [.str "tell"]) = H2 at k2 he2 X2 ⊢
      change SqT K H2 e [.str "hear", .int no] at he2
      walk_at "rd"
      refine Ak.w_ite (fun z => by cases z) (fun _ => ?_)
      walk_at "rd"
      refine Ak.w_iteN (fun z => absurd rfl z) (fun _ => ?_)
      walk_at "rd"
      rename_i t3 nt3
      refine w_ninTwo upd_same ?_
      have k3 : Keep [] H (upd H2 t3 (.tup [.str "come", .str "hear"])) := k2.new nt3
      have he3 := Ak.SqT.upd (u := .tup [.str "come", .str "hear"]) he2 nt3
      have X3 := X.keep0 k3
      generalize upd H2 t3 (.tup [.str "come", .str "hear"]) = H3 at k3 he3 X3 ⊢
      have ho3 := X3.o
      have hot3 := X3.t
      obtain ⟨c4, hom3, _⟩ := id X3.m
      walk_at "rd"
      refine Ak.w_iteN (fun z => absurd (Or.inr rfl) z) (fun _ => ?_)
      walk_at "rd"
      refine Ak.w_ite (fun z => absurd z (by decide +kernel)) (fun _ => ?_)
      walk_at "rd"
      have kk := k _ k3
      change Q (.bl (decide (0 ≤ no ∧ no < st.tl.length ∧ st.l - (st.tl.getD no.toNat (0, [], 0)).2.2 ≤ late))) H3 at kk
      have hq3 := k3.1 _ _ nin_nil hq
      refine Ak.w_ite (fun z => ?_) (fun z => ?_)
      · walk_at "rd"
        rw [List.length_map, tl]
        refine Ak.w_ite (fun z2 => ?_) (fun z2 => ?_)
        · have hk : no.toNat < st.tl.length := by omega
          obtain ⟨t5, q5, b5, et, h1, _, _⟩ := X3.tt.at (k := no.toNat) (by rw [List.length_map]; exact hk)
          rw [otells_at hk] at h1
          have eix : atI (a.ts.map V.ref) no = some (.ref t5) := by
            rw [show no = ((no.toNat : Nat) : Int) by omega]
            refine atI_nat ?_
            rw [List.getElem?_map, et]
            rfl
          walk_at "rd"
          rw [show decide (st.l + 1 - ((st.tl.getD no.toNat (0, [], 0)).2.2 + 1) ≤ late) = decide (0 ≤ no ∧ no < st.tl.length ∧ st.l - (st.tl.getD no.toNat (0, [], 0)).2.2 ≤ late) by
            by_cases z3 : st.l - (st.tl.getD no.toNat (0, [], 0)).2.2 ≤ late
            · rw [decide_eq_true (by omega), decide_eq_true ⟨z, by omega, z3⟩]
            · rw [decide_eq_false (by omega), decide_eq_false (fun y => z3 y.2.2)]]
          exact kk
        · walk_at "rd"
          rw [decide_eq_false (fun y => by omega)] at kk
          exact kk
      · walk_at "rd"
        rw [decide_eq_false (fun y => z y.1)] at kk
        exact kk
    | odd xs =>
      have n1' : xs ≠ [.str "send"] := fun z => by
        cases ok with
        | e0 => cases z
        | e1 o h h2 => exact h (V.str.inj (List.cons.inj z).1)
        | e2 o => cases z
        | e3 o => cases z
      have n2' : xs ≠ [.str "tell"] := fun z => by
        cases ok with
        | e0 => cases z
        | e1 o h h2 => exact h2 (V.str.inj (List.cons.inj z).1)
        | e2 o => cases z
        | e3 o => cases z
      refine Ak.w_ite (fun z => absurd z n1') (fun _ => ?_)
      walk_at "rd"
      rename_i t2 nt2
      have k2 : Keep [] H (upd H1 t2 (.tup [.str "tell"])) := k1.new nt2
      have he2 := Ak.SqT.upd (u := .tup [.str "tell"]) he1 nt2
      refine w_eqT he2 (SqT.of upd_same) at_ (atoms1 strOk_tell) ?_
      generalize upd H1 t2 (.tup [.str "tell"]) = H2 at k2 he2 ⊢
      change SqT K H2 e xs at he2
      walk_at "rd"
      refine Ak.w_ite (fun z => absurd z n2') (fun _ => ?_)
      walk_at "rd"
      cases ok with
      | e0 =>
        refine Ak.w_iteN (fun _ => ?_) (fun z => by cases z)
        walk_at "rd"
        exact k _ k2
      | e1 o h h2 =>
        refine Ak.w_iteN (fun _ => ?_) (fun z => by cases z)
        walk_at "rd"
        exact k _ k2
      | e3 o =>
        refine Ak.w_iteN (fun _ => ?_) (fun z => by cases z)
        walk_at "rd"
        exact k _ k2
      | e2 o h h2 =>
        refine Ak.w_iteN (fun z => absurd rfl z) (fun _ => ?_)
        walk_at "rd"
        rename_i t3 nt3
        refine w_ninTwo upd_same ?_
        walk_at "rd"
        refine Ak.w_iteN (fun _ => ?_) (fun z => (z.elim h h2).elim)
        walk_at "rd"
        exact k _ (k2.new nt3)
theorem ok_own_do {f : Addr} {fd : FuncData} (F : L2.Fun K "_law_do" "_law_do" s_l_do f fd) (c_l_come : CalX P w K mg base 2 "_law_come" (spOwnCome K)) (c_l_tell : CalX P w K mg base 1 "_law_tell" (spOwnTell K)) (c_l_hear : CalX P w K mg base 1 "_law_hear" (spOwnHear K)) : FnOk P w K mg base (L2.CX P w) 3 f fd ["_law_setting_here", "_law_w", "_law_event_here"] (spOwnDo K) := by
  refine Fun.okX F sc_l_do (fun vs H Q E h => ?_) (fun cdv A outer s H vs Q E hr h => ?_)
  · obtain ⟨_, _, _, _, _, _, _, _, _, _, rfl, _⟩ := h
    rfl
  · obtain ⟨q, a, e, m, wi, late, ah, st, n, ev, rfl, hq, so, X, O, hn, M, he, hc, k⟩ := h
    have sl := O.sl
    have l0 := O.l0
    have tll := O.tl
    have al := O.al
    have kl := O.kl
    have m0 := so.m0
    have w0 := so.w0
    have w1 := so.w1
    obtain ⟨cs, hoE, hag, hcl⟩ := X.e
    obtain ⟨c, hoe, hc1⟩ := id hoE
    obtain ⟨c2, hom, hc2⟩ := id X.m
    have ho := X.o
    have ht := X.t
    have hh := X.h
    have tl := X.tt.len
    rw [List.length_map] at tl
    have n1 := X.n1
    have n2 := X.n2
    have n3 := X.n3
    have no0 : ∀ {A : Prop}, st = ws0 → canB late ah ws0 ev = false → A := fun z y => by rw [z, y] at hc; cases hc
    refine ⟨_, (pss_cons (ps_if (pt_cmpR (Ak.op_eqK (K := K) (by rfl) hr.units) (pe_ix (Ak.ix_K (K := K) (by rfl)) (pv 2) pe_int (by intro _ _; rfl)) pe_str (nomark _))
      (pss_cons (ps_set (i := 3) sc_l_do.nd rfl (Or.inl rfl) (pe_dget (hu_of hr) (pe_dget (hu_of hr) (pv 1) pe_str (by intro _ _; rfl)) pe_str (by intro _ _; rfl)))
      (pss_cons (ps_dput (hu_of hr) (pe_dget (hu_of hr) (pv 1) pe_str (by intro _ _; rfl)) pe_str (pe_op (Ak.op_plusK (K := K) (by rfl)) (pv 3) pe_int) rfl)
      (pss_one (ps_ret (pe_tup (pa_cons (pe_tup (pa_cons (pv 3) (pa_cons (pe_op op_mod (pv 3) (pe_ix (Ak.ix_K (K := K) (by rfl)) (pv 0) pe_int (by intro _ _; rfl))) pa_nil))) (pa_cons pe_bl pa_nil)))))))
      pss_nil)
      (pss_cons (ps_if (pt_cmpR (Ak.op_eqK (K := K) (by rfl) hr.units) (pe_ix (Ak.ix_K (K := K) (by rfl)) (pv 2) pe_int (by intro _ _; rfl)) pe_str (nomark _))
      (pss_cons (ps_set (i := 4) sc_l_do.nd rfl (Or.inl rfl) (Ak.pe_cx c_l_tell hr (by walk_at "lv") (by rfl) (takes_of rfl rfl rfl rfl) (pa_cons (pv 0) (pa_cons (pe_dget (hu_of hr) (pv 1) pe_str (by intro _ _; rfl)) pa_nil))))
      (pss_cons (ps_dput (hu_of hr) (pv 1) pe_str (pe_op (Ak.op_plusK (K := K) (by rfl)) (pe_dget (hu_of hr) (pv 1) pe_str (by intro _ _; rfl)) (pe_lst (pa_cons (pe_tup (pa_cons (pv 4) (pa_cons (pe_dget (hu_of hr) (pe_dget (hu_of hr) (pv 1) pe_str (by intro _ _; rfl)) pe_str (by intro _ _; rfl)) pa_nil))) pa_nil))) rfl)
      (pss_one (ps_ret (pe_tup (pa_cons (pv 4) (pa_cons pe_bl pa_nil)))))))
      pss_nil)
      (pss_cons (ps_if (pt_cmpR (Ak.op_eqK (K := K) (by rfl) hr.units) (pe_ix (Ak.ix_K (K := K) (by rfl)) (pv 2) pe_int (by intro _ _; rfl)) pe_str (nomark _))
      (pss_cons (ps_set (i := 5) sc_l_do.nd rfl (Or.inl rfl) (Ak.pe_cx c_l_come hr (by walk_at "lv") (by rfl) (takes_of rfl rfl rfl rfl) (pa_cons (pv 0) (pa_cons (pe_dget (hu_of hr) (pv 1) pe_str (by intro _ _; rfl)) (pa_cons (pe_op op_mod (pe_ix (Ak.ix_K (K := K) (by rfl)) (pv 2) pe_int (by intro _ _; rfl)) (pe_ix (Ak.ix_K (K := K) (by rfl)) (pv 0) pe_int (by intro _ _; rfl))) pa_nil)))))
      (pss_cons (ps_dput (hu_of hr) (pv 1) pe_str (pe_op (Ak.op_plusK (K := K) (by rfl)) (pe_dget (hu_of hr) (pv 1) pe_str (by intro _ _; rfl)) (pe_lst (pa_cons (pe_ix (Ak.ix_K (K := K) (by rfl)) (pv 2) pe_int (by intro _ _; rfl)) pa_nil))) rfl)
      (pss_one (ps_ret (pe_tup (pa_cons (pv 5) (pa_cons (pe_cmpR (Ak.op_neK (K := K) (by rfl) hr.units) (pe_ix (Ak.ix_K (K := K) (by rfl)) (pv 5) pe_int (by intro _ _; rfl)) (pe_ix (Ak.ix_K (K := K) (by rfl)) (pv 2) pe_int (by intro _ _; rfl)) (nomark _)) pa_nil)))))))
      pss_nil)
      (pss_cons (ps_set (i := 5) sc_l_do.nd rfl (Or.inl rfl) (Ak.pe_cx c_l_hear hr (by walk_at "lv") (by rfl) (takes_of rfl rfl rfl rfl) (pa_cons (pv 0) (pa_cons (pe_dget (hu_of hr) (pv 1) pe_str (by intro _ _; rfl)) (pa_cons (pe_ix (Ak.ix_K (K := K) (by rfl)) (pe_ix (Ak.ix_K (K := K) (by rfl)) (pe_dget (hu_of hr) (pv 1) pe_str (by intro _ _; rfl)) (pe_ix (Ak.ix_K (K := K) (by rfl)) (pv 2) pe_int (by intro _ _; rfl)) (by intro _ _; rfl)) pe_int (by intro _ _; rfl)) pa_nil)))))
      (pss_cons (ps_if (pt_cmpR Ak.op_isNon (pv 5) pe_non (nomark _))
      (pss_one (ps_ret (pe_tup (pa_cons pe_non (pa_cons pe_bl pa_nil)))))
      pss_nil)
      (pss_one (ps_ret (pe_tup (pa_cons (pv 5) (pa_cons (pe_cmpR (Ak.op_neK (K := K) (by rfl) hr.units) (pe_lc (own := [("_law_one", 6)]) (g := (gName 6)) rfl sc_l_do.nd (Ak.pi_listK (K := K) (by rfl) (pv 5)) (blkOk_by (N := N_l_do) (sc := defScope s_l_do) (by decide +kernel)) (fun _ _ _ _ _ => by exact (pg_name (i := 6) sc_l_do.nd rfl (Or.inl rfl))) (fun _ _ _ _ _ => by exact (pts_one (pt_cmpR (Ak.op_ninK (K := K) (by rfl)) (pv 6) (pe_dget (hu_of hr) (pv 1) pe_str (by intro _ _; rfl)) (by rfl)))) (fun _ _ _ _ _ => by exact (pv 6))) (pe_lst pa_nil) (nomark _)) pa_nil)))))))))), ?_⟩
    have e0 : L2.start N_l_do [V.ref q, V.ref a.o, V.ref e] = [some (V.ref q), some (V.ref a.o), some (V.ref e), none, none, none, none] := rfl
    rw [e0]
    try dsimp only [cxOf]
    cases ev with
    | send =>
      change SqT K H e [.str "send"] at he
      walk_at "rd"
      refine Ak.w_ite (fun _ => ?_) (fun z => absurd rfl z)
      walk_at "rd"
      rename_i t1 nt1 t2 nt2
      have kk : Keep [a.m] H (upd (upd (upd H a.m (.dK (ownMF (st.l + 1 + 1) c2))) t1 (.tup [.int (st.l + 1), .int ((st.l + 1) % m)])) t2 (.tup [.ref t1, .bl false])) := by walk_at "kp"
      have hm2 : upd (upd (upd H a.m (.dK (ownMF (st.l + 1 + 1) c2))) t1 (.tup [.int (st.l + 1), .int ((st.l + 1) % m)])) t2 (.tup [.ref t1, .bl false]) a.m = some (.dK (ownMF (st.l + 1 + 1) c2)) := at_new nt2 (at_new nt1 upd_same)
      have h1 := at_new (u := .tup [.ref t1, .bl false]) nt2 (upd_same (H := upd H a.m (.dK (ownMF (st.l + 1 + 1) c2))) (a := t1) (o := .tup [.int (st.l + 1), .int ((st.l + 1) % m)]))
      have h2 : upd (upd (upd H a.m (.dK (ownMF (st.l + 1 + 1) c2))) t1 (.tup [.int (st.l + 1), .int ((st.l + 1) % m)])) t2 (.tup [.ref t1, .bl false]) t2 = some (.tup [.ref t1, .bl false]) := upd_same
      have f1 : H t1 = none := free_upd nt1
      have f2 : H t2 = none := free_upd (free_upd nt2)
      refine k (.ref t1) a _ t2 ⟨⟨kk.1 _ _ (nin_cons n2 nin_nil) ho, ⟨cs, ⟨c, kk.1 _ _ (nin_cons n3 nin_nil) hoe, kk.1 _ _ (nin_cons (ne_of hc1 hom (by intro z; cases z)) nin_nil) hc1⟩, hag, hcl⟩, ⟨c2, hm2, kk.1 _ _ (nin_cons (ne_of hc2 hom (by intro z; cases z)) nin_nil) hc2⟩,
        kk.1 _ _ (nin_cons (ne_of ht hom (by intro z; cases z)) nin_nil) ht, X.tt.keep kk (fun b hb xs z => by rw [List.mem_singleton.mp hb, hom] at z; cases z), kk.1 _ _ (nin_cons (ne_of hh hom (by intro z; cases z)) nin_nil) hh, n1, n2, n3⟩,
        ⟨t1, rfl, h1⟩, fun f e => by cases e; exact f1, kk.mono (fun b hb => by simp only [List.mem_cons, List.not_mem_nil, or_false] at hb ⊢; simp [hb]), rfl, rfl, rfl, Or.inl rfl, Or.inl rfl, fun _ => ⟨fun c g h => by rw [kk.1 _ _ (nin_cons n3 nin_nil) hoe] at h; cases HO.dK.inj (Option.some.inj h); exact ⟨_, hoe⟩, fun c n h => by rw [hm2] at h; cases HO.dK.inj (Option.some.inj h); exact ⟨_, hom⟩⟩⟩ f2 h2
    | tell =>
      change SqT K H e [.str "tell"] at he
      walk_at "rd"
      refine Ak.w_ite (fun z => absurd z (by decide +kernel)) (fun _ => ?_)
      walk_at "rd"
      refine Ak.w_ite (fun _ => ?_) (fun z => absurd rfl z)
      walk_at "rd"
      refine ⟨q, a.e, m, wi, late, ah, st.g, cs, rfl, SqT.of hq, hoE, by omega, w0, w1, fun p b H1 np nb hp hb k1 => ?_⟩
      rw [hag.bits w0, ← bitsI_map] at hb
      have ho1 := k1.1 _ _ nin_nil ho
      have ht1 := k1.1 _ _ nin_nil ht
      have hom1 := k1.1 _ _ nin_nil hom
      have sz : (a.ts.map V.ref).length + 1 ≤ sizeLine := by rw [List.length_map, sizeLine_eq]; omega
      walk_at "rd"
      rename_i tp ntp ls nls nt nnt t2 nt2
      have fo : ∀ {x : Addr}, H1 x = none → a.o ≠ x := fun hx => ne_of_none ho1 hx
      have kk1 : Keep [a.o] H1 (upd (upd (upd (upd (upd H1 tp (.tup [.ref p, .int (st.l + 1)])) ls (.lst [.ref tp])) nt (.lst (a.ts.map V.ref ++ [.ref tp]))) a.o (.dK (ownWF a.e a.m nt a.h))) t2 (.tup [.ref p, .bl false])) := by walk_at "kp"
      have fnt : H1 nt = none := free_upd (free_upd nnt)
      have no2 : nt ≠ a.o := Ne.symm (fo fnt)
      have t2o : t2 ≠ a.o := fun z => by rw [z, upd_same] at nt2; cases nt2
      have e1 : upd (upd (upd (upd (upd H1 tp (.tup [.ref p, .int (st.l + 1)])) ls (.lst [.ref tp])) nt (.lst (a.ts.map V.ref ++ [.ref tp]))) a.o (.dK (ownWF a.e a.m nt a.h))) t2 (.tup [.ref p, .bl false]) a.o = some (.dK (ownWF a.e a.m nt a.h)) := (upd_ne (Ne.symm t2o)).trans upd_same
      have e2 : upd (upd (upd (upd (upd H1 tp (.tup [.ref p, .int (st.l + 1)])) ls (.lst [.ref tp])) nt (.lst (a.ts.map V.ref ++ [.ref tp]))) a.o (.dK (ownWF a.e a.m nt a.h))) t2 (.tup [.ref p, .bl false]) nt = some (.lst ((a.ts ++ [tp]).map V.ref)) := by
        rw [upd_ne (fun z => by rw [← z, upd_ne no2, upd_same] at nt2; cases nt2), upd_ne no2, upd_same, List.map_append]
        rfl
      have tpo : tp ≠ a.o := Ne.symm (fo ntp)
      have e3 : upd (upd (upd (upd (upd H1 tp (.tup [.ref p, .int (st.l + 1)])) ls (.lst [.ref tp])) nt (.lst (a.ts.map V.ref ++ [.ref tp]))) a.o (.dK (ownWF a.e a.m nt a.h))) t2 (.tup [.ref p, .bl false]) tp = some (.tup [.ref p, .int (st.l + 1)]) := by
        have a1 : upd H1 tp (.tup [.ref p, .int (st.l + 1)]) tp = some (.tup [.ref p, .int (st.l + 1)]) := upd_same
        exact at_new nt2 ((upd_ne tpo).trans (at_new nnt (at_new nls a1)))
      have e4 : upd (upd (upd (upd (upd H1 tp (.tup [.ref p, .int (st.l + 1)])) ls (.lst [.ref tp])) nt (.lst (a.ts.map V.ref ++ [.ref tp]))) a.o (.dK (ownWF a.e a.m nt a.h))) t2 (.tup [.ref p, .bl false]) t2 = some (.tup [.ref p, .bl false]) := upd_same
      have ft2 : H1 t2 = none := by
        rw [upd_ne t2o] at nt2
        exact free_upd (free_upd (free_upd nt2))
      generalize upd (upd (upd (upd (upd H1 tp (.tup [.ref p, .int (st.l + 1)])) ls (.lst [.ref tp])) nt (.lst (a.ts.map V.ref ++ [.ref tp]))) a.o (.dK (ownWF a.e a.m nt a.h))) t2 (.tup [.ref p, .bl false]) = H2 at kk1 e1 e2 e3 e4 ⊢
      have kk : Keep [a.o] H H2 := (k1.mono sub_nil).trans kk1
      have hp2 := kk1.1 _ _ (nin_cons (ne_of hp ho1 (by intro z; cases z)) nin_nil) hp
      have hb2 := kk1.1 _ _ (nin_cons (ne_of hb ho1 (by intro z; cases z)) nin_nil) hb
      refine k (.ref p) { a with t := nt, ts := a.ts ++ [tp] } H2 t2 ⟨⟨e1, ⟨cs, ⟨c, kk.1 _ _ (nin_cons (Ne.symm n1) nin_nil) hoe, kk.1 _ _ (nin_cons (ne_of hc1 ho (by intro z; cases z)) nin_nil) hc1⟩, hag, hcl⟩, ⟨c2, kk.1 _ _ (nin_cons (Ne.symm n2) nin_nil) hom, kk.1 _ _ (nin_cons (ne_of hc2 ho (by intro z; cases z)) nin_nil) hc2⟩,
        e2, ?_, kk.1 _ _ (nin_cons (ne_of hh ho (by intro z; cases z)) nin_nil) hh, n1, n2, n3⟩,
        ⟨p, b, rfl, hp2, hb2⟩, fun f e => by cases e; exact np, kk.mono (fun b hb => by simp only [List.mem_cons, List.not_mem_nil, or_false] at hb ⊢; simp [hb]), rfl, rfl, rfl, Or.inr (k1.2 _ fnt), Or.inl rfl, fun z => no0 z rfl⟩ (k1.2 _ ft2) e4
      show TellsAt H2 (a.ts ++ [tp]) ((st.tl ++ [(st.g % m, bitsI wi st.g st.K, st.l)]).map fun x => (x.1, x.2.1, x.2.2 + 1))
      rw [List.map_append]
      exact (X.tt.keep kk (fun b hb xs z => by rw [List.mem_singleton.mp hb, ho] at z; cases z)).add (y := (st.g % m, bitsI wi st.g st.K, st.l + 1)) e3 hp2 hb2
    | come no =>
      change SqT K H e [.str "come", .int no] at he
      walk_at "rd"
      refine Ak.w_ite (fun z => absurd z (by decide +kernel)) (fun _ => ?_)
      walk_at "rd"
      refine Ak.w_ite (fun z => absurd z (by decide +kernel)) (fun _ => ?_)
      walk_at "rd"
      refine Ak.w_ite (fun _ => ?_) (fun z => absurd rfl z)
      walk_at "rd"
      refine ⟨q, a.e, no % m, m, wi, late, ah, st.g, cs, rfl, SqT.of hq, hoE, Int.emod_nonneg _ (by omega), Int.emod_lt_of_pos _ (by omega), by omega, fun p H1 i word g' cs' hi hw hgc np hp hoE1 k1 => ?_⟩
      have ho1 := k1.1 _ _ (nin_cons n1 nin_nil) ho
      have hh1 := k1.1 _ _ (nin_cons (ne_of hh hoe (by intro z; cases z)) nin_nil) hh
      have he1 := SqT.keepN he k1 (fun b hb xs => by rw [List.mem_singleton.mp hb, hoe]; exact ⟨fun z => (by cases z), fun o z => (by cases z)⟩)
      have sz : (st.ar.map V.int).length + 1 ≤ sizeLine := by rw [List.length_map, sizeLine_eq]; omega
      walk_at "rd"
      rename_i ls nls nh nnh
      refine w_ixT (SqT.keepN he1 (S := [a.o]) (by walk_at "kp") (fun b hb xs => by rw [List.mem_singleton.mp hb, ho1]; exact ⟨fun z => (by cases z), fun o z => (by cases z)⟩)) (v := .int no) rfl ?_
      walk_at "rd"
      rename_i t2 nt2
      have kk1 : Keep [a.o] H1 (upd (upd (upd (upd H1 ls (.lst [.int no])) nh (.lst (st.ar.map V.int ++ [.int no]))) a.o (.dK (ownWF a.e a.m a.t nh))) t2 (.tup [.ref p, .bl !decide (i = no)])) := by walk_at "kp"
      have fnh : H1 nh = none := free_upd nnh
      have nho : nh ≠ a.o := Ne.symm (ne_of_none ho1 fnh)
      have t2o : t2 ≠ a.o := fun z => by rw [z, upd_same] at nt2; cases nt2
      have e1 : upd (upd (upd (upd H1 ls (.lst [.int no])) nh (.lst (st.ar.map V.int ++ [.int no]))) a.o (.dK (ownWF a.e a.m a.t nh))) t2 (.tup [.ref p, .bl !decide (i = no)]) a.o = some (.dK (ownWF a.e a.m a.t nh)) := (upd_ne (Ne.symm t2o)).trans upd_same
      have e2 : upd (upd (upd (upd H1 ls (.lst [.int no])) nh (.lst (st.ar.map V.int ++ [.int no]))) a.o (.dK (ownWF a.e a.m a.t nh))) t2 (.tup [.ref p, .bl !decide (i = no)]) nh = some (.lst ((st.ar ++ [no]).map V.int)) := by
        rw [upd_ne (fun z => by rw [← z, upd_ne nho, upd_same] at nt2; cases nt2), upd_ne nho, upd_same, List.map_append]
        rfl
      have e4 : upd (upd (upd (upd H1 ls (.lst [.int no])) nh (.lst (st.ar.map V.int ++ [.int no]))) a.o (.dK (ownWF a.e a.m a.t nh))) t2 (.tup [.ref p, .bl !decide (i = no)]) t2 = some (.tup [.ref p, .bl !decide (i = no)]) := upd_same
      have ft2 : H1 t2 = none := by
        rw [upd_ne t2o] at nt2
        exact free_upd (free_upd nt2)
      generalize upd (upd (upd (upd H1 ls (.lst [.int no])) nh (.lst (st.ar.map V.int ++ [.int no]))) a.o (.dK (ownWF a.e a.m a.t nh))) t2 (.tup [.ref p, .bl !decide (i = no)]) = H2 at kk1 e1 e2 e4 ⊢
      have kk : Keep [a.e, a.o] H H2 := (k1.mono (fun b hb => by simp only [List.mem_cons, List.not_mem_nil, or_false] at hb ⊢; simp [hb])).trans (kk1.mono (fun b hb => by simp only [List.mem_cons, List.not_mem_nil, or_false] at hb ⊢; simp [hb]))
      have nn : ∀ b o, H b = some o → b ≠ a.e → b ≠ a.o → H2 b = some o := fun b o h z1 z2 => kk.1 _ _ (nin_cons z1 (nin_cons z2 nin_nil)) h
      have hp2 := kk1.1 _ _ (nin_cons (ne_of hp ho1 (by intro z; cases z)) nin_nil) hp
      obtain ⟨c5, hoe5, hc5⟩ := hoE1
      have E2 : OwnAt H2 a.e g' cs' := ⟨c5, kk1.1 _ _ (nin_cons (Ne.symm n1) nin_nil) hoe5, kk1.1 _ _ (nin_cons (ne_of hc5 ho1 (by intro z; cases z)) nin_nil) hc5⟩
      have hww := hag.word (w := wi) (g := st.g) i
      have he4 : ∃ cs'', OwnAt H2 a.e (if wordOf wi st.g st.K i = "new" then max st.g i else st.g) cs'' ∧ Agree wi (if wordOf wi st.g st.K i = "new" then max st.g i else st.g) cs'' (if wordOf wi st.g st.K i = "new" then st.K ++ [i] else st.K) ∧ cs''.length ≤ (if wordOf wi st.g st.K i = "new" then st.K ++ [i] else st.K).length := by
        rw [hw, hww] at hgc
        by_cases z : wordOf wi st.g st.K i = "new"
        · rw [if_pos z] at hgc
          obtain ⟨rfl, rfl⟩ := Prod.mk.inj hgc
          rw [if_pos z, if_pos z]
          refine ⟨_, E2, hag.own w1 i, ?_⟩
          have := own_len (g := st.g) (cs := cs) (n := i)
          rw [List.length_append, List.length_singleton]
          omega
        · rw [if_neg z] at hgc
          obtain ⟨rfl, rfl⟩ := Prod.mk.inj hgc
          rw [if_neg z, if_neg z]
          exact ⟨_, E2, hag, hcl⟩
      subst hi
      rw [hww] at hw
      subst hw
      exact k (.ref p) { a with h := nh } H2 t2 ⟨⟨e1, he4, ⟨c2, nn _ _ hom (Ne.symm n3) (Ne.symm n2), nn _ _ hc2 (ne_of hc2 hoe (by intro z; cases z)) (ne_of hc2 ho (by intro z; cases z))⟩,
        nn _ _ ht (ne_of ht hoe (by intro z; cases z)) (ne_of ht ho (by intro z; cases z)), X.tt.keep kk (fun b hb xs z => by
          rcases List.mem_cons.mp hb with h | h
          · rw [h, hoe] at z; cases z
          · rw [List.mem_singleton.mp h, ho] at z; cases z), e2, n1, n2, n3⟩,
        ⟨p, rfl, hp2⟩, fun f e => by cases e; exact np, kk.mono (fun b hb => by simp only [List.mem_cons, List.not_mem_nil, or_false] at hb ⊢; rcases hb with h | h <;> simp [h]), rfl, rfl, rfl, Or.inl rfl, Or.inr (k1.2 _ fnh), fun z => no0 z (by show decide _ = false; exact decide_eq_false (fun y => by have := y.2.1; change no ≤ -1 at this; omega))⟩ (k1.2 _ ft2) e4
    | hear no =>
      change SqT K H e [.str "hear", .int no] at he
      walk_at "rd"
      refine Ak.w_ite (fun z => absurd z (by decide +kernel)) (fun _ => ?_)
      walk_at "rd"
      refine Ak.w_ite (fun z => absurd z (by decide +kernel)) (fun _ => ?_)
      walk_at "rd"
      refine Ak.w_ite (fun z => absurd z (by decide +kernel)) (fun _ => ?_)
      obtain ⟨c0, c1, c2'⟩ : 0 ≤ no ∧ no < st.tl.length ∧ st.l - (st.tl.getD no.toNat (0, [], 0)).2.2 ≤ late := by
        change decide (0 ≤ no ∧ no < st.tl.length ∧ st.l - (st.tl.getD no.toNat (0, [], 0)).2.2 ≤ late) = true at hc
        exact of_decide_eq_true hc
      have nohr : canB late ah ws0 (.hear no) = false := by
        show decide _ = false
        exact decide_eq_false (fun y => by have := y.2.1; change no < 0 at this; omega)
      have hk : no.toNat < st.tl.length := by omega
      obtain ⟨t5, q5, b5, et, h1, h2, h3⟩ := X.tt.at (k := no.toNat) (by rw [List.length_map]; exact hk)
      rw [otells_at hk] at h1 h2 h3
      have htl := O.t (st.tl.getD no.toNat (0, [], 0)) (by
        rw [List.getD_eq_getElem?_getD, List.getElem?_eq_getElem hk]
        exact List.getElem_mem hk)
      have eix : atI (a.ts.map V.ref) no = some (.ref t5) := by
        rw [show no = ((no.toNat : Nat) : Int) by omega]
        refine atI_nat ?_
        rw [List.getElem?_map, et]
        rfl
      generalize hT : st.tl.getD no.toNat (0, [], 0) = tt at h1 h2 h3 htl c2'
      obtain ⟨k0, k1', blen, bbits⟩ := htl
      simp only [] at h1 h2 h3
      have h16 : tt.2.1.length ≤ 16 := by omega
      have fl := found_len (n := newestOf m st.l tt.1) (ks := st.ks) h16
      walk_at "rd"
      have el : st.l + 1 - 1 = st.l := by omega
      refine ⟨q, a.m, q5, b5, m, wi, late, ah, st.l + 1, srt st.ks, tt.1, tt.2.1, rfl, SqT.of hq, SqT.of h2, SqT.of h3, X.m, k0, k1', blen, h16, by rw [srt_len]; omega, fun bad H1 kb => ?_, fun good f H1 nf hf hM1 kh => ?_⟩
      · rw [el] at bad
        have es : stepW m wi late st (.hear no) = (st, .no, true) := by
          unfold stepW
          simp only []
          rw [hT, if_pos bad]
        rw [es] at k
        walk_at "rd"
        rename_i t2 nt2
        have k2 : Keep [] H (upd H1 t2 (.tup [.non, .bl true])) := kb.new nt2
        exact k .non a _ t2 ⟨X.keep0 k2, rfl, fun f e => (by cases e), k2.mono sub_nil, rfl, rfl, rfl, Or.inl rfl, Or.inl rfl, fun z => no0 z nohr⟩ (kb.2 _ nt2) upd_same
      · rw [el] at good hf hM1
        rw [← found_eq] at hf hM1
        have nb : ¬ ∃ x, x ∈ allOf (newestOf m st.l tt.1) tt.2.1 ∧ x < 0 := fun ⟨x, hx, h0⟩ => by have := good x hx; omega
        have es : stepW m wi late st (.hear no) = ({ st with ks := st.ks ++ foundOf (newestOf m st.l tt.1) tt.2.1 st.ks, mg := max st.mg (newestOf m st.l tt.1) }, .ls (foundOf (newestOf m st.l tt.1) tt.2.1 st.ks), (foundOf (newestOf m st.l tt.1) tt.2.1 st.ks).any fun x => !decide (x ∈ st.ar)) := by
          unfold stepW
          simp only []
          rw [hT, if_neg nb]
        rw [es] at k
        have esr : srt (srt st.ks ++ foundOf (newestOf m st.l tt.1) tt.2.1 st.ks) = srt (st.ks ++ foundOf (newestOf m st.l tt.1) tt.2.1 st.ks) := by
          rw [found_eq, found_srt, ← found_eq]
        rw [esr] at hM1
        generalize foundOf (newestOf m st.l tt.1) tt.2.1 st.ks = fo at hf hM1 k fl
        have nn : ∀ b o, H b = some o → b ≠ a.m → H1 b = some o := fun b o h z1 => kh.1 _ _ (nin_cons z1 nin_nil) h
        have ho1 := nn _ _ ho n2
        have hh1 := nn _ _ hh (ne_of hh hom (by intro z; cases z))
        walk_at "rd"
        refine Ak.l_lcL (xs := fo.map V.int) (SqL.of hf) (fun i => ((fo.take i).filter fun x => !decide (x ∈ st.ar)).map V.int) rfl (fun D i x H' hD hx hk2 hdd => ?_) (fun D H' hD hk2 hdd => ?_)
        · obtain ⟨y, hy, rfl⟩ := map_at hx
          have ho2 := hk2.1 _ _ nin_nil ho1
          have hh2 := hk2.1 _ _ nin_nil hh1
          walk_at "rd"
          refine Ak.w_iteN (fun z => ?_) (fun z => ?_)
          · walk_at "rd"
            refine kIn_go hD hdd hk2 ?_ (filt_yes hy (by rw [decide_eq_false z]; rfl))
            have e := filt_len (l := fo) (i := i) (p := fun x => !decide (x ∈ st.ar)) (f := V.int)
            rw [sizeLine_eq]
            omega
          · exact kOut_go hdd hk2 (filt_no hy (by rw [decide_eq_true z]; exact Bool.false_ne_true))
        · rw [List.length_map, List.take_length] at hdd
          have hf2 := hk2.1 _ _ nin_nil hf
          walk_at "rd"
          rename_i em nem
          refine w_neE (ns := fo.filter fun x => !decide (x ∈ st.ar)) (SqL.of (at_new nem hdd)) (SqL.of upd_same) ?_
          have ea : (!decide ((fo.filter fun x => !decide (x ∈ st.ar)) = [])) = fo.any fun x => !decide (x ∈ st.ar) := by
            rw [Bool.eq_iff_iff, Bool.not_eq_true', decide_eq_false_iff_not, List.filter_eq_nil_iff, List.any_eq_true]
            constructor
            · intro z
              refine Classical.byContradiction fun y => z fun x hx hx2 => y ⟨x, hx, hx2⟩
            · rintro ⟨x, hx, hx2⟩ z
              exact z x hx hx2
          rw [ea]
          walk_at "rd"
          rename_i t2 nt2
          have k3 : Keep [] H1 (upd (upd H' em (.lst [])) t2 (.tup [.ref f, .bl (fo.any fun x => !decide (x ∈ st.ar))])) := (hk2.new nem).new nt2
          have hf3 := k3.1 _ _ nin_nil hf
          have kk : Keep [a.m] H _ := kh.trans (k3.mono sub_nil)
          obtain ⟨c5, hm5, hc5⟩ := hM1
          exact k (.ref f) a _ t2 ⟨⟨k3.1 _ _ nin_nil ho1, ⟨cs, ⟨c, kk.1 _ _ (nin_cons n3 nin_nil) hoe, kk.1 _ _ (nin_cons (ne_of hc1 hom (by intro z; cases z)) nin_nil) hc1⟩, hag, hcl⟩, ⟨c5, k3.1 _ _ nin_nil hm5, k3.1 _ _ nin_nil hc5⟩,
            kk.1 _ _ (nin_cons (ne_of ht hom (by intro z; cases z)) nin_nil) ht, X.tt.keep kk (fun b hb xs z => by rw [List.mem_singleton.mp hb, hom] at z; cases z), k3.1 _ _ nin_nil hh1, n1, n2, n3⟩,
            ⟨f, rfl, hf3⟩, fun f e => by cases e; exact nf, kk.mono (fun b hb => by simp only [List.mem_cons, List.not_mem_nil, or_false] at hb ⊢; simp [hb]), rfl, rfl, rfl, Or.inl rfl, Or.inl rfl, fun z => no0 z nohr⟩ (kh.2 _ (hk2.2 _ (free_upd nt2))) upd_same
    | odd xs => cases hc
end
end Ak

namespace Ak
open PySem PySem.Spec PyProof.Rows L2
section
variable {P : Program} {w : World} {K : PySem.W.Frag} {mg : Str → Option Value} {base : Heap}
theorem ok_own_event {f : Addr} {fd : FuncData} (F : L2.Fun K "_law_event" "_law_event" s_l_event f fd) (g_len : mg "len" = none) (c_l_next : CalX P w K mg base 1 "_law_next" (spNext K)) (c_l_can : CalX P w K mg base 2 "_law_can" (spOwnCan K)) : FnOk P w K mg base (L2.CX P w) 3 f fd ["_law_d", "_law_setting_here", "_law_w", "_law_often"] (spOwnEvent K) := by
  refine Fun.okX F sc_l_event (fun vs H Q E h => ?_) (fun cdv A outer s H vs Q E hr h => ?_)
  · obtain ⟨_, _, _, _, _, _, _, _, _, _, _, rfl, _⟩ := h
    rfl
  · obtain ⟨H0, d, q, a, m, wi, late, ah, st, n, often, rfl, dc, hq, so, X, O, hn, M, of0, of1, k⟩ := h
    have l0 := so.l0
    have l1 := so.l1
    have tll := O.tl
    obtain ⟨xs0, hd0⟩ := dc.lst
    have hqd : q ≠ d := ne_of hq hd0 (by intro z; cases z)
    have tl := X.tt.len
    rw [List.length_map] at tl
    have tnd : a.t ≠ d := fun z => by
      obtain ⟨⟨ad, ns, i, m, r, hd, _⟩, _, _⟩ := dc
      have := X.t
      rw [z, hd] at this
      cases h : a.ts with
      | nil => rw [h] at this; cases this
      | cons x y =>
        rw [h] at this
        cases y with
        | nil => cases this
        | cons y1 y2 => cases this
    refine ⟨_, (pss_cons (ps_set (i := 4) sc_l_event.nd rfl (Or.inl rfl) (Ak.pe_cx c_l_next hr (by walk_at "lv") (by rfl) (takes_of rfl rfl rfl rfl) (pa_cons (pv 0) (pa_cons (pe_op (Ak.op_plusK (K := K) (by rfl)) (pv 3) pe_int) pa_nil))))
      (pss_cons (ps_set (i := 5) sc_l_event.nd rfl (Or.inl rfl) (pe_dget (hu_of hr) (pe_dget (hu_of hr) (pv 2) pe_str (by intro _ _; rfl)) pe_str (by intro _ _; rfl)))
      (pss_cons (ps_set (i := 6) sc_l_event.nd rfl (Or.inl rfl) (pe_tup (pa_cons pe_str pa_nil)))
      (pss_cons (ps_if (PW.pt (pw_or (pt_cmpR (Ak.op_eqK (K := K) (by rfl) hr.units) (pv 4) pe_int (nomark _)) (pw_or1 (pt_cmpR (Ak.op_eqK (K := K) (by rfl) hr.units) (pv 4) pe_int (nomark _)))))
      (pss_one (ps_set (i := 6) sc_l_event.nd rfl (Or.inl rfl) (pe_tup (pa_cons pe_str (pa_cons (pe_op op_sub (pe_op op_sub (pv 5) pe_int) (Ak.pe_cx c_l_next hr (by walk_at "lv") (by rfl) (takes_of rfl rfl rfl rfl) (pa_cons (pv 0) (pa_cons (pe_op (Ak.op_plusK (K := K) (by rfl)) (pe_ix (Ak.ix_K (K := K) (by rfl)) (pv 1) pe_int (by intro _ _; rfl)) pe_int) pa_nil)))) pa_nil)))))
      pss_nil)
      (pss_cons (ps_if (pt_cmpR (Ak.op_eqK (K := K) (by rfl) hr.units) (pv 4) pe_int (nomark _))
      (pss_one (ps_set (i := 6) sc_l_event.nd rfl (Or.inl rfl) (pe_tup (pa_cons pe_str pa_nil))))
      pss_nil)
      (pss_cons (ps_if (pt_cmpR op_gt (pv 4) pe_int (nomark _))
      (pss_one (ps_set (i := 6) sc_l_event.nd rfl (Or.inl rfl) (pe_tup (pa_cons pe_str (pa_cons (pe_op op_sub (pe_op op_sub (pe_callB (Ak.cr_lenK (K := K) (by rfl)) (by rfl) g_len (by decide +kernel) (pa_cons (pe_dget (hu_of hr) (pv 2) pe_str (by intro _ _; rfl)) pa_nil)) pe_int) (Ak.pe_cx c_l_next hr (by walk_at "lv") (by rfl) (takes_of rfl rfl rfl rfl) (pa_cons (pv 0) (pa_cons pe_int pa_nil)))) pa_nil)))))
      pss_nil)
      (pss_one (ps_ret (pe_ifExp (Ak.pt_truK (K := K) (by rfl) (Ak.pe_cx c_l_can hr (by walk_at "lv") (by rfl) (takes_of rfl rfl rfl rfl) (pa_cons (pv 1) (pa_cons (pv 2) (pa_cons (pv 6) pa_nil))))) (pv 6) (pe_tup pa_nil)))))))))), ?_⟩
    have e0 : L2.start N_l_event [V.ref d, V.ref q, V.ref a.o, V.int often] = [some (V.ref d), some (V.ref q), some (V.ref a.o), some (V.int often), none, none, none] := rfl
    rw [e0]
    try dsimp only [cxOf]
    have dcs : ∀ H', Dice K H0 H' d → ∃ xs, H' d = some (.lst xs) := fun H' x => x.lst
    have xw : ∀ H', Keep [d] H H' → OwnW H' a wi st := fun H' kk => X.keepD dc kk tnd
    have hqk : ∀ H', Keep [d] H H' → H' q = some (.tup [.int m, .int wi, .int late, .int ah]) := fun H' kk => kk.1 _ _ (nin_cons hqd nin_nil) hq
    refine cut_seq (fun σ' H' => ∃ kd : Int, σ' = [some (.ref d), some (.ref q), some (.ref a.o), some (.int often), some (.int kd), none, none] ∧ Dice K H0 H' d ∧ Keep [d] H H') (fun σ' H' pv => ?_) (fun R rest => ?_)
    · obtain ⟨kd, rfl, dc1, k1⟩ := pv
      refine cut_seq (fun σ' H' => σ' = [some (.ref d), some (.ref q), some (.ref a.o), some (.int often), some (.int kd), some (.int (st.l + 1)), none] ∧ Dice K H0 H' d ∧ Keep [d] H H') (fun σ' H' pv => ?_) (fun R rest => ?_)
      · obtain ⟨rfl, dc2, k2⟩ := pv
        have nxt : ∀ (N : L2.St → Hp → Prop), N = (fun σ' H' => ∃ e1 ev1, σ' = [some (.ref d), some (.ref q), some (.ref a.o), some (.int often), some (.int kd), some (.int (st.l + 1)), some (.ref e1)] ∧ H' e1 = some (.tup (Ev.vs ev1)) ∧ ev1.Ok ∧ Dice K H0 H' d ∧ Keep [d] H H') → True := fun _ _ => trivial
        refine cut_seq (fun σ' H' => ∃ e1 ev1, σ' = [some (.ref d), some (.ref q), some (.ref a.o), some (.int often), some (.int kd), some (.int (st.l + 1)), some (.ref e1)] ∧ H' e1 = some (.tup (Ev.vs ev1)) ∧ ev1.Ok ∧ Dice K H0 H' d ∧ Keep [d] H H') (fun σ' H' pv => ?_) (fun R rest => ?_)
        · obtain ⟨e1, ev1, rfl, he1, ok1, dc3, k3⟩ := pv
          refine cut_seq (fun σ' H' => ∃ e1 ev1, σ' = [some (.ref d), some (.ref q), some (.ref a.o), some (.int often), some (.int kd), some (.int (st.l + 1)), some (.ref e1)] ∧ H' e1 = some (.tup (Ev.vs ev1)) ∧ ev1.Ok ∧ Dice K H0 H' d ∧ Keep [d] H H') (fun σ' H' pv => ?_) (fun R rest => ?_)
          · obtain ⟨e2, ev2, rfl, he2, ok2, dc4, k4⟩ := pv
            refine cut_seq (fun σ' H' => ∃ e1 ev1, σ' = [some (.ref d), some (.ref q), some (.ref a.o), some (.int often), some (.int kd), some (.int (st.l + 1)), some (.ref e1)] ∧ H' e1 = some (.tup (Ev.vs ev1)) ∧ ev1.Ok ∧ Dice K H0 H' d ∧ Keep [d] H H') (fun σ' H' pv => ?_) (fun R rest => ?_)
            · obtain ⟨e3, ev3, rfl, he3, ok3, dc5, k5⟩ := pv
              refine cut_seq (fun σ' H' => ∃ e1 ev1, σ' = [some (.ref d), some (.ref q), some (.ref a.o), some (.int often), some (.int kd), some (.int (st.l + 1)), some (.ref e1)] ∧ H' e1 = some (.tup (Ev.vs ev1)) ∧ ev1.Ok ∧ Dice K H0 H' d ∧ Keep [d] H H') (fun σ' H' pv => ?_) (fun R rest => ?_)
              · obtain ⟨e4, ev4, rfl, he4, ok4, dc6, k6⟩ := pv
                walk_at "rd"
                refine ⟨q, a, e4, m, wi, late, ah, st, n, ev4, rfl, hqk _ k6, xw _ k6, O, hn, M, SqT.of he4, ok4, fun H7 k7 => ?_⟩
                walk_at "rd"
                have k67 := k6.trans (k7.mono sub_nil)
                have dc7 := dc6.keep (S := []) k7 nin_nil none_nil
                refine Ak.w_iteB (fun z => ?_) (fun z => ?_)
                · walk_at "rd"
                  exact k e4 H7 (Or.inr ⟨ev4, k7.1 _ _ nin_nil he4, ok4, z⟩) dc7 k67
                · walk_at "rd"
                  rename_i t nt
                  exact k t _ (Or.inl upd_same) (dc7.keep (S := []) (Keep.refl.new nt) nin_nil none_nil) (k67.new nt)
              · have X5 := xw _ k5
                have ho5 := X5.o
                have ht5 := X5.t
                obtain ⟨xs5, hd5⟩ := dcs _ dc5
                walk_at "rd"
                refine Ak.w_ite (fun z => ?_) (fun z => ?_)
                · walk_at "rd"
                  rename_i r H6 xs6 r0 r1 dc6 hd6 k6 t nt
                  have kk := (k5.trans k6).new (o := .tup (Ev.vs (.hear ((a.ts.map V.ref).length - 1 - r)))) nt
                  exact rest _ _ ⟨t, .hear ((a.ts.map V.ref).length - 1 - r), rfl, upd_same, trivial, dc6.keep (S := []) (Keep.refl.new nt) nin_nil none_nil, kk⟩
                · walk_at "rd"
                  exact rest _ _ ⟨e3, ev3, rfl, he3, ok3, dc5, k5⟩
            · walk_at "rd"
              refine Ak.w_ite (fun z => ?_) (fun z => ?_)
              · walk_at "rd"
                rename_i t nt
                exact rest _ _ ⟨t, .tell, rfl, upd_same, trivial, dc4.keep (S := []) (Keep.refl.new nt) nin_nil none_nil, k4.new nt⟩
              · walk_at "rd"
                exact rest _ _ ⟨e2, ev2, rfl, he2, ok2, dc4, k4⟩
          · obtain ⟨xs3, hd3⟩ := dcs _ dc3
            have hq3 := hqk _ k3
            have yes : ∀ R : L2.St → Hp → Prop, True := fun _ => trivial
            walk_at "rd"
            refine Ak.w_ite (fun z => ?_) (fun z => ?_)
            · walk_at "rd"
              rename_i r H6 xs6 r0 r1 dc6 hd6 k6 t nt
              exact rest _ _ ⟨t, .come (st.l + 1 - 1 - r), rfl, upd_same, trivial, dc6.keep (S := []) (Keep.refl.new nt) nin_nil none_nil, (k3.trans k6).new nt⟩
            · walk_at "rd"
              refine Ak.w_ite (fun z => ?_) (fun z => ?_)
              · walk_at "rd"
                rename_i r H6 xs6 r0 r1 dc6 hd6 k6 t nt
                exact rest _ _ ⟨t, .come (st.l + 1 - 1 - r), rfl, upd_same, trivial, dc6.keep (S := []) (Keep.refl.new nt) nin_nil none_nil, (k3.trans k6).new nt⟩
              · walk_at "rd"
                exact rest _ _ ⟨e1, ev1, rfl, he1, ok1, dc3, k3⟩
        · walk_at "rd"
          rename_i t nt
          exact rest _ _ ⟨t, .send, rfl, upd_same, trivial, dc2.keep (S := []) (Keep.refl.new nt) nin_nil none_nil, k2.new nt⟩
      · have X1 := xw _ k1
        have ho1 := X1.o
        obtain ⟨c5, hm1, _⟩ := X1.m
        walk_at "rd"
        exact rest _ _ ⟨rfl, dc1, k1⟩
    · walk_at "rd"
      rename_i kd H1 xs1 r0 r1 dc1 hd1 k1
      exact rest _ _ ⟨kd, rfl, dc1, k1⟩
theorem refs_dice {H0 H : Hp} {d c : Addr} (dc : Dice K H0 H d) {es : List Addr} (h : H c = some (.lst (es.map V.ref))) : c ≠ d := fun z => by
  obtain ⟨⟨ad, ms, i, m, r, hd, _⟩, _, _⟩ := dc
  rw [z, hd] at h
  cases es with
  | nil => cases h
  | cons x y => cases y with
    | nil => cases h
    | cons y1 y2 => cases h
theorem ntL {H : Hp} {b : Addr} {l : List V} (h : H b = some (.lst l)) : ∀ xs, H b ≠ some (.tup xs) ∧ ∀ o, H b ≠ some (.frz o (.tup xs)) := fun xs => ⟨fun z => (by rw [h] at z; cases z), fun o z => (by rw [h] at z; cases z)⟩
theorem ntD {H : Hp} {b : Addr} {kvs : List (Key × V)} (h : H b = some (.dK kvs)) : ∀ xs, H b ≠ some (.tup xs) ∧ ∀ o, H b ≠ some (.frz o (.tup xs)) := fun xs => ⟨fun z => (by rw [h] at z; cases z), fun o z => (by rw [h] at z; cases z)⟩
theorem EvsAt.keepN {H H' : Hp} {es : List Addr} {evs : List Ev} {S : List Addr} (x : EvsAt K H es evs) (k : Keep S H H') (nt : ∀ b, b ∈ S → ∀ xs, H b ≠ some (.tup xs) ∧ ∀ o, H b ≠ some (.frz o (.tup xs))) : EvsAt K H' es evs := by
  induction x with
  | nil => exact .nil
  | cons h o r ih => exact .cons (SqT.keepN h k nt) o ih
theorem keepD_list {H0 H H' : Hp} {d c : Addr} (dc : Dice K H0 H d) {ns : List Int} (h : H c = some (.lst (ns.map V.int))) : c ≠ d := fun z => by
  obtain ⟨⟨ad, ms, i, m, r, hd, _⟩, _, _⟩ := dc
  rw [z, hd] at h
  cases ns with
  | nil => cases h
  | cons n t => cases h
theorem refs_ints {es : List Addr} {ns : List Int} (ne : es ≠ []) : (es.map V.ref) ≠ ns.map V.int := fun z => by
  cases es with
  | nil => exact ne rfl
  | cons e r => cases ns with
    | nil => cases z
    | cons n t => cases z
theorem ok_own_events {f : Addr} {fd : FuncData} (F : L2.Fun K "_law_events" "_law_events" s_l_events f fd) (g_range : mg "range" = none) (c_l_next : CalX P w K mg base 1 "_law_next" (spNext K)) (c_l_world : CalX P w K mg base 2 "_law_world" spOwnWorld) (c_l_event : CalX P w K mg base 3 "_law_event" (spOwnEvent K)) (c_l_do : CalX P w K mg base 3 "_law_do" (spOwnDo K)) : FnOk P w K mg base (L2.CX P w) 4 f fd ["_law_d", "_law_setting_here", "_law_most"] (spOwnEvents K) := by
  refine Fun.okX F sc_l_events (fun vs H Q E h => ?_) (fun cdv A outer s H vs Q E hr h => ?_)
  · obtain ⟨_, _, _, _, _, _, _, _, rfl, _⟩ := h
    rfl
  · obtain ⟨H0, d, q, m, wi, late, ah, most, rfl, dc, hq, so, mo0, mo1, k⟩ := h
    have m0 := so.m0
    have w0 := so.w0
    have w1 := so.w1
    obtain ⟨xs0, hd0⟩ := dc.lst
    have hqd : q ≠ d := ne_of hq hd0 (by intro z; cases z)
    refine ⟨_, (pss_cons (ps_set (i := 3) sc_l_events.nd rfl (Or.inl rfl) (Ak.pe_cx0 c_l_world hr (by walk_at "lv") (by rfl) (takes_of rfl rfl rfl rfl)))
      (pss_cons (ps_set (i := 4) sc_l_events.nd rfl (Or.inl rfl) (pe_lst pa_nil))
      (pss_cons (ps_set (i := 5) sc_l_events.nd rfl (Or.inl rfl) (pe_op (Ak.op_plusK (K := K) (by rfl)) pe_int (Ak.pe_cx c_l_next hr (by walk_at "lv") (by rfl) (takes_of rfl rfl rfl rfl) (pa_cons (pv 0) (pa_cons pe_int pa_nil)))))
      (pss_cons (ps_for (passes_of rfl) rfl (pi_range1 (by rfl) g_range (pa_cons (Ak.pe_cx c_l_next hr (by walk_at "lv") (by rfl) (takes_of rfl rfl rfl rfl) (pa_cons (pv 0) (pa_cons (pe_op (Ak.op_plusK (K := K) (by rfl)) (pv 2) pe_int) pa_nil))) pa_nil)) (pg_name (i := 6) sc_l_events.nd rfl (Or.inl rfl))
      (pss_cons (ps_set (i := 7) sc_l_events.nd rfl (Or.inl rfl) (Ak.pe_cx c_l_event hr (by walk_at "lv") (by rfl) (takes_of rfl rfl rfl rfl) (pa_cons (pv 0) (pa_cons (pv 1) (pa_cons (pv 3) (pa_cons (pv 5) pa_nil))))))
      (pss_one (ps_if (pt_cmpR (Ak.op_neK (K := K) (by rfl) hr.units) (pv 7) (pe_tup pa_nil) (nomark _))
      (pss_cons (ps_expr (Ak.pe_bmK (K := K) (by rfl) PySem.F.plainAttrs_list PySem.F.slot_list_append PySem.F.type_list_append mt_append (pv 4) (pa_cons (pv 7) pa_nil)))
      (pss_one (ps_expr (Ak.pe_cx c_l_do hr (by walk_at "lv") (by rfl) (takes_of rfl rfl rfl rfl) (pa_cons (pv 1) (pa_cons (pv 3) (pa_cons (pv 7) pa_nil)))))))
      pss_nil))))
      (pss_one (ps_ret (pv 4))))))), ?_⟩
    have e0 : L2.start N_l_events [V.ref d, V.ref q, V.int most] = [some (V.ref d), some (V.ref q), some (V.int most), none, none, none, none, none] := rfl
    rw [e0]
    try dsimp only [cxOf]
    walk_at "rd"
    refine ⟨rfl, fun a H1 hW no ne nm k1 => ?_⟩
    have dc1 := dc.keep (S := []) k1 nin_nil none_nil
    obtain ⟨xs1, hd1⟩ := dc1.lst
    walk_at "rd"
    rename_i f nf r1 Ha xa a0 a1 dca hda ka r2 Hb xb b0 b1 dcb hdb kb
    have fd : f ≠ d := Ne.symm (ne_of_none hd1 nf)
    have hfb : Hb f = some (.lst []) := kb.1 _ _ (nin_cons fd nin_nil) (ka.1 _ _ (nin_cons fd nin_nil) upd_same)
    have k1b : Keep [d] H1 Hb := (((Keep.refl (S := [])).new nf).mono sub_nil).trans (ka.trans kb)
    have X1 := hW wi
    have tnd := refs_dice dc1 X1.t
    have Xb := X1.keepD dc1 k1b tnd
    have k0b : Keep [d] H Hb := (k1.mono sub_nil).trans k1b
    obtain ⟨cs0, ⟨ce0, hoe0, hce0⟩, _⟩ := X1.e
    obtain ⟨cm0, hom0, hcm0⟩ := id X1.m
    have nf0 : H f = none := k1.2 _ nf
    refine Ak.l_forR1 (by omega) (by omega) (fun i σ' H' => ∃ a' es evs v6 v7, σ' = [some (.ref d), some (.ref q), some (.int most), some (.ref a'.o), some (.ref f), some (.int (1 + r1)), v6, v7] ∧ a'.o = a.o ∧ a'.e = a.e ∧ a'.m = a.m ∧ H' f = some (.lst (es.map V.ref)) ∧ EvsAt K H' es evs ∧ evs.length ≤ i ∧ canW m wi late ah ws0 evs ∧
        OwnW H' a' wi (runW m wi late ws0 evs) ∧ WOk m wi (runW m wi late ws0 evs) evs.length ∧ WMx (runW m wi late ws0 evs) ∧ Dice K H0 H' d ∧ Keep [d] H H' ∧ a'.t ≠ f ∧ a'.h ≠ f ∧ (∀ c g, H' a'.e = some (.dK (ownF g c)) → c ≠ f) ∧ (∀ c n, H' a'.m = some (.dK (ownMF n c)) → c ≠ f))
      ⟨a, [], [], none, none, rfl, rfl, rfl, rfl, hfb, .nil, Nat.le_refl _, trivial, Xb, WOk.init, WMx.init, dcb, k0b, ne_of_none X1.t nf, ne_of_none X1.h nf, fun c g h => ?_, fun c n h => ?_⟩ (fun i σ' H' hi pv => ?_) (fun σ' H' pv => ?_)
    · have z := k1b.1 _ _ (nin_cons (ne_of hoe0 hd1 (by
        obtain ⟨⟨ad, ns, i, m, r, hd, _⟩, _, _⟩ := dc1
        intro z; cases z)) nin_nil) hoe0
      rw [z] at h
      have e := (HO.dK.inj (Option.some.inj h))
      cases e
      exact ne_of_none hce0 nf
    · have z := k1b.1 _ _ (nin_cons (ne_of hom0 hd1 (by intro z; cases z)) nin_nil) hom0
      rw [z] at h
      have e := (HO.dK.inj (Option.some.inj h))
      cases e
      exact ne_of_none hcm0 nf
    · obtain ⟨a', es, evs, v6, v7, rfl, ea, ee, em, hf, hev, hl, hcan, X, O, M, dcx, kx, nt, nh, nce, ncm⟩ := pv
      obtain ⟨xs2, hd2⟩ := dcx.lst
      have hq' := kx.1 _ _ (nin_cons hqd nin_nil) hq
      walk_at "rd"
      refine ⟨H0, d, q, a', m, wi, late, ah, _, evs.length, 1 + r1, rfl, dcx, hq', so, X, O, by omega, M, by omega, by omega, fun e H2 he dc2 k2 => ?_⟩
      have hf2 := k2.1 _ _ (nin_cons (refs_dice dcx hf) nin_nil) hf
      have X2 := X.keepD dcx k2 (refs_dice dcx X.t)
      have hev2 := hev.keepN k2 (fun b hb => by rw [List.mem_singleton.mp hb]; exact ntL hd2)
      have hq2 := k2.1 _ _ (nin_cons hqd nin_nil) hq'
      have nd2 : ∀ b kvs, H' b = some (.dK kvs) → H2 b = some (.dK kvs) := fun b kvs h => k2.1 _ _ (nin_cons (ne_of h hd2 (by intro z; cases z)) nin_nil) h
      have nce2 : ∀ c g, H2 a'.e = some (.dK (ownF g c)) → c ≠ f := fun c g h => by
        obtain ⟨_, ⟨c0, h0, _⟩, _⟩ := X.e
        rw [nd2 _ _ h0] at h
        have e := HO.dK.inj (Option.some.inj h)
        cases e
        exact nce _ _ h0
      have ncm2 : ∀ c n, H2 a'.m = some (.dK (ownMF n c)) → c ≠ f := fun c n h => by
        obtain ⟨c0, h0, _⟩ := X.m
        rw [nd2 _ _ h0] at h
        have e := HO.dK.inj (Option.some.inj h)
        cases e
        exact ncm _ _ h0
      walk_at "rd"
      rename_i t nt3
      have k3 : Keep [] H2 (upd H2 t (.tup [])) := Keep.refl.new nt3
      have X3 := X2.keep0 k3
      have hf3 := k3.1 _ _ nin_nil hf2
      have hev3 := hev2.keep k3
      have hq3 := k3.1 _ _ nin_nil hq2
      have dc3 := dc2.keep (S := []) k3 nin_nil none_nil
      have kx3 : Keep [d] H (upd H2 t (.tup [])) := (kx.trans k2).new nt3
      have nce3 : ∀ c g, upd H2 t (.tup []) a'.e = some (.dK (ownF g c)) → c ≠ f := fun c g h => by
        obtain ⟨_, ⟨c0, h0, _⟩, _⟩ := X2.e
        rw [k3.1 _ _ nin_nil h0] at h
        have e := HO.dK.inj (Option.some.inj h)
        cases e
        exact nce2 _ _ h0
      have ncm3 : ∀ c n, upd H2 t (.tup []) a'.m = some (.dK (ownMF n c)) → c ≠ f := fun c n h => by
        obtain ⟨c0, h0, _⟩ := X2.m
        rw [k3.1 _ _ nin_nil h0] at h
        have e := HO.dK.inj (Option.some.inj h)
        cases e
        exact ncm2 _ _ h0
      rcases he with he | ⟨ev, he, ok, hc⟩
      · refine w_neT (SqT.of (k3.1 _ _ nin_nil he)) (SqT.of upd_same) rfl rfl ?_
        walk_at "rd"
        refine Ak.w_iteN (fun z => absurd rfl z) (fun _ => ?_)
        walk_at "rd"
        exact ⟨a', es, evs, _, _, rfl, ea, ee, em, hf3, hev3, by omega, hcan, X3, O, M, dc3, kx3, nt, nh, nce3, ncm3⟩
      · have he3 := k3.1 _ _ nin_nil he
        refine w_neT (SqT.of he3) (SqT.of upd_same) (Ev.atoms ok) rfl ?_
        walk_at "rd"
        refine Ak.w_iteN (fun _ => ?_) (fun z => ?_)
        · generalize upd H2 t (.tup []) = H3 at k3 X3 hf3 hev3 hq3 dc3 kx3 nce3 ncm3 he3 ⊢
          have el := hev3.len
          have sz : (es.map V.ref).length < sizeLine := by rw [List.length_map, sizeLine_eq]; omega
          walk_at "rd"
          have k4 : Keep [f] H3 (upd H3 f (.lst (es.map V.ref ++ [.ref e]))) := Keep.refl.set List.mem_cons_self
          have X4 := X3.keepF k4 hf3 nt nh nce3 ncm3
          have hf4 : upd H3 f (.lst (es.map V.ref ++ [.ref e])) f = some (.lst ((es ++ [e]).map V.ref)) := by rw [upd_same, List.map_append]; rfl
          have hev4 := hev3.keepN k4 (fun b hb => by rw [List.mem_singleton.mp hb]; exact ntL hf3)
          have he4 := k4.1 _ _ (nin_cons (ne_of he3 hf3 (by intro z; cases z)) nin_nil) he3
          have hq4 := k4.1 _ _ (nin_cons (ne_of hq3 hf3 (by intro z; cases z)) nin_nil) hq3
          have dc4 : Dice K H0 (upd H3 f (.lst (es.map V.ref ++ [.ref e]))) d := dc3.keepF k4.x (nin_cons (fun z => fd z.symm) nin_nil) (fun b hb => by rw [List.mem_singleton.mp hb]; exact Fr.of dc.ext nf0)
          have kx4 : Keep [d] H (upd H3 f (.lst (es.map V.ref ++ [.ref e]))) := kx3.own nf0
          generalize upd H3 f (.lst (es.map V.ref ++ [.ref e])) = H4 at k4 X4 hf4 hev4 he4 hq4 dc4 kx4 ⊢
          refine ⟨q, a', e, m, wi, late, ah, _, evs.length, ev, rfl, hq4, so, X4, O, by omega, M, SqT.of he4, hc, fun v a2 H5 t2 D nt2 ht2 => ?_⟩
          obtain ⟨xs4, hd4⟩ := dc4.lst
          obtain ⟨cs4, ⟨ce4, hoe4, _⟩, _⟩ := X4.e
          obtain ⟨cm4, hom4, _⟩ := id X4.m
          have ho4 := X4.o
          have dS : ∀ b, b ∈ [a'.o, a'.e, a'.m] → ∃ kvs, H4 b = some (.dK kvs) := fun b hb => by
            simp only [List.mem_cons, List.not_mem_nil, or_false] at hb
            rcases hb with h | h | h <;> rw [h]
            · exact ⟨_, ho4⟩
            · exact ⟨_, hoe4⟩
            · exact ⟨_, hom4⟩
          have nS : ∀ b l, H4 b = some (.lst l) → b ∉ [a'.o, a'.e, a'.m] := fun b l h hb => by
            obtain ⟨kvs, e⟩ := dS b hb
            rw [h] at e
            cases e
          have fS : ∀ b, b ∈ [a'.o, a'.e, a'.m] → H b = none := fun b hb => by
            simp only [List.mem_cons, List.not_mem_nil, or_false] at hb
            rcases hb with h | h | h <;> rw [h]
            · rw [ea]; exact no
            · rw [ee]; exact ne
            · rw [em]; exact nm
          have hf5 := D.k.1 _ _ (nS _ _ hf4) hf4
          have hev5 := (hev4.add (SqT.of he4) ok).keepN D.k (fun b hb => by obtain ⟨kvs, e⟩ := dS b hb; exact ntD e)
          have dc5 : Dice K H0 H5 d := dc4.keepF D.k.x (nS _ _ hd4) (fun b hb => Fr.of dc.ext (fS b hb))
          have kx5 : Keep [d] H H5 := Keep.fresh D.k fS kx4
          have er : runW m wi late ws0 (evs ++ [ev]) = (stepW m wi late (runW m wi late ws0 evs) ev).1 := by rw [runW_app]; rfl
          have esn : es ++ [e] ≠ [] := by
            intro z
            cases es <;> cases z
          walk_at "rd"
          refine ⟨a2, es ++ [e], evs ++ [ev], _, _, by rw [D.o]; rfl, D.o.trans ea, D.e.trans ee, D.m.trans em, hf5, hev5, by rw [List.length_append, List.length_singleton]; omega, canW_app.mpr ⟨hcan, hc, trivial⟩, ?_, ?_, ?_, dc5, kx5,
            D.t.elim (fun z => by rw [z]; exact nt) fun z => Ne.symm (ne_of_none hf4 z), D.h.elim (fun z => by rw [z]; exact nh) fun z => Ne.symm (ne_of_none hf4 z), fun c g h => ?_, fun c n h => ?_⟩
          · rw [er]; exact D.x
          · rw [er, List.length_append, List.length_singleton]; exact O.step (by omega) w0 w1 (can_hear hc)
          · rw [er]; exact M.step
          · obtain ⟨cs5, ⟨c5, h5, h5'⟩, _⟩ := D.x.e
            rw [h] at h5
            have e := HO.dK.inj (Option.some.inj h5)
            cases e
            intro z
            rw [z, hf5] at h5'
            exact refs_ints esn (HO.lst.inj (Option.some.inj h5'))
          · obtain ⟨c5, h5, h5'⟩ := D.x.m
            rw [h] at h5
            have e := HO.dK.inj (Option.some.inj h5)
            cases e
            intro z
            rw [z, hf5] at h5'
            exact refs_ints esn (HO.lst.inj (Option.some.inj h5'))
        · cases ev with
          | odd xs => cases hc
          | _ => cases z
    · obtain ⟨a', es, evs, v6, v7, rfl, ea, ee, em, hf, hev, hl, hcan, X, O, M, dcx, kx, nt, nh, nce, ncm⟩ := pv
      walk_at "rd"
      exact k f es evs _ nf0 hf hev (by omega) hcan dcx kx
end
end Ak

namespace Ak
open PySem PySem.Spec PyProof.Rows L2
section
variable {P : Program} {w : World} {K : PySem.W.Frag} {mg : Str → Option Value} {base : Heap}
theorem AnsAt.noInt {H : Hp} {v : V} {an : Ans} (x : AnsAt H v an) : ∀ n, v ≠ .int n := fun n z => by
  cases an with
  | pr i j => obtain ⟨t, e, _⟩ := x; rw [e] at z; cases z
  | nw i w => obtain ⟨t, e, _⟩ := x; rw [e] at z; cases z
  | tg i bs => obtain ⟨t, b, e, _⟩ := x; rw [e] at z; cases z
  | ls xs => obtain ⟨f, e, _⟩ := x; rw [e] at z; cases z
  | no => rw [show v = .non from x] at z; cases z
theorem noInts {vs : List V} {ns : List Int} (ne : vs ≠ []) (h : ∀ v, v ∈ vs → ∀ n, v ≠ .int n) : vs ≠ ns.map V.int := fun z => by
  cases ns with
  | nil => exact ne z
  | cons n t => exact h (.int n) (by rw [z]; exact List.mem_cons_self) n rfl
theorem ok_own_played {f : Addr} {fd : FuncData} (F : L2.Fun K "_law_played" "_law_played" s_l_played f fd) (g_len : mg "len" = none) (g_range : mg "range" = none) (c_l_world : CalX P w K mg base 2 "_law_world" spOwnWorld) (c_l_can : CalX P w K mg base 2 "_law_can" (spOwnCan K)) (c_l_do : CalX P w K mg base 3 "_law_do" (spOwnDo K)) : FnOk P w K mg base (L2.CX P w) 4 f fd ["_law_setting_here", "_law_events_here"] (spOwnPlayed K) := by
  refine Fun.okX F sc_l_played (fun vs H Q E h => ?_) (fun cdv A outer s H vs Q E hr h => ?_)
  · obtain ⟨_, _, _, _, _, _, _, _, rfl, _⟩ := h
    rfl
  · obtain ⟨q, e, m, wi, l, ah, es, evs, rfl, hq, so, he, hev, hl, kbad, k⟩ := h
    have m0 := so.m0
    have w0 := so.w0
    have w1 := so.w1
    have el := hev.len
    refine ⟨_, (pss_cons (ps_set (i := 2) sc_l_played.nd rfl (Or.inl rfl) (Ak.pe_cx0 c_l_world hr (by walk_at "lv") (by rfl) (takes_of rfl rfl rfl rfl)))
      (pss_cons (ps_set (i := 3) sc_l_played.nd rfl (Or.inl rfl) (pe_lst pa_nil))
      (pss_cons (ps_set (i := 4) sc_l_played.nd rfl (Or.inl rfl) pe_non)
      (pss_cons (ps_for (passes_of rfl) rfl (pi_range1 (by rfl) g_range (pa_cons (pe_callB (Ak.cr_lenK (K := K) (by rfl)) (by rfl) g_len (by decide +kernel) (pa_cons (pv 1) pa_nil)) pa_nil)) (pg_name (i := 5) sc_l_played.nd rfl (Or.inl rfl))
      (pss_cons (ps_if (PW.pt (pw_or (pt_cmpR op_gt (pv 5) pe_int (nomark _)) (pw_or1 (pt_not (Ak.pt_truK (K := K) (by rfl) (Ak.pe_cx c_l_can hr (by walk_at "lv") (by rfl) (takes_of rfl rfl rfl rfl) (pa_cons (pv 0) (pa_cons (pv 2) (pa_cons (pe_ix (Ak.ix_K (K := K) (by rfl)) (pv 1) (pv 5) (by intro _ _; rfl)) pa_nil)))))))))
      (pss_one (ps_ret (pv 5)))
      pss_nil)
      (pss_cons (ps_asg (Ak.pe_cx c_l_do hr (by walk_at "lv") (by rfl) (takes_of rfl rfl rfl rfl) (pa_cons (pv 0) (pa_cons (pv 2) (pa_cons (pe_ix (Ak.ix_K (K := K) (by rfl)) (pv 1) (pv 5) (by intro _ _; rfl)) pa_nil)))) (Ak.pg_tupK (K := K) (n := 2) (by rfl) rfl (pgs_cons (pg_name (i := 6) sc_l_played.nd rfl (Or.inl rfl)) (pgs_cons (pg_name (i := 7) sc_l_played.nd rfl (Or.inl rfl)) pgs_nil))))
      (pss_cons (ps_expr (Ak.pe_bmK (K := K) (by rfl) PySem.F.plainAttrs_list PySem.F.slot_list_append PySem.F.type_list_append mt_append (pv 3) (pa_cons (pv 6) pa_nil)))
      (pss_one (ps_if (PW.pt (pw_and (Ak.pt_truK (K := K) (by rfl) (pv 7)) (pw_and1 (pt_cmpR Ak.op_isNon (pv 4) pe_non (nomark _)))))
      (pss_one (ps_set (i := 4) sc_l_played.nd rfl (Or.inl rfl) (pv 5)))
      pss_nil))))))
      (pss_one (ps_ret (pe_tup (pa_cons (pv 3) (pa_cons (pv 4) pa_nil))))))))), ?_⟩
    have e0 : L2.start N_l_played [V.ref q, V.ref e] = [some (V.ref q), some (V.ref e), none, none, none, none, none, none] := rfl
    rw [e0]
    try dsimp only [cxOf]
    walk_at "rd"
    refine ⟨rfl, fun a H1 hW no ne nm k1 => ?_⟩
    walk_at "rd"
    rename_i f nf
    have X1 := hW wi
    obtain ⟨cs0, ⟨ce0, hoe0, hce0⟩, _⟩ := X1.e
    obtain ⟨cm0, hom0, hcm0⟩ := id X1.m
    have nf0 : H f = none := k1.2 _ nf
    have kF : Keep [] H1 (upd H1 f (.lst [])) := Keep.refl.new nf
    refine Ak.l_forR1 (by rw [List.length_map, el]; omega) (by rw [List.length_map, el]; omega) (fun i σ' H' => ∃ a' ans v5 v6 v7, σ' = [some (.ref q), some (.ref e), some (.ref a'.o), some (.ref f), some (optV (firstW (wrW m wi l ws0 (evs.take i)))), v5, v6, v7] ∧ a'.o = a.o ∧ a'.e = a.e ∧ a'.m = a.m ∧ canW m wi l ah ws0 (evs.take i) ∧ i ≤ 400 ∧
        OwnW H' a' wi (runW m wi l ws0 (evs.take i)) ∧ WOk m wi (runW m wi l ws0 (evs.take i)) i ∧ WMx (runW m wi l ws0 (evs.take i)) ∧ H' f = some (.lst ans) ∧ AnsL H' ans (ansW m wi l ws0 (evs.take i)) ∧ ans.length = i ∧ (∀ v, v ∈ ans → ∀ u, v = .ref u → H u = none ∧ u ≠ f ∧ u ∉ [a.o, a.e, a.m]) ∧ (∀ v, v ∈ ans → ∀ n, v ≠ .int n) ∧ Keep [] H H' ∧
        a'.t ≠ f ∧ a'.h ≠ f ∧ (∀ c g, H' a'.e = some (.dK (ownF g c)) → c ≠ f) ∧ (∀ c n, H' a'.m = some (.dK (ownMF n c)) → c ≠ f))
      ⟨a, [], none, none, none, rfl, rfl, rfl, rfl, trivial, by omega, X1.keep0 kF, WOk.init, WMx.init, upd_same, .nil, rfl, fun v hv => absurd hv List.not_mem_nil, fun v hv => absurd hv List.not_mem_nil, k1.trans kF, ne_of_none X1.t nf, ne_of_none X1.h nf, fun c g h => ?_, fun c n h => ?_⟩ (fun i σ' H' hi pv => ?_) (fun σ' H' pv => ?_)
    · rw [kF.1 _ _ nin_nil hoe0] at h
      cases HO.dK.inj (Option.some.inj h)
      exact ne_of_none hce0 nf
    · rw [kF.1 _ _ nin_nil hom0] at h
      cases HO.dK.inj (Option.some.inj h)
      exact ne_of_none hcm0 nf
    · obtain ⟨a', ans, v5, v6, v7, rfl, ea, ee, em, hcan, h400, X, O, M, hf, hA, al, hv, hvi, kx, nt, nh, nce, ncm⟩ := pv
      rw [List.length_map, el] at hi
      have hie : i < evs.length := by omega
      have hx : (es.map V.ref)[i]? = some (.ref (es[i]'(by omega))) := by rw [List.getElem?_map, List.getElem?_eq_getElem (by omega)]; rfl
      obtain ⟨ei, ev, eei, hevi, hei, ok⟩ := hev.at hx
      have hix : atI (es.map V.ref) ((i : Nat) : Int) = some (.ref ei) := by
        rw [← eei]
        exact atI_nat hx
      have he' := kx.seqL nin_nil he
      have hq' := kx.1 _ _ nin_nil hq
      have hei' := kx.seqT nin_nil hei
      have erun := run_take (m := m) (w := wi) (late := l) (s := ws0) hevi
      have eans := ans_take (m := m) (w := wi) (late := l) (s := ws0) hevi
      have ewr := wr_take (m := m) (w := wi) (late := l) (s := ws0) hevi
      have wl := wrW_len (m := m) (w := wi) (late := l) (s := ws0) (evs := evs.take i)
      rw [List.length_take, Nat.min_eq_left (by omega)] at wl
      have bad := kbad i ev hevi hcan
      have e0 : i = 0 → runW m wi l ws0 (evs.take i) = ws0 := fun z => by rw [z]; rfl
      have ecan : evs.take (i + 1) = evs.take i ++ [ev] := take_at hevi
      have hcan1 : canB l ah (runW m wi l ws0 (evs.take i)) ev = true → canW m wi l ah ws0 (evs.take (i + 1)) := fun z => by
        rw [ecan]
        exact canW_app.mpr ⟨hcan, z, trivial⟩
      generalize runW m wi l ws0 (evs.take i) = st at X O M erun eans ewr bad e0 hcan1
      walk_at "rd"
      refine Ak.w_ite (fun z => ?_) (fun z => ?_)
      · walk_at "rd"
        exact bad (Or.inl (by omega)) h400 _ kx
      · walk_at "rd"
        refine ⟨q, a', ei, m, wi, l, ah, st, i, ev, rfl, hq', X, O, by omega, M, hei', ok, fun H2 k2 => ?_⟩
        cases hc : canB l ah st ev with
        | false =>
          walk_at "rd"
          exact bad (Or.inr hc) h400 _ (kx.trans k2)
        | true =>
          have he2 := k2.seqL nin_nil he'
          have hq2 := k2.1 _ _ nin_nil hq'
          have X2 := X.keep0 k2
          have hf2 := k2.1 _ _ nin_nil hf
          have O' := O.step (late := l) (e := ev) (by omega) w0 w1 (can_hear hc)
          have M' : WMx (stepW m wi l st ev).1 := M.step
          rw [← erun] at O' M'
          walk_at "rd"
          refine ⟨q, a', ei, m, wi, l, ah, st, i, ev, rfl, hq2, so, X2, O, by omega, M, k2.seqT nin_nil hei', hc, fun v a2 H5 t2 D nt2 ht2 => ?_⟩
          obtain ⟨cs2, ⟨ce2, hoe2, _⟩, _⟩ := X2.e
          obtain ⟨cm2, hom2, _⟩ := id X2.m
          have ho2 := X2.o
          have dS : ∀ b, b ∈ [a'.o, a'.e, a'.m] → ∃ kvs, H2 b = some (.dK kvs) := fun b hb => by
            simp only [List.mem_cons, List.not_mem_nil, or_false] at hb
            rcases hb with h | h | h <;> rw [h]
            · exact ⟨_, ho2⟩
            · exact ⟨_, hoe2⟩
            · exact ⟨_, hom2⟩
          have nS : ∀ b l, H2 b = some (.lst l) → b ∉ [a'.o, a'.e, a'.m] := fun b l h hb => by
            obtain ⟨kvs, e⟩ := dS b hb
            rw [h] at e
            cases e
          have fS : ∀ b, b ∈ [a'.o, a'.e, a'.m] → H b = none := fun b hb => by
            simp only [List.mem_cons, List.not_mem_nil, or_false] at hb
            rcases hb with h | h | h <;> rw [h]
            · rw [ea]; exact no
            · rw [ee]; exact ne
            · rw [em]; exact nm
          have hf5 := D.k.1 _ _ (nS _ _ hf2) hf2
          have kx5 : Keep [] H H5 := Keep.fresh D.k fS (kx.trans k2)
          have sz : ans.length < sizeLine := by rw [sizeLine_eq]; omega
          have vf : ∀ u, v = .ref u → u ≠ f := fun u hu z => by
            have := D.nv u hu
            rw [z, hf2] at this
            cases this
          have ce5 : ∀ c g, H5 a2.e = some (.dK (ownF g c)) → c ≠ f := fun c g h => by
            cases ans with
            | nil =>
              obtain ⟨g0, h0⟩ := (D.fr (e0 al.symm)).1 c g h
              obtain ⟨_, ⟨c0, h1, _⟩, _⟩ := X.e
              rw [k2.1 _ _ nin_nil h1] at h0
              cases HO.dK.inj (Option.some.inj h0)
              exact nce _ _ h1
            | cons v0 vr =>
              obtain ⟨_, ⟨c5, h5, h5'⟩, _⟩ := D.x.e
              rw [h] at h5
              cases HO.dK.inj (Option.some.inj h5)
              intro z
              rw [z, hf5] at h5'
              exact noInts (List.cons_ne_nil _ _) hvi (HO.lst.inj (Option.some.inj h5'))
          have cm5 : ∀ c n, H5 a2.m = some (.dK (ownMF n c)) → c ≠ f := fun c n h => by
            cases ans with
            | nil =>
              obtain ⟨n0, h0⟩ := (D.fr (e0 al.symm)).2 c n h
              obtain ⟨c0, h1, _⟩ := X.m
              rw [k2.1 _ _ nin_nil h1] at h0
              cases HO.dK.inj (Option.some.inj h0)
              exact ncm _ _ h1
            | cons v0 vr =>
              obtain ⟨c5, h5, h5'⟩ := D.x.m
              rw [h] at h5
              cases HO.dK.inj (Option.some.inj h5)
              intro z
              rw [z, hf5] at h5'
              exact noInts (List.cons_ne_nil _ _) hvi (HO.lst.inj (Option.some.inj h5'))
          have at5 : a2.t ≠ f := D.t.elim (fun z => by rw [z]; exact nt) fun z => Ne.symm (ne_of_none hf2 z)
          have ah5 : a2.h ≠ f := D.h.elim (fun z => by rw [z]; exact nh) fun z => Ne.symm (ne_of_none hf2 z)
          have kU : Keep [f] H5 (upd H5 f (.lst (ans ++ [v]))) := Keep.refl.set List.mem_cons_self
          have X6 := D.x.keepF kU hf5 at5 ah5 ce5 cm5
          have nlT : ∀ b, b ∈ [f] → ∀ xs, H5 b ≠ some (.tup xs) := fun b hb xs z => by rw [List.mem_singleton.mp hb, hf5] at z; cases z
          have hf6 : upd H5 f (.lst (ans ++ [v])) f = some (.lst (ans ++ [v])) := upd_same
          have dT : ∀ b, b ∈ [a'.o, a'.e, a'.m] → ∀ xs, H2 b ≠ some (.tup xs) := fun b hb xs z => by
            obtain ⟨kvs, e⟩ := dS b hb
            rw [e] at z
            cases z
          have hA5 : AnsL H5 ans (ansW m wi l ws0 (evs.take i)) := (hA.keep k2 (fun b hb => absurd hb List.not_mem_nil) (fun _ _ _ _ => nin_nil)).keep D.k dT (fun v3 hv3 u hu => by rw [ea, ee, em]; exact (hv v3 hv3 u hu).2.2)
          have hvi6 : ∀ v2, v2 ∈ ans ++ [v] → ∀ n, v2 ≠ .int n := fun v2 h2 => by
            rcases List.mem_append.mp h2 with h | h
            · exact hvi v2 h
            · rw [List.mem_singleton.mp h]; exact D.an.noInt
          have ne6 : ans ++ [v] ≠ [] := fun z => by cases ans <;> cases z
          have kx6 : Keep [] H (upd H5 f (.lst (ans ++ [v]))) := kx5.own nf0
          have hA6 : AnsL (upd H5 f (.lst (ans ++ [v]))) (ans ++ [v]) (ansW m wi l ws0 (evs.take (i + 1))) := by
            rw [eans]
            exact (hA5.keep kU nlT (fun v3 hv3 u hu => nin_cons (hv v3 hv3 u hu).2.1 nin_nil)).add (D.an.keep kU nlT fun u hu => nin_cons (vf u hu) nin_nil)
          walk_at "rd"
          have ef := firstW_app (bs := wrW m wi l ws0 (evs.take i)) (b := (stepW m wi l st ev).2.2)
          rw [← ewr] at ef
          generalize upd H5 f (.lst (ans ++ [v])) = H6 at X6 hf6 kx6 hA6 ⊢
          have fin : ∀ σ5, σ5 = [some (V.ref q), some (.ref e), some (.ref a'.o), some (.ref f), some (optV (firstW (wrW m wi l ws0 (evs.take (i + 1))))), some (.int (i : Nat)), some v, some (.bl (stepW m wi l st ev).2.2)] →
            ∃ a' ans v5 v6 v7, σ5 = [some (.ref q), some (.ref e), some (.ref a'.o), some (.ref f), some (optV (firstW (wrW m wi l ws0 (evs.take (i + 1))))), v5, v6, v7] ∧ a'.o = a.o ∧ a'.e = a.e ∧ a'.m = a.m ∧ canW m wi l ah ws0 (evs.take (i + 1)) ∧ i + 1 ≤ 400 ∧
            OwnW H6 a' wi (runW m wi l ws0 (evs.take (i + 1))) ∧ WOk m wi (runW m wi l ws0 (evs.take (i + 1))) (i + 1) ∧ WMx (runW m wi l ws0 (evs.take (i + 1))) ∧ H6 f = some (.lst ans) ∧ AnsL H6 ans (ansW m wi l ws0 (evs.take (i + 1))) ∧ ans.length = i + 1 ∧ (∀ v, v ∈ ans → ∀ u, v = .ref u → H u = none ∧ u ≠ f ∧ u ∉ [a.o, a.e, a.m]) ∧ (∀ v, v ∈ ans → ∀ n, v ≠ .int n) ∧ Keep [] H H6 ∧
            a'.t ≠ f ∧ a'.h ≠ f ∧ (∀ c g, H6 a'.e = some (.dK (ownF g c)) → c ≠ f) ∧ (∀ c n, H6 a'.m = some (.dK (ownMF n c)) → c ≠ f) := fun σ5 e5 => by
            refine ⟨a2, ans ++ [v], _, _, _, by rw [e5, D.o], D.o.trans ea, D.e.trans ee, D.m.trans em, hcan1 hc, by omega, ?_, O', M', hf6, hA6, by rw [List.length_append, al]; rfl, fun v2 hv2 u hu => ?_, hvi6, kx6, at5, ah5, fun c g h => ?_, fun c n h => ?_⟩
            · rw [erun]; exact X6
            · rcases List.mem_append.mp hv2 with h | h
              · exact hv v2 h u hu
              · rw [List.mem_singleton.mp h] at hu
                have n2 := D.nv u hu
                refine ⟨(kx.trans k2).2 _ n2, vf u hu, fun hm => ?_⟩
                rw [← ea, ← ee, ← em] at hm
                obtain ⟨kvs, e⟩ := dS u hm
                rw [n2] at e
                cases e
            · obtain ⟨_, ⟨c5, h5, h5'⟩, _⟩ := X6.e
              rw [h] at h5
              cases HO.dK.inj (Option.some.inj h5)
              intro z
              rw [z, hf6] at h5'
              exact noInts ne6 hvi6 (HO.lst.inj (Option.some.inj h5'))
            · obtain ⟨c5, h5, h5'⟩ := X6.m
              rw [h] at h5
              cases HO.dK.inj (Option.some.inj h5)
              intro z
              rw [z, hf6] at h5'
              exact noInts ne6 hvi6 (HO.lst.inj (Option.some.inj h5'))
          cases efw : firstW (wrW m wi l ws0 (evs.take i)) with
          | none =>
            rw [efw] at ef
            rw [show optV (none : Option Nat) = V.non from rfl]
            refine Ak.w_iteB (fun z => ?_) (fun z => ?_)
            · rw [z] at ef
              have ef2 : optV (firstW (wrW m wi l ws0 (evs.take (i + 1)))) = .int (i : Nat) := by
                rw [ef]
                show optV (if true = true then some (wrW m wi l ws0 (evs.take i)).length else none) = _
                rw [if_pos rfl, wl]
                rfl
              rw [ef2] at fin ⊢
              walk_at "rd"
              exact fin _ rfl
            · rw [z] at ef
              have ef2 : optV (firstW (wrW m wi l ws0 (evs.take (i + 1)))) = .non := by
                rw [ef]
                rfl
              rw [ef2] at fin ⊢
              walk_at "rd"
              exact fin _ rfl
          | some j =>
            rw [efw] at ef
            have ef2 : optV (firstW (wrW m wi l ws0 (evs.take (i + 1)))) = .int (j : Nat) := by
              rw [ef]
              rfl
            rw [ef2] at fin ⊢
            rw [show optV (some j) = V.int (j : Nat) from rfl]
            refine Ak.w_iteB (fun z => ?_) (fun z => ?_)
            · walk_at "rd"
              exact fin _ rfl
            · walk_at "rd"
              exact fin _ rfl
    · obtain ⟨a', ans, v5, v6, v7, rfl, ea, ee, em, hcan, h400, X, O, M, hf, hA, al, hv, hvi, kx, nt, nh, nce, ncm⟩ := pv
      rw [List.length_map, el, show ((evs.length : Nat) : Int).toNat = evs.length by omega, List.take_length] at hcan hA ⊢
      rw [List.length_map, el] at h400
      walk_at "rd"
      rename_i t nt3
      have kR : Keep [] H' (upd H' t (.tup [.ref f, optV (firstW (wrW m wi l ws0 evs))])) := Keep.refl.new nt3
      exact k (by omega) hcan t f ans _ (kx.2 _ nt3) nf0 (Ne.symm (ne_of_none hf nt3)) upd_same (kR.1 _ _ nin_nil hf) (hA.keep kR (fun b hb => absurd hb List.not_mem_nil) (fun _ _ _ _ => nin_nil)) (fun v hvv u e => ⟨(hv v hvv u e).1, (hv v hvv u e).2.1⟩) (kx.trans kR)
end
end Ak

namespace Ak
open PySem PySem.Spec PyProof.Rows L2
section
variable {P : Program} {w : World} {K : PySem.W.Frag} {mg : Str → Option Value} {base : Heap}
theorem EvsAt.drop {K : PySem.W.Frag} {H : Hp} {es : List Addr} {evs : List Ev} (x : EvsAt K H es evs) : ∀ n, EvsAt K H (es.drop n) (evs.drop n) := by
  induction x with
  | nil => intro n; rw [List.drop_nil, List.drop_nil]; exact .nil
  | cons h o r ih =>
    intro n
    cases n with
    | zero => exact .cons h o r
    | succ n => exact ih n
theorem flat_rep {n : Nat} {t : Addr} : (List.replicate n [V.ref t]).flatten = (List.replicate n t).map V.ref := by
  induction n with
  | zero => rfl
  | succ n ih => rw [List.replicate_succ, List.replicate_succ, List.flatten_cons, ih]; rfl
theorem evs_rep {K : PySem.W.Frag} {H : Hp} {n : Nat} {t : Addr} {ev : Ev} (h : SqT K H t (Ev.vs ev)) (o : ev.Ok) : EvsAt K H (List.replicate n t) (List.replicate n ev) := by
  induction n with
  | zero => exact .nil
  | succ n ih => rw [List.replicate_succ, List.replicate_succ]; exact .cons h o ih
def spOdd (K : PySem.W.Frag) : Sp := fun vs H Q _ => ∃ (H0 : Hp), ∃ d f es evs, vs = [.ref d, .ref f] ∧ Dice K H0 H d ∧ H f = some (.lst (es.map V.ref)) ∧ EvsAt K H es evs ∧ evs.length ≤ 300 ∧
  ∀ g es2 evs2 H', H g = none → H' g = some (.lst (es2.map V.ref)) → EvsAt K H' es2 evs2 → evs2.length ≤ 405 → Dice K H0 H' d → Keep [d] H H' → Q (.ref g) H'
theorem ok_odd {f : Addr} {fd : FuncData} (F : L2.Fun K "_law_odd" "_law_odd" s_l_odd f fd) (g_len : mg "len" = none) (c_l_next : CalX P w K mg base 1 "_law_next" (spNext K)) : FnOk P w K mg base (L2.CX P w) 2 f fd ["_law_d", "_law_events_here"] (spOdd K) := by
  refine Fun.okX F sc_l_odd (fun vs H Q E h => ?_) (fun cdv A outer s H vs Q E hr h => ?_)
  · obtain ⟨_, _, _, _, _, rfl, _⟩ := h
    rfl
  · obtain ⟨H0, d, f, es, evs, rfl, dc, hf, hev, hl, k⟩ := h
    have el := hev.len
    obtain ⟨xs0, hd0⟩ := dc.lst
    have hfd := refs_dice dc hf
    refine ⟨_, (pss_cons (ps_set (i := 2) sc_l_odd.nd rfl (Or.inl rfl) (Ak.pe_cx c_l_next hr (by walk_at "lv") (by rfl) (takes_of rfl rfl rfl rfl) (pa_cons (pv 0) (pa_cons (pe_op (Ak.op_plusK (K := K) (by rfl)) (pe_callB (Ak.cr_lenK (K := K) (by rfl)) (by rfl) g_len (by decide +kernel) (pa_cons (pv 1) pa_nil)) pe_int) pa_nil))))
      (pss_cons (ps_set (i := 3) sc_l_odd.nd rfl (Or.inl rfl) (Ak.pe_cx c_l_next hr (by walk_at "lv") (by rfl) (takes_of rfl rfl rfl rfl) (pa_cons (pv 0) (pa_cons pe_int pa_nil))))
      (pss_cons (ps_set (i := 4) sc_l_odd.nd rfl (Or.inl rfl) (pe_lst (pa_cons (pe_tup (pa_cons pe_str (pa_cons (pv 2) pa_nil))) (pa_cons (pe_tup (pa_cons pe_str (pa_cons (pv 2) pa_nil))) (pa_cons (pe_tup (pa_cons pe_str (pa_cons (pe_un un_neg pe_int) pa_nil))) (pa_cons (pe_tup (pa_cons pe_str (pa_cons (pe_op op_sub (pe_un un_neg pe_int) (pv 3)) pa_nil))) (pa_cons (pe_tup (pa_cons pe_str (pa_cons pe_int pa_nil))) (pa_cons (pe_tup (pa_cons pe_str (pa_cons pe_int pa_nil))) (pa_cons (pe_tup (pa_cons pe_str pa_nil)) (pa_cons (pe_tup pa_nil) pa_nil))))))))))
      (pss_cons (ps_set (i := 4) sc_l_odd.nd rfl (Or.inl rfl) (pe_op (Ak.op_plusK (K := K) (by rfl)) (pv 4) (pe_lst (pa_cons (pe_tup (pa_cons pe_str (pa_cons (pv 3) pa_nil))) (pa_cons (pe_tup (pa_cons pe_str (pa_cons (pv 3) pa_nil))) (pa_cons (pe_tup (pa_cons pe_str pa_nil)) (pa_cons (pe_tup (pa_cons pe_str pa_nil)) (pa_cons (pe_tup (pa_cons pe_str pa_nil)) (pa_cons (pe_tup (pa_cons pe_str (pa_cons pe_int (pa_cons pe_int pa_nil)))) (pa_cons (pe_tup (pa_cons pe_str (pa_cons pe_int pa_nil))) pa_nil))))))))))
      (pss_cons (ps_if (pt_cmpR (Ak.op_eqK (K := K) (by rfl) hr.units) (Ak.pe_cx c_l_next hr (by walk_at "lv") (by rfl) (takes_of rfl rfl rfl rfl) (pa_cons (pv 0) (pa_cons pe_int pa_nil))) pe_int (nomark _))
      (pss_one (ps_ret (pe_op (Ak.op_plusK (K := K) (by rfl)) (pe_lst (pa_cons (pe_tup (pa_cons pe_str pa_nil)) (pa_cons (pe_tup (pa_cons pe_str (pa_cons pe_int pa_nil))) pa_nil))) (pe_op Ak.op_times (pe_lst (pa_cons (pe_tup (pa_cons pe_str pa_nil)) pa_nil)) (pe_op (Ak.op_plusK (K := K) (by rfl)) pe_int (pe_op op_mod (pv 3) pe_int))))))
      pss_nil)
      (pss_one (ps_ret (pe_op (Ak.op_plusK (K := K) (by rfl)) (pe_op (Ak.op_plusK (K := K) (by rfl)) (pe_op (Ak.op_plusK (K := K) (by rfl)) (pe_slice (Ak.sl_K (K := K) (by rfl)) (pv 1) po_none (po_some (pv 2))) (pe_lst (pa_cons (pe_ix (Ak.ix_K (K := K) (by rfl)) (pv 4) (Ak.pe_cx c_l_next hr (by walk_at "lv") (by rfl) (takes_of rfl rfl rfl rfl) (pa_cons (pv 0) (pa_cons pe_int pa_nil))) (by intro _ _; rfl)) pa_nil))) (pe_slice (Ak.sl_K (K := K) (by rfl)) (pv 1) (po_some (pv 2)) po_none)) (pe_op Ak.op_times (pe_lst (pa_cons (pe_tup pa_nil) pa_nil)) (Ak.pe_cx c_l_next hr (by walk_at "lv") (by rfl) (takes_of rfl rfl rfl rfl) (pa_cons (pv 0) (pa_cons pe_int pa_nil)))))))))))), ?_⟩
    have e0 : L2.start N_l_odd [V.ref d, V.ref f] = [some (V.ref d), some (V.ref f), none, none, none] := rfl
    rw [e0]
    try dsimp only [cxOf]
    walk_at "rd"
    rw [List.length_map, el]
    walk_at "rd"
    rename_i at_ H1 xs1 p0 p1 dc1 hd1 k1 far H2 xs2 f0 f1 dc2 hd2 k2 a1 na1 a2 na2 a3 na3 a4 na4 a5 na5 a6 na6 a7 na7 a8 na8 L1 nL1 b1 nb1 b2 nb2 b3 nb3 b4 nb4 b5 nb5 b6 nb6 b7 nb7 L2 nL2 L3 nL3 r6 H3 xs3 q0 q1 dc3 hd3 k3o
    obtain ⟨HX, ex, k3⟩ : ∃ HX, HX = _ ∧ Keep [d] HX H3 := ⟨_, rfl, k3o⟩
    have ha1 : HX a1 = some (.tup [.str "come", .int at_]) := by rw [ex]; walk_at "lk"
    have ha2 : HX a2 = some (.tup [.str "hear", .int at_]) := by rw [ex]; walk_at "lk"
    have ha3 : HX a3 = some (.tup [.str "come", .int (-1)]) := by rw [ex]; walk_at "lk"
    have ha4 : HX a4 = some (.tup [.str "hear", .int (-1 - far)]) := by rw [ex]; walk_at "lk"
    have ha5 : HX a5 = some (.tup [.str "send", .int 1]) := by rw [ex]; walk_at "lk"
    have ha6 : HX a6 = some (.tup [.str "tell", .int 0]) := by rw [ex]; walk_at "lk"
    have ha7 : HX a7 = some (.tup [.str "Send"]) := by rw [ex]; walk_at "lk"
    have ha8 : HX a8 = some (.tup []) := by rw [ex]; walk_at "lk"
    have hb1 : HX b1 = some (.tup [.str "come", .int far]) := by rw [ex]; walk_at "lk"
    have hb2 : HX b2 = some (.tup [.str "hear", .int far]) := by rw [ex]; walk_at "lk"
    have hb3 : HX b3 = some (.tup [.str "send"]) := by rw [ex]; walk_at "lk"
    have hb4 : HX b4 = some (.tup [.str "tell"]) := by rw [ex]; walk_at "lk"
    have hb5 : HX b5 = some (.tup [.str "come"]) := by rw [ex]; walk_at "lk"
    have hb6 : HX b6 = some (.tup [.str "hear", .int 0, .int 0]) := by rw [ex]; walk_at "lk"
    have hb7 : HX b7 = some (.tup [.str "", .int 0]) := by rw [ex]; walk_at "lk"
    have e15 : EvsAt K HX [a1, a2, a3, a4, a5, a6, a7, a8, b1, b2, b3, b4, b5, b6, b7] [.come at_, .hear at_, .come (-1), .hear (-1 - far), .odd [.str "send", .int 1], .odd [.str "tell", .int 0], .odd [.str "Send"], .odd [], .come far, .hear far, .send, .tell, .odd [.str "come"], .odd [.str "hear", .int 0, .int 0], .odd [.str "", .int 0]] := by
      exact .cons (SqT.of ha1) trivial (.cons (SqT.of ha2) trivial (.cons (SqT.of ha3) trivial (.cons (SqT.of ha4) trivial (.cons (SqT.of ha5) (.e2 strOk_send (by decide +kernel) (by decide +kernel)) (.cons (SqT.of ha6) (.e2 strOk_tell (by decide +kernel) (by decide +kernel)) (.cons (SqT.of ha7) (.e1 (by decide +kernel) (by decide +kernel) (by decide +kernel)) (.cons (SqT.of ha8) .e0 (.cons (SqT.of hb1) trivial (.cons (SqT.of hb2) trivial (.cons (SqT.of hb3) trivial (.cons (SqT.of hb4) trivial (.cons (SqT.of hb5) (.e1 strOk_come (by decide +kernel) (by decide +kernel)) (.cons (SqT.of hb6) (.e3 strOk_hear) (.cons (SqT.of hb7) (.e2 (by decide +kernel) (by decide +kernel) (by decide +kernel)) (.nil)))))))))))))))
    have hL3 : HX L3 = some (.lst ([a1, a2, a3, a4, a5, a6, a7, a8, b1, b2, b3, b4, b5, b6, b7].map V.ref)) := by rw [ex]; exact upd_same
    have kX : Keep [] H2 HX := by rw [ex]; walk_at "kp"
    clear ex k3o ha1 ha2 ha3 ha4 ha5 ha6 ha7 ha8 hb1 hb2 hb3 hb4 hb5 hb6 hb7 na1 na2 na3 na4 na5 na6 na7 na8 nb1 nb2 nb3 nb4 nb5 nb6 nb7 nL1 nL2 nL3
    have hdX := kX.1 _ _ nin_nil hd2
    generalize he15 : [a1, a2, a3, a4, a5, a6, a7, a8, b1, b2, b3, b4, b5, b6, b7] = es15 at e15 hL3
    generalize hv15 : ([.come at_, .hear at_, .come (-1), .hear (-1 - far), .odd [.str "send", .int 1], .odd [.str "tell", .int 0], .odd [.str "Send"], .odd [], .come far, .hear far, .send, .tell, .odd [.str "come"], .odd [.str "hear", .int 0, .int 0], .odd [.str "", .int 0]] : List Ev) = evs15 at e15
    have l15 : es15.length = 15 := by rw [← he15]; rfl
    clear he15 hv15
    have dcX : Dice K H0 HX d := dc2.keep (S := []) kX nin_nil none_nil
    have k03 : Keep [d] H H3 := (k1.trans k2).trans ((kX.mono sub_nil).trans k3)
    have nL3d := refs_dice dcX hL3
    have e15' := e15.keepN k3 (fun b hb => by rw [List.mem_singleton.mp hb]; exact ntL hdX)
    have hL3' := k3.1 _ _ (nin_cons nL3d nin_nil) hL3
    have hf3 := k03.1 _ _ (nin_cons hfd nin_nil) hf
    have hev3 := hev.keepN k03 (fun b hb => by rw [List.mem_singleton.mp hb]; exact ntL hd0)
    clear k1 k2 k3 kX dcX dc1 dc2 hd1 hd2 hdX e15 hL3 hev hf
    refine Ak.w_ite (fun z => ?_) (fun z => ?_)
    · walk_at "rd"
      rename_i s1 ns1 c1 nc1 LA nLA t1 nt1 LB nLB
      have fl : (List.replicate (398 + far % 3).toNat [V.ref t1]).flatten = (List.replicate (398 + far % 3).toNat t1).map V.ref := flat_rep
      have f3 : 0 ≤ far % 3 ∧ far % 3 < 3 := ⟨Int.emod_nonneg _ (by decide), Int.emod_lt_of_pos _ (by decide)⟩
      refine w_timesL upd_same (by omega) (by omega) (by rw [sizeLine_eq]; show 1 * _ ≤ _; omega) (fun p np => ?_)
      rw [fl]
      generalize hn : (398 + far % 3).toNat = n at fl ⊢
      have hn2 : n ≤ 400 := by omega
      clear fl
      refine Ak.w_plusL (xs := [.ref s1, .ref c1]) (ys := (List.replicate n t1).map V.ref) (by walk_at "lk") upd_same (by rw [List.length_map, List.length_replicate, sizeLine_eq]; show 2 + n ≤ _; omega) (fun g ng => ?_)
      have fin : ∀ HB HF, HB = upd (upd (upd (upd (upd (upd H3 s1 (.tup [.str "send"])) c1 (.tup [.str "come", .int 0])) LA (.lst [.ref s1, .ref c1])) t1 (.tup [.str "tell"])) LB (.lst [.ref t1])) p (.lst ((List.replicate n t1).map V.ref)) → HF = upd HB g (.lst ([V.ref s1, .ref c1] ++ (List.replicate n t1).map V.ref)) → HB g = none → Q (.ref g) HF := fun HB HF eb ef ng => by
        have kB : Keep [] H3 HB := by rw [eb]; walk_at "kp"
        have h1 : HB s1 = some (.tup [.str "send"]) := by rw [eb]; walk_at "lk"
        have h2 : HB c1 = some (.tup [.str "come", .int 0]) := by rw [eb]; walk_at "lk"
        have h3 : HB t1 = some (.tup [.str "tell"]) := by rw [eb]; walk_at "lk"
        have kF : Keep [] HB HF := by rw [ef]; exact Keep.refl.new ng
        have hg : HF g = some (.lst (([s1, c1] ++ List.replicate n t1).map V.ref)) := by rw [ef, upd_same, List.map_append]; rfl
        have kG : Keep [d] H HB := k03.trans (kB.mono sub_nil)
        exact k g ([s1, c1] ++ List.replicate n t1) ([.send, .come 0] ++ List.replicate n .tell) HF (kG.2 _ ng) hg (.cons (ev := .send) (SqT.of (kF.1 _ _ nin_nil h1)) trivial (.cons (ev := .come 0) (SqT.of (kF.1 _ _ nin_nil h2)) trivial (evs_rep (ev := .tell) (SqT.of (kF.1 _ _ nin_nil h3)) trivial))) (by rw [List.length_append, List.length_replicate]; show 2 + n ≤ _; omega) (dc3.keep (S := []) (kB.trans kF) nin_nil none_nil) (kG.trans (kF.mono sub_nil))
      exact fin _ _ rfl rfl ng
    · walk_at "rd"
      refine w_slTake (SqL.of hf3) p0 (fun s1 ns1 => ?_)
      rw [← List.map_take]
      have kA : Keep [] H3 (upd H3 s1 (.lst ((es.take at_.toNat).map V.ref))) := Keep.refl.new ns1
      have hs1 : upd H3 s1 (.lst ((es.take at_.toNat).map V.ref)) s1 = some (.lst ((es.take at_.toNat).map V.ref)) := upd_same
      have dcA := dc3.keep (S := []) kA nin_nil none_nil
      have evA := hev3.keepN kA (fun b hb => absurd hb List.not_mem_nil)
      have ev15A := e15'.keepN kA (fun b hb => absurd hb List.not_mem_nil)
      have hLA := kA.1 _ _ nin_nil hL3'
      have hfA := kA.1 _ _ nin_nil hf3
      have hdA := kA.1 _ _ nin_nil hd3
      have k0A : Keep [d] H _ := k03.trans (kA.mono sub_nil)
      have nd1 := refs_dice dcA hs1
      generalize upd H3 s1 (.lst ((es.take at_.toNat).map V.ref)) = HA at kA hs1 dcA evA ev15A hLA hfA hdA k0A ⊢
      clear kA k03 dc3 hd3 hL3' hf3 hev3 e15' ns1
      walk_at "rd"
      rename_i r15 H4 xs4 g0 g1 dc4 hd4 k4
      have nt4 : ∀ b, b ∈ [d] → ∀ xs, HA b ≠ some (.tup xs) ∧ ∀ o, HA b ≠ some (.frz o (.tup xs)) := fun b hb => by rw [List.mem_singleton.mp hb]; exact ntL hdA
      have evB := evA.keepN k4 nt4
      have ev15B := ev15A.keepN k4 nt4
      have hs4 := k4.1 _ _ (nin_cons nd1 nin_nil) hs1
      have hL4 := k4.1 _ _ (nin_cons nL3d nin_nil) hLA
      have hf4 := k4.1 _ _ (nin_cons hfd nin_nil) hfA
      have k04 := k0A.trans k4
      have hx : (es15.map V.ref)[r15.toNat]? = some (.ref (es15[r15.toNat]'(by omega))) := by rw [List.getElem?_map, List.getElem?_eq_getElem (by omega)]; rfl
      obtain ⟨x, ev, ex, hev15, hsx, okx⟩ := ev15B.at hx
      have hat : atI (es15.map V.ref) r15 = some (.ref x) := by
        rw [show r15 = ((r15.toNat : Nat) : Int) by omega, ← ex]
        exact atI_nat hx
      refine w_ixL (SqL.of hL4) hat ?_
      clear k4 k0A hs1 hLA hfA hdA evA ev15A dcA ev15B nt4
      walk_at "rd"
      rename_i LC nLC
      have ltk : (es.take at_.toNat).length ≤ 300 := by rw [List.length_take]; omega
      have ldr : (es.drop at_.toNat).length ≤ 300 := by rw [List.length_drop]; omega
      have lsum : (es.take at_.toNat).length + (es.drop at_.toNat).length = es.length := by rw [List.length_take, List.length_drop]; omega
      refine Ak.w_plusL (xs := (es.take at_.toNat).map V.ref) (ys := [V.ref x]) (at_new nLC hs4) upd_same (by rw [List.length_map, sizeLine_eq]; show _ + 1 ≤ _; omega) (fun P1 nP1 => ?_)
      walk_at "rd"
      refine w_slDrop (xs := es.map V.ref) (SqL.of (by walk_at "lk")) p0 (fun s2 ns2 => ?_)
      rw [← List.map_drop]
      refine Ak.w_plusL (xs := (es.take at_.toNat).map V.ref ++ [V.ref x]) (ys := (es.drop at_.toNat).map V.ref) (at_new ns2 upd_same) upd_same (by rw [List.length_append, List.length_map, List.length_map, sizeLine_eq]; show _ + 1 + _ ≤ _; omega) (fun P2 nP2 => ?_)
      obtain ⟨H5, e5⟩ : ∃ H5, H5 = upd (upd (upd (upd H4 LC (.lst [V.ref x])) P1 (.lst ((es.take at_.toNat).map V.ref ++ [V.ref x]))) s2 (.lst ((es.drop at_.toNat).map V.ref))) P2 (.lst ((es.take at_.toNat).map V.ref ++ [V.ref x] ++ (es.drop at_.toNat).map V.ref)) := ⟨_, rfl⟩
      have k5 : Keep [] H4 H5 := by rw [e5]; walk_at "kp"
      have hP2 : H5 P2 = some (.lst ((es.take at_.toNat ++ [x] ++ es.drop at_.toNat).map V.ref)) := by rw [e5, upd_same, List.map_append, List.map_append]; rfl
      rw [← e5]
      have evC : EvsAt K H5 (es.take at_.toNat ++ [x] ++ es.drop at_.toNat) (evs.take at_.toNat ++ [ev] ++ evs.drop at_.toNat) := (((evB.take _).app (.cons hsx okx .nil)).app (evB.drop _)).keepN k5 (fun b hb => absurd hb List.not_mem_nil)
      have lC : (evs.take at_.toNat ++ [ev] ++ evs.drop at_.toNat).length = evs.length + 1 := by
        rw [List.length_append, List.length_append, List.length_take, List.length_drop]
        show min _ _ + 1 + _ = _
        omega
      have dc5 := dc4.keep (S := []) k5 nin_nil none_nil
      have hd5 := k5.1 _ _ nin_nil hd4
      have nP2d := refs_dice dc5 hP2
      have k05 : Keep [d] H H5 := k04.trans (k5.mono sub_nil)
      clear e5 hs4 hL4 hf4 evB hsx nLC nP1 ns2 nP2 k5 dc4 hd4 k04
      generalize es.take at_.toNat ++ [x] ++ es.drop at_.toNat = esC at hP2 evC
      generalize evs.take at_.toNat ++ [ev] ++ evs.drop at_.toNat = evsC at evC lC
      walk_at "rd"
      rename_i u nu LU nLU r2 H6 xs6 h0 h1 dc6 hd6 k6
      have ud : u ≠ d := Ne.symm (ne_of_none hd5 nu)
      have LUd : LU ≠ d := Ne.symm (ne_of_none (at_new nu hd5) nLU)
      have hu : H6 u = some (.tup []) := k6.1 _ _ (nin_cons ud nin_nil) (at_new nLU upd_same)
      have hLU : H6 LU = some (.lst [.ref u]) := k6.1 _ _ (nin_cons LUd nin_nil) upd_same
      have k56 : Keep [d] H5 H6 := ((Keep.refl.new nu).new nLU).trans k6
      have hP6 := k56.1 _ _ (nin_cons nP2d nin_nil) hP2
      have evD := evC.keepN k56 (fun b hb => by rw [List.mem_singleton.mp hb]; exact ntL hd5)
      have lD := evC.len
      refine w_timesL hLU (by omega) (by omega) (by rw [sizeLine_eq]; show 1 * _ ≤ _; omega) (fun p np => ?_)
      rw [flat_rep]
      have kP : Keep [] H6 (upd H6 p (.lst ((List.replicate r2.toNat u).map V.ref))) := Keep.refl.new np
      have hp6 : upd H6 p (.lst ((List.replicate r2.toNat u).map V.ref)) p = some (.lst ((List.replicate r2.toNat u).map V.ref)) := upd_same
      have hP7 := kP.1 _ _ nin_nil hP6
      generalize upd H6 p (.lst ((List.replicate r2.toNat u).map V.ref)) = H7 at kP hp6 hP7 ⊢
      refine Ak.w_plusL hP7 hp6 (by rw [List.length_map, List.length_map, List.length_replicate, sizeLine_eq]; omega) (fun g ng => ?_)
      rw [← List.map_append]
      have kG : Keep [] H6 (upd H7 g (.lst ((esC ++ List.replicate r2.toNat u).map V.ref))) := kP.new ng
      have k07 : Keep [d] H H7 := (k05.trans k56).trans (kP.mono sub_nil)
      exact k g (esC ++ List.replicate r2.toNat u) (evsC ++ List.replicate r2.toNat (.odd [])) _ (k07.2 _ ng) upd_same ((evD.app (evs_rep (ev := .odd []) (SqT.of hu) .e0)).keepN kG (fun b hb => absurd hb List.not_mem_nil)) (by rw [List.length_append, List.length_replicate]; omega) (dc6.keep (S := []) kG nin_nil none_nil) ((k05.trans k56).trans (kG.mono sub_nil))
end
end Ak

namespace Ak
open PySem PySem.Spec PyProof.Rows L2
theorem told_in {H : Hp} {Q : VK} {C1 C2 C3 C4 C5 C6 : Addr} {tl : XK → Hp → VK → Prop} (h : tl (fun cls d H' => ∃ out, ToldW C1 C2 C3 C4 C5 C6 H' cls d out ∧ ∀ p H2, H' p = none → Keep [] H' H2 → H2 p = some (.tup out) → Q (.ref p) H2) H Q) : TTold3 C1 C2 C3 C4 C5 C6 tl H Q := h
/-! ### answers compared -/
def Ans.B : Ans → Prop
  | .tg _ bs => bs.length ≤ 100
  | .ls xs => xs.length ≤ 100
  | _ => True
section
variable {K : PySem.W.Frag} {H H' : Hp} {n : Nat}
theorem ans_al {v u : V} {an : Ans} (b : an.B) (hx : AnsAt H v an) (hy : AnsAt H u an) : Alike K H (n + 3) v u := by
  cases an with
  | pr i j =>
    obtain ⟨t, rfl, h⟩ := hx
    obtain ⟨t2, rfl, h2⟩ := hy
    exact al_tup h h2 (.cons al_int (.cons al_int .nil)) (Nat.le_of_ble_eq_true rfl)
  | nw i w =>
    obtain ⟨t, rfl, h⟩ := hx
    obtain ⟨t2, rfl, h2⟩ := hy
    exact al_tup h h2 (.cons al_int (.cons al_str .nil)) (Nat.le_of_ble_eq_true rfl)
  | tg i bs =>
    obtain ⟨t, c, rfl, h, hc⟩ := hx
    obtain ⟨t2, c2, rfl, h2, hc2⟩ := hy
    have b' : bs.length ≤ 100 := b
    exact al_tup h h2 (.cons al_int (.cons (al_tup hc hc2 AlL.ints (by rw [List.length_map]; omega)) .nil)) (Nat.le_of_ble_eq_true rfl)
  | ls xs =>
    obtain ⟨f, rfl, h⟩ := hx
    obtain ⟨f2, rfl, h2⟩ := hy
    have b' : xs.length ≤ 100 := b
    exact al_lst h h2 AlL.ints (by rw [List.length_map]; omega)
  | no =>
    rw [show v = .non from hx, show u = .non from hy]
    exact al_non
theorem ansL_al {vs us : List V} {as : List Ans} (hx : AnsL H vs as) : AnsL H us as → (∀ an, an ∈ as → an.B) → AlL K H (n + 3) vs us := by
  induction hx generalizing us with
  | nil => intro hy _; cases hy; exact .nil
  | cons h r ih =>
    intro hy hb
    cases hy with
    | cons h2 r2 => exact .cons (ans_al (hb _ List.mem_cons_self) h h2) (ih r2 fun an ha => hb an (List.mem_cons_of_mem _ ha))
theorem AnsAt.ext {v : V} {an : Ans} (x : AnsAt H v an) (e : Ext0 H H') : AnsAt H' v an := by
  cases an with
  | pr i j => obtain ⟨t, e1, h⟩ := x; exact ⟨t, e1, e _ _ h (fun _ z => by cases z)⟩
  | nw i w => obtain ⟨t, e1, h⟩ := x; exact ⟨t, e1, e _ _ h (fun _ z => by cases z)⟩
  | tg i bs => obtain ⟨t, b, e1, h, h2⟩ := x; exact ⟨t, b, e1, e _ _ h (fun _ z => by cases z), e _ _ h2 (fun _ z => by cases z)⟩
  | ls xs => obtain ⟨f, e1, h⟩ := x; exact ⟨f, e1, e _ _ h (fun _ z => by cases z)⟩
  | no => exact x
theorem AnsL.ext {vs : List V} {as : List Ans} (x : AnsL H vs as) (e : Ext0 H H') : AnsL H' vs as := by
  induction x with
  | nil => exact .nil
  | cons h r ih => exact .cons (h.ext e) ih
theorem EvsAt.ext {es : List Addr} {evs : List Ev} (x : EvsAt K H es evs) (e : Ext0 H H') : EvsAt K H' es evs := by
  induction x with
  | nil => exact .nil
  | cons h o r ih => exact .cons (Ext0.seqT h e) o ih
end
theorem step_B {m w late a : Int} {s : WS} {n : Nat} {e : Ev} (x : WOk m w s n) (w0 : 0 ≤ w) (w1 : w ≤ 16) (hc : canB late a s e = true) : (stepW m w late s e).2.1.B := by
  cases e with
  | send => trivial
  | tell => show (bitsI w s.g s.K).length ≤ 100; rw [bitsI_len]; omega
  | come n => trivial
  | hear k =>
    have hk := can_hear hc k rfl
    have hi : k.toNat < s.tl.length := by omega
    have ht : s.tl.getD k.toNat (0, [], 0) ∈ s.tl := by
      rw [List.getD_eq_getElem?_getD, List.getElem?_eq_getElem hi]
      exact List.getElem_mem hi
    have h16 : (s.tl.getD k.toNat (0, [], 0)).2.1.length ≤ 16 := by have := (x.t _ ht).2.2.1; omega
    unfold stepW
    simp only []
    split
    · trivial
    · have fl := found_len (n := newestOf m s.l (s.tl.getD k.toNat (0, [], 0)).1) (ks := s.ks) h16
      show (foundOf _ _ _).length ≤ 100
      omega
  | odd xs => trivial
theorem ansW_B {m w late a : Int} (m0 : 0 < m) (w0 : 0 ≤ w) (w1 : w ≤ 16) : ∀ {evs : List Ev} {s : WS} {n : Nat}, WOk m w s n → canW m w late a s evs → ∀ an, an ∈ ansW m w late s evs → an.B := by
  intro evs
  induction evs with
  | nil => intro s n _ _ an h; exact absurd h List.not_mem_nil
  | cons e r ih =>
    intro s n x c an h
    rcases List.mem_cons.mp h with rfl | h
    · exact step_B x w0 w1 c.1
    · exact ih (x.step m0 w0 w1 (can_hear c.1)) c.2 an h
/-- what the law's played has said -/
def DueAt (H : Hp) (v : V) (m w l a : Int) (evs : List Ev) : Prop := (∃ i : Nat, BadAt m w l a evs i ∧ v = .int (i : Nat)) ∨ (GoodL m w l a evs ∧ ∃ t f ans, v = .ref t ∧ H t = some (.tup [.ref f, optV (firstW (wrW m w l ws0 evs))]) ∧ H f = some (.lst ans) ∧ AnsL H ans (ansW m w l ws0 evs))
theorem DueAt.ext {H H' : Hp} {v : V} {m w l a : Int} {evs : List Ev} (x : DueAt H v m w l a evs) (e : Ext0 H H') : DueAt H' v m w l a evs := by
  rcases x with h | ⟨g, t, f, ans, e1, h1, h2, h3⟩
  · exact Or.inl h
  · exact Or.inr ⟨g, t, f, ans, e1, e _ _ h1 (fun _ z => by cases z), e _ _ h2 (fun _ z => by cases z), h3.ext e⟩
/-- what stands while the law goes on -/
structure LawB (K : PySem.W.Frag) (T : List (Addr × Str)) (q L f g : Addr) (es es2 : List Addr) (evs evs2 : List Ev) (m w l a : Int) (H : Hp) : Prop where
  q : H q = some (.tup [.int m, .int w, .int l, .int a])
  L : H L = some (.lst [.ref f, .ref g, .ref f])
  f : H f = some (.lst (es.map V.ref))
  ev : EvsAt K H es evs
  g : H g = some (.lst (es2.map V.ref))
  ev2 : EvsAt K H es2 evs2
  t : LamX.Tabs T H
theorem LawB.ext {K : PySem.W.Frag} {T : List (Addr × Str)} {q L f g : Addr} {es es2 : List Addr} {evs evs2 : List Ev} {m w l a : Int} {H H' : Hp} (x : LawB K T q L f g es es2 evs evs2 m w l a H) (e : Ext0 H H') (t : LamX.Tabs T H') : LawB K T q L f g es es2 evs evs2 m w l a H' :=
  ⟨e _ _ x.q (fun _ z => by cases z), e _ _ x.L (fun _ z => by cases z), e _ _ x.f (fun _ z => by cases z), x.ev.ext e, e _ _ x.g (fun _ z => by cases z), x.ev2.ext e, t⟩
theorem LawB.keep {K : PySem.W.Frag} {T : List (Addr × Str)} {q L f g : Addr} {es es2 : List Addr} {evs evs2 : List Ev} {m w l a : Int} {H H' : Hp} (x : LawB K T q L f g es es2 evs evs2 m w l a H) (k : Keep [] H H') : LawB K T q L f g es es2 evs evs2 m w l a H' :=
  x.ext k.ext (Tabs.keep x.t k plain0)
section
variable {K : PySem.W.Frag} {H : Hp} {Q : VK} {E : XK} {q e : Addr} {m w l a : Int} {es : List Addr} {evs : List Ev} {v : V} {C1 C2 C3 C4 C5 C6 : Addr}
theorem own_played_due (hq : H q = some (.tup [.int m, .int w, .int l, .int a])) (so : SetOk m w l a) (he : SqL K H e (es.map V.ref)) (hev : EvsAt K H es evs) (hl : evs.length ≤ 410) (k : ∀ v H', Keep [] H H' → DueAt H' v m w l a evs → Q v H') : spOwnPlayed K [.ref q, .ref e] H Q E :=
  ⟨q, e, m, w, l, a, es, evs, rfl, hq, so, he, hev, hl, fun i ev e1 e2 e3 e4 H' k' => k _ _ k' (Or.inl ⟨i, ⟨ev, e1, e2, e3, e4⟩, rfl⟩), fun l4 c4 t f ans H' _ _ _ ht hf hA _ k' => k _ _ k' (Or.inr ⟨⟨l4, c4⟩, t, f, ans, rfl, ht, hf, hA⟩)⟩
theorem played_told (hq : H q = some (.tup [.int m, .int w, .int l, .int a])) (so : SetOk m w l a) (he : SqL K H e (es.map V.ref)) (hev : EvsAt K H es evs) (hl : evs.length ≤ 410) (hdue : DueAt H v m w l a evs)
    (kb : ∀ i : Nat, v = .int (i : Nat) → ∀ p H', Keep [] H H' → H' p = some (.tup [.str "event", .int (i : Nat)]) → Q (.ref p) H')
    (kg : ∀ t f ans, v = .ref t → H t = some (.tup [.ref f, optV (firstW (wrW m w l ws0 evs))]) → H f = some (.lst ans) → AnsL H ans (ansW m w l ws0 evs) → GoodL m w l a evs → ∀ t2 f2 ans2 H', H f2 = none → Keep [] H H' → H' t2 = some (.tup [.ref f2, optV (firstW (wrW m w l ws0 evs))]) → H' f2 = some (.lst ans2) → AnsL H' ans2 (ansW m w l ws0 evs) → Q (.ref t2) H') :
    spPlayedX K C5 [.ref q, .ref e] H Q (fun cls d H' => ∃ out, ToldW C1 C2 C3 C4 C5 C6 H' cls d out ∧ ∀ p H2, H' p = none → Keep [] H' H2 → H2 p = some (.tup out) → Q (.ref p) H2) := by
  refine ⟨q, e, m, w, l, a, es, evs, rfl, hq, so, he, hev, hl, fun i2 hb2 d H' nd k' hd => ?_, fun good t2 f2 ans2 H' nt2 nf2 ne ht2 hf2 hA2 hv2 k' => ?_⟩
  · rcases hdue with ⟨i, hb, rfl⟩ | ⟨good, _⟩
    · obtain rfl := bad_one hb hb2
      exact ⟨_, ToldW.event hd rfl, fun p H2 np k2 hp => kb i rfl p H2 (k'.trans k2) hp⟩
    · exact (bad_good hb2 good).elim
  · rcases hdue with ⟨i, hb, rfl⟩ | ⟨_, t, f, ans, rfl, ht, hf, hA⟩
    · exact (bad_good hb good).elim
    · exact kg t f ans rfl ht hf hA good t2 f2 ans2 H' nf2 k' ht2 hf2 hA2
theorem al_optV {n : Nat} {o : Option Nat} : Alike K H (n + 1) (optV o) (optV o) := by
  cases o with
  | none => exact al_non
  | some i => exact al_int
end
section
variable {P : Program} {w : World} {K : PySem.W.Frag} {mg : Str → Option Value} {base : Heap}
def spLaw (K : PySem.W.Frag) (PT : Addr) : Sp := fun vs H Q _ => ∃ (a : Addr) (ns : List Int), vs = [.ref a] ∧ SqL K H a (ns.map V.int) ∧ ns.length ≤ 63 ∧ H PT = some (.tbl #[]) ∧ ∀ H', Q (.bl true) H'
theorem ok_law {f cL PT fT C0 C1 C2 C3 C4 C5 C6 : Addr} {oc : Value} {od an odT anT : Option Addr} {osl oslT : Array (Option Value)} {kV doc pm ct kVT docT pmT cdT ctT ocT : Value}
    (lk : K.lookup f = some ⟨oc, od, .func (PySem.W.fnOf "law" "law" (defArgs s_law) (defBody s_law) (defScope s_law) .none kV doc pm an (.ref cL) ct), osl⟩) (hcd : PySem.W.codeIn K (.ref cL) "law" = true)
    (TB : LamX.TabB base mg cL PT)
    (lkT : K.lookup fT = some ⟨ocT, odT, .func (PySem.W.fnOf "_law_told" "_law_told" (defArgs s_l_told) (defBody s_l_told) (defScope s_l_told) .none kVT docT pmT anT cdT ctT), oslT⟩) (hcT : PySem.W.codeIn K cdT "_law_told" = true) (hkT : PySem.W.keepIn K (.ref fT) = true) (g__law_told : mg "_law_told" = some (.ref fT))
    (bT : L2.Binds K (PySem.W.fnOf "_law_told" "_law_told" (defArgs s_l_told) (defBody s_l_told) (defScope s_l_told) .none kVT docT pmT anT cdT ctT) ["_law_work"] [])
    (TC : ToldC K C0 C1 C2 C3 C4 C5 C6)
    (g_BitsError : mg "BitsError" = some (.ref C0)) (g_BadSetting : mg "BadSetting" = some (.ref C1)) (g_BadMark : mg "BadMark" = some (.ref C2))
    (g_BadBits : mg "BadBits" = some (.ref C3)) (g_Full : mg "Full" = some (.ref C4)) (g_BadEvent : mg "BadEvent" = some (.ref C5)) (g_BadText : mg "BadText" = some (.ref C6)) (g_isinstance : mg "isinstance" = none) (g_ValueError : mg "ValueError" = none) (g_range : mg "range" = none) (g_list : mg "list" = none) (g_int : mg "int" = none)
    (c_l_dice : CalX P w K mg base 1 "_law_dice" (spDice K)) (c_l_next : CalX P w K mg base 1 "_law_next" (spNext K)) (c_l_setting : CalX P w K mg base 2 "_law_setting" (spSetting K)) (c_l_like : CalX P w K mg base 6 "_law_like" (spLike K 5))
    (c_l_events : CalX P w K mg base 4 "_law_events" (spOwnEvents K)) (c_l_odd : CalX P w K mg base 2 "_law_odd" (spOdd K)) (c_l_played : CalX P w K mg base 4 "_law_played" (spOwnPlayed K)) (c_played : CalX P w K mg base 7 "played" (spPlayedX K C5)) :
    FnOk P w K mg base (L2.CX P w) 10 f (PySem.W.fnOf "law" "law" (defArgs s_law) (defBody s_law) (defScope s_law) .none kV doc pm an (.ref cL) ct) ["_law_script"] (spLaw K PT) := by
  refine fn_of lk hcd sc_law (fun vs H Q E h => ?_) (fun A outer s H vs Q E hr h => ?_)
  · obtain ⟨_, _, rfl, _⟩ := h
    rfl
  · obtain ⟨a, ns, rfl, hS, hl, hPT, k⟩ := h
    refine ⟨_, (pss_cons (ps_set (i := 1) sc_law.nd rfl (Or.inl rfl) (Ak.pe_cx c_l_dice hr (by walk_at "lv") (by rfl) (takes_of rfl rfl rfl rfl) (pa_cons (pv 0) pa_nil)))
      (pss_cons (ps_set (i := 2) sc_law.nd rfl (Or.inr rfl) (Ak.pe_cx c_l_setting hr (by walk_at "lv") (by rfl) (takes_of rfl rfl rfl rfl) (pa_cons (pv 1) pa_nil)))
      (pss_cons (ps_set (i := 3) sc_law.nd rfl (Or.inl rfl) (Ak.pe_cx c_l_events hr (by walk_at "lv") (by rfl) (takes_of rfl rfl rfl rfl) (pa_cons (pv 1) (pa_cons (pv 2) (pa_cons (pe_ix (Ak.ix_K (K := K) (by rfl)) (pe_lst (pa_cons pe_int (pa_cons pe_int pa_nil))) (Ak.pe_cx c_l_next hr (by walk_at "lv") (by rfl) (takes_of rfl rfl rfl rfl) (pa_cons (pv 1) (pa_cons pe_int pa_nil))) (by intro _ _; rfl)) pa_nil)))))
      (pss_cons (ps_for (passes_of rfl) rfl (Ak.pi_listK (K := K) (by rfl) (pe_lst (pa_cons (pv 3) (pa_cons (Ak.pe_cx c_l_odd hr (by walk_at "lv") (by rfl) (takes_of rfl rfl rfl rfl) (pa_cons (pv 1) (pa_cons (pv 3) pa_nil))) (pa_cons (pv 3) pa_nil))))) (pg_name (i := 4) sc_law.nd rfl (Or.inl rfl))
      (pss_cons (ps_set (i := 5) sc_law.nd rfl (Or.inl rfl) (Ak.pe_cx c_l_played hr (by walk_at "lv") (by rfl) (takes_of rfl rfl rfl rfl) (pa_cons (pv 2) (pa_cons (pv 4) pa_nil))))
      (pss_cons (ps_set (i := 6) sc_law.nd rfl (Or.inr rfl) (pe_callTy (Ak.cr_lisK (K := K) (by rfl)) (by rfl) g_list (by decide +kernel) (pa_cons (pv 4) pa_nil)))
      (pss_one (ps_for (passes_of rfl) rfl (pi_range1 (by rfl) g_range (pa_cons pe_int pa_nil)) (pg_name (i := 7) sc_law.nd rfl (Or.inl rfl))
      (pss_cons (ps_set (i := 8) sc_law.nd rfl (Or.inl rfl) (LamX.pe_lamcall (k := 7) (T := [(PT, (envOfC "law" (defScope s_law) s.heap.objs.size f (.ref cL)).qual ++ "<lambda>")]) (TT := TTold3 C1 C2 C3 C4 C5 C6) (t := fun E => tCallX (spPlayedX K C5) (wOut E) (tCons (tVar 2) (tCons (tVar 6) tNil))) (by rfl) g__law_told hkT lkT hcT bT sc_l_told rfl (Or.inl rfl) (told_gives3 TC g_BitsError g_BadSetting g_BadMark g_BadBits g_Full g_BadEvent g_BadText g_isinstance g_ValueError) TB rfl (List.mem_singleton.mpr rfl) (fun p hp _ => by rw [List.mem_singleton.mp hp]; rfl) hr (LamX.lamS_by (by show LamX.lamSB (defScope s_law) _ = true; decide +kernel)) rfl (fun _ _ _ _ _ => rfl) (fun _ _ _ _ _ _ _ hr' => Ak.pe_cx c_played hr' (by decide) (by rfl) (takes_of rfl rfl rfl rfl) (pa_cons (pv 2) (pa_cons (pv 6) pa_nil)))))
      (pss_cons (ps_if (PW.pt (pw_or (pt_cmpR (Ak.op_neK (K := K) (by rfl) hr.units) (pv 6) (pv 4) (nomark _)) (pw_or1 (pt_not (Ak.pt_truK (K := K) (by rfl) (Ak.pe_cx c_l_like hr (by walk_at "lv") (by rfl) (takes_of rfl rfl rfl rfl) (pa_cons (pv 8) (pa_cons (pe_ifExp (Ak.pt_truK (K := K) (by rfl) (pe_callB (Ak.cr_isiK (K := K) (by rfl)) (by rfl) g_isinstance (by decide +kernel) (pa_cons (pv 5) (pa_cons (Ak.pe_ty (T := "int") (by rfl) g_int (by decide +kernel)) pa_nil)))) (pe_tup (pa_cons pe_str (pa_cons (pv 5) pa_nil))) (pv 5)) pa_nil))))))))
      (pss_one (ps_ret pe_bl))
      pss_nil)
      (pss_one (ps_if (pt_not (Ak.pt_truK (K := K) (by rfl) (pe_callB (Ak.cr_isiK (K := K) (by rfl)) (by rfl) g_isinstance (by decide +kernel) (pa_cons (pv 5) (pa_cons (Ak.pe_ty (T := "int") (by rfl) g_int (by decide +kernel)) pa_nil)))))
      (pss_one (ps_expr (Ak.pe_bmK (K := K) (by rfl) PySem.F.plainAttrs_list PySem.F.slot_list_append PySem.F.type_list_append mt_append (pe_ix (Ak.ix_K (K := K) (by rfl)) (pv 8) pe_int (by intro _ _; rfl)) (pa_cons (pe_tup pa_nil) pa_nil))))
      pss_nil)))))))))
      (pss_one (ps_ret pe_bl)))))), ?_⟩
    have e0 : L2.start N_law [V.ref a] = [some (V.ref a), none, none, none, none, none, none, none, none] := rfl
    rw [e0]
    try dsimp only [cxOf]
    walk_at "rd"
    refine ⟨a, ns, rfl, hS, hl, fun d H1 hd dc k1 => ?_⟩
    have tN : LamX.Tabs [(PT, (envOfC "law" (defScope s_law) s.heap.objs.size f (.ref cL)).qual ++ "<lambda>")] H1 := Tabs.one (LamX.TabS.nil (k1.1 _ _ nin_nil hPT))
    obtain ⟨xs1, hd1⟩ := dc.lst
    walk_at "rd"
    refine ⟨H, d, rfl, dc, fun q m wi l ah H2 so nq hq dc2 k2 => ?_⟩
    obtain ⟨xs2, hd2⟩ := dc2.lst
    have hqd : q ≠ d := ne_of hq hd2 (by intro z; cases z)
    have tb2 := Tabs.keep tN k2 (plain1 (Plain.lst hd1))
    have o1 := so.m0
    have o3 := so.w0
    have o4 := so.w1
    walk_at "rd"
    rename_i ls nls b H3 xs3 b0 b1 dc3 hd3 k3
    have k23 : Keep [d] H2 H3 := (Keep.refl.new nls).trans k3
    have lsd : ls ≠ d := Ne.symm (ne_of_none hd2 nls)
    have hls : H3 ls = some (.lst [.int 60, .int 300]) := k3.1 _ _ (nin_cons lsd nin_nil) upd_same
    have hq3 := k23.1 _ _ (nin_cons hqd nin_nil) hq
    have tb3 := Tabs.keep tb2 k23 (plain1 (Plain.lst hd2))
    refine Ak.pickP (fun v => 0 ≤ v ∧ v ≤ 300) (SqL.of hls) b0 (by show _ < (2 : Int); omega) (fun x hx => ?_) (fun most hm => ?_)
    · rcases List.mem_cons.mp hx with rfl | hx
      · exact ⟨60, rfl, by decide⟩
      · exact ⟨300, List.mem_singleton.mp hx, by decide⟩
    clear k23 k3 hls tb2 hq k2 k1 tN dc2 dc hd1 nls hd2
    walk_at "rd"
    refine ⟨H, d, q, m, wi, l, ah, most, rfl, dc3, hq3, so, hm.1, by omega, fun fl es evs H4 nfl hfl hev hlen hcan dc4 k4 => ?_⟩
    obtain ⟨xs4, hd4⟩ := dc4.lst
    have hq4 := k4.1 _ _ (nin_cons hqd nin_nil) hq3
    walk_at "rd"
    refine ⟨H, d, fl, es, evs, rfl, dc4, hfl, hev, by omega, fun g es2 evs2 H5 ng hg hev2 hlen2 dc5 k5 => ?_⟩
    have nfd := refs_dice dc4 hfl
    have hfl5 := k5.1 _ _ (nin_cons nfd nin_nil) hfl
    have hev5 := hev.keepN k5 (fun b hb => by rw [List.mem_singleton.mp hb]; exact ntL hd4)
    have hq5 := k5.1 _ _ (nin_cons hqd nin_nil) hq4
    have tb5 := Tabs.keep tb3 (k4.trans k5) (plain1 (Plain.lst hd3))
    clear k4 k5 tb3 dc4 dc5 dc3 hd4 hd3 hq4 hq3 hfl hev
    walk_at "rd"
    rename_i L nL
    have kL : Keep [] H5 (upd H5 L (.lst [.ref fl, .ref g, .ref fl])) := Keep.refl.new nL
    have X : LawB K [(PT, (envOfC "law" (defScope s_law) s.heap.objs.size f (.ref cL)).qual ++ "<lambda>")] q L fl g es es2 evs evs2 m wi l ah (upd H5 L (.lst [.ref fl, .ref g, .ref fl])) := ⟨kL.1 _ _ nin_nil hq5, upd_same, kL.1 _ _ nin_nil hfl5, hev5.keepN kL (fun b hb => absurd hb List.not_mem_nil), kL.1 _ _ nin_nil hg, hev2.keepN kL (fun b hb => absurd hb List.not_mem_nil), Tabs.keep tb5 kL plain0⟩
    generalize upd H5 L (.lst [.ref fl, .ref g, .ref fl]) = H6 at X ⊢
    clear kL tb5 hq5 hev5 hfl5 hev2 hg nL
    refine Ak.l_forList (xs := [.ref fl, .ref g, .ref fl]) (SqL.of X.L) (fun _ σ' H' => ∃ v4 v5 v6 v7 v8, σ' = [some (.ref a), some (.ref d), some (.ref q), some (.ref fl), v4, v5, v6, v7, v8] ∧ LawB K [(PT, (envOfC "law" (defScope s_law) s.heap.objs.size f (.ref cL)).qual ++ "<lambda>")] q L fl g es es2 evs evs2 m wi l ah H')
      ⟨none, none, none, none, none, rfl, X⟩ (fun j σ' H' _ pv => by obtain ⟨_, _, _, _, _, _, x⟩ := pv; exact SqL.of x.L) (fun j x σ' H' hx pv => ?_) (fun σ' H' pv => ?_)
    · obtain ⟨v4, v5, v6, v7, v8, rfl, X1⟩ := pv
      obtain ⟨y, ey, evy, rfl, hys, ly⟩ : ∃ y ey evy, x = .ref y ∧ (∀ Hx, LawB K [(PT, (envOfC "law" (defScope s_law) s.heap.objs.size f (.ref cL)).qual ++ "<lambda>")] q L fl g es es2 evs evs2 m wi l ah Hx → Hx y = some (.lst (ey.map V.ref)) ∧ EvsAt K Hx ey evy) ∧ evy.length ≤ 405 := by
        match j, hx with
        | 0, hx => cases hx; exact ⟨fl, es, evs, rfl, fun Hx x => ⟨x.f, x.ev⟩, by omega⟩
        | 1, hx => cases hx; exact ⟨g, es2, evs2, rfl, fun Hx x => ⟨x.g, x.ev2⟩, hlen2⟩
        | 2, hx => cases hx; exact ⟨fl, es, evs, rfl, fun Hx x => ⟨x.f, x.ev⟩, by omega⟩
        | j + 3, hx => simp at hx
      have h1 := hys _ X1
      walk_at "rd"
      refine own_played_due X1.q so (SqL.of h1.1) h1.2 (by omega) (fun due H7 k7 hdue => ?_)
      have X7 := X1.keep k7
      have h7 := hys _ X7
      clear X X1 h1 k7
      walk_at "rd"
      refine ⟨y, ey.map V.ref, rfl, Or.inl (SqL.of h7.1), fun hn nhn => ?_⟩
      have kh : Keep [] H7 (upd H7 hn (.lst (ey.map V.ref))) := Keep.refl.new nhn
      have X8 := X7.keep kh
      have D8 := hdue.ext kh.ext
      have hh8 : upd H7 hn (.lst (ey.map V.ref)) hn = some (.lst (ey.map V.ref)) := upd_same
      generalize upd H7 hn (.lst (ey.map V.ref)) = H8 at X8 D8 hh8 ⊢
      clear kh nhn X7 h7 hdue
      walk_at "rd"
      refine Ak.l_forR1 (by decide) (by decide) (fun _ σ' H' => ∃ v7 v8, σ' = [some (.ref a), some (.ref d), some (.ref q), some (.ref fl), some (.ref y), some due, some (.ref hn), v7, v8] ∧ LawB K [(PT, (envOfC "law" (defScope s_law) s.heap.objs.size f (.ref cL)).qual ++ "<lambda>")] q L fl g es es2 evs evs2 m wi l ah H' ∧ H' hn = some (.lst (ey.map V.ref)) ∧ DueAt H' due m wi l ah evy) ⟨v7, v8, rfl, X8, hh8, D8⟩ (fun i σ' H9 hi pv => ?_) (fun σ' H9 pv => ?_)
      · obtain ⟨v7, v8, rfl, X9, hh9, D9⟩ := pv
        clear X8 hh8 D8
        walk_at "rd"
        refine ⟨X9.t, fun H11 ext tb11 => ?_⟩
        have X11 := X9.ext ext tb11
        have D11 := D9.ext ext
        have hh11 := ext _ _ hh9 (fun _ z => by cases z)
        have y11 := hys _ X11
        clear X9 D9 hh9
        refine told_in ?_
        refine Ak.w_call (tr := tCons (tVar 2) (tCons (tVar 6) tNil)) ?_
        walk_at "rd"
        refine played_told X11.q so (SqL.of hh11) y11.2 (by omega) D11 (fun i2 e2 p H12 k12 hp => ?_) (fun t f2 ans ed ht hf hA good t2 f3 ans2 H12 nf3 k12 ht2 hf2 hA2 => ?_)
        · subst e2
          have X12 := X11.keep k12
          have D12 := D11.ext k12.ext
          have hh12 := k12.1 _ _ nin_nil hh11
          have y12 := hys _ X12
          clear X11 D11 hh11 y11 k12
          walk_at "rd"
          refine w_neSameEvs (SqL.of hh12) y12.2 (SqL.of y12.1) ?_
          walk_at "rd"
          rename_i u nu
          have ku : Keep [] H12 (upd H12 u (.tup [.str "event", .int (i2 : Nat)])) := Keep.refl.new nu
          refine like_go (al_tup (ku.1 _ _ nin_nil hp) upd_same (.cons al_str (.cons al_int .nil)) (Nat.le_of_ble_eq_true rfl)) ?_
          walk_at "rd"
          exact ⟨_, _, rfl, X12.keep ku, ku.1 _ _ nin_nil hh12, D12.ext ku.ext⟩
        · subst ed
          have X12 := X11.keep k12
          have D12 := D11.ext k12.ext
          have hh12 := k12.1 _ _ nin_nil hh11
          have y12 := hys _ X12
          have ht12 := k12.1 _ _ nin_nil ht
          have hf12 := k12.1 _ _ nin_nil hf
          have hA12 := hA.ext k12.ext
          have aB := ansW_B (m := m) (w := wi) (late := l) (a := ah) (by omega) o3 o4 (evs := evy) (s := ws0) WOk.init good.2
          walk_at "rd"
          refine w_neSameEvs (SqL.of hh12) y12.2 (SqL.of y12.1) ?_
          walk_at "rd"
          have l2 := hA2.len
          rw [ansW_len] at l2
          refine like_go (al_tup ht2 ht12 (.cons (al_lst hf2 hf12 (ansL_al hA2 hA12 aB) (by omega)) (.cons al_optV .nil)) (Nat.le_of_ble_eq_true rfl)) ?_
          clear D12 X12 hh12 y12 aB hA12 hA hf ht hf12
          walk_at "rd"
          rename_i u nu
          have ku : Keep [f3] H12 (upd (upd H12 u (.tup [])) f3 (.lst (ans2 ++ [.ref u]))) := Keep.set (Keep.refl.new nu) List.mem_cons_self
          have kk : Keep [] H11 (upd (upd H12 u (.tup [])) f3 (.lst (ans2 ++ [.ref u]))) := Keep.fresh ku (fun b hb => by rw [List.mem_singleton.mp hb]; exact nf3) k12
          exact ⟨_, _, rfl, X11.keep kk, kk.1 _ _ nin_nil hh11, D11.ext kk.ext⟩
      · obtain ⟨v7, v8, rfl, X9, hh9, D9⟩ := pv
        walk_at "rd"
        exact ⟨_, _, _, _, _, rfl, X9⟩
    · obtain ⟨v4, v5, v6, v7, v8, rfl, X1⟩ := pv
      walk_at "rd"
      exact k _
end
end Ak
namespace Ak
open PySem PySem.Spec PyProof.Rows L2
theorem all_mk {l : PySem.W.OpenLaw} {w : World} {K : PySem.W.Frag} {h : Heap} {mg : Str → Option Value} {fa A_Ear A_Mouth A_World A_BadBits A_Full A_BadEvent A_in_BadEvent A_cc_BadEvent A_cd_BadEvent A_BadSetting A_BitsError A_BadMark A_BadText A_l_told A_BOUNDS A_t1 A_t2 A_t3 A_t4 A_t5 A_t6 A_l_like A_l_next A_l_dice A_l_setting A_check_number A_check_mark A_check_setting A_Ear__oldest A_Ear_last A_Ear__number_of A_Ear__word_of A_Ear__keep A_Ear__bits A_Ear_tell A_Ear_come A_Ear___init A_check_bits A_check_telling A_Mouth___init A_Mouth_is_full A_Mouth_last A_Mouth_sure A_Mouth_send A_Mouth__numbers_of A_Mouth_hear A_l_ear A_l_taken A_l_come A_l_tell A_l_mouth A_l_is_full A_l_hear A_World__can_come A_World__can_be_heard A_World_can_be A_World__send A_World__tell A_World__come A_World__hear A_World_happen A_World___init A_played A_l_world A_l_can A_l_do A_l_event A_l_events A_l_played A_l_odd A_law A_code A_tab : Addr} {ocL kVL docL pmL ctL ocC : Value} {odL anL odC : Option Addr} {oslL oslC : Array (Option Value)} {vsC : Array Value} {esB : Array DictEntry} {nB : Nat} {tkM : Tok} {ocT kVT docT pmT cdT ctT : Value} {odT anT : Option Addr} {oslT : Array (Option Value)} {ofBadEvent cxBadEvent clBadEvent kVBadEvent docBadEvent pmBadEvent ctBadEvent : Value} {odBadEvent anBadEvent cdBadEvent cldBadEvent : Option Addr} {oslBadEvent cslBadEvent clsBadEvent : Array (Option Value)} {vsBadEvent : Array Value} {fileBadEvent : Str} {tfBadEvent : Tok}
    (X : K.In h) (G : h.Ns mainGlobals mg) (hfa : mg "law" = some (.ref fa))
    (a_Ear : PySem.W.nsIn K mainGlobals "Ear" = some (some (.ref A_Ear)))
    (pg_Ear : PySem.W.plainGet K A_Ear Str.empty = true)
    (hd_Ear : PySem.W.hasDictIn K A_Ear = true)
    (po_Ear : PySem.W.plainOver K A_Ear = true)
    (sa_Ear : PySem.W.findIn K (.ref A_Ear) "__setattr__" = some (some (.builtin "object.__setattr__")))
    (mk_Ear : PySem.W.makesIn K A_Ear = true)
    (kc_Ear : PySem.W.keepIn K (.ref A_Ear) = true)
    (na_Ear__marks : PySem.W.findIn K (.ref A_Ear) "_marks" = some none)
    (na_Ear__wide : PySem.W.findIn K (.ref A_Ear) "_wide" = some none)
    (na_Ear__late : PySem.W.findIn K (.ref A_Ear) "_late" = some none)
    (na_Ear__greatest : PySem.W.findIn K (.ref A_Ear) "_greatest" = some none)
    (na_Ear__came : PySem.W.findIn K (.ref A_Ear) "_came" = some none)
    (a_Mouth : PySem.W.nsIn K mainGlobals "Mouth" = some (some (.ref A_Mouth)))
    (pg_Mouth : PySem.W.plainGet K A_Mouth Str.empty = true)
    (hd_Mouth : PySem.W.hasDictIn K A_Mouth = true)
    (po_Mouth : PySem.W.plainOver K A_Mouth = true)
    (sa_Mouth : PySem.W.findIn K (.ref A_Mouth) "__setattr__" = some (some (.builtin "object.__setattr__")))
    (mk_Mouth : PySem.W.makesIn K A_Mouth = true)
    (kc_Mouth : PySem.W.keepIn K (.ref A_Mouth) = true)
    (na_Mouth__marks : PySem.W.findIn K (.ref A_Mouth) "_marks" = some none)
    (na_Mouth__wide : PySem.W.findIn K (.ref A_Mouth) "_wide" = some none)
    (na_Mouth__ahead : PySem.W.findIn K (.ref A_Mouth) "_ahead" = some none)
    (na_Mouth__last : PySem.W.findIn K (.ref A_Mouth) "_last" = some none)
    (na_Mouth__greatest : PySem.W.findIn K (.ref A_Mouth) "_greatest" = some none)
    (na_Mouth__sure : PySem.W.findIn K (.ref A_Mouth) "_sure" = some none)
    (a_World : PySem.W.nsIn K mainGlobals "World" = some (some (.ref A_World)))
    (pg_World : PySem.W.plainGet K A_World Str.empty = true)
    (hd_World : PySem.W.hasDictIn K A_World = true)
    (po_World : PySem.W.plainOver K A_World = true)
    (sa_World : PySem.W.findIn K (.ref A_World) "__setattr__" = some (some (.builtin "object.__setattr__")))
    (mk_World : PySem.W.makesIn K A_World = true)
    (kc_World : PySem.W.keepIn K (.ref A_World) = true)
    (na_World__mouth : PySem.W.findIn K (.ref A_World) "_mouth" = some none)
    (na_World__ear : PySem.W.findIn K (.ref A_World) "_ear" = some none)
    (na_World__late : PySem.W.findIn K (.ref A_World) "_late" = some none)
    (na_World__letters : PySem.W.findIn K (.ref A_World) "_letters" = some none)
    (na_World__tellings : PySem.W.findIn K (.ref A_World) "_tellings" = some none)
    (na_World__arrived : PySem.W.findIn K (.ref A_World) "_arrived" = some none)
    (a_BadBits : PySem.W.nsIn K mainGlobals "BadBits" = some (some (.ref A_BadBits)))
    (xq_BadBits : PySem.W.excIn K A_BadBits [.type "ValueError", .type "Exception", .type "BaseException", .type "object"] "ValueError.__new__" = true)
    (xk_BadBits : PySem.W.keepIn K (.ref A_BadBits) = true)
    (xs_BadBits : PySem.W.subIn K (.ref A_BadBits) (.type "BaseException") = some true)
    (xt_BadBits : PySem.W.typeIn K (.ref A_BadBits) = some (.type "type"))
    (a_Full : PySem.W.nsIn K mainGlobals "Full" = some (some (.ref A_Full)))
    (xq_Full : PySem.W.excIn K A_Full [.type "ValueError", .type "Exception", .type "BaseException", .type "object"] "ValueError.__new__" = true)
    (xk_Full : PySem.W.keepIn K (.ref A_Full) = true)
    (xs_Full : PySem.W.subIn K (.ref A_Full) (.type "BaseException") = some true)
    (xt_Full : PySem.W.typeIn K (.ref A_Full) = some (.type "type"))
    (a_BadEvent : PySem.W.nsIn K mainGlobals "BadEvent" = some (some (.ref A_BadEvent)))
    (xk_BadEvent : PySem.W.keepIn K (.ref A_BadEvent) = true)
    (xs_BadEvent : PySem.W.subIn K (.ref A_BadEvent) (.type "BaseException") = some true)
    (xt_BadEvent : PySem.W.typeIn K (.ref A_BadEvent) = some (.type "type"))
    (rq_BadEvent : Ak.oexIn K A_BadEvent = true)
    (sa_BadEvent : PySem.W.findIn K (.ref A_BadEvent) "__setattr__" = some (some (.builtin "object.__setattr__")))
    (ci_BadEvent : PySem.W.findIn K (.ref A_BadEvent) "__init__" = some (some (.ref A_in_BadEvent)))
    (ti_BadEvent : PySem.W.typeIn K (.ref A_in_BadEvent) = some (.type "function"))
    (ni_BadEvent : PySem.W.findIn K (.ref A_BadEvent) "number" = some none)
    (ri_lk_BadEvent : K.lookup A_in_BadEvent = some ⟨ofBadEvent, odBadEvent, .func (Ak.supD "BadEvent.__init__" s_BadEvent___init A_cc_BadEvent A_cd_BadEvent kVBadEvent docBadEvent pmBadEvent ctBadEvent anBadEvent), oslBadEvent⟩)
    (ri_hc_BadEvent : PySem.W.codeIn K (.ref A_cd_BadEvent) "BadEvent.__init__" = true)
    (ri_lc_BadEvent : K.lookup A_cd_BadEvent = some ⟨cxBadEvent, cdBadEvent, .fields vsBadEvent, cslBadEvent⟩)
    (ri_v2_BadEvent : (vsBadEvent[2]? : Option Value) = some (.str fileBadEvent tfBadEvent))
    (ri_fl_BadEvent : ((l.prog.main.file : Str) == fileBadEvent) = true)
    (ri_tp : (l.prog.main.scope.names.lookup ("super" : Str)).isSome = false)
    (ri_ce_BadEvent : K.lookup A_cc_BadEvent = some ⟨clBadEvent, cldBadEvent, .cell (some (.ref A_BadEvent)), clsBadEvent⟩)
    (ri_dc_BadEvent : (PySem.W.clsIn K A_BadEvent).isSome = true)
    (ri_sb_BadEvent : PySem.W.mroIn K A_BadEvent (.ref A_BadEvent) = some true)
    (ri_op : PySem.W.nsIn K cStatics "thirdparty.any" = some none)
    (ri_su_BadEvent : PySem.W.ks_superIn K A_BadEvent A_BadEvent "__init__" = some (some (.builtin "ValueError.__init__")))
    (ri_sv_BadEvent : PySem.W.subIn K (.ref A_BadEvent) (.type "ValueError") = some true)
    (z_super : PySem.W.nsIn K mainGlobals "super" = some none)
    (a_BadSetting : PySem.W.nsIn K mainGlobals "BadSetting" = some (some (.ref A_BadSetting)))
    (a_BitsError : PySem.W.nsIn K mainGlobals "BitsError" = some (some (.ref A_BitsError)))
    (a_BadMark : PySem.W.nsIn K mainGlobals "BadMark" = some (some (.ref A_BadMark)))
    (a_BadText : PySem.W.nsIn K mainGlobals "BadText" = some (some (.ref A_BadText)))
    (oh_BadSetting_0 : PySem.W.findIn K (.ref A_BadSetting) "__getattribute__" = some (some (.builtin "BaseException.__getattribute__")))
    (oh_BadSetting_1 : PySem.W.findIn K (.ref A_BadSetting) "__getattr__" = some none)
    (oh_BadSetting_2 : PySem.W.subIn K (.ref A_BadSetting) (.type "BaseException") = some true)
    (oh_BadSetting_3 : PySem.W.hasDictIn K A_BadSetting = true)
    (oh_BadSetting_4 : PySem.W.findIn K (.ref A_BadSetting) "__class__" = some (some (.builtin "object.__class__")))
    (oc_hn : PySem.W.specialIn K (.builtin "object.__class__") "__get__" = some (some (.builtin "getset_descriptor.__get__")))
    (oc_ht : PySem.W.takesIn K (.builtin "object.__class__") = some true)
    (om_BadSetting : PySem.W.mroIn K A_BadSetting (.type "object") = some true)
    (ok_BadSetting_0 : PySem.W.kitOne K (.ref A_BadSetting) (.ref A_BadSetting) = some true)
    (ok_BadSetting_1 : PySem.W.kitOne K (.ref A_BadSetting) (.ref A_BadMark) = some false)
    (ok_BadSetting_2 : PySem.W.kitOne K (.ref A_BadSetting) (.ref A_BadBits) = some false)
    (ok_BadSetting_3 : PySem.W.kitOne K (.ref A_BadSetting) (.ref A_Full) = some false)
    (ok_BadSetting_4 : PySem.W.kitOne K (.ref A_BadSetting) (.ref A_BadEvent) = some false)
    (ok_BadSetting_5 : PySem.W.kitOne K (.ref A_BadSetting) (.ref A_BadText) = some false)
    (ox_BadSetting : PySem.W.exmOne K (.ref A_BadSetting) (.ref A_BitsError) = some true)
    (ov_BadSetting : PySem.W.kitOne K (.ref A_BadSetting) (.type "ValueError") = some true)
    (oh_BadMark_0 : PySem.W.findIn K (.ref A_BadMark) "__getattribute__" = some (some (.builtin "BaseException.__getattribute__")))
    (oh_BadMark_1 : PySem.W.findIn K (.ref A_BadMark) "__getattr__" = some none)
    (oh_BadMark_2 : PySem.W.subIn K (.ref A_BadMark) (.type "BaseException") = some true)
    (oh_BadMark_3 : PySem.W.hasDictIn K A_BadMark = true)
    (oh_BadMark_4 : PySem.W.findIn K (.ref A_BadMark) "__class__" = some (some (.builtin "object.__class__")))
    (om_BadMark : PySem.W.mroIn K A_BadMark (.type "object") = some true)
    (ok_BadMark_0 : PySem.W.kitOne K (.ref A_BadMark) (.ref A_BadSetting) = some false)
    (ok_BadMark_1 : PySem.W.kitOne K (.ref A_BadMark) (.ref A_BadMark) = some true)
    (ok_BadMark_2 : PySem.W.kitOne K (.ref A_BadMark) (.ref A_BadBits) = some false)
    (ok_BadMark_3 : PySem.W.kitOne K (.ref A_BadMark) (.ref A_Full) = some false)
    (ok_BadMark_4 : PySem.W.kitOne K (.ref A_BadMark) (.ref A_BadEvent) = some false)
    (ok_BadMark_5 : PySem.W.kitOne K (.ref A_BadMark) (.ref A_BadText) = some false)
    (ox_BadMark : PySem.W.exmOne K (.ref A_BadMark) (.ref A_BitsError) = some true)
    (ov_BadMark : PySem.W.kitOne K (.ref A_BadMark) (.type "ValueError") = some true)
    (oh_BadBits_0 : PySem.W.findIn K (.ref A_BadBits) "__getattribute__" = some (some (.builtin "BaseException.__getattribute__")))
    (oh_BadBits_1 : PySem.W.findIn K (.ref A_BadBits) "__getattr__" = some none)
    (oh_BadBits_2 : PySem.W.subIn K (.ref A_BadBits) (.type "BaseException") = some true)
    (oh_BadBits_3 : PySem.W.hasDictIn K A_BadBits = true)
    (oh_BadBits_4 : PySem.W.findIn K (.ref A_BadBits) "__class__" = some (some (.builtin "object.__class__")))
    (om_BadBits : PySem.W.mroIn K A_BadBits (.type "object") = some true)
    (ok_BadBits_0 : PySem.W.kitOne K (.ref A_BadBits) (.ref A_BadSetting) = some false)
    (ok_BadBits_1 : PySem.W.kitOne K (.ref A_BadBits) (.ref A_BadMark) = some false)
    (ok_BadBits_2 : PySem.W.kitOne K (.ref A_BadBits) (.ref A_BadBits) = some true)
    (ok_BadBits_3 : PySem.W.kitOne K (.ref A_BadBits) (.ref A_Full) = some false)
    (ok_BadBits_4 : PySem.W.kitOne K (.ref A_BadBits) (.ref A_BadEvent) = some false)
    (ok_BadBits_5 : PySem.W.kitOne K (.ref A_BadBits) (.ref A_BadText) = some false)
    (ox_BadBits : PySem.W.exmOne K (.ref A_BadBits) (.ref A_BitsError) = some true)
    (ov_BadBits : PySem.W.kitOne K (.ref A_BadBits) (.type "ValueError") = some true)
    (oh_Full_0 : PySem.W.findIn K (.ref A_Full) "__getattribute__" = some (some (.builtin "BaseException.__getattribute__")))
    (oh_Full_1 : PySem.W.findIn K (.ref A_Full) "__getattr__" = some none)
    (oh_Full_2 : PySem.W.subIn K (.ref A_Full) (.type "BaseException") = some true)
    (oh_Full_3 : PySem.W.hasDictIn K A_Full = true)
    (oh_Full_4 : PySem.W.findIn K (.ref A_Full) "__class__" = some (some (.builtin "object.__class__")))
    (om_Full : PySem.W.mroIn K A_Full (.type "object") = some true)
    (ok_Full_0 : PySem.W.kitOne K (.ref A_Full) (.ref A_BadSetting) = some false)
    (ok_Full_1 : PySem.W.kitOne K (.ref A_Full) (.ref A_BadMark) = some false)
    (ok_Full_2 : PySem.W.kitOne K (.ref A_Full) (.ref A_BadBits) = some false)
    (ok_Full_3 : PySem.W.kitOne K (.ref A_Full) (.ref A_Full) = some true)
    (ok_Full_4 : PySem.W.kitOne K (.ref A_Full) (.ref A_BadEvent) = some false)
    (ok_Full_5 : PySem.W.kitOne K (.ref A_Full) (.ref A_BadText) = some false)
    (ox_Full : PySem.W.exmOne K (.ref A_Full) (.ref A_BitsError) = some true)
    (ov_Full : PySem.W.kitOne K (.ref A_Full) (.type "ValueError") = some true)
    (oh_BadEvent_0 : PySem.W.findIn K (.ref A_BadEvent) "__getattribute__" = some (some (.builtin "BaseException.__getattribute__")))
    (oh_BadEvent_1 : PySem.W.findIn K (.ref A_BadEvent) "__getattr__" = some none)
    (oh_BadEvent_2 : PySem.W.subIn K (.ref A_BadEvent) (.type "BaseException") = some true)
    (oh_BadEvent_3 : PySem.W.hasDictIn K A_BadEvent = true)
    (oh_BadEvent_4 : PySem.W.findIn K (.ref A_BadEvent) "__class__" = some (some (.builtin "object.__class__")))
    (om_BadEvent : PySem.W.mroIn K A_BadEvent (.type "object") = some true)
    (ok_BadEvent_0 : PySem.W.kitOne K (.ref A_BadEvent) (.ref A_BadSetting) = some false)
    (ok_BadEvent_1 : PySem.W.kitOne K (.ref A_BadEvent) (.ref A_BadMark) = some false)
    (ok_BadEvent_2 : PySem.W.kitOne K (.ref A_BadEvent) (.ref A_BadBits) = some false)
    (ok_BadEvent_3 : PySem.W.kitOne K (.ref A_BadEvent) (.ref A_Full) = some false)
    (ok_BadEvent_4 : PySem.W.kitOne K (.ref A_BadEvent) (.ref A_BadEvent) = some true)
    (ok_BadEvent_5 : PySem.W.kitOne K (.ref A_BadEvent) (.ref A_BadText) = some false)
    (ox_BadEvent : PySem.W.exmOne K (.ref A_BadEvent) (.ref A_BitsError) = some true)
    (ov_BadEvent : PySem.W.kitOne K (.ref A_BadEvent) (.type "ValueError") = some true)
    (oh_BadText_0 : PySem.W.findIn K (.ref A_BadText) "__getattribute__" = some (some (.builtin "BaseException.__getattribute__")))
    (oh_BadText_1 : PySem.W.findIn K (.ref A_BadText) "__getattr__" = some none)
    (oh_BadText_2 : PySem.W.subIn K (.ref A_BadText) (.type "BaseException") = some true)
    (oh_BadText_3 : PySem.W.hasDictIn K A_BadText = true)
    (oh_BadText_4 : PySem.W.findIn K (.ref A_BadText) "__class__" = some (some (.builtin "object.__class__")))
    (om_BadText : PySem.W.mroIn K A_BadText (.type "object") = some true)
    (ok_BadText_0 : PySem.W.kitOne K (.ref A_BadText) (.ref A_BadSetting) = some false)
    (ok_BadText_1 : PySem.W.kitOne K (.ref A_BadText) (.ref A_BadMark) = some false)
    (ok_BadText_2 : PySem.W.kitOne K (.ref A_BadText) (.ref A_BadBits) = some false)
    (ok_BadText_3 : PySem.W.kitOne K (.ref A_BadText) (.ref A_Full) = some false)
    (ok_BadText_4 : PySem.W.kitOne K (.ref A_BadText) (.ref A_BadEvent) = some false)
    (ok_BadText_5 : PySem.W.kitOne K (.ref A_BadText) (.ref A_BadText) = some true)
    (ox_BadText : PySem.W.exmOne K (.ref A_BadText) (.ref A_BitsError) = some true)
    (ov_BadText : PySem.W.kitOne K (.ref A_BadText) (.type "ValueError") = some true)
    (tc_s1 : (PySem.W.clsIn K A_BadSetting).isSome = true)
    (tc_n1 : PySem.W.findIn K (.ref A_BadSetting) "word" = some none)
    (tc_s5 : (PySem.W.clsIn K A_BadEvent).isSome = true)
    (tc_n5 : PySem.W.findIn K (.ref A_BadEvent) "number" = some none)
    (tc_s6 : (PySem.W.clsIn K A_BadText).isSome = true)
    (tc_n6 : PySem.W.findIn K (.ref A_BadText) "place" = some none)
    (a_MOST : PySem.W.nsIn K mainGlobals "MOST_EVENTS" = some (some (.int 400 tkM)))
    (xm_BadBits : PySem.W.exmOne K (.ref A_BadBits) (.ref A_BadBits) = some true)
    (a_l_told : PySem.W.nsIn K mainGlobals "_law_told" = some (some (.ref A_l_told)))
    (lkT : K.lookup A_l_told = some ⟨ocT, odT, .func (PySem.W.fnOf "_law_told" "_law_told" (defArgs s_l_told) (defBody s_l_told) (defScope s_l_told) .none kVT docT pmT anT cdT ctT), oslT⟩)
    (hcT : PySem.W.codeIn K cdT "_law_told" = true)
    (hkT : PySem.W.keepIn K (.ref A_l_told) = true)
    (a_BOUNDS : PySem.W.nsIn K mainGlobals "BOUNDS" = some (some (.ref A_BOUNDS)))
    (lkB : K.lookup A_BOUNDS = some { cls := .type "dict", data := .dict esB nB })
    (klB : PySem.W.KeysLit w.params esB.toList)
    (nB1 : PySem.W.nsIn K A_BOUNDS "marks" = some (some (.ref A_t1)))
    (nB2 : PySem.W.nsIn K A_BOUNDS "wide" = some (some (.ref A_t2)))
    (nB3 : PySem.W.nsIn K A_BOUNDS "late" = some (some (.ref A_t3)))
    (nB4 : PySem.W.nsIn K A_BOUNDS "ahead" = some (some (.ref A_t4)))
    (nB5 : PySem.W.nsIn K A_BOUNDS "room" = some (some (.ref A_t5)))
    (nB6 : PySem.W.nsIn K A_BOUNDS "wait" = some (some (.ref A_t6)))
    (sB1 : ∀ H, SqT K H A_t1 [.int 2, .int 64])
    (sB2 : ∀ H, SqT K H A_t2 [.int 0, .int 16])
    (sB3 : ∀ H, SqT K H A_t3 [.int 0, .int 8])
    (sB4 : ∀ H, SqT K H A_t4 [.int 1, .int 16])
    (sB5 : ∀ H, SqT K H A_t5 [.int 1, .int 8])
    (sB6 : ∀ H, SqT K H A_t6 [.int 1, .int 20])
    (F_l_like : ∃ fd, L2.Fun K "_law_like" "_law_like" s_l_like A_l_like fd)
    (a_l_like : PySem.W.nsIn K mainGlobals "_law_like" = some (some (.ref A_l_like)))
    (z_isinstance : PySem.W.nsIn K mainGlobals "isinstance" = some none)
    (z_bool : PySem.W.nsIn K mainGlobals "bool" = some none)
    (z_str : PySem.W.nsIn K mainGlobals "str" = some none)
    (z_int : PySem.W.nsIn K mainGlobals "int" = some none)
    (z_dict : PySem.W.nsIn K mainGlobals "dict" = some none)
    (z_tuple : PySem.W.nsIn K mainGlobals "tuple" = some none)
    (z_list : PySem.W.nsIn K mainGlobals "list" = some none)
    (z_len : PySem.W.nsIn K mainGlobals "len" = some none)
    (z_range : PySem.W.nsIn K mainGlobals "range" = some none)
    (F_l_next : ∃ fd, L2.Fun K "_law_next" "_law_next" s_l_next A_l_next fd)
    (a_l_next : PySem.W.nsIn K mainGlobals "_law_next" = some (some (.ref A_l_next)))
    (F_l_dice : ∃ fd, L2.Fun K "_law_dice" "_law_dice" s_l_dice A_l_dice fd)
    (a_l_dice : PySem.W.nsIn K mainGlobals "_law_dice" = some (some (.ref A_l_dice)))
    (F_l_setting : ∃ fd, L2.Fun K "_law_setting" "_law_setting" s_l_setting A_l_setting fd)
    (z_max : PySem.W.nsIn K mainGlobals "max" = some none)
    (z_min : PySem.W.nsIn K mainGlobals "min" = some none)
    (a_l_setting : PySem.W.nsIn K mainGlobals "_law_setting" = some (some (.ref A_l_setting)))
    (F_check_number : ∃ fd, L2.Fun K "check_number" "check_number" s_check_number A_check_number fd)
    (a_check_number : PySem.W.nsIn K mainGlobals "check_number" = some (some (.ref A_check_number)))
    (F_check_mark : ∃ fd, L2.Fun K "check_mark" "check_mark" s_check_mark A_check_mark fd)
    (a_check_mark : PySem.W.nsIn K mainGlobals "check_mark" = some (some (.ref A_check_mark)))
    (F_check_setting : ∃ fd, L2.Fun K "check_setting" "check_setting" s_check_setting A_check_setting fd)
    (a_check_setting : PySem.W.nsIn K mainGlobals "check_setting" = some (some (.ref A_check_setting)))
    (F_Ear__oldest : ∃ fd, L2.Fun K "_oldest" "Ear._oldest" s_Ear__oldest A_Ear__oldest fd)
    (ci_Ear__oldest : PySem.W.findIn K (.ref A_Ear) "_oldest" = some (some (.ref A_Ear__oldest)))
    (ii_Ear__oldest : PySem.W.isFn K (.ref A_Ear__oldest) = true)
    (F_Ear_last : ∃ fd, L2.Fun K "last" "Ear.last" s_Ear_last A_Ear_last fd)
    (ci_Ear_last : PySem.W.findIn K (.ref A_Ear) "last" = some (some (.ref A_Ear_last)))
    (ii_Ear_last : PySem.W.isFn K (.ref A_Ear_last) = true)
    (F_Ear__number_of : ∃ fd, L2.Fun K "_number_of" "Ear._number_of" s_Ear__number_of A_Ear__number_of fd)
    (ci_Ear__number_of : PySem.W.findIn K (.ref A_Ear) "_number_of" = some (some (.ref A_Ear__number_of)))
    (ii_Ear__number_of : PySem.W.isFn K (.ref A_Ear__number_of) = true)
    (F_Ear__word_of : ∃ fd, L2.Fun K "_word_of" "Ear._word_of" s_Ear__word_of A_Ear__word_of fd)
    (ci_Ear__word_of : PySem.W.findIn K (.ref A_Ear) "_word_of" = some (some (.ref A_Ear__word_of)))
    (ii_Ear__word_of : PySem.W.isFn K (.ref A_Ear__word_of) = true)
    (F_Ear__keep : ∃ fd, L2.Fun K "_keep" "Ear._keep" s_Ear__keep A_Ear__keep fd)
    (ci_Ear__keep : PySem.W.findIn K (.ref A_Ear) "_keep" = some (some (.ref A_Ear__keep)))
    (ii_Ear__keep : PySem.W.isFn K (.ref A_Ear__keep) = true)
    (F_Ear__bits : ∃ fd, L2.Fun K "_bits" "Ear._bits" s_Ear__bits A_Ear__bits fd)
    (ci_Ear__bits : PySem.W.findIn K (.ref A_Ear) "_bits" = some (some (.ref A_Ear__bits)))
    (ii_Ear__bits : PySem.W.isFn K (.ref A_Ear__bits) = true)
    (F_Ear_tell : ∃ fd, L2.Fun K "tell" "Ear.tell" s_Ear_tell A_Ear_tell fd)
    (ci_Ear_tell : PySem.W.findIn K (.ref A_Ear) "tell" = some (some (.ref A_Ear_tell)))
    (ii_Ear_tell : PySem.W.isFn K (.ref A_Ear_tell) = true)
    (F_Ear_come : ∃ fd, L2.Fun K "come" "Ear.come" s_Ear_come A_Ear_come fd)
    (ci_Ear_come : PySem.W.findIn K (.ref A_Ear) "come" = some (some (.ref A_Ear_come)))
    (ii_Ear_come : PySem.W.isFn K (.ref A_Ear_come) = true)
    (F_Ear___init : ∃ fd, L2.Fun K "__init__" "Ear.__init__" s_Ear___init A_Ear___init fd)
    (ci_Ear___init : PySem.W.findIn K (.ref A_Ear) "__init__" = some (some (.ref A_Ear___init)))
    (ii_Ear___init : PySem.W.isFn K (.ref A_Ear___init) = true)
    (F_check_bits : ∃ fd, L2.Fun K "check_bits" "check_bits" s_check_bits A_check_bits fd)
    (a_check_bits : PySem.W.nsIn K mainGlobals "check_bits" = some (some (.ref A_check_bits)))
    (F_check_telling : ∃ fd, L2.Fun K "check_telling" "check_telling" s_check_telling A_check_telling fd)
    (a_check_telling : PySem.W.nsIn K mainGlobals "check_telling" = some (some (.ref A_check_telling)))
    (F_Mouth___init : ∃ fd, L2.Fun K "__init__" "Mouth.__init__" s_Mouth___init A_Mouth___init fd)
    (ci_Mouth___init : PySem.W.findIn K (.ref A_Mouth) "__init__" = some (some (.ref A_Mouth___init)))
    (ii_Mouth___init : PySem.W.isFn K (.ref A_Mouth___init) = true)
    (F_Mouth_is_full : ∃ fd, L2.Fun K "is_full" "Mouth.is_full" s_Mouth_is_full A_Mouth_is_full fd)
    (ci_Mouth_is_full : PySem.W.findIn K (.ref A_Mouth) "is_full" = some (some (.ref A_Mouth_is_full)))
    (ii_Mouth_is_full : PySem.W.isFn K (.ref A_Mouth_is_full) = true)
    (F_Mouth_last : ∃ fd, L2.Fun K "last" "Mouth.last" s_Mouth_last A_Mouth_last fd)
    (ci_Mouth_last : PySem.W.findIn K (.ref A_Mouth) "last" = some (some (.ref A_Mouth_last)))
    (ii_Mouth_last : PySem.W.isFn K (.ref A_Mouth_last) = true)
    (F_Mouth_sure : ∃ fd, L2.Fun K "sure" "Mouth.sure" s_Mouth_sure A_Mouth_sure fd)
    (z_sorted : PySem.W.nsIn K mainGlobals "sorted" = some none)
    (ci_Mouth_sure : PySem.W.findIn K (.ref A_Mouth) "sure" = some (some (.ref A_Mouth_sure)))
    (ii_Mouth_sure : PySem.W.isFn K (.ref A_Mouth_sure) = true)
    (F_Mouth_send : ∃ fd, L2.Fun K "send" "Mouth.send" s_Mouth_send A_Mouth_send fd)
    (ci_Mouth_send : PySem.W.findIn K (.ref A_Mouth) "send" = some (some (.ref A_Mouth_send)))
    (ii_Mouth_send : PySem.W.isFn K (.ref A_Mouth_send) = true)
    (F_Mouth__numbers_of : ∃ fd, L2.Fun K "_numbers_of" "Mouth._numbers_of" s_Mouth__numbers_of A_Mouth__numbers_of fd)
    (z_enumerate : PySem.W.nsIn K mainGlobals "enumerate" = some none)
    (ci_Mouth__numbers_of : PySem.W.findIn K (.ref A_Mouth) "_numbers_of" = some (some (.ref A_Mouth__numbers_of)))
    (ii_Mouth__numbers_of : PySem.W.isFn K (.ref A_Mouth__numbers_of) = true)
    (F_Mouth_hear : ∃ fd, L2.Fun K "hear" "Mouth.hear" s_Mouth_hear A_Mouth_hear fd)
    (ci_Mouth_hear : PySem.W.findIn K (.ref A_Mouth) "hear" = some (some (.ref A_Mouth_hear)))
    (ii_Mouth_hear : PySem.W.isFn K (.ref A_Mouth_hear) = true)
    (F_l_ear : ∃ fd, L2.Fun K "_law_ear" "_law_ear" s_l_ear A_l_ear fd)
    (a_l_ear : PySem.W.nsIn K mainGlobals "_law_ear" = some (some (.ref A_l_ear)))
    (F_l_taken : ∃ fd, L2.Fun K "_law_taken" "_law_taken" s_l_taken A_l_taken fd)
    (a_l_taken : PySem.W.nsIn K mainGlobals "_law_taken" = some (some (.ref A_l_taken)))
    (F_l_come : ∃ fd, L2.Fun K "_law_come" "_law_come" s_l_come A_l_come fd)
    (a_l_come : PySem.W.nsIn K mainGlobals "_law_come" = some (some (.ref A_l_come)))
    (F_l_tell : ∃ fd, L2.Fun K "_law_tell" "_law_tell" s_l_tell A_l_tell fd)
    (a_l_tell : PySem.W.nsIn K mainGlobals "_law_tell" = some (some (.ref A_l_tell)))
    (F_l_mouth : ∃ fd, L2.Fun K "_law_mouth" "_law_mouth" s_l_mouth A_l_mouth fd)
    (a_l_mouth : PySem.W.nsIn K mainGlobals "_law_mouth" = some (some (.ref A_l_mouth)))
    (F_l_is_full : ∃ fd, L2.Fun K "_law_is_full" "_law_is_full" s_l_is_full A_l_is_full fd)
    (a_l_is_full : PySem.W.nsIn K mainGlobals "_law_is_full" = some (some (.ref A_l_is_full)))
    (F_l_hear : ∃ fd, L2.Fun K "_law_hear" "_law_hear" s_l_hear A_l_hear fd)
    (a_l_hear : PySem.W.nsIn K mainGlobals "_law_hear" = some (some (.ref A_l_hear)))
    (F_World__can_come : ∃ fd, L2.Fun K "_can_come" "World._can_come" s_World__can_come A_World__can_come fd)
    (ci_World__can_come : PySem.W.findIn K (.ref A_World) "_can_come" = some (some (.ref A_World__can_come)))
    (ii_World__can_come : PySem.W.isFn K (.ref A_World__can_come) = true)
    (F_World__can_be_heard : ∃ fd, L2.Fun K "_can_be_heard" "World._can_be_heard" s_World__can_be_heard A_World__can_be_heard fd)
    (ci_World__can_be_heard : PySem.W.findIn K (.ref A_World) "_can_be_heard" = some (some (.ref A_World__can_be_heard)))
    (ii_World__can_be_heard : PySem.W.isFn K (.ref A_World__can_be_heard) = true)
    (F_World_can_be : ∃ fd, L2.Fun K "can_be" "World.can_be" s_World_can_be A_World_can_be fd)
    (ci_World_can_be : PySem.W.findIn K (.ref A_World) "can_be" = some (some (.ref A_World_can_be)))
    (ii_World_can_be : PySem.W.isFn K (.ref A_World_can_be) = true)
    (F_World__send : ∃ fd, L2.Fun K "_send" "World._send" s_World__send A_World__send fd)
    (ci_World__send : PySem.W.findIn K (.ref A_World) "_send" = some (some (.ref A_World__send)))
    (ii_World__send : PySem.W.isFn K (.ref A_World__send) = true)
    (F_World__tell : ∃ fd, L2.Fun K "_tell" "World._tell" s_World__tell A_World__tell fd)
    (ci_World__tell : PySem.W.findIn K (.ref A_World) "_tell" = some (some (.ref A_World__tell)))
    (ii_World__tell : PySem.W.isFn K (.ref A_World__tell) = true)
    (F_World__come : ∃ fd, L2.Fun K "_come" "World._come" s_World__come A_World__come fd)
    (ci_World__come : PySem.W.findIn K (.ref A_World) "_come" = some (some (.ref A_World__come)))
    (ii_World__come : PySem.W.isFn K (.ref A_World__come) = true)
    (F_World__hear : ∃ fd, L2.Fun K "_hear" "World._hear" s_World__hear A_World__hear fd)
    (z_any : PySem.W.nsIn K mainGlobals "any" = some none)
    (ci_World__hear : PySem.W.findIn K (.ref A_World) "_hear" = some (some (.ref A_World__hear)))
    (ii_World__hear : PySem.W.isFn K (.ref A_World__hear) = true)
    (F_World_happen : ∃ fd, L2.Fun K "happen" "World.happen" s_World_happen A_World_happen fd)
    (ci_World_happen : PySem.W.findIn K (.ref A_World) "happen" = some (some (.ref A_World_happen)))
    (ii_World_happen : PySem.W.isFn K (.ref A_World_happen) = true)
    (F_World___init : ∃ fd, L2.Fun K "__init__" "World.__init__" s_World___init A_World___init fd)
    (ci_World___init : PySem.W.findIn K (.ref A_World) "__init__" = some (some (.ref A_World___init)))
    (ii_World___init : PySem.W.isFn K (.ref A_World___init) = true)
    (F_played : ∃ fd, L2.Fun K "played" "played" s_played A_played fd)
    (a_played : PySem.W.nsIn K mainGlobals "played" = some (some (.ref A_played)))
    (F_l_world : ∃ fd, L2.Fun K "_law_world" "_law_world" s_l_world A_l_world fd)
    (a_l_world : PySem.W.nsIn K mainGlobals "_law_world" = some (some (.ref A_l_world)))
    (F_l_can : ∃ fd, L2.Fun K "_law_can" "_law_can" s_l_can A_l_can fd)
    (a_l_can : PySem.W.nsIn K mainGlobals "_law_can" = some (some (.ref A_l_can)))
    (F_l_do : ∃ fd, L2.Fun K "_law_do" "_law_do" s_l_do A_l_do fd)
    (a_l_do : PySem.W.nsIn K mainGlobals "_law_do" = some (some (.ref A_l_do)))
    (F_l_event : ∃ fd, L2.Fun K "_law_event" "_law_event" s_l_event A_l_event fd)
    (a_l_event : PySem.W.nsIn K mainGlobals "_law_event" = some (some (.ref A_l_event)))
    (F_l_events : ∃ fd, L2.Fun K "_law_events" "_law_events" s_l_events A_l_events fd)
    (a_l_events : PySem.W.nsIn K mainGlobals "_law_events" = some (some (.ref A_l_events)))
    (F_l_played : ∃ fd, L2.Fun K "_law_played" "_law_played" s_l_played A_l_played fd)
    (a_l_played : PySem.W.nsIn K mainGlobals "_law_played" = some (some (.ref A_l_played)))
    (F_l_odd : ∃ fd, L2.Fun K "_law_odd" "_law_odd" s_l_odd A_l_odd fd)
    (a_l_odd : PySem.W.nsIn K mainGlobals "_law_odd" = some (some (.ref A_l_odd)))
    (a_law : PySem.W.nsIn K mainGlobals "law" = some (some (.ref A_law)))
    (lk_law : K.lookup A_law = some ⟨ocL, odL, .func (PySem.W.fnOf "law" "law" (defArgs s_law) (defBody s_law) (defScope s_law) .none kVL docL pmL anL (.ref A_code) ctL), oslL⟩)
    (hc_law : PySem.W.codeIn K (.ref A_code) "law" = true)
    (lk_code : K.lookup A_code = some ⟨ocC, odC, .fields vsC, oslC⟩)
    (ht_law : (vsC[11]? : Option Value) = some (.ref A_tab))
    (hh_law : PySem.W.codeHdIn K A_code A_tab = true)
    (nt_law : K.lookup A_tab = none)
    (z_ValueError : PySem.W.nsIn K mainGlobals "ValueError" = some none)
    (hT : h.get? A_tab = some { cls := .none, data := .fields #[] }) : LamX.LawAtS l w K (L2.CX l.prog w) 10 63 "_law_script" mg fa h := by
  have e0 := hfa.symm.trans (PySem.W.mg_of X G a_law)
  cases e0
  have cl_Ear : Cls K A_Ear := ⟨pg_Ear, hd_Ear, po_Ear, sa_Ear⟩
  have cl_Mouth : Cls K A_Mouth := ⟨pg_Mouth, hd_Mouth, po_Mouth, sa_Mouth⟩
  have cl_World : Cls K A_World := ⟨pg_World, hd_World, po_World, sa_World⟩
  have T_EarT : EarT K A_Ear := ⟨cl_Ear, na_Ear__marks, na_Ear__wide, na_Ear__late, na_Ear__greatest, na_Ear__came⟩
  have T_MouthT : MouthT K A_Mouth := ⟨cl_Mouth, na_Mouth__marks, na_Mouth__wide, na_Mouth__ahead, na_Mouth__last, na_Mouth__greatest, na_Mouth__sure⟩
  have T_WorldT : WorldT K A_World := ⟨cl_World, na_World__mouth, na_World__ear, na_World__late, na_World__letters, na_World__tellings, na_World__arrived⟩
  have x_BadBits : RaiseC K mg "BadBits" A_BadBits := ⟨xq_BadBits, PySem.W.mg_of X G a_BadBits, xk_BadBits, xs_BadBits, xt_BadBits⟩
  have x_Full : RaiseC K mg "Full" A_Full := ⟨xq_Full, PySem.W.mg_of X G a_Full, xk_Full, xs_Full, xt_Full⟩
  have T_BadEvent : OexC K A_BadEvent := ⟨Ak.oex_of rq_BadEvent, sa_BadEvent, xs_BadEvent, xt_BadEvent, xk_BadEvent⟩
  have S_BadEvent : SupF l.prog K mg A_BadEvent A_in_BadEvent A_cc_BadEvent A_cd_BadEvent (Ak.supD "BadEvent.__init__" s_BadEvent___init A_cc_BadEvent A_cd_BadEvent kVBadEvent docBadEvent pmBadEvent ctBadEvent anBadEvent) "self" ofBadEvent cxBadEvent odBadEvent cdBadEvent oslBadEvent cslBadEvent vsBadEvent fileBadEvent tfBadEvent clBadEvent cldBadEvent clsBadEvent := ⟨ri_lk_BadEvent, ⟨_, rfl, rfl⟩, ri_lc_BadEvent, ri_v2_BadEvent, ri_fl_BadEvent, ri_tp, ri_ce_BadEvent, ri_dc_BadEvent, ri_sb_BadEvent, (PySem.W.mg_none_of X G z_super), ri_op, ri_su_BadEvent, ri_sv_BadEvent⟩
  have o1 : OneBad K A_BitsError A_BadSetting A_BadMark A_BadBits A_Full A_BadEvent A_BadText A_BadSetting true false false false false false := ⟨ox_BadSetting, ⟨oh_BadSetting_0, oh_BadSetting_1, oh_BadSetting_2, oh_BadSetting_3, oh_BadSetting_4, oc_hn, oc_ht, om_BadSetting⟩, ok_BadSetting_0, ok_BadSetting_1, ok_BadSetting_2, ok_BadSetting_3, ok_BadSetting_4, ok_BadSetting_5, ov_BadSetting⟩
  have o2 : OneBad K A_BitsError A_BadSetting A_BadMark A_BadBits A_Full A_BadEvent A_BadText A_BadMark false true false false false false := ⟨ox_BadMark, ⟨oh_BadMark_0, oh_BadMark_1, oh_BadMark_2, oh_BadMark_3, oh_BadMark_4, oc_hn, oc_ht, om_BadMark⟩, ok_BadMark_0, ok_BadMark_1, ok_BadMark_2, ok_BadMark_3, ok_BadMark_4, ok_BadMark_5, ov_BadMark⟩
  have o3 : OneBad K A_BitsError A_BadSetting A_BadMark A_BadBits A_Full A_BadEvent A_BadText A_BadBits false false true false false false := ⟨ox_BadBits, ⟨oh_BadBits_0, oh_BadBits_1, oh_BadBits_2, oh_BadBits_3, oh_BadBits_4, oc_hn, oc_ht, om_BadBits⟩, ok_BadBits_0, ok_BadBits_1, ok_BadBits_2, ok_BadBits_3, ok_BadBits_4, ok_BadBits_5, ov_BadBits⟩
  have o4 : OneBad K A_BitsError A_BadSetting A_BadMark A_BadBits A_Full A_BadEvent A_BadText A_Full false false false true false false := ⟨ox_Full, ⟨oh_Full_0, oh_Full_1, oh_Full_2, oh_Full_3, oh_Full_4, oc_hn, oc_ht, om_Full⟩, ok_Full_0, ok_Full_1, ok_Full_2, ok_Full_3, ok_Full_4, ok_Full_5, ov_Full⟩
  have o5 : OneBad K A_BitsError A_BadSetting A_BadMark A_BadBits A_Full A_BadEvent A_BadText A_BadEvent false false false false true false := ⟨ox_BadEvent, ⟨oh_BadEvent_0, oh_BadEvent_1, oh_BadEvent_2, oh_BadEvent_3, oh_BadEvent_4, oc_hn, oc_ht, om_BadEvent⟩, ok_BadEvent_0, ok_BadEvent_1, ok_BadEvent_2, ok_BadEvent_3, ok_BadEvent_4, ok_BadEvent_5, ov_BadEvent⟩
  have o6 : OneBad K A_BitsError A_BadSetting A_BadMark A_BadBits A_Full A_BadEvent A_BadText A_BadText false false false false false true := ⟨ox_BadText, ⟨oh_BadText_0, oh_BadText_1, oh_BadText_2, oh_BadText_3, oh_BadText_4, oc_hn, oc_ht, om_BadText⟩, ok_BadText_0, ok_BadText_1, ok_BadText_2, ok_BadText_3, ok_BadText_4, ok_BadText_5, ov_BadText⟩
  have TC : ToldC K A_BitsError A_BadSetting A_BadMark A_BadBits A_Full A_BadEvent A_BadText := ⟨o1, o2, o3, o4, o5, o6, tc_s1, tc_n1, tc_s5, tc_n5, tc_s6, tc_n6⟩
  have gM := PySem.W.mg_of X G a_MOST
  have xm := xm_BadBits
  have bT : L2.Binds K (PySem.W.fnOf "_law_told" "_law_told" (defArgs s_l_told) (defBody s_l_told) (defScope s_l_told) .none kVT docT pmT anT cdT ctT) ["_law_work"] [] := (L2.fun_mk lkT hcT hkT).binds fun _ _ _ _ _ _ us hl => match us, hl with | [_], _ => rfl
  have B : BoundsT K w mg A_BOUNDS := bounds_mk (PySem.W.mg_of X G a_BOUNDS) lkB klB nB1 nB2 nB3 nB4 nB5 nB6 sB1 sB2 sB3 sB4 sB5 sB6
  obtain ⟨fd_l_like, F_l_like⟩ := F_l_like
  have b_l_like := F_l_like.binds (ps := ["_law_found", "_law_due"]) fun _ _ _ _ _ _ us hl => match us, hl with | [_, _], _ => rfl
  have g_isinstance := (PySem.W.mg_none_of X G z_isinstance)
  have g_bool := (PySem.W.mg_none_of X G z_bool)
  have g_str := (PySem.W.mg_none_of X G z_str)
  have g_int := (PySem.W.mg_none_of X G z_int)
  have g_dict := (PySem.W.mg_none_of X G z_dict)
  have g_tuple := (PySem.W.mg_none_of X G z_tuple)
  have g_list := (PySem.W.mg_none_of X G z_list)
  have g_len := (PySem.W.mg_none_of X G z_len)
  have g_range := (PySem.W.mg_none_of X G z_range)
  obtain ⟨fd_l_next, F_l_next⟩ := F_l_next
  have b_l_next := F_l_next.binds (ps := ["_law_dice_here", "_law_many"]) fun _ _ _ _ _ _ us hl => match us, hl with | [_, _], _ => rfl
  obtain ⟨fd_l_dice, F_l_dice⟩ := F_l_dice
  have b_l_dice := F_l_dice.binds (ps := ["_law_script"]) fun _ _ _ _ _ _ us hl => match us, hl with | [_], _ => rfl
  obtain ⟨fd_l_setting, F_l_setting⟩ := F_l_setting
  have b_l_setting := F_l_setting.binds (ps := ["_law_d"]) fun _ _ _ _ _ _ us hl => match us, hl with | [_], _ => rfl
  obtain ⟨fd_check_number, F_check_number⟩ := F_check_number
  have b_check_number := F_check_number.binds (ps := ["word", "number"]) fun _ _ _ _ _ _ us hl => match us, hl with | [_, _], _ => rfl
  obtain ⟨fd_check_mark, F_check_mark⟩ := F_check_mark
  have b_check_mark := F_check_mark.binds (ps := ["mark", "marks"]) fun _ _ _ _ _ _ us hl => match us, hl with | [_, _], _ => rfl
  obtain ⟨fd_check_setting, F_check_setting⟩ := F_check_setting
  have b_check_setting := F_check_setting.binds (ps := ["setting"]) fun _ _ _ _ _ _ us hl => match us, hl with | [_], _ => rfl
  obtain ⟨fd_Ear__oldest, F_Ear__oldest⟩ := F_Ear__oldest
  have b_Ear__oldest := F_Ear__oldest.binds (ps := ["self"]) fun _ _ _ _ _ _ us hl => match us, hl with | [_], _ => rfl
  obtain ⟨fd_Ear_last, F_Ear_last⟩ := F_Ear_last
  have b_Ear_last := F_Ear_last.binds (ps := ["self"]) fun _ _ _ _ _ _ us hl => match us, hl with | [_], _ => rfl
  obtain ⟨fd_Ear__number_of, F_Ear__number_of⟩ := F_Ear__number_of
  have b_Ear__number_of := F_Ear__number_of.binds (ps := ["self", "mark"]) fun _ _ _ _ _ _ us hl => match us, hl with | [_, _], _ => rfl
  obtain ⟨fd_Ear__word_of, F_Ear__word_of⟩ := F_Ear__word_of
  have b_Ear__word_of := F_Ear__word_of.binds (ps := ["self", "number"]) fun _ _ _ _ _ _ us hl => match us, hl with | [_, _], _ => rfl
  obtain ⟨fd_Ear__keep, F_Ear__keep⟩ := F_Ear__keep
  have b_Ear__keep := F_Ear__keep.binds (ps := ["self", "number"]) fun _ _ _ _ _ _ us hl => match us, hl with | [_, _], _ => rfl
  obtain ⟨fd_Ear__bits, F_Ear__bits⟩ := F_Ear__bits
  have b_Ear__bits := F_Ear__bits.binds (ps := ["self"]) fun _ _ _ _ _ _ us hl => match us, hl with | [_], _ => rfl
  obtain ⟨fd_Ear_tell, F_Ear_tell⟩ := F_Ear_tell
  have b_Ear_tell := F_Ear_tell.binds (ps := ["self"]) fun _ _ _ _ _ _ us hl => match us, hl with | [_], _ => rfl
  obtain ⟨fd_Ear_come, F_Ear_come⟩ := F_Ear_come
  have b_Ear_come := F_Ear_come.binds (ps := ["self", "mark"]) fun _ _ _ _ _ _ us hl => match us, hl with | [_, _], _ => rfl
  obtain ⟨fd_Ear___init, F_Ear___init⟩ := F_Ear___init
  have b_Ear___init := F_Ear___init.binds (ps := ["self", "setting"]) fun _ _ _ _ _ _ us hl => match us, hl with | [_, _], _ => rfl
  obtain ⟨fd_check_bits, F_check_bits⟩ := F_check_bits
  have b_check_bits := F_check_bits.binds (ps := ["bits", "wide"]) fun _ _ _ _ _ _ us hl => match us, hl with | [_, _], _ => rfl
  obtain ⟨fd_check_telling, F_check_telling⟩ := F_check_telling
  have b_check_telling := F_check_telling.binds (ps := ["told", "marks", "wide"]) fun _ _ _ _ _ _ us hl => match us, hl with | [_, _, _], _ => rfl
  obtain ⟨fd_Mouth___init, F_Mouth___init⟩ := F_Mouth___init
  have b_Mouth___init := F_Mouth___init.binds (ps := ["self", "setting"]) fun _ _ _ _ _ _ us hl => match us, hl with | [_, _], _ => rfl
  obtain ⟨fd_Mouth_is_full, F_Mouth_is_full⟩ := F_Mouth_is_full
  have b_Mouth_is_full := F_Mouth_is_full.binds (ps := ["self"]) fun _ _ _ _ _ _ us hl => match us, hl with | [_], _ => rfl
  obtain ⟨fd_Mouth_last, F_Mouth_last⟩ := F_Mouth_last
  have b_Mouth_last := F_Mouth_last.binds (ps := ["self"]) fun _ _ _ _ _ _ us hl => match us, hl with | [_], _ => rfl
  obtain ⟨fd_Mouth_sure, F_Mouth_sure⟩ := F_Mouth_sure
  have b_Mouth_sure := F_Mouth_sure.binds (ps := ["self"]) fun _ _ _ _ _ _ us hl => match us, hl with | [_], _ => rfl
  obtain ⟨fd_Mouth_send, F_Mouth_send⟩ := F_Mouth_send
  have b_Mouth_send := F_Mouth_send.binds (ps := ["self"]) fun _ _ _ _ _ _ us hl => match us, hl with | [_], _ => rfl
  obtain ⟨fd_Mouth__numbers_of, F_Mouth__numbers_of⟩ := F_Mouth__numbers_of
  have b_Mouth__numbers_of := F_Mouth__numbers_of.binds (ps := ["self", "told"]) fun _ _ _ _ _ _ us hl => match us, hl with | [_, _], _ => rfl
  obtain ⟨fd_Mouth_hear, F_Mouth_hear⟩ := F_Mouth_hear
  have b_Mouth_hear := F_Mouth_hear.binds (ps := ["self", "told"]) fun _ _ _ _ _ _ us hl => match us, hl with | [_, _], _ => rfl
  obtain ⟨fd_l_ear, F_l_ear⟩ := F_l_ear
  have b_l_ear := F_l_ear.binds (ps := []) fun _ _ _ _ _ _ us hl => match us, hl with | [], _ => rfl
  obtain ⟨fd_l_taken, F_l_taken⟩ := F_l_taken
  have b_l_taken := F_l_taken.binds (ps := ["_law_setting_here", "_law_ear_here", "_law_mark"]) fun _ _ _ _ _ _ us hl => match us, hl with | [_, _, _], _ => rfl
  obtain ⟨fd_l_come, F_l_come⟩ := F_l_come
  have b_l_come := F_l_come.binds (ps := ["_law_setting_here", "_law_ear_here", "_law_mark"]) fun _ _ _ _ _ _ us hl => match us, hl with | [_, _, _], _ => rfl
  obtain ⟨fd_l_tell, F_l_tell⟩ := F_l_tell
  have b_l_tell := F_l_tell.binds (ps := ["_law_setting_here", "_law_ear_here"]) fun _ _ _ _ _ _ us hl => match us, hl with | [_, _], _ => rfl
  obtain ⟨fd_l_mouth, F_l_mouth⟩ := F_l_mouth
  have b_l_mouth := F_l_mouth.binds (ps := []) fun _ _ _ _ _ _ us hl => match us, hl with | [], _ => rfl
  obtain ⟨fd_l_is_full, F_l_is_full⟩ := F_l_is_full
  have b_l_is_full := F_l_is_full.binds (ps := ["_law_setting_here", "_law_mouth_here"]) fun _ _ _ _ _ _ us hl => match us, hl with | [_, _], _ => rfl
  obtain ⟨fd_l_hear, F_l_hear⟩ := F_l_hear
  have b_l_hear := F_l_hear.binds (ps := ["_law_setting_here", "_law_mouth_here", "_law_told_here"]) fun _ _ _ _ _ _ us hl => match us, hl with | [_, _, _], _ => rfl
  obtain ⟨fd_World__can_come, F_World__can_come⟩ := F_World__can_come
  have b_World__can_come := F_World__can_come.binds (ps := ["self", "number"]) fun _ _ _ _ _ _ us hl => match us, hl with | [_, _], _ => rfl
  obtain ⟨fd_World__can_be_heard, F_World__can_be_heard⟩ := F_World__can_be_heard
  have b_World__can_be_heard := F_World__can_be_heard.binds (ps := ["self", "number"]) fun _ _ _ _ _ _ us hl => match us, hl with | [_, _], _ => rfl
  obtain ⟨fd_World_can_be, F_World_can_be⟩ := F_World_can_be
  have b_World_can_be := F_World_can_be.binds (ps := ["self", "event"]) fun _ _ _ _ _ _ us hl => match us, hl with | [_, _], _ => rfl
  obtain ⟨fd_World__send, F_World__send⟩ := F_World__send
  have b_World__send := F_World__send.binds (ps := ["self"]) fun _ _ _ _ _ _ us hl => match us, hl with | [_], _ => rfl
  obtain ⟨fd_World__tell, F_World__tell⟩ := F_World__tell
  have b_World__tell := F_World__tell.binds (ps := ["self"]) fun _ _ _ _ _ _ us hl => match us, hl with | [_], _ => rfl
  obtain ⟨fd_World__come, F_World__come⟩ := F_World__come
  have b_World__come := F_World__come.binds (ps := ["self", "number"]) fun _ _ _ _ _ _ us hl => match us, hl with | [_, _], _ => rfl
  obtain ⟨fd_World__hear, F_World__hear⟩ := F_World__hear
  have b_World__hear := F_World__hear.binds (ps := ["self", "number"]) fun _ _ _ _ _ _ us hl => match us, hl with | [_, _], _ => rfl
  obtain ⟨fd_World_happen, F_World_happen⟩ := F_World_happen
  have b_World_happen := F_World_happen.binds (ps := ["self", "event"]) fun _ _ _ _ _ _ us hl => match us, hl with | [_, _], _ => rfl
  obtain ⟨fd_World___init, F_World___init⟩ := F_World___init
  have b_World___init := F_World___init.binds (ps := ["self", "setting"]) fun _ _ _ _ _ _ us hl => match us, hl with | [_, _], _ => rfl
  obtain ⟨fd_played, F_played⟩ := F_played
  have b_played := F_played.binds (ps := ["setting", "events"]) fun _ _ _ _ _ _ us hl => match us, hl with | [_, _], _ => rfl
  obtain ⟨fd_l_world, F_l_world⟩ := F_l_world
  have b_l_world := F_l_world.binds (ps := []) fun _ _ _ _ _ _ us hl => match us, hl with | [], _ => rfl
  obtain ⟨fd_l_can, F_l_can⟩ := F_l_can
  have b_l_can := F_l_can.binds (ps := ["_law_setting_here", "_law_w", "_law_event_here"]) fun _ _ _ _ _ _ us hl => match us, hl with | [_, _, _], _ => rfl
  obtain ⟨fd_l_do, F_l_do⟩ := F_l_do
  have b_l_do := F_l_do.binds (ps := ["_law_setting_here", "_law_w", "_law_event_here"]) fun _ _ _ _ _ _ us hl => match us, hl with | [_, _, _], _ => rfl
  obtain ⟨fd_l_event, F_l_event⟩ := F_l_event
  have b_l_event := F_l_event.binds (ps := ["_law_d", "_law_setting_here", "_law_w", "_law_often"]) fun _ _ _ _ _ _ us hl => match us, hl with | [_, _, _, _], _ => rfl
  obtain ⟨fd_l_events, F_l_events⟩ := F_l_events
  have b_l_events := F_l_events.binds (ps := ["_law_d", "_law_setting_here", "_law_most"]) fun _ _ _ _ _ _ us hl => match us, hl with | [_, _, _], _ => rfl
  obtain ⟨fd_l_played, F_l_played⟩ := F_l_played
  have b_l_played := F_l_played.binds (ps := ["_law_setting_here", "_law_events_here"]) fun _ _ _ _ _ _ us hl => match us, hl with | [_, _], _ => rfl
  obtain ⟨fd_l_odd, F_l_odd⟩ := F_l_odd
  have b_l_odd := F_l_odd.binds (ps := ["_law_d", "_law_events_here"]) fun _ _ _ _ _ _ us hl => match us, hl with | [_, _], _ => rfl
  refine ⟨PySem.W.fnOf "law" "law" (defArgs s_law) (defBody s_law) (defScope s_law) .none kVL docL pmL anL (.ref A_code) ctL, [(A_code, A_tab)], spLaw K A_tab, fun p hp => ?_, fun p hp => ?_, fun p hp => ?_, fun s u => .of_eq rfl, fun H a ns hl _ hPT hS => ?_, fun base _ _ hTB => ?_⟩
  · rw [List.mem_singleton.mp hp]; exact hT
  · rw [List.mem_singleton.mp hp]; exact nt_law
  · rw [List.mem_singleton.mp hp]; exact PySem.W.codeHd_of_K X hh_law
  · exact ⟨a, ns, rfl, hS, hl, hPT _ (List.mem_singleton.mpr rfl), fun _ => rfl⟩
  · have TB := hTB _ (List.mem_singleton.mpr rfl)
    have r_BadEvent : RaiO l.prog w K mg base 1 "BadEvent" A_BadEvent "number" := rai_BadEvent S_BadEvent ri_hc_BadEvent ni_BadEvent ci_BadEvent ti_BadEvent T_BadEvent (PySem.W.mg_of X G a_BadEvent)
    have c_l_next : CalX l.prog w K mg base 1 "_law_next" _ := ⟨A_l_next, fd_l_next, _, ok_next F_l_next (PySem.W.mg_none_of X G z_len), PySem.W.mg_of X G a_l_next, F_l_next.kp, b_l_next⟩
    have c_l_dice : CalX l.prog w K mg base 1 "_law_dice" _ := ⟨A_l_dice, fd_l_dice, _, ok_dice F_l_dice (PySem.W.mg_none_of X G z_len) (PySem.W.mg_none_of X G z_int), PySem.W.mg_of X G a_l_dice, F_l_dice.kp, b_l_dice⟩
    have c_l_like : CalX l.prog w K mg base 6 "_law_like" (spLike K 5) := ok_like F_l_like g_isinstance g_bool g_str g_int g_dict g_tuple g_list g_len g_range (PySem.W.mg_of X G a_l_like) b_l_like 5
    have c_l_setting : CalX l.prog w K mg base 2 "_law_setting" _ := ⟨A_l_setting, fd_l_setting, _, ok_setting F_l_setting (PySem.W.mg_none_of X G z_max) (PySem.W.mg_none_of X G z_min) c_l_next, PySem.W.mg_of X G a_l_setting, F_l_setting.kp, b_l_setting⟩
    have c_check_number : CalX l.prog w K mg base 1 "check_number" _ := ⟨A_check_number, fd_check_number, _, ok_check_number F_check_number B, PySem.W.mg_of X G a_check_number, F_check_number.kp, b_check_number⟩
    have c_check_mark : CalX l.prog w K mg base 1 "check_mark" _ := ⟨A_check_mark, fd_check_mark, _, ok_check_mark F_check_mark , PySem.W.mg_of X G a_check_mark, F_check_mark.kp, b_check_mark⟩
    have c_check_setting : CalX l.prog w K mg base 2 "check_setting" _ := ⟨A_check_setting, fd_check_setting, _, ok_check_setting F_check_setting c_check_number, PySem.W.mg_of X G a_check_setting, F_check_setting.kp, b_check_setting⟩
    have m_Ear_oldest : MetX l.prog w K mg base 1 A_Ear "_oldest" _ := ⟨A_Ear__oldest, fd_Ear__oldest, _, cl_Ear, ⟨ci_Ear__oldest, ii_Ear__oldest, F_Ear__oldest.kp⟩, ok_oldest F_Ear__oldest T_EarT, b_Ear__oldest⟩
    have m_Ear_last : MetX l.prog w K mg base 1 A_Ear "last" _ := ⟨A_Ear_last, fd_Ear_last, _, cl_Ear, ⟨ci_Ear_last, ii_Ear_last, F_Ear_last.kp⟩, ok_last F_Ear_last T_EarT, b_Ear_last⟩
    have m_Ear_number_of : MetX l.prog w K mg base 1 A_Ear "_number_of" _ := ⟨A_Ear__number_of, fd_Ear__number_of, _, cl_Ear, ⟨ci_Ear__number_of, ii_Ear__number_of, F_Ear__number_of.kp⟩, ok_number_of F_Ear__number_of T_EarT (PySem.W.mg_none_of X G z_max), b_Ear__number_of⟩
    have m_Ear_word_of : MetX l.prog w K mg base 2 A_Ear "_word_of" _ := ⟨A_Ear__word_of, fd_Ear__word_of, _, cl_Ear, ⟨ci_Ear__word_of, ii_Ear__word_of, F_Ear__word_of.kp⟩, ok_word_of F_Ear__word_of T_EarT m_Ear_oldest, b_Ear__word_of⟩
    have m_Ear_keep : MetX l.prog w K mg base 2 A_Ear "_keep" _ := ⟨A_Ear__keep, fd_Ear__keep, _, cl_Ear, ⟨ci_Ear__keep, ii_Ear__keep, F_Ear__keep.kp⟩, ok_keep F_Ear__keep T_EarT (PySem.W.mg_none_of X G z_max) m_Ear_oldest, b_Ear__keep⟩
    have m_Ear_bits : MetX l.prog w K mg base 1 A_Ear "_bits" _ := ⟨A_Ear__bits, fd_Ear__bits, _, cl_Ear, ⟨ci_Ear__bits, ii_Ear__bits, F_Ear__bits.kp⟩, ok_bits F_Ear__bits T_EarT (PySem.W.mg_none_of X G z_range) (PySem.W.mg_none_of X G z_tuple), b_Ear__bits⟩
    have m_Ear_tell : MetX l.prog w K mg base 2 A_Ear "tell" _ := ⟨A_Ear_tell, fd_Ear_tell, _, cl_Ear, ⟨ci_Ear_tell, ii_Ear_tell, F_Ear_tell.kp⟩, ok_tell F_Ear_tell T_EarT x_BadBits m_Ear_bits, b_Ear_tell⟩
    have m_Ear_come : MetX l.prog w K mg base 3 A_Ear "come" _ := ⟨A_Ear_come, fd_Ear_come, _, cl_Ear, ⟨ci_Ear_come, ii_Ear_come, F_Ear_come.kp⟩, ok_come F_Ear_come T_EarT c_check_mark m_Ear_number_of m_Ear_word_of m_Ear_keep, b_Ear_come⟩
    have k_Ear : MakX l.prog w K mg base 3 "Ear" A_Ear _ := ⟨A_Ear___init, fd_Ear___init, _, ⟨mk_Ear, ci_Ear___init, ii_Ear___init, kc_Ear⟩, ok_ear_init F_Ear___init T_EarT c_check_setting, PySem.W.mg_of X G a_Ear, b_Ear___init⟩
    have c_check_bits : CalX l.prog w K mg base 1 "check_bits" _ := ⟨A_check_bits, fd_check_bits, _, ok_check_bits F_check_bits (PySem.W.mg_none_of X G z_len), PySem.W.mg_of X G a_check_bits, F_check_bits.kp, b_check_bits⟩
    have c_check_telling : CalX l.prog w K mg base 2 "check_telling" _ := ⟨A_check_telling, fd_check_telling, _, ok_check_telling F_check_telling c_check_mark c_check_bits, PySem.W.mg_of X G a_check_telling, F_check_telling.kp, b_check_telling⟩
    have k_Mouth : MakX l.prog w K mg base 3 "Mouth" A_Mouth _ := ⟨A_Mouth___init, fd_Mouth___init, _, ⟨mk_Mouth, ci_Mouth___init, ii_Mouth___init, kc_Mouth⟩, ok_mouth_init F_Mouth___init T_MouthT c_check_setting, PySem.W.mg_of X G a_Mouth, b_Mouth___init⟩
    have m_Mouth_is_full : MetX l.prog w K mg base 1 A_Mouth "is_full" _ := ⟨A_Mouth_is_full, fd_Mouth_is_full, _, cl_Mouth, ⟨ci_Mouth_is_full, ii_Mouth_is_full, F_Mouth_is_full.kp⟩, ok_is_full F_Mouth_is_full T_MouthT, b_Mouth_is_full⟩
    have m_Mouth_last : MetX l.prog w K mg base 1 A_Mouth "last" _ := ⟨A_Mouth_last, fd_Mouth_last, _, cl_Mouth, ⟨ci_Mouth_last, ii_Mouth_last, F_Mouth_last.kp⟩, ok_mlast F_Mouth_last T_MouthT, b_Mouth_last⟩
    have m_Mouth_sure : MetX l.prog w K mg base 1 A_Mouth "sure" _ := ⟨A_Mouth_sure, fd_Mouth_sure, _, cl_Mouth, ⟨ci_Mouth_sure, ii_Mouth_sure, F_Mouth_sure.kp⟩, ok_sure F_Mouth_sure T_MouthT (PySem.W.mg_none_of X G z_sorted), b_Mouth_sure⟩
    have m_Mouth_send : MetX l.prog w K mg base 2 A_Mouth "send" _ := ⟨A_Mouth_send, fd_Mouth_send, _, cl_Mouth, ⟨ci_Mouth_send, ii_Mouth_send, F_Mouth_send.kp⟩, ok_send F_Mouth_send T_MouthT x_Full m_Mouth_is_full, b_Mouth_send⟩
    have m_Mouth_numbers_of : MetX l.prog w K mg base 1 A_Mouth "_numbers_of" _ := ⟨A_Mouth__numbers_of, fd_Mouth__numbers_of, _, cl_Mouth, ⟨ci_Mouth__numbers_of, ii_Mouth__numbers_of, F_Mouth__numbers_of.kp⟩, ok_numbers F_Mouth__numbers_of T_MouthT (PySem.W.mg_none_of X G z_enumerate) (PySem.W.mg_none_of X G z_sorted), b_Mouth__numbers_of⟩
    have m_Mouth_hear : MetX l.prog w K mg base 3 A_Mouth "hear" _ := ⟨A_Mouth_hear, fd_Mouth_hear, _, cl_Mouth, ⟨ci_Mouth_hear, ii_Mouth_hear, F_Mouth_hear.kp⟩, ok_hear F_Mouth_hear T_MouthT (PySem.W.mg_none_of X G z_max) x_BadBits c_check_telling m_Mouth_numbers_of, b_Mouth_hear⟩
    have c_l_ear : CalX l.prog w K mg base 1 "_law_ear" _ := ⟨A_l_ear, fd_l_ear, _, ok_own_ear F_l_ear , PySem.W.mg_of X G a_l_ear, F_l_ear.kp, b_l_ear⟩
    have c_l_taken : CalX l.prog w K mg base 1 "_law_taken" _ := ⟨A_l_taken, fd_l_taken, _, ok_taken F_l_taken (PySem.W.mg_none_of X G z_max), PySem.W.mg_of X G a_l_taken, F_l_taken.kp, b_l_taken⟩
    have c_l_come : CalX l.prog w K mg base 2 "_law_come" _ := ⟨A_l_come, fd_l_come, _, ok_own_come F_l_come (PySem.W.mg_none_of X G z_max) c_l_taken, PySem.W.mg_of X G a_l_come, F_l_come.kp, b_l_come⟩
    have c_l_tell : CalX l.prog w K mg base 1 "_law_tell" _ := ⟨A_l_tell, fd_l_tell, _, ok_own_tell F_l_tell (PySem.W.mg_none_of X G z_range) (PySem.W.mg_none_of X G z_int) (PySem.W.mg_none_of X G z_tuple), PySem.W.mg_of X G a_l_tell, F_l_tell.kp, b_l_tell⟩
    have c_l_mouth : CalX l.prog w K mg base 1 "_law_mouth" _ := ⟨A_l_mouth, fd_l_mouth, _, ok_own_mouth F_l_mouth , PySem.W.mg_of X G a_l_mouth, F_l_mouth.kp, b_l_mouth⟩
    have c_l_is_full : CalX l.prog w K mg base 1 "_law_is_full" _ := ⟨A_l_is_full, fd_l_is_full, _, ok_own_full F_l_is_full (PySem.W.mg_none_of X G z_max), PySem.W.mg_of X G a_l_is_full, F_l_is_full.kp, b_l_is_full⟩
    have c_l_hear : CalX l.prog w K mg base 1 "_law_hear" _ := ⟨A_l_hear, fd_l_hear, _, ok_own_hear F_l_hear (PySem.W.mg_none_of X G z_min) (PySem.W.mg_none_of X G z_range) (PySem.W.mg_none_of X G z_sorted), PySem.W.mg_of X G a_l_hear, F_l_hear.kp, b_l_hear⟩
    have m_World_can_come : MetX l.prog w K mg base 2 A_World "_can_come" _ := ⟨A_World__can_come, fd_World__can_come, _, cl_World, ⟨ci_World__can_come, ii_World__can_come, F_World__can_come.kp⟩, ok_can_come (CW := A_World) (CE := A_Ear) (CM := A_Mouth) F_World__can_come T_WorldT m_Mouth_last, b_World__can_come⟩
    have m_World_can_be_heard : MetX l.prog w K mg base 2 A_World "_can_be_heard" _ := ⟨A_World__can_be_heard, fd_World__can_be_heard, _, cl_World, ⟨ci_World__can_be_heard, ii_World__can_be_heard, F_World__can_be_heard.kp⟩, ok_can_hear (CW := A_World) (CE := A_Ear) (CM := A_Mouth) F_World__can_be_heard T_WorldT (PySem.W.mg_none_of X G z_len) m_Mouth_last, b_World__can_be_heard⟩
    have m_World_can_be : MetX l.prog w K mg base 3 A_World "can_be" _ := ⟨A_World_can_be, fd_World_can_be, _, cl_World, ⟨ci_World_can_be, ii_World_can_be, F_World_can_be.kp⟩, ok_can_be (CW := A_World) (CE := A_Ear) (CM := A_Mouth) F_World_can_be T_WorldT (PySem.W.mg_none_of X G z_len) m_Mouth_is_full m_Ear_last m_World_can_come m_World_can_be_heard, b_World_can_be⟩
    have m_World_send : MetX l.prog w K mg base 3 A_World "_send" _ := ⟨A_World__send, fd_World__send, _, cl_World, ⟨ci_World__send, ii_World__send, F_World__send.kp⟩, ok_send_w (CW := A_World) (CE := A_Ear) (CM := A_Mouth) F_World__send T_WorldT m_Mouth_send, b_World__send⟩
    have m_World_tell : MetX l.prog w K mg base 3 A_World "_tell" _ := ⟨A_World__tell, fd_World__tell, _, cl_World, ⟨ci_World__tell, ii_World__tell, F_World__tell.kp⟩, ok_tell_w (CW := A_World) (CE := A_Ear) (CM := A_Mouth) F_World__tell T_WorldT m_Ear_tell m_Mouth_last, b_World__tell⟩
    have m_World_come : MetX l.prog w K mg base 4 A_World "_come" _ := ⟨A_World__come, fd_World__come, _, cl_World, ⟨ci_World__come, ii_World__come, F_World__come.kp⟩, ok_come_w (CW := A_World) (CE := A_Ear) (CM := A_Mouth) F_World__come T_WorldT m_Ear_come, b_World__come⟩
    have m_World_hear : MetX l.prog w K mg base 4 A_World "_hear" _ := ⟨A_World__hear, fd_World__hear, _, cl_World, ⟨ci_World__hear, ii_World__hear, F_World__hear.kp⟩, ok_hear_w (CW := A_World) (CE := A_Ear) (CM := A_Mouth) F_World__hear T_WorldT (PySem.W.mg_none_of X G z_any) (PySem.W.mg_of X G a_BadBits) xm m_Mouth_hear, b_World__hear⟩
    have m_World_happen : MetX l.prog w K mg base 5 A_World "happen" _ := ⟨A_World_happen, fd_World_happen, _, cl_World, ⟨ci_World_happen, ii_World_happen, F_World_happen.kp⟩, ok_happen (CW := A_World) (CE := A_Ear) (CM := A_Mouth) F_World_happen T_WorldT m_World_send m_World_tell m_World_come m_World_hear, b_World_happen⟩
    have k_World : MakX l.prog w K mg base 5 "World" A_World _ := ⟨A_World___init, fd_World___init, _, ⟨mk_World, ci_World___init, ii_World___init, kc_World⟩, ok_world_init (CW := A_World) (CE := A_Ear) (CM := A_Mouth) F_World___init T_WorldT k_Mouth k_Ear, PySem.W.mg_of X G a_World, b_World___init⟩
    have c_played : CalX l.prog w K mg base 7 "played" _ := ⟨A_played, fd_played, _, ok_played (CW := A_World) (CE := A_Ear) (CM := A_Mouth) F_played r_BadEvent gM (PySem.W.mg_none_of X G z_enumerate) k_World m_World_can_be m_World_happen, PySem.W.mg_of X G a_played, F_played.kp, b_played⟩
    have c_l_world : CalX l.prog w K mg base 2 "_law_world" _ := ⟨A_l_world, fd_l_world, _, ok_own_world F_l_world c_l_ear c_l_mouth, PySem.W.mg_of X G a_l_world, F_l_world.kp, b_l_world⟩
    have c_l_can : CalX l.prog w K mg base 2 "_law_can" _ := ⟨A_l_can, fd_l_can, _, ok_own_can F_l_can (PySem.W.mg_none_of X G z_len) c_l_is_full, PySem.W.mg_of X G a_l_can, F_l_can.kp, b_l_can⟩
    have c_l_do : CalX l.prog w K mg base 3 "_law_do" _ := ⟨A_l_do, fd_l_do, _, ok_own_do F_l_do c_l_come c_l_tell c_l_hear, PySem.W.mg_of X G a_l_do, F_l_do.kp, b_l_do⟩
    have c_l_event : CalX l.prog w K mg base 3 "_law_event" _ := ⟨A_l_event, fd_l_event, _, ok_own_event F_l_event (PySem.W.mg_none_of X G z_len) c_l_next c_l_can, PySem.W.mg_of X G a_l_event, F_l_event.kp, b_l_event⟩
    have c_l_events : CalX l.prog w K mg base 4 "_law_events" _ := ⟨A_l_events, fd_l_events, _, ok_own_events F_l_events (PySem.W.mg_none_of X G z_range) c_l_next c_l_world c_l_event c_l_do, PySem.W.mg_of X G a_l_events, F_l_events.kp, b_l_events⟩
    have c_l_played : CalX l.prog w K mg base 4 "_law_played" _ := ⟨A_l_played, fd_l_played, _, ok_own_played F_l_played (PySem.W.mg_none_of X G z_len) (PySem.W.mg_none_of X G z_range) c_l_world c_l_can c_l_do, PySem.W.mg_of X G a_l_played, F_l_played.kp, b_l_played⟩
    have c_l_odd : CalX l.prog w K mg base 2 "_law_odd" _ := ⟨A_l_odd, fd_l_odd, _, ok_odd F_l_odd (PySem.W.mg_none_of X G z_len) c_l_next, PySem.W.mg_of X G a_l_odd, F_l_odd.kp, b_l_odd⟩
    exact ok_law lk_law hc_law TB lkT hcT hkT (PySem.W.mg_of X G a_l_told) bT TC (PySem.W.mg_of X G a_BitsError) (PySem.W.mg_of X G a_BadSetting) (PySem.W.mg_of X G a_BadMark) (PySem.W.mg_of X G a_BadBits) (PySem.W.mg_of X G a_Full) (PySem.W.mg_of X G a_BadEvent) (PySem.W.mg_of X G a_BadText) (PySem.W.mg_none_of X G z_isinstance) (PySem.W.mg_none_of X G z_ValueError) (PySem.W.mg_none_of X G z_range) (PySem.W.mg_none_of X G z_list) (PySem.W.mg_none_of X G z_int) c_l_dice c_l_next c_l_setting c_l_like c_l_events c_l_odd c_l_played c_played
end Ak
local macro_rules | `(tactic| walk_at "fi") => `(tactic| (refine' ⟨_, L2.fun_mk ?l ?c ?k⟩; (case l => k_is); (case c => k_is); (case k => k_is)))
local macro_rules | `(tactic| walk_at "vals") => `(tactic| first | exact .nil | exact .cons (by first | rfl | exact ⟨_, rfl⟩) (by walk_at "vals"))
local macro_rules | `(tactic| walk_at "kl") => `(tactic| first | exact trivial | (refine ⟨⟨_, _, rfl, rfl⟩, ?_⟩; walk_at "kl"))
local macro_rules | `(tactic| walk_at "sqk") => `(tactic| (refine' Ak.sqT_of ?l ?c ?d ?z ?v; (case l => k_is); (case c => rfl); (case d => rfl); (case z => exact Nat.le_of_ble_eq_true rfl); (case v => walk_at "vals")))
open PySem PySem.W PyProof.Rows in
set_option maxRecDepth 100000 in
set_option maxHeartbeats 0 in
theorem PySem.Challenge.cw_ackbits_k04_what_happens_holds : PySem.Challenge.rw_ackbits_k04_what_happens.Holds := by
  w_on; o_law; k_head; (case hw => w_witness2)
  k_fill
  refine LamX.walk_ofTs (l := PySem.Challenge.rw_ackbits_k04_what_happens) (n := 63) (k := 10) (x := "_law_script") (CX := fun w => L2.CX (PySem.Challenge.rw_ackbits_k04_what_happens).prog w) rfl (by decide) rfl ⟨rfl, by decide, by decide⟩ (fun w h Y => PySem.W.km_in_of Y) ?F (fun _ _ _ _ _ z => Ak.cx_none z)
  case F =>
    intro w mg fa h Y KX G hmg
    refine' Ak.all_mk KX G hmg ?a_Ear ?pg_Ear ?hd_Ear ?po_Ear ?sa_Ear ?mk_Ear ?kc_Ear ?na_Ear__marks ?na_Ear__wide ?na_Ear__late ?na_Ear__greatest ?na_Ear__came ?a_Mouth ?pg_Mouth ?hd_Mouth ?po_Mouth ?sa_Mouth ?mk_Mouth ?kc_Mouth ?na_Mouth__marks ?na_Mouth__wide ?na_Mouth__ahead ?na_Mouth__last ?na_Mouth__greatest ?na_Mouth__sure ?a_World ?pg_World ?hd_World ?po_World ?sa_World ?mk_World ?kc_World ?na_World__mouth ?na_World__ear ?na_World__late ?na_World__letters ?na_World__tellings ?na_World__arrived ?a_BadBits ?xq_BadBits ?xk_BadBits ?xs_BadBits ?xt_BadBits ?a_Full ?xq_Full ?xk_Full ?xs_Full ?xt_Full ?a_BadEvent ?xk_BadEvent ?xs_BadEvent ?xt_BadEvent ?rq_BadEvent ?sa_BadEvent ?ci_BadEvent ?ti_BadEvent ?ni_BadEvent ?ri_lk_BadEvent ?ri_hc_BadEvent ?ri_lc_BadEvent ?ri_v2_BadEvent ?ri_fl_BadEvent ?ri_tp ?ri_ce_BadEvent ?ri_dc_BadEvent ?ri_sb_BadEvent ?ri_op ?ri_su_BadEvent ?ri_sv_BadEvent ?z_super ?a_BadSetting ?a_BitsError ?a_BadMark ?a_BadText ?oh_BadSetting_0 ?oh_BadSetting_1 ?oh_BadSetting_2 ?oh_BadSetting_3 ?oh_BadSetting_4 ?oc_hn ?oc_ht ?om_BadSetting ?ok_BadSetting_0 ?ok_BadSetting_1 ?ok_BadSetting_2 ?ok_BadSetting_3 ?ok_BadSetting_4 ?ok_BadSetting_5 ?ox_BadSetting ?ov_BadSetting ?oh_BadMark_0 ?oh_BadMark_1 ?oh_BadMark_2 ?oh_BadMark_3 ?oh_BadMark_4 ?om_BadMark ?ok_BadMark_0 ?ok_BadMark_1 ?ok_BadMark_2 ?ok_BadMark_3 ?ok_BadMark_4 ?ok_BadMark_5 ?ox_BadMark ?ov_BadMark ?oh_BadBits_0 ?oh_BadBits_1 ?oh_BadBits_2 ?oh_BadBits_3 ?oh_BadBits_4 ?om_BadBits ?ok_BadBits_0 ?ok_BadBits_1 ?ok_BadBits_2 ?ok_BadBits_3 ?ok_BadBits_4 ?ok_BadBits_5 ?ox_BadBits ?ov_BadBits ?oh_Full_0 ?oh_Full_1 ?oh_Full_2 ?oh_Full_3 ?oh_Full_4 ?om_Full ?ok_Full_0 ?ok_Full_1 ?ok_Full_2 ?ok_Full_3 ?ok_Full_4 ?ok_Full_5 ?ox_Full ?ov_Full ?oh_BadEvent_0 ?oh_BadEvent_1 ?oh_BadEvent_2 ?oh_BadEvent_3 ?oh_BadEvent_4 ?om_BadEvent ?ok_BadEvent_0 ?ok_BadEvent_1 ?ok_BadEvent_2 ?ok_BadEvent_3 ?ok_BadEvent_4 ?ok_BadEvent_5 ?ox_BadEvent ?ov_BadEvent ?oh_BadText_0 ?oh_BadText_1 ?oh_BadText_2 ?oh_BadText_3 ?oh_BadText_4 ?om_BadText ?ok_BadText_0 ?ok_BadText_1 ?ok_BadText_2 ?ok_BadText_3 ?ok_BadText_4 ?ok_BadText_5 ?ox_BadText ?ov_BadText ?tc_s1 ?tc_n1 ?tc_s5 ?tc_n5 ?tc_s6 ?tc_n6 ?a_MOST ?xm_BadBits ?a_l_told ?lkT ?hcT ?hkT ?a_BOUNDS ?lkB ?klB ?nB1 ?nB2 ?nB3 ?nB4 ?nB5 ?nB6 ?sB1 ?sB2 ?sB3 ?sB4 ?sB5 ?sB6 ?F_l_like ?a_l_like ?z_isinstance ?z_bool ?z_str ?z_int ?z_dict ?z_tuple ?z_list ?z_len ?z_range ?F_l_next ?a_l_next ?F_l_dice ?a_l_dice ?F_l_setting ?z_max ?z_min ?a_l_setting ?F_check_number ?a_check_number ?F_check_mark ?a_check_mark ?F_check_setting ?a_check_setting ?F_Ear__oldest ?ci_Ear__oldest ?ii_Ear__oldest ?F_Ear_last ?ci_Ear_last ?ii_Ear_last ?F_Ear__number_of ?ci_Ear__number_of ?ii_Ear__number_of ?F_Ear__word_of ?ci_Ear__word_of ?ii_Ear__word_of ?F_Ear__keep ?ci_Ear__keep ?ii_Ear__keep ?F_Ear__bits ?ci_Ear__bits ?ii_Ear__bits ?F_Ear_tell ?ci_Ear_tell ?ii_Ear_tell ?F_Ear_come ?ci_Ear_come ?ii_Ear_come ?F_Ear___init ?ci_Ear___init ?ii_Ear___init ?F_check_bits ?a_check_bits ?F_check_telling ?a_check_telling ?F_Mouth___init ?ci_Mouth___init ?ii_Mouth___init ?F_Mouth_is_full ?ci_Mouth_is_full ?ii_Mouth_is_full ?F_Mouth_last ?ci_Mouth_last ?ii_Mouth_last ?F_Mouth_sure ?z_sorted ?ci_Mouth_sure ?ii_Mouth_sure ?F_Mouth_send ?ci_Mouth_send ?ii_Mouth_send ?F_Mouth__numbers_of ?z_enumerate ?ci_Mouth__numbers_of ?ii_Mouth__numbers_of ?F_Mouth_hear ?ci_Mouth_hear ?ii_Mouth_hear ?F_l_ear ?a_l_ear ?F_l_taken ?a_l_taken ?F_l_come ?a_l_come ?F_l_tell ?a_l_tell ?F_l_mouth ?a_l_mouth ?F_l_is_full ?a_l_is_full ?F_l_hear ?a_l_hear ?F_World__can_come ?ci_World__can_come ?ii_World__can_come ?F_World__can_be_heard ?ci_World__can_be_heard ?ii_World__can_be_heard ?F_World_can_be ?ci_World_can_be ?ii_World_can_be ?F_World__send ?ci_World__send ?ii_World__send ?F_World__tell ?ci_World__tell ?ii_World__tell ?F_World__come ?ci_World__come ?ii_World__come ?F_World__hear ?z_any ?ci_World__hear ?ii_World__hear ?F_World_happen ?ci_World_happen ?ii_World_happen ?F_World___init ?ci_World___init ?ii_World___init ?F_played ?a_played ?F_l_world ?a_l_world ?F_l_can ?a_l_can ?F_l_do ?a_l_do ?F_l_event ?a_l_event ?F_l_events ?a_l_events ?F_l_played ?a_l_played ?F_l_odd ?a_l_odd ?a_law ?lk_law ?hc_law ?lk_code ?ht_law ?hh_law ?nt_law ?z_ValueError ?hT
    (case a_Ear => k_is)
    (case a_Mouth => k_is)
    (case a_World => k_is)
    (case a_BadBits => k_is)
    (case a_Full => k_is)
    (case a_BadEvent => k_is)
    (case a_BadSetting => k_is)
    (case a_BitsError => k_is)
    (case a_BadMark => k_is)
    (case a_BadText => k_is)
    (case a_MOST => k_is)
    (case a_l_told => k_is)
    (case a_BOUNDS => k_is)
    (case a_l_like => k_is)
    (case a_l_next => k_is)
    (case a_l_dice => k_is)
    (case a_l_setting => k_is)
    (case a_check_number => k_is)
    (case a_check_mark => k_is)
    (case a_check_setting => k_is)
    (case a_check_bits => k_is)
    (case a_check_telling => k_is)
    (case a_l_ear => k_is)
    (case a_l_taken => k_is)
    (case a_l_come => k_is)
    (case a_l_tell => k_is)
    (case a_l_mouth => k_is)
    (case a_l_is_full => k_is)
    (case a_l_hear => k_is)
    (case a_played => k_is)
    (case a_l_world => k_is)
    (case a_l_can => k_is)
    (case a_l_do => k_is)
    (case a_l_event => k_is)
    (case a_l_events => k_is)
    (case a_l_played => k_is)
    (case a_l_odd => k_is)
    (case a_law => k_is)
    (case ci_BadEvent => k_is)
    (case ci_Ear__oldest => k_is)
    (case ci_Ear_last => k_is)
    (case ci_Ear__number_of => k_is)
    (case ci_Ear__word_of => k_is)
    (case ci_Ear__keep => k_is)
    (case ci_Ear__bits => k_is)
    (case ci_Ear_tell => k_is)
    (case ci_Ear_come => k_is)
    (case ci_Ear___init => k_is)
    (case ci_Mouth___init => k_is)
    (case ci_Mouth_is_full => k_is)
    (case ci_Mouth_last => k_is)
    (case ci_Mouth_sure => k_is)
    (case ci_Mouth_send => k_is)
    (case ci_Mouth__numbers_of => k_is)
    (case ci_Mouth_hear => k_is)
    (case ci_World__can_come => k_is)
    (case ci_World__can_be_heard => k_is)
    (case ci_World_can_be => k_is)
    (case ci_World__send => k_is)
    (case ci_World__tell => k_is)
    (case ci_World__come => k_is)
    (case ci_World__hear => k_is)
    (case ci_World_happen => k_is)
    (case ci_World___init => k_is)
    (case pg_Ear => k_is)
    (case hd_Ear => k_is)
    (case po_Ear => k_is)
    (case sa_Ear => k_is)
    (case mk_Ear => k_is)
    (case kc_Ear => k_is)
    (case na_Ear__marks => k_is)
    (case na_Ear__wide => k_is)
    (case na_Ear__late => k_is)
    (case na_Ear__greatest => k_is)
    (case na_Ear__came => k_is)
    (case pg_Mouth => k_is)
    (case hd_Mouth => k_is)
    (case po_Mouth => k_is)
    (case sa_Mouth => k_is)
    (case mk_Mouth => k_is)
    (case kc_Mouth => k_is)
    (case na_Mouth__marks => k_is)
    (case na_Mouth__wide => k_is)
    (case na_Mouth__ahead => k_is)
    (case na_Mouth__last => k_is)
    (case na_Mouth__greatest => k_is)
    (case na_Mouth__sure => k_is)
    (case pg_World => k_is)
    (case hd_World => k_is)
    (case po_World => k_is)
    (case sa_World => k_is)
    (case mk_World => k_is)
    (case kc_World => k_is)
    (case na_World__mouth => k_is)
    (case na_World__ear => k_is)
    (case na_World__late => k_is)
    (case na_World__letters => k_is)
    (case na_World__tellings => k_is)
    (case na_World__arrived => k_is)
    (case xq_BadBits => k_exc)
    (case xk_BadBits => k_is)
    (case xs_BadBits => k_is)
    (case xt_BadBits => k_is)
    (case xq_Full => k_exc)
    (case xk_Full => k_is)
    (case xs_Full => k_is)
    (case xt_Full => k_is)
    (case xk_BadEvent => k_is)
    (case xs_BadEvent => k_is)
    (case xt_BadEvent => k_is)
    (case rq_BadEvent => kernel_rfl)
    (case sa_BadEvent => k_is)
    (case ti_BadEvent => k_is)
    (case ni_BadEvent => k_is)
    (case ri_lk_BadEvent => k_is)
    (case ri_hc_BadEvent => k_is)
    (case ri_lc_BadEvent => k_is)
    (case ri_v2_BadEvent => rfl)
    (case ri_fl_BadEvent => kernel_rfl)
    (case ri_tp => kernel_rfl)
    (case ri_ce_BadEvent => k_is)
    (case ri_dc_BadEvent => kernel_rfl)
    (case ri_sb_BadEvent => k_is)
    (case ri_op => k_is)
    (case ri_su_BadEvent => kernel_rfl)
    (case ri_sv_BadEvent => k_is)
    (case z_super => k_is)
    (case oh_BadSetting_0 => k_is)
    (case oh_BadSetting_1 => k_is)
    (case oh_BadSetting_2 => k_is)
    (case oh_BadSetting_3 => k_is)
    (case oh_BadSetting_4 => k_is)
    (case oc_hn => k_is)
    (case oc_ht => k_is)
    (case om_BadSetting => k_is)
    (case ok_BadSetting_0 => kernel_rfl)
    (case ok_BadSetting_1 => kernel_rfl)
    (case ok_BadSetting_2 => kernel_rfl)
    (case ok_BadSetting_3 => kernel_rfl)
    (case ok_BadSetting_4 => kernel_rfl)
    (case ok_BadSetting_5 => kernel_rfl)
    (case ox_BadSetting => kernel_rfl)
    (case ov_BadSetting => kernel_rfl)
    (case oh_BadMark_0 => k_is)
    (case oh_BadMark_1 => k_is)
    (case oh_BadMark_2 => k_is)
    (case oh_BadMark_3 => k_is)
    (case oh_BadMark_4 => k_is)
    (case om_BadMark => k_is)
    (case ok_BadMark_0 => kernel_rfl)
    (case ok_BadMark_1 => kernel_rfl)
    (case ok_BadMark_2 => kernel_rfl)
    (case ok_BadMark_3 => kernel_rfl)
    (case ok_BadMark_4 => kernel_rfl)
    (case ok_BadMark_5 => kernel_rfl)
    (case ox_BadMark => kernel_rfl)
    (case ov_BadMark => kernel_rfl)
    (case oh_BadBits_0 => k_is)
    (case oh_BadBits_1 => k_is)
    (case oh_BadBits_2 => k_is)
    (case oh_BadBits_3 => k_is)
    (case oh_BadBits_4 => k_is)
    (case om_BadBits => k_is)
    (case ok_BadBits_0 => kernel_rfl)
    (case ok_BadBits_1 => kernel_rfl)
    (case ok_BadBits_2 => kernel_rfl)
    (case ok_BadBits_3 => kernel_rfl)
    (case ok_BadBits_4 => kernel_rfl)
    (case ok_BadBits_5 => kernel_rfl)
    (case ox_BadBits => kernel_rfl)
    (case ov_BadBits => kernel_rfl)
    (case oh_Full_0 => k_is)
    (case oh_Full_1 => k_is)
    (case oh_Full_2 => k_is)
    (case oh_Full_3 => k_is)
    (case oh_Full_4 => k_is)
    (case om_Full => k_is)
    (case ok_Full_0 => kernel_rfl)
    (case ok_Full_1 => kernel_rfl)
    (case ok_Full_2 => kernel_rfl)
    (case ok_Full_3 => kernel_rfl)
    (case ok_Full_4 => kernel_rfl)
    (case ok_Full_5 => kernel_rfl)
    (case ox_Full => kernel_rfl)
    (case ov_Full => kernel_rfl)
    (case oh_BadEvent_0 => k_is)
    (case oh_BadEvent_1 => k_is)
    (case oh_BadEvent_2 => k_is)
    (case oh_BadEvent_3 => k_is)
    (case oh_BadEvent_4 => k_is)
    (case om_BadEvent => k_is)
    (case ok_BadEvent_0 => kernel_rfl)
    (case ok_BadEvent_1 => kernel_rfl)
    (case ok_BadEvent_2 => kernel_rfl)
    (case ok_BadEvent_3 => kernel_rfl)
    (case ok_BadEvent_4 => kernel_rfl)
    (case ok_BadEvent_5 => kernel_rfl)
    (case ox_BadEvent => kernel_rfl)
    (case ov_BadEvent => kernel_rfl)
    (case oh_BadText_0 => k_is)
    (case oh_BadText_1 => k_is)
    (case oh_BadText_2 => k_is)
    (case oh_BadText_3 => k_is)
    (case oh_BadText_4 => k_is)
    (case om_BadText => k_is)
    (case ok_BadText_0 => kernel_rfl)
    (case ok_BadText_1 => kernel_rfl)
    (case ok_BadText_2 => kernel_rfl)
    (case ok_BadText_3 => kernel_rfl)
    (case ok_BadText_4 => kernel_rfl)
    (case ok_BadText_5 => kernel_rfl)
    (case ox_BadText => kernel_rfl)
    (case ov_BadText => kernel_rfl)
    (case tc_s1 => kernel_rfl)
    (case tc_n1 => k_is)
    (case tc_s5 => kernel_rfl)
    (case tc_n5 => k_is)
    (case tc_s6 => kernel_rfl)
    (case tc_n6 => k_is)
    (case xm_BadBits => kernel_rfl)
    (case lkT => k_is)
    (case hcT => k_is)
    (case hkT => k_is)
    (case lkB => k_is)
    (case klB => walk_at "kl")
    (case nB1 => k_is)
    (case nB2 => k_is)
    (case nB3 => k_is)
    (case nB4 => k_is)
    (case nB5 => k_is)
    (case nB6 => k_is)
    (case sB1 => walk_at "sqk")
    (case sB2 => walk_at "sqk")
    (case sB3 => walk_at "sqk")
    (case sB4 => walk_at "sqk")
    (case sB5 => walk_at "sqk")
    (case sB6 => walk_at "sqk")
    (case F_l_like => walk_at "fi")
    (case z_isinstance => k_is)
    (case z_bool => k_is)
    (case z_str => k_is)
    (case z_int => k_is)
    (case z_dict => k_is)
    (case z_tuple => k_is)
    (case z_list => k_is)
    (case z_len => k_is)
    (case z_range => k_is)
    (case F_l_next => walk_at "fi")
    (case F_l_dice => walk_at "fi")
    (case F_l_setting => walk_at "fi")
    (case z_max => k_is)
    (case z_min => k_is)
    (case F_check_number => walk_at "fi")
    (case F_check_mark => walk_at "fi")
    (case F_check_setting => walk_at "fi")
    (case F_Ear__oldest => walk_at "fi")
    (case ii_Ear__oldest => k_is)
    (case F_Ear_last => walk_at "fi")
    (case ii_Ear_last => k_is)
    (case F_Ear__number_of => walk_at "fi")
    (case ii_Ear__number_of => k_is)
    (case F_Ear__word_of => walk_at "fi")
    (case ii_Ear__word_of => k_is)
    (case F_Ear__keep => walk_at "fi")
    (case ii_Ear__keep => k_is)
    (case F_Ear__bits => walk_at "fi")
    (case ii_Ear__bits => k_is)
    (case F_Ear_tell => walk_at "fi")
    (case ii_Ear_tell => k_is)
    (case F_Ear_come => walk_at "fi")
    (case ii_Ear_come => k_is)
    (case F_Ear___init => walk_at "fi")
    (case ii_Ear___init => k_is)
    (case F_check_bits => walk_at "fi")
    (case F_check_telling => walk_at "fi")
    (case F_Mouth___init => walk_at "fi")
    (case ii_Mouth___init => k_is)
    (case F_Mouth_is_full => walk_at "fi")
    (case ii_Mouth_is_full => k_is)
    (case F_Mouth_last => walk_at "fi")
    (case ii_Mouth_last => k_is)
    (case F_Mouth_sure => walk_at "fi")
    (case z_sorted => k_is)
    (case ii_Mouth_sure => k_is)
    (case F_Mouth_send => walk_at "fi")
    (case ii_Mouth_send => k_is)
    (case F_Mouth__numbers_of => walk_at "fi")
    (case z_enumerate => k_is)
    (case ii_Mouth__numbers_of => k_is)
    (case F_Mouth_hear => walk_at "fi")
    (case ii_Mouth_hear => k_is)
    (case F_l_ear => walk_at "fi")
    (case F_l_taken => walk_at "fi")
    (case F_l_come => walk_at "fi")
    (case F_l_tell => walk_at "fi")
    (case F_l_mouth => walk_at "fi")
    (case F_l_is_full => walk_at "fi")
    (case F_l_hear => walk_at "fi")
    (case F_World__can_come => walk_at "fi")
    (case ii_World__can_come => k_is)
    (case F_World__can_be_heard => walk_at "fi")
    (case ii_World__can_be_heard => k_is)
    (case F_World_can_be => walk_at "fi")
    (case ii_World_can_be => k_is)
    (case F_World__send => walk_at "fi")
    (case ii_World__send => k_is)
    (case F_World__tell => walk_at "fi")
    (case ii_World__tell => k_is)
    (case F_World__come => walk_at "fi")
    (case ii_World__come => k_is)
    (case F_World__hear => walk_at "fi")
    (case z_any => k_is)
    (case ii_World__hear => k_is)
    (case F_World_happen => walk_at "fi")
    (case ii_World_happen => k_is)
    (case F_World___init => walk_at "fi")
    (case ii_World___init => k_is)
    (case F_played => walk_at "fi")
    (case F_l_world => walk_at "fi")
    (case F_l_can => walk_at "fi")
    (case F_l_do => walk_at "fi")
    (case F_l_event => walk_at "fi")
    (case F_l_events => walk_at "fi")
    (case F_l_played => walk_at "fi")
    (case F_l_odd => walk_at "fi")
    (case lk_law => k_is)
    (case hc_law => k_is)
    (case lk_code => k_is)
    (case ht_law => rfl)
    (case hh_law => kernel_rfl)
    (case nt_law => kernel_rfl)
    (case z_ValueError => k_is)
    (case hT => exact PySem.W.km_tabs_of Y _ (by k_mem))
#print axioms PySem.Challenge.cw_ackbits_k04_what_happens_holds
