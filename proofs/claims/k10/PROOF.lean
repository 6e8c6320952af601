import PyProof.Rows.All
import Wide.All
import OpenK.AllK
import Wide.FinOn
import HandS.ForMost
import HandS.Exc
import HandS.WordsExc
import HandS.ExcOwn
import HandS.ExcIs
import HandS.ExcField
import HandS.TryOnly
import HandS.IsInst
import HandS.Conv
import HandS.Zip
import HandS.Codes
import HandS.Lambda
import HandS.EndTab
import HandS.Small
import HandS.SetFor
import HandS.SortInts
import HandS.HotCalls
import HandS.NestedK
import KE.GoesEnumKw
import KE.GoesMore
import HandS.SortKw
import HandS.More
import HandS.FStr
import HandS.ExcInit
import KE.KExcSuper
import KE.KExcIs
import HandS.Text
import HandS.Flow
import KE.IntTextLaws
import PySem.Challenge.RW_ackbits_k10_written_and_read
set_option Elab.async false
set_option linter.all false
set_option maxRecDepth 100000
set_option maxHeartbeats 4000000
namespace Ak
open PySem PySem.Spec PyProof.Rows L2

/-! ### heaps: what is kept but for S -/
def Keep (S : List Addr) (H H' : Hp) : Prop := (∀ a o, a ∉ S → H a = some o → H' a = some o) ∧ ∀ a, H' a = none → H a = none
section
variable {S T : List Addr} {H H1 H2 : Hp} {a p : Addr} {o : HO} {K : PySem.W.Frag} {xs : List V}
theorem Keep.refl : Keep S H H := ⟨fun _ _ _ h => h, fun _ h => h⟩
theorem Keep.mono (h : ∀ b, b ∈ T → b ∈ S) (k : Keep T H H1) : Keep S H H1 := ⟨fun b u n e => k.1 b u (fun m => n (h b m)) e, k.2⟩
theorem Keep.trans (k : Keep S H H1) (l : Keep S H1 H2) : Keep S H H2 := ⟨fun b u n e => l.1 b u n (k.1 b u n e), fun b e => k.2 b (l.2 b e)⟩
/-- behind a call -/
theorem Keep.call (l : Keep T H1 H2) (h : ∀ b, b ∈ T → b ∈ S) (k : Keep S H H1) : Keep S H H2 := k.trans (l.mono h)
theorem Keep.new (k : Keep S H H1) (n : H1 p = none) : Keep S H (upd H1 p o) := ⟨fun b u m e => by
  have e1 := k.1 b u m e
  rw [upd_ne (ne_of_none e1 n)]
  exact e1, fun b e => by
  by_cases q : b = p
  · rw [q, upd_same] at e; cases e
  · rw [upd_ne q] at e; exact k.2 b e⟩
theorem Keep.set (k : Keep S H H1) (m : p ∈ S) : Keep S H (upd H1 p o) := ⟨fun b u n e => by
  have e1 := k.1 b u n e
  have q : b ≠ p := fun z => n (z ▸ m)
  rw [upd_ne q]
  exact e1, fun b e => by
  by_cases q : b = p
  · rw [q, upd_same] at e; cases e
  · rw [upd_ne q] at e; exact k.2 b e⟩
theorem Keep.new' (n : H1 p = none) (k : Keep S H H1) : Keep S H (upd H1 p o) := k.new n
theorem Keep.set' (m : p ∈ S) (k : Keep S H H1) : Keep S H (upd H1 p o) := k.set m
theorem Keep.at (k : Keep S H H1) (n : a ∉ S) (e : H a = some o) : H1 a = some o := k.1 a o n e
theorem Keep.free (k : Keep S H H1) (e : H1 a = none) : H a = none := k.2 a e
theorem Keep.seqL (k : Keep S H H1) (n : a ∉ S) (e : SqL K H a xs) : SqL K H1 a xs := by
  rcases e with e | e
  · rcases e with e | ⟨o, e⟩
    · exact Or.inl (Or.inl (k.1 _ _ n e))
    · exact Or.inl (Or.inr ⟨o, k.1 _ _ n e⟩)
  · exact Or.inr e
theorem Keep.seqT (k : Keep S H H1) (n : a ∉ S) (e : SqT K H a xs) : SqT K H1 a xs := by
  rcases e with e | e
  · rcases e with e | ⟨o, e⟩
    · exact Or.inl (Or.inl (k.1 _ _ n e))
    · exact Or.inl (Or.inr ⟨o, k.1 _ _ n e⟩)
  · exact Or.inr e
theorem nin_nil : a ∉ ([] : List Addr) := List.not_mem_nil
theorem nin_cons {b : Addr} (h : a ≠ b) (t : a ∉ S) : a ∉ b :: S := fun m => by
  rcases List.mem_cons.mp m with z | z
  · exact h z
  · exact t z
theorem ne_new {b : Addr} (h' : H b = none) (h : H a = some o) : a ≠ b := ne_of_none h h'
theorem sub_nil : ∀ b : Addr, b ∈ ([] : List Addr) → b ∈ S := fun _ m => absurd m List.not_mem_nil
theorem sub_cons {b : Addr} (h : b ∈ S) (t : ∀ c, c ∈ T → c ∈ S) : ∀ c, c ∈ b :: T → c ∈ S := fun c m => by
  rcases List.mem_cons.mp m with z | z
  · exact z ▸ h
  · exact t c z
theorem at_upd (h : a ≠ p) (e : H a = some o) {u : HO} : upd H p u a = some o := (upd_ne h).trans e
theorem at_new (n : H p = none) (e : H a = some o) {u : HO} : upd H p u a = some o := (upd_ne (ne_of_none e n)).trans e
theorem free_upd {u : HO} (e : upd H p u a = none) : H a = none := by
  by_cases q : a = p
  · rw [q, upd_same] at e; cases e
  · rw [upd_ne q] at e; exact e
theorem SqL.upd {u : HO} (h : SqL K H a xs) (n : H p = none) : SqL K (upd H p u) a xs := Keep.seqL (S := []) (Keep.refl.new n) nin_nil h
theorem SqT.upd {u : HO} (h : SqT K H a xs) (n : H p = none) : SqT K (upd H p u) a xs := Keep.seqT (S := []) (Keep.refl.new n) nin_nil h
end

/-! ### general operators -/
section
variable {X : Cx}
def rPlus (K : PySem.W.Frag) : R2 := fun x y H Q => rI0 (fun i j => .int (i + j)) x y H Q ∨ rCat x y H Q ∨ (∃ i j, x = .str i ∧ y = .str j ∧ i.length + j.length ≤ sizeLine ∧ Q (.str (i ++ j)) H) ∨ rCatT K x y H Q
theorem op_plus : OpR X (binaryOp .Add) (rPlus X.K) := OpR.or op_add (OpR.or op_cat (OpR.or op_add_str op_catT))
abbrev rMinus : R2 := rI0 fun i j => .int (i - j)
def rTimes : R2 := fun x y H Q => rI CMul (fun i j => .int (i * j)) x y H Q ∨ rRep x y H Q
theorem op_times : OpR X (binaryOp .Mult) rTimes := OpR.or op_mul op_rep
abbrev rMod : R2 := rI (fun _ j => 0 < j) fun i j => .int (i % j)
abbrev rDiv : R2 := rI CDiv fun i j => .int (i / j)
abbrev rPow : R2 := rI CPow fun i j => .int (i ^ j.toNat)
def rEqX (K : PySem.W.Frag) : R2 := fun x y H Q => rEq x y H Q ∨ rEqD K x y H Q
theorem op_eqX (hu : X.A.units + 64 < cLine) : OpR X (compareOp .Eq) (rEqX X.K) := OpR.or op_eq (op_eqD hu)
def rNeX (K : PySem.W.Frag) : R2 := fun x y H Q => rNe x y H Q ∨ rNeD K x y H Q
theorem op_neX (hu : X.A.units + 64 < cLine) : OpR X (compareOp .NotEq) (rNeX X.K) := OpR.or op_ne (op_neD hu)
abbrev rLt : R2 := rI0 fun i j => .bl (decide (i < j))
abbrev rLe : R2 := rI0 fun i j => .bl (decide (i ≤ j))
abbrev rGt : R2 := rI0 fun i j => .bl (decide (j < i))
abbrev rGe : R2 := rI0 fun i j => .bl (decide (j ≤ i))
def tTru (K : PySem.W.Frag) (ta : TE) : TT := fun σ H Q => ta σ H fun x H' => ∃ k, TruV K x H' k ∧ Q k H'
theorem pt_tru {a : Expr} {ta : TE} (ha : PE X a ta) (he : ∀ whole, isTrue a X.env whole = (do let v ← whole; standAt a.pos; holding [v] (truthy v)) := by intro _; rfl) : PT X a (tTru X.K ta) := pt_truth ha he
def rIsNon : R2 := fun x y H Q => y = .non ∧ Q (.bl (decide (x = .non))) H
def rNotNon : R2 := fun x y H Q => y = .non ∧ Q (.bl (!decide (x = .non))) H
theorem op_isNon : OpR X (compareOp .Is) rIsNon := op_isN
theorem op_notNon : OpR X (compareOp .IsNot) rNotNon := op_notN
def rInX (K : PySem.W.Frag) : R2 := fun x y H Q => rIn K false x y H Q ∨ ∃ (c : Nat) (z : Str), x = .str ⟨#[c]⟩ ∧ y = .str z ∧ Q (.bl (decide (c ∈ z.cps.toList))) H
theorem op_inX : OpR X (compareOp .In) (rInX X.K) := OpR.or op_in_seq op_in_sign
def rNinX (K : PySem.W.Frag) : R2 := fun x y H Q => rIn K true x y H Q ∨ ∃ (c : Nat) (z : Str), x = .str ⟨#[c]⟩ ∧ y = .str z ∧ Q (.bl (!decide (c ∈ z.cps.toList))) H
theorem op_ninX : OpR X (compareOp .NotIn) (rNinX X.K) := OpR.or op_notIn_seq op_notIn_sign
/-- len, max, min, int, tuple, list, isinstance -/
def rLenX (K : PySem.W.Frag) : List V → Hp → VK → Prop := fun xs H Q => ∃ x n, xs = [x] ∧ LenV K x H n ∧ Q (.int (n : Nat)) H
theorem cr_lenX : CallR X (.builtin "len") (rLenX X.K) := call_len
def rMaxX (K : PySem.W.Frag) : List V → Hp → VK → Prop := fun xs H Q => (∃ i j, xs = [.int i, .int j] ∧ Q (.int (if j > i then j else i)) H) ∨ rMax K xs H Q
theorem cr_maxX (hc : X.calm = true) : CallR X (.builtin "max") (rMaxX X.K) := CallR.or (call_max2 hc) (cr_max hc)
def rMinX (K : PySem.W.Frag) : List V → Hp → VK → Prop := fun xs H Q => (∃ i j, xs = [.int i, .int j] ∧ Q (.int (if j < i then j else i)) H) ∨ rMin K xs H Q
theorem cr_minX (hc : X.calm = true) : CallR X (.builtin "min") (rMinX X.K) := CallR.or (call_min2 hc) (cr_min hc)
def rIntX : List V → Hp → VK → Prop := fun xs H Q => (∃ i, xs = [.int i] ∧ Q (.int i) H) ∨ ∃ k, xs = [.bl k] ∧ Q (.int (if k then 1 else 0)) H
theorem cr_intX : CallR X (.type "int") rIntX := call_int1
def rTupX (K : PySem.W.Frag) : List V → Hp → VK → Prop := fun xs H Q => ∃ p ys, xs = [.ref p] ∧ ((SqL K H p ys ∧ ∀ l, H l = none → Q (.ref l) (upd H l (.tup ys))) ∨ (SqT K H p ys ∧ Q (.ref p) H))
theorem cr_tupX : CallR X (.type "tuple") (rTupX X.K) := call_tuple_of
def rLisX (K : PySem.W.Frag) : List V → Hp → VK → Prop := fun xs H Q => ∃ p ys, xs = [.ref p] ∧ (SqL K H p ys ∨ SqT K H p ys) ∧ ∀ l, H l = none → Q (.ref l) (upd H l (.lst ys))
theorem cr_lisX : CallR X (.type "list") (rLisX X.K) := call_list_of
end

/-! ### calls of defs of the text: what they let out goes to W -/
def tCallX (sp : Sp) (W : WX) (t : TA) : TE := fun σ H Q => t σ H fun vs H1 => sp vs H1 Q (WE W σ)
def tMethX (C : Addr) (m : Str) (sp : Sp) (W : WX) (ta : TE) (t : TA) : TE := fun σ H Q => ta σ H fun x H1 => ∃ a dx fs, x = .ref a ∧ H1 a = some (.ins C dx fs) ∧ fs.lookup m = none ∧ t σ H1 fun vs H2 => sp (x :: vs) H2 Q (WE W σ)
def tMakeX (C : Addr) (sp : Sp) (W : WX) (t : TA) : TE := fun σ H Q => t σ H fun vs H1 => ∀ x dx, H1 x = none → H1 dx = none → dx ≠ x →
  sp (.ref x :: vs) (upd (upd H1 dx (.own x)) x (.ins C dx [])) (fun v H2 => v = .non ∧ Q (.ref x) H2) (WE W σ)
structure CalX (P : Program) (w : World) (K : PySem.W.Frag) (mg : Str → Option Value) (base : Heap) (k : Nat) (x : Str) (sp : Sp) : Prop where
  ex : ∃ (f : Addr) (fd : FuncData) (ps : List Str), FnOk P w K mg base (L2.CX P w) k f fd ps sp ∧ mg x = some (.ref f) ∧ PySem.W.keepIn K (.ref f) = true ∧ Binds K fd ps []
structure MetX (P : Program) (w : World) (K : PySem.W.Frag) (mg : Str → Option Value) (base : Heap) (k : Nat) (C : Addr) (m : Str) (sp : Sp) : Prop where
  ex : ∃ (f : Addr) (fd : FuncData) (ps : List Str), Cls K C ∧ Meth K C m f ∧ FnOk P w K mg base (L2.CX P w) k f fd ps sp ∧ Binds K fd ps []
structure MakX (P : Program) (w : World) (K : PySem.W.Frag) (mg : Str → Option Value) (base : Heap) (k : Nat) (x : Str) (C : Addr) (sp : Sp) : Prop where
  ex : ∃ (f : Addr) (fd : FuncData) (ps : List Str), Mk K C f ∧ FnOk P w K mg base (L2.CX P w) k f fd ps sp ∧ mg x = some (.ref C) ∧ Binds K fd ps []
section
variable {X : Cx} {W : WX} {k j : Nat} {C : Addr} {x m : Str} {sp : Sp} {p pos apos : Pos} {e o : Expr} {es : List Expr} {ta : TE} {t : TA}
theorem pe_cx (c : CalX X.prog X.w X.K X.mg X.base k x sp) (hr : Room j X.A) (hk : k ≤ j) (hg : Gl X x) (tk : Takes X W) (ha : PA X (e :: es) t)
    (hdb : (x == ("__debug__" : Str)) = false := by decide) (he : starEach (e :: es) X.env = (false, eval e X.env) :: starEach es X.env := by rfl)
    (hpl : (backTo pos (starEach es X.env)).any (·.1) = false := by rfl) : PE X (.Call (.Name x p) (e :: es) [] pos) (tCallX sp W t) := by
  obtain ⟨f, fd, ps, F, hm, hkp, hb⟩ := c.ex
  exact pe_callS F (hr.mono hk) hg hm hkp hb (fun σ => passAt tk σ) ha hdb he hpl
theorem pe_cx0 (c : CalX X.prog X.w X.K X.mg X.base k x sp) (hr : Room j X.A) (hk : k ≤ j) (hg : Gl X x) (tk : Takes X W)
    (hdb : (x == ("__debug__" : Str)) = false := by decide) : PE X (.Call (.Name x p) [] [] pos) (tCallX sp W tNil) := by
  obtain ⟨f, fd, ps, F, hm, hkp, hb⟩ := c.ex
  refine ⟨fun pn s₀ σ₀ H₀ Q₀ I₀ q₀ => ?_⟩
  refine wpAny_Call_Name_kw (ld_glob I₀ hg hm ?_ hdb)
  exact PySem.W.callWith_K0 I₀.kIn hkp (run_fnS (us := []) F (hr.mono hk) hb (passAt tk σ₀) I₀ .nil q₀)
theorem pe_mx {pl : Sem Bool} (he : PE X o ta) (c : MetX X.prog X.w X.K X.mg X.base k C m sp) (hr : Room j X.A) (hk : k ≤ j) (tk : Takes X W) (ha : PA X (e :: es) t)
    (hst : starEach (e :: es) X.env = (false, eval e X.env) :: starEach es X.env := by rfl) (hpl : (backTo pos (starEach es X.env)).any (·.1) = false := by rfl)
    (ht : eval (.Call (.Attribute o m apos) (e :: es) [] pos) X.env = (do
      let ov ← eval o X.env
      standAt apos.atName
      let (f, first) ← holding [ov] (getMethod ov m pl)
      callWith pos f first (backTo pos (starEach (e :: es) X.env)) (backToKw pos (keywordEach [] X.env))) := by rfl) :
    PE X (.Call (.Attribute o m apos) (e :: es) [] pos) (tMethX C m sp W ta t) := by
  obtain ⟨f, fd, ps, c, hm, F, hb⟩ := c.ex
  refine ⟨fun pn s₀ σ₀ H₀ Q₀ I₀ q₀ => ?_⟩
  refine PySem.W.methodCall_KW (pl := pl) (thn (he.run pn s₀ σ₀ H₀ _ I₀ q₀) fun u₀ s₁ ⟨x₁, H₁, I₁, rx, a₀, dx₀, fs₀, ex, ea, l₀, q₁⟩ => ?_) ht
  subst ex
  obtain rfl : u₀ = Value.ref a₀ := rx
  refine getmeth_ok I₁ ea c hm l₀ ?_
  refine PySem.W.callWith_K (first := [.ref a₀]) (h₀ := X.base) I₁.ok.mod.kin hm.kp (thn (ha.run pos pn s₁ σ₀ H₁ _ I₁ q₁) fun us s₂ ⟨vs, H₂, I₂, r₂, q₂⟩ => ⟨I₂.kIn, ?_⟩) hst hpl
  exact run_fnS (us := .ref a₀ :: us) (vs := .ref a₀ :: vs) F (hr.mono hk) hb (passAt tk σ₀) I₂ (.cons rfl r₂) q₂
theorem pe_mx0 {pl : Sem Bool} (he : PE X o ta) (c : MetX X.prog X.w X.K X.mg X.base k C m sp) (hr : Room j X.A) (hk : k ≤ j) (tk : Takes X W)
    (ht : eval (.Call (.Attribute o m apos) [] [] pos) X.env = (do
      let ov ← eval o X.env
      standAt apos.atName
      let (f, first) ← holding [ov] (getMethod ov m pl)
      callWith pos f first (backTo pos (starEach [] X.env)) (backToKw pos (keywordEach [] X.env))) := by rfl) :
    PE X (.Call (.Attribute o m apos) [] [] pos) (tMethX C m sp W ta tNil) := by
  obtain ⟨f, fd, ps, c, hm, F, hb⟩ := c.ex
  refine ⟨fun pn s₀ σ₀ H₀ Q₀ I₀ q₀ => ?_⟩
  refine PySem.W.methodCall_KW (pl := pl) (thn (he.run pn s₀ σ₀ H₀ _ I₀ q₀) fun u₀ s₁ ⟨x₁, H₁, I₁, rx, a₀, dx₀, fs₀, ex, ea, l₀, q₁⟩ => ?_) ht
  subst ex
  obtain rfl : u₀ = Value.ref a₀ := rx
  refine getmeth_ok I₁ ea c hm l₀ ?_
  exact PySem.W.callWith_K0 (first := [.ref a₀]) I₁.kIn hm.kp (run_fnS (us := [.ref a₀]) (vs := [.ref a₀]) F (hr.mono hk) hb (passAt tk σ₀) I₁ (.cons rfl .nil) q₁)
theorem pe_kx (c : MakX X.prog X.w X.K X.mg X.base k x C sp) (hr : Room j X.A) (hk : k + 1 ≤ j) (hg : Gl X x) (tk : Takes X W) (ha : PA X (e :: es) t)
    (hdb : (x == ("__debug__" : Str)) = false := by decide) (he : starEach (e :: es) X.env = (false, eval e X.env) :: starEach es X.env := by rfl)
    (hpl : (backTo pos (starEach es X.env)).any (·.1) = false := by rfl) : PE X (.Call (.Name x p) (e :: es) [] pos) (tMakeX C sp W t) := by
  obtain ⟨f, fd, ps, M, F, hm, hb⟩ := c.ex
  refine ⟨fun pn s₀ σ₀ H₀ Q₀ I₀ q₀ => ?_⟩
  refine wpAny_Call_Name_kw (ld_glob I₀ hg hm ?_ hdb)
  refine PySem.W.callWith_K (h₀ := X.base) I₀.ok.mod.kin M.kp (thn (ha.run pos pn s₀ σ₀ H₀ _ I₀ q₀) fun us s₁ ⟨vs, H₁, I₁, r₁, q₁⟩ => ⟨I₁.kIn, ?_⟩) he hpl
  have hq := q₁ (s₁.heap.objs.size + 1) s₁.heap.objs.size (I₁.hok.fresh (Nat.le_succ _)) (I₁.hok.fresh (Nat.le_refl _)) (Nat.ne_of_lt (Nat.lt_succ_self _))
  have I₂ := Inv.made (C := C) I₁
  have r₂ : Vals (V.ref (s₁.heap.objs.size + 1) :: vs) (Value.ref (s₁.heap.objs.size + 1) :: us) := .cons rfl r₁
  have hl : (Value.ref (s₁.heap.objs.size + 1) :: us).length = ps.length := by rw [← r₂.length]; exact F.len _ _ _ _ hq
  have b := hb { s₁ with heap := (s₁.heap.push PySem.W.emptyDict).push (PySem.W.instObj C s₁.heap.objs.size) } (Value.ref (s₁.heap.objs.size + 1) :: us) I₂.kIn (by rw [List.append_nil]; exact hl)
  rw [List.append_nil] at b
  refine wpAny_call (make_map (f := f) I₁.kIn M.makes M.init (beq_iff_eq.mp M.fn) (codeAny_mono (F.run _ X.stack _ _ ⟨Value.ref (s₁.heap.objs.size + 1) :: us, []⟩ (Value.ref (s₁.heap.objs.size + 1) :: us) _ _ (WE W σ₀) ((hr.mono hk).make C us [])
    (I₂.env0.make C us []) b r₂ hq) fun r s' hq' => ?_))
  cases r with
  | error e => exact passAt tk σ₀ pn _ _ e s' I₂ hq'
  | ok fl =>
    cases fl with
    | ret u =>
      obtain ⟨v, H', I₃, rv, ev, q₃⟩ := I₂.after hq'
      subst ev
      exact ⟨rv, ⟨V.ref (s₁.heap.objs.size + 1), H', I₃, rfl, q₃⟩⟩
    | next => exact False.elim hq'
    | brk => exact False.elim hq'
    | cont => exact False.elim hq'
end

abbrev wOut (E : XK) : WX := fun cls d _ H => E cls d H

/-! ### readings, one step each -/
section
variable {K : PySem.W.Frag} {σ : L2.St} {H H1 : Hp} {Q : VK} {QT : Bool → Hp → Prop} {QA : List V → Hp → Prop} {D : Ends} {ta tb te tv : TE} {tt tu : TT} {t u : TS} {tr : TA} {g : TG} {gs : TGs} {r : R2} {v x y z : V} {i j : Int} {n : Nat} {a b p : Addr} {xs ys : List V} {f : Str} {W : WX} {sp : Sp}
theorem w_seq (h : t { D with nx := u D } σ H) : tSeq t u D σ H := h
theorem w_asg (h : te σ H fun x H1 => g x σ H1 D.nx) : tAsg te g D σ H := h
theorem w_name {R : L2.St → Hp → Prop} (h : R (σ.set n (some v)) H) : gName n v σ H R := h
theorem w_ret (h : te σ H D.rt) : tRet te D σ H := h
theorem w_retN (h : D.rt .non H) : tRetN D σ H := h
theorem w_drop (h : te σ H fun _ H1 => D.nx σ H1) : tDrop te D σ H := h
theorem w_next (h : D.nx σ H) : tNext D σ H := h
theorem w_brk (h : D.bk σ H) : tBreak D σ H := h
theorem w_cont (h : D.ct σ H) : tCont D σ H := h
theorem w_if (h : tt σ H fun b H1 => if b = true then t D σ H1 else u D σ H1) : tIfS tt t u D σ H := h
theorem w_ite {c : Prop} [Decidable c] {A B : Prop} (h1 : c → A) (h2 : ¬ c → B) : if decide c = true then A else B := by
  by_cases q : c
  · rw [if_pos (decide_eq_true q)]; exact h1 q
  · rw [if_neg (by rw [decide_eq_false q]; exact Bool.false_ne_true)]; exact h2 q
theorem w_iteN {c : Prop} [Decidable c] {A B : Prop} (h1 : ¬ c → A) (h2 : c → B) : if (!decide c) = true then A else B := by
  by_cases q : c
  · rw [if_neg (by rw [decide_eq_true q]; exact Bool.false_ne_true)]; exact h2 q
  · rw [if_pos (by rw [decide_eq_false q]; rfl)]; exact h1 q
theorem w_iteT {b : Bool} {A B : Prop} (e : b = true) (h : A) : if b = true then A else B := by rw [if_pos e]; exact h
theorem w_iteF {b : Bool} {A B : Prop} (e : b = false) (h : B) : if b = true then A else B := by rw [if_neg (by rw [e]; exact Bool.false_ne_true)]; exact h
theorem w_iteB {b : Bool} {A B : Prop} (h1 : b = true → A) (h2 : b = false → B) : if b = true then A else B := by cases b with | true => exact h1 rfl | false => exact h2 rfl
theorem w_var (e : σ[n]? = some (some v)) (h : Q v H) : tVar n σ H Q := ⟨v, e, h⟩
theorem w_c (h : Q v H) : tC v σ H Q := h
theorem w_op (h : ta σ H fun x H1 => tb σ H1 fun y H2 => r x y H2 Q) : tOp r ta tb σ H Q := h
theorem w_un {q : V → Hp → VK → Prop} (h : ta σ H fun x H1 => q x H1 Q) : tUn q ta σ H Q := h
theorem w_I0 {gi : Int → Int → V} (h : Q (gi i j) H) : rI0 gi (.int i) (.int j) H Q := ⟨i, j, rfl, rfl, h⟩
theorem w_I {C : Int → Int → Prop} {gi : Int → Int → V} (c : C i j) (h : Q (gi i j) H) : rI C gi (.int i) (.int j) H Q := ⟨i, j, rfl, rfl, c, h⟩
theorem w_U {gi : Int → V} (h : Q (gi i) H) : rU gi (.int i) H Q := ⟨i, rfl, h⟩
theorem w_plusI (h : Q (.int (i + j)) H) : rPlus K (.int i) (.int j) H Q := Or.inl ⟨i, j, rfl, rfl, h⟩
theorem w_plusL (ha : H a = some (.lst xs)) (hb : H b = some (.lst ys)) (hl : xs.length + ys.length ≤ sizeLine) (h : ∀ p, H p = none → Q (.ref p) (upd H p (.lst (xs ++ ys)))) : rPlus K (.ref a) (.ref b) H Q := Or.inr (Or.inl ⟨a, b, xs, ys, rfl, rfl, ha, hb, hl, h⟩)
theorem w_plusS {s z : Str} (hl : s.length + z.length ≤ sizeLine) (h : Q (.str (s ++ z)) H) : rPlus K (.str s) (.str z) H Q := Or.inr (Or.inr (Or.inl ⟨s, z, rfl, rfl, hl, h⟩))
theorem w_timesI (c : CMul i j) (h : Q (.int (i * j)) H) : rTimes (.int i) (.int j) H Q := Or.inl ⟨i, j, rfl, rfl, c, h⟩
theorem w_timesL (ha : H a = some (.lst xs)) (h1 : -(2 ^ 63) ≤ i) (h2 : i < 2 ^ 63) (hl : xs.length * i.toNat ≤ sizeLine) (h : ∀ p, H p = none → Q (.ref p) (upd H p (.lst (List.replicate i.toNat xs).flatten))) : rTimes (.ref a) (.int i) H Q := Or.inr ⟨a, i, xs, rfl, rfl, ha, h1, h2, hl, h⟩
theorem w_test (h : te σ H fun x H' => ∃ k, x = .bl k ∧ QT k H') : tTest te σ H QT := h
theorem w_tB (h : te σ H fun x H' => ∃ k, x = .bl k ∧ QT k H') : tB te σ H QT := h
theorem w_bl {k : Bool} {R : Bool → Prop} (h : R k) : ∃ k', V.bl k = .bl k' ∧ R k' := ⟨k, rfl, h⟩
theorem w_tru (h : te σ H fun x H' => ∃ k, TruV K x H' k ∧ QT k H') : tTru K te σ H QT := h
theorem w_truB {k : Bool} {R : Bool → Prop} (h : R k) : ∃ k', TruV K (.bl k) H k' ∧ R k' := ⟨k, rfl, h⟩
theorem w_truI {R : Bool → Prop} (h : R (i != 0)) : ∃ k', TruV K (.int i) H k' ∧ R k' := ⟨_, rfl, h⟩
theorem w_truL {R : Bool → Prop} (e : SqL K H a xs) (h : R (!xs.isEmpty)) : ∃ k', TruV K (.ref a) H k' ∧ R k' := ⟨_, Or.inl ⟨xs, e, rfl⟩, h⟩
theorem w_truT {R : Bool → Prop} (e : SqT K H a xs) (h : R (!xs.isEmpty)) : ∃ k', TruV K (.ref a) H k' ∧ R k' := ⟨_, Or.inr (Or.inl ⟨xs, e, rfl⟩), h⟩
theorem w_and (h : tt σ H fun c H1 => if c = true then tu σ H1 QT else QT false H1) : tAnd tt tu σ H QT := h
theorem w_or (h : tt σ H fun c H1 => if c = true then QT true H1 else tu σ H1 QT) : tOr tt tu σ H QT := h
theorem w_not (h : tt σ H fun c H1 => QT (!c) H1) : tNot tt σ H QT := h
theorem w_andV (h : ta σ H fun x H1 => ∃ c, x = .bl c ∧ if c = true then tb σ H1 Q else Q (.bl false) H1) : tAndV ta tb σ H Q := h
theorem w_orV (h : ta σ H fun x H1 => ∃ c, x = .bl c ∧ if c = true then Q (.bl true) H1 else tb σ H1 Q) : tOrV ta tb σ H Q := h
theorem w_notV (h : ta σ H fun x H1 => ∃ c, x = .bl c ∧ Q (.bl (!c)) H1) : tNotV ta σ H Q := h
theorem w_ifx (h : tt σ H fun c H1 => if c = true then ta σ H1 Q else tb σ H1 Q) : tIf tt ta tb σ H Q := h
theorem w_eq (s : scal x y = true) (h : Q (.bl (decide (x = y))) H) : rEqX K x y H Q := Or.inl ⟨s, h⟩
theorem w_ne (s : scal x y = true) (h : Q (.bl (!decide (x = y))) H) : rNeX K x y H Q := Or.inl ⟨s, h⟩
theorem w_eqI (h : Q (.bl (decide (i = j))) H) : rEqX K (.int i) (.int j) H Q := w_eq rfl (by
  have e : decide (V.int i = V.int j) = decide (i = j) := by
    by_cases q : i = j
    · subst q; rw [decide_eq_true rfl, decide_eq_true rfl]
    · rw [decide_eq_false q, decide_eq_false (fun z => q (V.int.inj z))]
  rw [e]; exact h)
theorem w_neI (h : Q (.bl (!decide (i = j))) H) : rNeX K (.int i) (.int j) H Q := w_ne rfl (by
  have e : decide (V.int i = V.int j) = decide (i = j) := by
    by_cases q : i = j
    · subst q; rw [decide_eq_true rfl, decide_eq_true rfl]
    · rw [decide_eq_false q, decide_eq_false (fun z => q (V.int.inj z))]
  rw [e]; exact h)
theorem w_eqS {s z : Str} (h : Q (.bl (decide (s = z))) H) : rEqX K (.str s) (.str z) H Q := w_eq rfl (by
  have e : decide (V.str s = V.str z) = decide (s = z) := by
    by_cases q : s = z
    · subst q; rw [decide_eq_true rfl, decide_eq_true rfl]
    · rw [decide_eq_false q, decide_eq_false (fun w => q (V.str.inj w))]
  rw [e]; exact h)
theorem w_neS {s z : Str} (h : Q (.bl (!decide (s = z))) H) : rNeX K (.str s) (.str z) H Q := w_ne rfl (by
  have e : decide (V.str s = V.str z) = decide (s = z) := by
    by_cases q : s = z
    · subst q; rw [decide_eq_true rfl, decide_eq_true rfl]
    · rw [decide_eq_false q, decide_eq_false (fun w => q (V.str.inj w))]
  rw [e]; exact h)
theorem w_eqB {s z : Bool} (h : Q (.bl (decide (s = z))) H) : rEqX K (.bl s) (.bl z) H Q := w_eq rfl (by
  have e : decide (V.bl s = V.bl z) = decide (s = z) := by cases s <;> cases z <;> rfl
  rw [e]; exact h)
theorem w_neB {s z : Bool} (h : Q (.bl (!decide (s = z))) H) : rNeX K (.bl s) (.bl z) H Q := w_ne rfl (by
  have e : decide (V.bl s = V.bl z) = decide (s = z) := by cases s <;> cases z <;> rfl
  rw [e]; exact h)
theorem w_eqD {d e : PyData} (hd : Dp K H x d) (he : Dp K H y e) (s1 : SeqAt.shaped d = true) (s2 : SeqAt.shaped e = true) (h : Q (.bl (PyData.eqv d e)) H) : rEqX K x y H Q := Or.inr ⟨d, e, hd, he, s1, s2, h⟩
theorem w_neD {d e : PyData} (hd : Dp K H x d) (he : Dp K H y e) (s1 : SeqAt.shaped d = true) (s2 : SeqAt.shaped e = true) (h : Q (.bl (!PyData.eqv d e)) H) : rNeX K x y H Q := Or.inr ⟨d, e, hd, he, s1, s2, h⟩
theorem w_isN (h : Q (.bl (decide (x = .non))) H) : rIsNon x .non H Q := ⟨rfl, h⟩
theorem w_notN (h : Q (.bl (!decide (x = .non))) H) : rNotNon x .non H Q := ⟨rfl, h⟩
theorem w_inL (e : SqL K H a xs) (fx : flatV x = true) (fa : xs.all flatV = true) (h : Q (.bl (inV x xs)) H) : rInX K x (.ref a) H Q := Or.inl ⟨a, xs, rfl, Or.inl e, fx, fa, h⟩
theorem w_inT (e : SqT K H a xs) (fx : flatV x = true) (fa : xs.all flatV = true) (h : Q (.bl (inV x xs)) H) : rInX K x (.ref a) H Q := Or.inl ⟨a, xs, rfl, Or.inr e, fx, fa, h⟩
theorem w_ninL (e : SqL K H a xs) (fx : flatV x = true) (fa : xs.all flatV = true) (h : Q (.bl (!inV x xs)) H) : rNinX K x (.ref a) H Q := Or.inl ⟨a, xs, rfl, Or.inl e, fx, fa, h⟩
theorem w_ninT (e : SqT K H a xs) (fx : flatV x = true) (fa : xs.all flatV = true) (h : Q (.bl (!inV x xs)) H) : rNinX K x (.ref a) H Q := Or.inl ⟨a, xs, rfl, Or.inr e, fx, fa, h⟩
theorem w_ixL (e : SqL K H a xs) (q : atI xs i = some v) (h : Q v H) : rIx K (.ref a) (.int i) H Q := Or.inl ⟨a, xs, i, v, rfl, rfl, e, q, h⟩
theorem w_ixT (e : SqT K H a xs) (q : atI xs i = some v) (h : Q v H) : rIx K (.ref a) (.int i) H Q := Or.inr (Or.inl ⟨a, xs, i, v, rfl, rfl, e, q, h⟩)
theorem w_nil (h : QA [] H) : tNil σ H QA := h
theorem w_cons (h : ta σ H fun x H1 => tr σ H1 fun xs H2 => QA (x :: xs) H2) : tCons ta tr σ H QA := h
theorem w_tup (h : tr σ H fun xs H1 => xs.length ≤ sizeLine ∧ ∀ p, H1 p = none → Q (.ref p) (upd H1 p (.tup xs))) : tTup tr σ H Q := h
theorem w_lst (h : tr σ H fun xs H1 => xs.length ≤ sizeLine ∧ ∀ p, H1 p = none → Q (.ref p) (upd H1 p (.lst xs))) : tLst tr σ H Q := h
theorem w_cb {q : List V → Hp → VK → Prop} (h : tr σ H fun vs H1 => q vs H1 Q) : tCB q tr σ H Q := h
theorem w_lenL (e : SqL K H a xs) (h : Q (.int xs.length) H) : rLenX K [.ref a] H Q := ⟨_, _, rfl, Or.inl ⟨xs, e, rfl⟩, h⟩
theorem w_lenT (e : SqT K H a xs) (h : Q (.int xs.length) H) : rLenX K [.ref a] H Q := ⟨_, _, rfl, Or.inr ⟨xs, e, rfl⟩, h⟩
theorem w_lenS {s : Str} (e : s.length ≤ sizeLine) (h : Q (.int (s.length : Nat)) H) : rLenX K [.str s] H Q := ⟨_, _, rfl, ⟨e, rfl⟩, h⟩
theorem w_max2 (h : Q (.int (max i j)) H) : rMaxX K [.int i, .int j] H Q := Or.inl ⟨i, j, rfl, by
  have e : (if j > i then j else i) = max i j := by rw [Int.max_def]; split <;> split <;> omega
  rw [e]; exact h⟩
theorem w_min2 (h : Q (.int (min i j)) H) : rMinX K [.int i, .int j] H Q := Or.inl ⟨i, j, rfl, by
  have e : (if j < i then j else i) = min i j := by rw [Int.min_def]; split <;> split <;> omega
  rw [e]; exact h⟩
theorem w_maxL {ns : List Int} (e : SqL K H a (ns.map V.int)) (q : 0 < ns.length) (h : ∀ m, m ∈ ns → (∀ y, y ∈ ns → y ≤ m) → Q (.int m) H) : rMaxX K [.ref a] H Q := Or.inr ⟨a, ns, rfl, e, q, h⟩
theorem w_minL {ns : List Int} (e : SqL K H a (ns.map V.int)) (q : 0 < ns.length) (h : ∀ m, m ∈ ns → (∀ y, y ∈ ns → m ≤ y) → Q (.int m) H) : rMinX K [.ref a] H Q := Or.inr ⟨a, ns, rfl, e, q, h⟩
theorem w_intI (h : Q (.int i) H) : rIntX [.int i] H Q := Or.inl ⟨i, rfl, h⟩
theorem w_intB {k : Bool} (h : Q (.int (if k then 1 else 0)) H) : rIntX [.bl k] H Q := Or.inr ⟨k, rfl, h⟩
theorem w_tupL (e : SqL K H a xs) (h : ∀ p, H p = none → Q (.ref p) (upd H p (.tup xs))) : rTupX K [.ref a] H Q := ⟨a, xs, rfl, Or.inl ⟨e, h⟩⟩
theorem w_tupT (e : SqT K H a xs) (h : Q (.ref a) H) : rTupX K [.ref a] H Q := ⟨a, xs, rfl, Or.inr ⟨e, h⟩⟩
theorem w_lisL (e : SqL K H a xs) (h : ∀ p, H p = none → Q (.ref p) (upd H p (.lst xs))) : rLisX K [.ref a] H Q := ⟨a, xs, rfl, Or.inl e, h⟩
theorem w_lisT (e : SqT K H a xs) (h : ∀ p, H p = none → Q (.ref p) (upd H p (.lst xs))) : rLisX K [.ref a] H Q := ⟨a, xs, rfl, Or.inr e, h⟩
theorem w_isi {c : V} {cu ty : Value} {k : Bool} (hc : ClsV c cu) (ht : TyX K H x ty) (hk : PySem.W.kitOne K ty cu = some k) (h : Q (.bl k) H) : rIsi K [x, c] H Q := ⟨x, c, ty, cu, k, rfl, hc, ht, hk, h⟩
def kFld (K : PySem.W.Frag) (f : Str) (x : V) (H1 : Hp) (Q : VK) : Prop := ∃ a C dx fs v, x = .ref a ∧ H1 a = some (.ins C dx fs) ∧ Cls K C ∧ NoAttr K C f ∧ fs.lookup f = some v ∧ Q v H1
theorem w_fldE (h : ta σ H fun x H1 => kFld K f x H1 Q) : tFld K ta f σ H Q := h
theorem w_fldK {C dx : Addr} {fs : List (Str × V)} (e : H a = some (.ins C dx fs)) (c : Cls K C) (nn : NoAttr K C f) (l : fs.lookup f = some v) (h : Q v H) : kFld K f (.ref a) H Q := ⟨a, C, dx, fs, v, rfl, e, c, nn, l, h⟩
def kSFld (K : PySem.W.Frag) (f : Str) (y : V) (x : V) (H2 : Hp) (R : Hp → Prop) : Prop := ∃ a C dx fs, x = .ref a ∧ H2 a = some (.ins C dx fs) ∧ Cls K C ∧ NoAttr K C f ∧ fs.length < 1000 ∧ R (upd H2 a (.ins C dx (putF f y fs)))
theorem w_sfld (h : tv σ H fun y H1 => ta σ H1 fun x H2 => kSFld K f y x H2 (D.nx σ)) : sFld K ta tv f D σ H := h
theorem w_sfldK {C dx : Addr} {fs : List (Str × V)} {R : Hp → Prop} (e : H a = some (.ins C dx fs)) (c : Cls K C) (nn : NoAttr K C f) (l : fs.length < 1000) (h : R (upd H a (.ins C dx (putF f y fs)))) : kSFld K f y (.ref a) H R := ⟨a, C, dx, fs, rfl, e, c, nn, l, h⟩
theorem w_call (h : tr σ H fun vs H1 => sp vs H1 Q (WE W σ)) : tCallX sp W tr σ H Q := h
def kMeth (C : Addr) (m : Str) (x : V) (H1 : Hp) (R : Prop) : Prop := ∃ a dx fs, x = .ref a ∧ H1 a = some (.ins C dx fs) ∧ fs.lookup m = none ∧ R
theorem w_meth {C : Addr} {m : Str} (h : ta σ H fun x H1 => kMeth C m x H1 (tr σ H1 fun vs H2 => sp (x :: vs) H2 Q (WE W σ))) : tMethX C m sp W ta tr σ H Q := h
theorem w_methK {C dx : Addr} {m : Str} {fs : List (Str × V)} {R : Prop} (e : H a = some (.ins C dx fs)) (l : fs.lookup m = none) (h : R) : kMeth C m (.ref a) H R := ⟨a, dx, fs, rfl, e, l, h⟩
theorem w_make {C : Addr} (h : tr σ H fun vs H1 => ∀ x dx, H1 x = none → H1 dx = none → dx ≠ x → sp (.ref x :: vs) (upd (upd H1 dx (.own x)) x (.ins C dx [])) (fun v H2 => v = .non ∧ Q (.ref x) H2) (WE W σ)) : tMakeX C sp W tr σ H Q := h
theorem w_gtup {R : L2.St → Hp → Prop} (e : SqT K H a xs) (l : xs.length = n) (h : gs xs σ H R) : gTup K n gs (.ref a) σ H R := ⟨a, xs, rfl, e, l, h⟩
theorem w_gnil {R : L2.St → Hp → Prop} (h : R σ H) : gNil [] σ H R := ⟨rfl, h⟩
theorem w_gcons {R : L2.St → Hp → Prop} (h : g v σ H fun σ' H' => gs xs σ' H' R) : gCons g gs (v :: xs) σ H R := ⟨v, xs, rfl, h⟩
theorem w_gsub {ts : TSet} {R : L2.St → Hp → Prop} (h : ta σ H fun o H1 => tb σ H1 fun i H2 => ts o i v H2 fun H3 => R σ H3) : gSub ta tb ts v σ H R := h
theorem w_setL {R : Hp → Prop} {m : Nat} (e : H a = some (.lst xs)) (q : ixN xs.length i = some m) (h : R (upd H a (.lst (xs.set m v)))) : rSetL (.ref a) (.int i) v H R := ⟨a, xs, i, m, rfl, rfl, e, q, h⟩
/-! dicts -/
def kDGet (x y : V) (H : Hp) (Q : VK) : Prop := ∃ a v, x = .ref a ∧ DGet H a y (some v) ∧ Q v H
theorem w_dget (h : ta σ H fun x H1 => tb σ H1 fun y H2 => kDGet x y H2 Q) : tDGet ta tb σ H Q := h
theorem w_dgetS {kvs : List (Key × V)} {s : Str} (e : H a = some (.dK kvs)) (q : valV kvs (Sum.inr s) = some v) (h : Q v H) : kDGet (.ref a) (.str s) H Q := ⟨a, v, rfl, q ▸ DGet.k (k := Sum.inr s) e, h⟩
theorem w_dgetI {kvs : List (Key × V)} (e : H a = some (.dK kvs)) (q : valV kvs (Sum.inl i) = some v) (h : Q v H) : kDGet (.ref a) (.int i) H Q := ⟨a, v, rfl, q ▸ DGet.k (k := Sum.inl i) e, h⟩
def kDPut (v x y : V) (H : Hp) (R : Hp → Prop) : Prop := ∃ a H4, x = .ref a ∧ DPut H a y v H4 ∧ R H4
theorem w_dput (h : tv σ H fun v H1 => ta σ H1 fun x H2 => tb σ H2 fun y H3 => kDPut v x y H3 (D.nx σ)) : sDPut ta tb tv D σ H := h
theorem w_dputS {R : Hp → Prop} {kvs : List (Key × V)} {s : Str} (e : H a = some (.dK kvs)) (l : kvs.length < sizeLine) (h : R (upd H a (.dK (putK kvs (Sum.inr s) v)))) : kDPut v (.ref a) (.str s) H R := ⟨a, _, rfl, DPut.k (k := Sum.inr s) e l, h⟩
theorem w_dputI {R : Hp → Prop} {kvs : List (Key × V)} (e : H a = some (.dK kvs)) (l : kvs.length < sizeLine) (h : R (upd H a (.dK (putK kvs (Sum.inl i) v)))) : kDPut v (.ref a) (.int i) H R := ⟨a, _, rfl, DPut.k (k := Sum.inl i) e l, h⟩
/-! methods of built-in values -/
theorem w_bm {T : String} {q : V → List V → Hp → VK → Prop} (h : ta σ H fun x H1 => tyV K T x H1 ∧ tr σ H1 fun xs H2 => q x xs H2 Q) : tBM K T q ta tr σ H Q := h
theorem w_bm0 {T : String} {q : V → List V → Hp → VK → Prop} (h : ta σ H fun x H1 => tyV K T x H1 ∧ q x [] H1 Q) : tBM0 K T q ta σ H Q := h
theorem w_app (e : H a = some (.lst xs)) (l : xs.length < sizeLine) (h : Q .non (upd H a (.lst (xs ++ [v])))) : rAppend (.ref a) [v] H Q := ⟨a, xs, v, rfl, rfl, e, l, h⟩
theorem w_clear (e : H a = some (.lst xs)) (h : Q .non (upd H a (.lst []))) : rClear (.ref a) [] H Q := ⟨a, xs, rfl, rfl, e, h⟩
theorem tyL (e : H a = some (.lst xs)) : tyV K "list" (.ref a) H := Or.inl ⟨rfl, xs, SqL.of e⟩
/-! loops -/
def kForL (K : PySem.W.Frag) (g : TG) (t : TS) (D : Ends) (σ : L2.St) (x : V) (H1 : Hp) : Prop := ∃ a, x = .ref a ∧ (∃ xs, SqL K H1 a xs) ∧ ∃ W : Nat → Nat → L2.St → Hp → Prop, (∃ m, W 0 m σ H1) ∧ ∀ i m σ H, W i m σ H →
      ((Itl K a).stop i H ∧ D.nx σ H) ∨ ((Itl K a).go i H ∧ ∃ N : L2.St → Hp → Prop, (∀ σ' H', N σ' H' → ∃ m', m' < m ∧ W (i + 1) m' σ' H') ∧ ∀ x H', (Itl K a).yld i H x H' → g x σ H' fun σ2 H2 => t { D with nx := N, ct := N, bk := D.nx } σ2 H2)
theorem w_forList (h : te σ H fun x H1 => kForL K g t D σ x H1) : tFor (iList K te) g t D σ H := h
theorem l_forList (e : SqL K H a xs) (Pv : Nat → L2.St → Hp → Prop) (h0 : Pv 0 σ H) (hl : ∀ i σ' H', i ≤ xs.length → Pv i σ' H' → SqL K H' a xs)
    (hs : ∀ i x σ' H', xs[i]? = some x → Pv i σ' H' → g x σ' H' fun σ2 H2 => t { D with nx := Pv (i + 1), ct := Pv (i + 1), bk := D.nx } σ2 H2) (hd : ∀ σ' H', Pv xs.length σ' H' → D.nx σ' H') : kForL K g t D σ (.ref a) H :=
  ⟨a, rfl, ⟨xs, e⟩, for_list Pv h0 hl hs hd⟩
def kForR1 (g : TG) (t : TS) (D : Ends) (σ : L2.St) (vs : List V) (H1 : Hp) : Prop := ∃ j : Int, vs = [.int j] ∧ -(2 ^ 62) ≤ j ∧ j < 2 ^ 62 ∧ ∃ W : Nat → Nat → L2.St → Hp → Prop, (∃ m, W 0 m σ H1) ∧ ∀ i m σ H, W i m σ H →
  ((Itr 0 j.toNat).stop i H ∧ D.nx σ H) ∨ ((Itr 0 j.toNat).go i H ∧ ∃ N : L2.St → Hp → Prop, (∀ σ' H', N σ' H' → ∃ m', m' < m ∧ W (i + 1) m' σ' H') ∧ ∀ x H', (Itr 0 j.toNat).yld i H x H' → g x σ H' fun σ2 H2 => t { D with nx := N, ct := N, bk := D.nx } σ2 H2)
theorem w_forR1 (h : tr σ H fun vs H1 => kForR1 g t D σ vs H1) : tFor (iRng1 tr) g t D σ H := h
theorem l_forR1 (lo : -(2 ^ 62) ≤ j) (hi : j < 2 ^ 62) (Pv : Nat → L2.St → Hp → Prop) (h0 : Pv 0 σ H)
    (hs : ∀ i σ' H', i < j.toNat → Pv i σ' H' → g (.int i) σ' H' fun σ2 H2 => t { D with nx := Pv (i + 1), ct := Pv (i + 1), bk := D.nx } σ2 H2) (hd : ∀ σ' H', Pv j.toNat σ' H' → D.nx σ' H') : kForR1 g t D σ [.int j] H :=
  ⟨j, rfl, lo, hi, for_range Pv h0 (fun i σ' H' hi q => by rw [Int.zero_add]; exact hs i σ' H' hi q) hd⟩
def kForR2 (g : TG) (t : TS) (D : Ends) (σ : L2.St) (vs : List V) (H1 : Hp) : Prop := ∃ i j : Int, vs = [.int i, .int j] ∧ (-(2 ^ 62) ≤ i ∧ i < 2 ^ 62 ∧ -(2 ^ 62) ≤ j ∧ j < 2 ^ 62) ∧ ∃ W : Nat → Nat → L2.St → Hp → Prop, (∃ m, W 0 m σ H1) ∧ ∀ k m σ H, W k m σ H →
  ((Itr i (j - i).toNat).stop k H ∧ D.nx σ H) ∨ ((Itr i (j - i).toNat).go k H ∧ ∃ N : L2.St → Hp → Prop, (∀ σ' H', N σ' H' → ∃ m', m' < m ∧ W (k + 1) m' σ' H') ∧ ∀ x H', (Itr i (j - i).toNat).yld k H x H' → g x σ H' fun σ2 H2 => t { D with nx := N, ct := N, bk := D.nx } σ2 H2)
theorem w_forR2 (h : tr σ H fun vs H1 => kForR2 g t D σ vs H1) : tFor (iRng2 tr) g t D σ H := h
theorem l_forR2 (b : -(2 ^ 62) ≤ i ∧ i < 2 ^ 62 ∧ -(2 ^ 62) ≤ j ∧ j < 2 ^ 62) (Pv : Nat → L2.St → Hp → Prop) (h0 : Pv 0 σ H)
    (hs : ∀ k σ' H', k < (j - i).toNat → Pv k σ' H' → g (.int (i + k)) σ' H' fun σ2 H2 => t { D with nx := Pv (k + 1), ct := Pv (k + 1), bk := D.nx } σ2 H2) (hd : ∀ σ' H', Pv (j - i).toNat σ' H' → D.nx σ' H') : kForR2 g t D σ [.int i, .int j] H :=
  ⟨i, j, rfl, b, for_range Pv h0 hs hd⟩
end
theorem sz_of {n : Nat} (h : Nat.ble n sizeLine = true) : n ≤ sizeLine := Nat.le_of_ble_eq_true h
theorem sz_lt {n : Nat} (h : Nat.ble (n + 1) sizeLine = true) : n < sizeLine := Nat.le_of_ble_eq_true h
theorem look_hd {k : Str} {v : V} {l : List (Str × V)} : List.lookup k ((k, v) :: l) = some v := by simp [List.lookup]
theorem look_tl {k j : Str} {v : V} {l : List (Str × V)} (h : (k == j) = false) : List.lookup k ((j, v) :: l) = List.lookup k l := by simp [List.lookup, h]
theorem look_nil {k : Str} : List.lookup k ([] : List (Str × V)) = none := rfl
theorem putF_hd {k : Str} {v x : V} {l : List (Str × V)} : putF k v ((k, x) :: l) = (k, v) :: l := by simp [putF]
theorem putF_tl {k j : Str} {v x : V} {l : List (Str × V)} (h : ¬ j = k) : putF k v ((j, x) :: l) = (j, x) :: putF k v l := by simp [putF, h]
theorem putF_nil {k : Str} {v : V} : putF k v [] = [(k, v)] := rfl
section
variable {κ : Type} [DecidableEq κ] {k j : κ} {v x : V} {l : List (κ × V)}
theorem val_hd : valV ((k, v) :: l) k = some v := by simp [valV]
theorem val_tl (h : ¬ j = k) : valV ((j, x) :: l) k = valV l k := by simp [valV, h]
theorem val_nil : valV ([] : List (κ × V)) k = none := rfl
end
/-! ### all but tables are as in H0 -/
abbrev Ext0 (H0 H : Hp) : Prop := LamX.ExtN H0 H
section
variable {K : PySem.W.Frag} {H0 H H1 : Hp} {a p : Addr} {xs : List V} {o : HO} {S : List Addr}
theorem Ext0.refl : Ext0 H H := LamX.ExtN.refl H
theorem Ext0.seqL (h : SqL K H0 a xs) (e : Ext0 H0 H) : SqL K H a xs := by
  rcases h with h | h
  · rcases h with h | ⟨o, h⟩
    · exact Or.inl (Or.inl (e _ _ h (fun _ z => by cases z)))
    · exact Or.inl (Or.inr ⟨o, e _ _ h (fun _ z => by cases z)⟩)
  · exact Or.inr h
theorem Ext0.seqT (h : SqT K H0 a xs) (e : Ext0 H0 H) : SqT K H a xs := by
  rcases h with h | h
  · rcases h with h | ⟨o, h⟩
    · exact Or.inl (Or.inl (e _ _ h (fun _ z => by cases z)))
    · exact Or.inl (Or.inr ⟨o, e _ _ h (fun _ z => by cases z)⟩)
  · exact Or.inr h
theorem Ext0.keep (e : Ext0 H0 H) (k : Keep S H H1) (n : ∀ b, b ∈ S → H0 b = none) : Ext0 H0 H1 := fun b o h nt =>
  k.1 b o (fun m => by rw [n b m] at h; cases h) (e b o h nt)
theorem Ext0.kept (k : Keep S H H1) (e : Ext0 H0 H) (n : ∀ b, b ∈ S → H0 b = none) : Ext0 H0 H1 := e.keep k n
theorem Ext0.set (e : Ext0 H0 H) (n : H0 p = none) : Ext0 H0 (upd H p o) := fun b u h nt => by
  rw [upd_ne (ne_of_none h n)]
  exact e b u h nt
theorem Ext0.new (e : Ext0 H0 H) (n : H p = none) : Ext0 H0 (upd H p o) := fun b u h nt => by
  rw [upd_ne (ne_of_none (e b u h nt) n)]
  exact e b u h nt
/-- fresh behind is fresh ahead, but for tables -/
theorem Ext0.at (e : Ext0 H0 H) (h : H0 a = some o) (nt : ∀ ps, o ≠ .tbl ps) : H a = some o := e a o h nt
theorem none_in {b : Addr} (h : ∀ c, c ∈ S → H0 c = none) (n : H0 b = none) : ∀ c, c ∈ b :: S → H0 c = none := fun c m => by
  rcases List.mem_cons.mp m with z | z
  · rw [z]; exact n
  · exact h c z
theorem none_nil : ∀ c, c ∈ ([] : List Addr) → H0 c = none := fun _ m => absurd m List.not_mem_nil
end
/-! ### the dice -/
structure Dice (K : PySem.W.Frag) (H0 H : Hp) (d : Addr) : Prop where
  at_ : ∃ (a : Addr) (ns : List Int) (i m r : Int), H d = some (.lst [.ref a, .int i, .int m, .int r]) ∧ SqL K H0 a (ns.map V.int) ∧ ns.length ≤ 63 ∧ 0 ≤ i
  new : H0 d = none
  ext : Ext0 H0 H
theorem Dice.keep {K : PySem.W.Frag} {H0 H H1 : Hp} {d : Addr} {S : List Addr} (x : Dice K H0 H d) (k : Keep S H H1) (nd : d ∉ S) (n : ∀ b, b ∈ S → H0 b = none) : Dice K H0 H1 d := by
  obtain ⟨⟨a, ns, i, m, r, h1, h2⟩, h3, h4⟩ := x
  exact ⟨⟨a, ns, i, m, r, k.1 _ _ nd h1, h2⟩, h3, h4.keep k n⟩
theorem Dice.lst {K : PySem.W.Frag} {H0 H : Hp} {d : Addr} (x : Dice K H0 H d) : ∃ xs, H d = some (.lst xs) := by
  obtain ⟨⟨a, ns, i, m, r, h1, h2⟩, h3, h4⟩ := x
  exact ⟨_, h1⟩
def spNext (K : PySem.W.Frag) : Sp := fun vs H Q _ => ∃ (H0 : Hp) (d : Addr) (n : Int), vs = [.ref d, .int n] ∧ 0 < n ∧ n < 1073741824 ∧ Dice K H0 H d ∧
  ∀ r H', 0 ≤ r → r < n → Dice K H0 H' d → Keep [d] H H' → Q (.int r) H'
def spDice (K : PySem.W.Frag) : Sp := fun vs H Q _ => ∃ (a : Addr) (ns : List Int), vs = [.ref a] ∧ SqL K H a (ns.map V.int) ∧ ns.length ≤ 63 ∧ ∀ d H', H d = none → Dice K H H' d → Keep [] H H' → Q (.ref d) H'
theorem next_go {K : PySem.W.Frag} {H0 H : Hp} {d : Addr} {n : Int} {Q : VK} {E : XK} (x : Dice K H0 H d) (h0 : 0 < n) (h1 : n < 1073741824) (h : ∀ r H' xs, 0 ≤ r → r < n → Dice K H0 H' d → H' d = some (.lst xs) → Keep [d] H H' → Q (.int r) H') : spNext K [.ref d, .int n] H Q E :=
  ⟨H0, d, n, rfl, h0, h1, x, fun r H' a b c k => by
    obtain ⟨xs, e⟩ := c.lst
    exact h r H' xs a b c e k⟩
theorem pickP {K : PySem.W.Frag} {H : Hp} {p : Addr} {i : Int} {xs : List V} {Q : VK} (Pr : Int → Prop) (e : SqL K H p xs) (i0 : 0 ≤ i) (i1 : i < xs.length) (hp : ∀ x, x ∈ xs → ∃ v, x = .int v ∧ Pr v) (h : ∀ v, Pr v → Q (.int v) H) : rIx K (.ref p) (.int i) H Q := by
  have hl : i.toNat < xs.length := by omega
  obtain ⟨v, ev, pv⟩ := hp _ (List.getElem_mem hl)
  have e2 : i = ((i.toNat : Nat) : Int) := by omega
  refine w_ixL e (v := .int v) ?_ (h v pv)
  rw [e2]
  refine atI_nat ?_
  rw [List.getElem?_eq_getElem hl, ev]
/-! ### settings -/
structure SetOk (m w l a : Int) : Prop where
  m0 : 2 ≤ m
  m1 : m ≤ 64
  w0 : 0 ≤ w
  w1 : w ≤ 16
  l0 : 0 ≤ l
  l1 : l ≤ 8
  a0 : 1 ≤ a
  a1 : a ≤ 16
def spSetting (K : PySem.W.Frag) : Sp := fun vs H Q _ => ∃ (H0 : Hp) (d : Addr), vs = [.ref d] ∧ Dice K H0 H d ∧
  ∀ p m w l a H', SetOk m w l a → H p = none → H' p = some (.tup [.int m, .int w, .int l, .int a]) → Dice K H0 H' d → Keep [d] H H' → Q (.ref p) H'
/-! ### _law_like: the same data -/
def Alike (K : PySem.W.Frag) (H : Hp) : Nat → V → V → Prop
  | 0, _, _ => False
  | n + 1, x, y => (∃ b, x = .bl b ∧ y = .bl b) ∨ (∃ i, x = .int i ∧ y = .int i) ∨ (∃ s, x = .str s ∧ y = .str s) ∨ (x = .non ∧ y = .non) ∨
      (∃ a b xs ys, x = .ref a ∧ y = .ref b ∧ SqT K H a xs ∧ SqT K H b ys ∧ xs.length = ys.length ∧ xs.length ≤ 16777216 ∧ ∀ (k : Nat) u v, xs[k]? = some u → ys[k]? = some v → Alike K H n u v) ∨
      (∃ a b xs ys, x = .ref a ∧ y = .ref b ∧ SqL K H a xs ∧ SqL K H b ys ∧ xs.length = ys.length ∧ xs.length ≤ 16777216 ∧ ∀ (k : Nat) u v, xs[k]? = some u → ys[k]? = some v → Alike K H n u v)
def spLike (K : PySem.W.Frag) (n : Nat) : Sp := fun vs H Q _ => ∃ x y, vs = [x, y] ∧ Alike K H n x y ∧ Q (.bl true) H
theorem like_go {K : PySem.W.Frag} {H : Hp} {n : Nat} {x y : V} {Q : VK} {E : XK} (a : Alike K H n x y) (h : Q (.bl true) H) : spLike K n [x, y] H Q E := ⟨x, y, rfl, a, h⟩
theorem tyT {K : PySem.W.Frag} {H : Hp} {a : Addr} {xs : List V} (h : SqT K H a xs) : TyX K H (.ref a) (.type "tuple") := by
  rcases h with (h | ⟨o, h⟩) | ⟨o, its, n, h, c, _⟩
  · exact .base (.tup h)
  · exact .fTuple h
  · exact .kTuple h c
theorem tyLs {K : PySem.W.Frag} {H : Hp} {a : Addr} {xs : List V} (h : SqL K H a xs) : TyX K H (.ref a) (.type "list") := by
  rcases h with (h | ⟨o, h⟩) | ⟨o, its, n, h, c, _⟩
  · exact .base (.lst h)
  · exact .base (.frz h)
  · exact .kList h c
theorem w_isiB {K : PySem.W.Frag} {H : Hp} {x : V} {t u : String} {k : Bool} {Q : VK} (ht : TyX K H x (.type t)) (hk : kitB t u = some k) (h : Q (.bl k) H) : rIsi K [x, .ty u] H Q := w_isi (.ty u) ht (kit_ty hk) h
/-! ### any sequence that is tracked -/
def seqOf : HO → Option (List V)
  | .lst xs => some xs
  | .tup xs => some xs
  | .frz _ (.lst xs) => some xs
  | .frz _ (.tup xs) => some xs
  | _ => none
section
variable {K : PySem.W.Frag} {H : Hp} {Q : VK} {a : Addr} {xs : List V} {o : HO} {i : Int} {v x : V}
theorem seqOf_sq (e : H a = some o) (q : seqOf o = some xs) : SqL K H a xs ∨ SqT K H a xs := by
  cases o with
  | lst ys => cases q; exact Or.inl (SqL.of e)
  | tup ys => cases q; exact Or.inr (SqT.of e)
  | frz ob u =>
    cases u with
    | lst ys => cases q; exact Or.inl (Or.inl (Or.inr ⟨ob, e⟩))
    | tup ys => cases q; exact Or.inr (Or.inl (Or.inr ⟨ob, e⟩))
    | _ => cases q
  | _ => cases q
theorem w_ixO (e : H a = some o) (q : seqOf o = some xs) (r : atI xs i = some v) (h : Q v H) : rIx K (.ref a) (.int i) H Q := by
  rcases seqOf_sq (K := K) e q with s | s
  · exact w_ixL s r h
  · exact w_ixT s r h
theorem w_ixO2 (r : atI xs i = some v) (e : H a = some o) (q : seqOf o = some xs) (h : Q v H) : rIx K (.ref a) (.int i) H Q := w_ixO e q r h
theorem w_ixL2 (r : atI xs i = some v) (e : SqL K H a xs) (h : Q v H) : rIx K (.ref a) (.int i) H Q := w_ixL e r h
theorem w_ixT2 (r : atI xs i = some v) (e : SqT K H a xs) (h : Q v H) : rIx K (.ref a) (.int i) H Q := w_ixT e r h
theorem w_lenO (e : H a = some o) (q : seqOf o = some xs) (h : Q (.int xs.length) H) : rLenX K [.ref a] H Q := by
  rcases seqOf_sq (K := K) e q with s | s
  · exact w_lenL s h
  · exact w_lenT s h
theorem w_gtupO {n : Nat} {gs : TGs} {σ : L2.St} {R : L2.St → Hp → Prop} (e : H a = some (.tup xs)) (l : xs.length = n) (h : gs xs σ H R) : gTup K n gs (.ref a) σ H R := w_gtup (SqT.of e) l h
theorem w_lisO (e : H a = some o) (q : seqOf o = some xs) (h : ∀ p, H p = none → Q (.ref p) (upd H p (.lst xs))) : rLisX K [.ref a] H Q := by
  rcases seqOf_sq (K := K) e q with s | s
  · exact w_lisL s h
  · exact w_lisT s h
theorem w_inO (e : H a = some o) (q : seqOf o = some xs) (fx : flatV x = true) (fa : xs.all flatV = true) (h : Q (.bl (inV x xs)) H) : rInX K x (.ref a) H Q := by
  rcases seqOf_sq (K := K) e q with s | s
  · exact w_inL s fx fa h
  · exact w_inT s fx fa h
theorem w_ninO (e : H a = some o) (q : seqOf o = some xs) (fx : flatV x = true) (fa : xs.all flatV = true) (h : Q (.bl (!inV x xs)) H) : rNinX K x (.ref a) H Q := by
  rcases seqOf_sq (K := K) e q with s | s
  · exact w_ninL s fx fa h
  · exact w_ninT s fx fa h
theorem chkL {H1 : Hp} {ys : List V} (_ : SqL K H1 a ys) (g : SqL K H a xs) : SqL K H a xs := g
theorem chkT {H1 : Hp} {ys : List V} (_ : SqT K H1 a ys) (g : SqT K H a xs) : SqT K H a xs := g
end
theorem fresh_of (S : List Addr) {H H1 : Hp} {p : Addr} (n : H1 p = none) (k : Keep S H H1) : H p = none := k.2 p n
theorem w_iT {A B : Prop} (h : A) : if true = true then A else B := by rw [if_pos rfl]; exact h
theorem w_iF {A B : Prop} (h : B) : if false = true then A else B := by rw [if_neg Bool.false_ne_true]; exact h
theorem w_nT {A B : Prop} (h : B) : if (!true) = true then A else B := by rw [if_neg (by decide)]; exact h
theorem w_nF {A B : Prop} (h : A) : if (!false) = true then A else B := by rw [if_pos (by decide)]; exact h
def tyOf : HO → Option String
  | .lst _ => some "list"
  | .tup _ => some "tuple"
  | .dK _ => some "dict"
  | .frz _ (.lst _) => some "list"
  | .frz _ (.tup _) => some "tuple"
  | _ => none
theorem tyO {K : PySem.W.Frag} {H : Hp} {a : Addr} {o : HO} {t : String} (e : H a = some o) (q : tyOf o = some t) : TyX K H (.ref a) (.type t) := by
  cases o with
  | lst ys => cases q; exact .base (.lst e)
  | tup ys => cases q; exact .base (.tup e)
  | dK ys => cases q; exact .base (.dK e)
  | frz ob u =>
    cases u with
    | lst ys => cases q; exact .base (.frz e)
    | tup ys => cases q; exact .fTuple e
    | _ => cases q
  | _ => cases q
theorem pe_ty {X : Cx} {x : Str} {T : String} {pos : Pos} (hg : Gl X x) (hm : X.mg x = none) (hv : bootBuiltins x = some (.type T)) (hn : x ≠ "__name__" := by decide) (hd : (x == ("__debug__" : Str)) = false := by decide) : PE X (.Name x pos) (tC (.ty T)) := pe_bltn (v := .ty T) hg hm hv rfl hn hd
section
variable {H : Hp} {Q : VK} {a : Addr} {i : Int} {b : Bool} {s : Str}
theorem w_isNN (h : Q (.bl true) H) : rIsNon .non .non H Q := ⟨rfl, h⟩
theorem w_isNR (h : Q (.bl false) H) : rIsNon (.ref a) .non H Q := ⟨rfl, h⟩
theorem w_isNI (h : Q (.bl false) H) : rIsNon (.int i) .non H Q := ⟨rfl, h⟩
theorem w_isNB (h : Q (.bl false) H) : rIsNon (.bl b) .non H Q := ⟨rfl, h⟩
theorem w_isNS (h : Q (.bl false) H) : rIsNon (.str s) .non H Q := ⟨rfl, h⟩
theorem w_ntNN (h : Q (.bl false) H) : rNotNon .non .non H Q := ⟨rfl, h⟩
theorem w_ntNR (h : Q (.bl true) H) : rNotNon (.ref a) .non H Q := ⟨rfl, h⟩
theorem w_ntNI (h : Q (.bl true) H) : rNotNon (.int i) .non H Q := ⟨rfl, h⟩
/-- two bools that are told -/
theorem w_neTT {K : PySem.W.Frag} (h : Q (.bl false) H) : rNeX K (.bl b) (.bl b) H Q := w_ne rfl (by rw [decide_eq_true rfl]; exact h)
end
/-! ### stores into an instance -/
theorem lt_of {n m : Nat} (h : Nat.blt n m = true) : n < m := by simpa using h
theorem w_sfldP {K : PySem.W.Frag} {H : Hp} {a C dx : Addr} {f : Str} {y : V} {fs fs' : List (Str × V)} {R : Hp → Prop} (e : H a = some (.ins C dx fs)) (c : Cls K C) (nn : NoAttr K C f) (l : fs.length < 1000) (pf : putF f y fs = fs') (h : R (upd H a (.ins C dx fs'))) : kSFld K f y (.ref a) H R :=
  w_sfldK e c nn l (by rw [pf]; exact h)
theorem Keep.own {S : List Addr} {H H1 : Hp} {p : Addr} {o : HO} (k : Keep S H H1) (n : H p = none) : Keep S H (upd H1 p o) := ⟨fun b u m e => by
  rw [upd_ne (ne_of_none e n)]
  exact k.1 b u m e, fun b e => by
  by_cases q : b = p
  · rw [q, upd_same] at e; cases e
  · rw [upd_ne q] at e; exact k.2 b e⟩
theorem Keep.own' {S : List Addr} {H H1 : Hp} {p : Addr} {o : HO} (n : H p = none) (k : Keep S H H1) : Keep S H (upd H1 p o) := k.own n
/-! ### list comprehensions: out i is what is made behind i items -/
def PvOf (H : Hp) (D : Addr) (out : Nat → List V) (i : Nat) (H' : Hp) : Prop := Keep [] H H' ∧ H' D = some (.lst (out i))
def kIn (H : Hp) (D : Addr) (out : Nat → List V) (i : Nat) (y : V) (H4 : Hp) : Prop := ∃ acc, H4 D = some (.lst acc) ∧ acc.length < sizeLine ∧ PvOf H D out (i + 1) (upd H4 D (.lst (acc ++ [y])))
section
variable {K : PySem.W.Frag} {σ : L2.St} {H H4 : Hp} {Q : VK} {D a : Addr} {out : Nat → List V} {i : Nat} {x y : V} {xs : List V} {g : TG} {tt : TT} {te tl : TE} {tr : TA} {vs : List Nat}
theorem kIn_go (n : H D = none) (e : H4 D = some (.lst (out i))) (k : Keep [] H H4) (l : (out i).length < sizeLine) (o : out (i + 1) = out i ++ [y]) : kIn H D out i y H4 :=
  ⟨out i, e, l, k.own n, by rw [upd_same, o]⟩
theorem kOut_go (e : H4 D = some (.lst (out i))) (k : Keep [] H H4) (o : out (i + 1) = out i) : PvOf H D out (i + 1) H4 := ⟨k, by rw [o]; exact e⟩
theorem w_yes {QT : Bool → Hp → Prop} (h : QT true H) : tYes σ H QT := h
/-- a turn -/
abbrev LcTurn (H : Hp) (g : TG) (tt : TT) (te : TE) (vs : List Nat) (σ : L2.St) (D : Addr) (out : Nat → List V) (i : Nat) (x : V) (H' : Hp) : Prop :=
  g x (wipe σ vs) H' fun σ2 H2 => wipe σ2 vs = wipe σ vs ∧ tt σ2 H2 fun b H3 => if b = true then te σ2 H3 fun y H4 => kIn H D out i y H4 else PvOf H D out (i + 1) H3
def kLcL (K : PySem.W.Frag) (g : TG) (tt : TT) (te : TE) (vs : List Nat) (σ : L2.St) (x : V) (H1 : Hp) (Q : VK) : Prop := ∃ a, x = .ref a ∧ (∃ xs, SqL K H1 a xs) ∧ ∀ D, H1 D = none → ∃ W : Nat → Nat → Hp → Prop, (∃ m, W 0 m (upd H1 D (.lst []))) ∧ ∀ i m H, W i m H →
  ((Itl K a).stop i H ∧ Q (.ref D) H) ∨ ((Itl K a).go i H ∧ ∃ Nx : Hp → Prop, (∀ H', Nx H' → ∃ m', m' < m ∧ W (i + 1) m' H') ∧ ∀ x H', (Itl K a).yld i H x H' → g x (wipe σ vs) H' fun σ2 H2 => wipe σ2 vs = wipe σ vs ∧ tt σ2 H2 fun b H3 =>
    if b = true then te σ2 H3 fun y H4 => ∃ acc, H4 D = some (.lst acc) ∧ acc.length < sizeLine ∧ Nx (upd H4 D (.lst (acc ++ [y]))) else Nx H3)
theorem w_lcL (h : tl σ H fun x H1 => kLcL K g tt te vs σ x H1 Q) : tLc (iList K tl) g tt te vs σ H Q := h
theorem l_lcL (e : SqL K H a xs) (out : Nat → List V) (o0 : out 0 = [])
    (hs : ∀ D i x H', H D = none → xs[i]? = some x → Keep [] H H' → H' D = some (.lst (out i)) → LcTurn H g tt te vs σ D out i x H') (hd : ∀ D H', H D = none → Keep [] H H' → H' D = some (.lst (out xs.length)) → Q (.ref D) H') : kLcL K g tt te vs σ (.ref a) H Q :=
  ⟨a, rfl, ⟨xs, e⟩, fun D hD => lc_list (xs := xs) (PvOf H D out) ⟨Keep.refl.own hD, by rw [upd_same, o0]⟩ (fun _ _ _ q => q.1.seqL nin_nil e) (fun i x H' hx q => hs D i x H' hD hx q.1 q.2) fun H' q => hd D H' hD q.1 q.2⟩
def kLcT (K : PySem.W.Frag) (g : TG) (tt : TT) (te : TE) (vs : List Nat) (σ : L2.St) (x : V) (H1 : Hp) (Q : VK) : Prop := ∃ a, x = .ref a ∧ (∃ xs, SqT K H1 a xs) ∧ ∀ D, H1 D = none → ∃ W : Nat → Nat → Hp → Prop, (∃ m, W 0 m (upd H1 D (.lst []))) ∧ ∀ i m H, W i m H →
  ((Itt K a).stop i H ∧ Q (.ref D) H) ∨ ((Itt K a).go i H ∧ ∃ Nx : Hp → Prop, (∀ H', Nx H' → ∃ m', m' < m ∧ W (i + 1) m' H') ∧ ∀ x H', (Itt K a).yld i H x H' → g x (wipe σ vs) H' fun σ2 H2 => wipe σ2 vs = wipe σ vs ∧ tt σ2 H2 fun b H3 =>
    if b = true then te σ2 H3 fun y H4 => ∃ acc, H4 D = some (.lst acc) ∧ acc.length < sizeLine ∧ Nx (upd H4 D (.lst (acc ++ [y]))) else Nx H3)
theorem w_lcT (h : tl σ H fun x H1 => kLcT K g tt te vs σ x H1 Q) : tLc (iTup K tl) g tt te vs σ H Q := h
theorem l_lcT (e : SqT K H a xs) (out : Nat → List V) (o0 : out 0 = [])
    (hs : ∀ D i x H', H D = none → xs[i]? = some x → Keep [] H H' → H' D = some (.lst (out i)) → LcTurn H g tt te vs σ D out i x H') (hd : ∀ D H', H D = none → Keep [] H H' → H' D = some (.lst (out xs.length)) → Q (.ref D) H') : kLcT K g tt te vs σ (.ref a) H Q :=
  ⟨a, rfl, ⟨xs, e⟩, fun D hD => lc_tup (xs := xs) (PvOf H D out) ⟨Keep.refl.own hD, by rw [upd_same, o0]⟩ (fun _ _ _ q => q.1.seqT nin_nil e) (fun i x H' hx q => hs D i x H' hD hx q.1 q.2) fun H' q => hd D H' hD q.1 q.2⟩
def LcR (lo : Int) (n : Nat) (g : TG) (tt : TT) (te : TE) (vs : List Nat) (σ : L2.St) (H1 : Hp) (Q : VK) : Prop := ∀ D, H1 D = none → ∃ W : Nat → Nat → Hp → Prop, (∃ m, W 0 m (upd H1 D (.lst []))) ∧ ∀ i m H, W i m H →
  ((Itr lo n).stop i H ∧ Q (.ref D) H) ∨ ((Itr lo n).go i H ∧ ∃ Nx : Hp → Prop, (∀ H', Nx H' → ∃ m', m' < m ∧ W (i + 1) m' H') ∧ ∀ x H', (Itr lo n).yld i H x H' → g x (wipe σ vs) H' fun σ2 H2 => wipe σ2 vs = wipe σ vs ∧ tt σ2 H2 fun b H3 =>
    if b = true then te σ2 H3 fun y H4 => ∃ acc, H4 D = some (.lst acc) ∧ acc.length < sizeLine ∧ Nx (upd H4 D (.lst (acc ++ [y]))) else Nx H3)
def kLcR1 (g : TG) (tt : TT) (te : TE) (vs : List Nat) (σ : L2.St) (ws : List V) (H1 : Hp) (Q : VK) : Prop := ∃ j : Int, ws = [.int j] ∧ -(2 ^ 62) ≤ j ∧ j < 2 ^ 62 ∧ LcR 0 j.toNat g tt te vs σ H1 Q
def kLcR2 (g : TG) (tt : TT) (te : TE) (vs : List Nat) (σ : L2.St) (ws : List V) (H1 : Hp) (Q : VK) : Prop := ∃ i j : Int, ws = [.int i, .int j] ∧ (-(2 ^ 62) ≤ i ∧ i < 2 ^ 62 ∧ -(2 ^ 62) ≤ j ∧ j < 2 ^ 62) ∧ LcR i (j - i).toNat g tt te vs σ H1 Q
theorem w_lcR1 (h : tr σ H fun ws H1 => kLcR1 g tt te vs σ ws H1 Q) : tLc (iRng1 tr) g tt te vs σ H Q := h
theorem w_lcR2 (h : tr σ H fun ws H1 => kLcR2 g tt te vs σ ws H1 Q) : tLc (iRng2 tr) g tt te vs σ H Q := h
theorem l_lcR {lo : Int} {n : Nat} (out : Nat → List V) (o0 : out 0 = [])
    (hs : ∀ D i H', H D = none → i < n → Keep [] H H' → H' D = some (.lst (out i)) → LcTurn H g tt te vs σ D out i (.int (lo + i)) H') (hd : ∀ D H', H D = none → Keep [] H H' → H' D = some (.lst (out n)) → Q (.ref D) H') : LcR lo n g tt te vs σ H Q :=
  fun D hD => lc_range (PvOf H D out) ⟨Keep.refl.own hD, by rw [upd_same, o0]⟩ (fun i H' hi q => hs D i H' hD hi q.1 q.2) fun H' q => hd D H' hD q.1 q.2
theorem l_lcR1 {j : Int} (b : -(2 ^ 62) ≤ j ∧ j < 2 ^ 62) (out : Nat → List V) (o0 : out 0 = [])
    (hs : ∀ D i H', H D = none → i < j.toNat → Keep [] H H' → H' D = some (.lst (out i)) → LcTurn H g tt te vs σ D out i (.int i) H') (hd : ∀ D H', H D = none → Keep [] H H' → H' D = some (.lst (out j.toNat)) → Q (.ref D) H') : kLcR1 g tt te vs σ [.int j] H Q :=
  ⟨j, rfl, b.1, b.2, l_lcR out o0 (fun D i H' a b c d => by rw [Int.zero_add]; exact hs D i H' a b c d) hd⟩
theorem l_lcR2 {k j : Int} (b : -(2 ^ 62) ≤ k ∧ k < 2 ^ 62 ∧ -(2 ^ 62) ≤ j ∧ j < 2 ^ 62) (out : Nat → List V) (o0 : out 0 = [])
    (hs : ∀ D i H', H D = none → i < (j - k).toNat → Keep [] H H' → H' D = some (.lst (out i)) → LcTurn H g tt te vs σ D out i (.int (k + i)) H') (hd : ∀ D H', H D = none → Keep [] H H' → H' D = some (.lst (out (j - k).toNat)) → Q (.ref D) H') : kLcR2 g tt te vs σ [.int k, .int j] H Q :=
  ⟨k, j, rfl, b, l_lcR out o0 hs hd⟩
end
/-! ### lists of ints -/
theorem flat_ints (ns : List Int) : (ns.map V.int).all flatV = true := by
  induction ns with
  | nil => rfl
  | cons n r ih => simpa [flatV] using ih
theorem inV_ints (i : Int) (ns : List Int) : inV (.int i) (ns.map V.int) = decide (i ∈ ns) := by
  induction ns with
  | nil => simp [inV]
  | cons n r ih =>
    unfold inV at ih ⊢
    rw [List.map_cons, List.any_cons, ih]
    by_cases e : n = i
    · subst e; simp [eqV]
    · have e2 : ¬ i = n := fun z => e z.symm
      simp [eqV, e, e2]
section
variable {K : PySem.W.Frag} {H : Hp} {Q : VK} {a : Addr} {i : Int} {ns : List Int}
theorem w_inI (e : H a = some (.lst (ns.map V.int))) (h : Q (.bl (decide (i ∈ ns))) H) : rInX K (.int i) (.ref a) H Q := w_inL (SqL.of e) rfl (flat_ints ns) (by rw [inV_ints]; exact h)
theorem w_ninI (e : H a = some (.lst (ns.map V.int))) (h : Q (.bl (!decide (i ∈ ns))) H) : rNinX K (.int i) (.ref a) H Q := w_ninL (SqL.of e) rfl (flat_ints ns) (by rw [inV_ints]; exact h)
theorem map_at {x : V} {k : Nat} (h : (ns.map V.int)[k]? = some x) : ∃ c, ns[k]? = some c ∧ x = .int c := by
  rw [List.getElem?_map] at h
  cases e : ns[k]? with
  | none => rw [e] at h; cases h
  | some c => rw [e] at h; exact ⟨c, rfl, (Option.some.inj h).symm⟩
end
/-! ### zip of two tuples -/
def kForZ (K : PySem.W.Frag) (g : TG) (t : TS) (D : Ends) (σ : L2.St) (vs : List V) (H1 : Hp) : Prop := ∃ a b xs ys, vs = [.ref a, .ref b] ∧ ((SqL K H1 a xs ∧ SqL K H1 b ys ∧ ∃ W : Nat → Nat → L2.St → Hp → Prop, (∃ m, W 0 m σ H1) ∧ ∀ i m σ H, W i m σ H →
      ((Itz K a b).stop i H ∧ D.nx σ H) ∨ ((Itz K a b).go i H ∧ ∃ N : L2.St → Hp → Prop, (∀ σ' H', N σ' H' → ∃ m', m' < m ∧ W (i + 1) m' σ' H') ∧ ∀ v H', (Itz K a b).yld i H v H' → g v σ H' fun σ2 H2 => t { D with nx := N, ct := N, bk := D.nx } σ2 H2)) ∨
    (SqT K H1 a xs ∧ SqT K H1 b ys ∧ ∃ W : Nat → Nat → L2.St → Hp → Prop, (∃ m, W 0 m σ H1) ∧ ∀ i m σ H, W i m σ H →
      ((RZ.ItzT K a b).stop i H ∧ D.nx σ H) ∨ ((RZ.ItzT K a b).go i H ∧ ∃ N : L2.St → Hp → Prop, (∀ σ' H', N σ' H' → ∃ m', m' < m ∧ W (i + 1) m' σ' H') ∧ ∀ v H', (RZ.ItzT K a b).yld i H v H' → g v σ H' fun σ2 H2 => t { D with nx := N, ct := N, bk := D.nx } σ2 H2)))
section
variable {K : PySem.W.Frag} {σ : L2.St} {H : Hp} {a b : Addr} {xs ys : List V} {g : TG} {t : TS} {D : Ends} {tr : TA}
theorem w_forZ (h : tr σ H fun vs H1 => kForZ K g t D σ vs H1) : tFor (RZ.iZipA K tr) g t D σ H := h
theorem l_forZT (ea : SqT K H a xs) (eb : SqT K H b ys) (hl : xs.length = ys.length) (Pv : Nat → L2.St → Hp → Prop) (h0 : Pv 0 σ H) (hq : ∀ i σ' H', Pv i σ' H' → SqT K H' a xs ∧ SqT K H' b ys)
    (hs : ∀ (i : Nat) (x y : V) (T : Addr) (σ' : L2.St) (H' : Hp), xs[i]? = some x → ys[i]? = some y → Pv i σ' H' → H' T = none → g (.ref T) σ' (upd H' T (.tup [x, y])) fun σ2 H2 => t { D with nx := Pv (i + 1), ct := Pv (i + 1), bk := D.nx } σ2 H2)
    (hd : ∀ σ' H', Pv xs.length σ' H' → D.nx σ' H') : kForZ K g t D σ [.ref a, .ref b] H := ⟨a, b, xs, ys, rfl, Or.inr ⟨ea, eb, RZ.for_zipT hl Pv h0 hq hs hd⟩⟩
end
section
variable {α β : Type} {l : List α} {i : Nat} {c : α} {p : α → Bool} {f : α → β}
theorem take_at (h : l[i]? = some c) : l.take (i + 1) = l.take i ++ [c] := by rw [List.take_succ, h]; rfl
theorem filt_yes (h : l[i]? = some c) (q : p c = true) : ((l.take (i + 1)).filter p).map f = ((l.take i).filter p).map f ++ [f c] := by rw [take_at h, List.filter_append, List.map_append, List.filter_cons, if_pos q]; rfl
theorem filt_no (h : l[i]? = some c) (q : ¬ p c = true) : ((l.take (i + 1)).filter p).map f = ((l.take i).filter p).map f := by
  rw [take_at h, List.filter_append, List.map_append, List.filter_cons, if_neg q]
  simp
theorem filt_len : (((l.take i).filter p).map f).length ≤ l.length := by
  rw [List.length_map]
  exact Nat.le_trans (List.length_filter_le _ _) (by rw [List.length_take]; exact Nat.min_le_right _ _)
theorem map_succ (h : l[i]? = some c) : (l.take (i + 1)).map f = (l.take i).map f ++ [f c] := by rw [take_at h, List.map_append]; rfl
theorem range_succ {g : Nat → β} : (List.range (i + 1)).map g = (List.range i).map g ++ [g i] := by rw [List.range_succ, List.map_append]; rfl
theorem range_len {g : Nat → β} : ((List.range i).map g).length = i := by rw [List.length_map, List.length_range]
end
/-! ### the rules, the written part named -/
section
variable {X : Cx} {K : PySem.W.Frag} {a e o l value tg : Expr} {ta tv tl to : TE} {tr : TA} {f : Str} {pos pos' p tpos : Pos} {es elts : List Expr} {k kk n : Nat} {t : TGs}
theorem op_plusK (h : X.K = K) : OpR X (binaryOp .Add) (rPlus K) := h ▸ op_plus
theorem op_eqK (h : X.K = K) (hu : X.A.units + 64 < cLine) : OpR X (compareOp .Eq) (rEqX K) := h ▸ op_eqX hu
theorem op_neK (h : X.K = K) (hu : X.A.units + 64 < cLine) : OpR X (compareOp .NotEq) (rNeX K) := h ▸ op_neX hu
theorem op_inK (h : X.K = K) : OpR X (compareOp .In) (rInX K) := h ▸ op_inX
theorem op_ninK (h : X.K = K) : OpR X (compareOp .NotIn) (rNinX K) := h ▸ op_ninX
theorem cr_lenK (h : X.K = K) : CallR X (.builtin "len") (rLenX K) := h ▸ cr_lenX
theorem cr_maxK (h : X.K = K) (hc : X.calm = true) : CallR X (.builtin "max") (rMaxX K) := h ▸ cr_maxX hc
theorem cr_minK (h : X.K = K) (hc : X.calm = true) : CallR X (.builtin "min") (rMinX K) := h ▸ cr_minX hc
theorem cr_tupK (h : X.K = K) : CallR X (.type "tuple") (rTupX K) := h ▸ cr_tupX
theorem cr_lisK (h : X.K = K) : CallR X (.type "list") (rLisX K) := h ▸ cr_lisX
theorem cr_isiK (h : X.K = K) : CallR X (.builtin "isinstance") (rIsi K) := h ▸ call_isi
theorem ix_K (h : X.K = K) : IxR X (rIx K) := h ▸ ix_seq
theorem pe_fldK (h : X.K = K) (he : PE X e ta) (hb : attributeBase e f X.env (eval e X.env) = eval e X.env) : PE X (.Attribute e f pos) (tFld K ta f) := h ▸ pe_fld he hb
theorem ps_fldK (h : X.K = K) (ha : PE X o ta) (hv : PE X value tv) (hs : swapsWith value (some (.Attribute o f pos')) pos.line X.env = pure false) : PS X (.Assign [.Attribute o f pos'] value pos) (sFld K ta tv f) := h ▸ ps_fld ha hv hs
theorem pt_truK (h : X.K = K) (ha : PE X a ta) (he : ∀ whole, isTrue a X.env whole = (do let v ← whole; standAt a.pos; holding [v] (truthy v)) := by intro _; rfl) : PT X a (tTru K ta) := h ▸ pt_tru ha he
theorem pi_listK (h : X.K = K) (hl : PE X l tl) : PI X tg l (iList K tl) := h ▸ pi_list hl
theorem pi_tupK (h : X.K = K) (hl : PE X l tl) : PI X tg l (iTup K tl) := h ▸ pi_tup hl
theorem pi_zipK {e2 : Expr} (h : X.K = K) (hg : Gl X "zip") (hm : X.mg "zip" = none) (ha : PA X [e, e2] tr)
    (hs : starEach [e, e2] X.env = (false, eval e X.env) :: starEach [e2] X.env := by rfl) (hpl : (backTo pos (starEach [e2] X.env)).any (·.1) = false := by rfl) :
    PI X (.Tuple elts kk tpos) (.Call (.Name "zip" p) [e, e2] [] pos) (RZ.iZipA K tr) := h ▸ RZ.pi_zipA hg hm ha hs hpl
theorem pg_tupK (h : X.K = K) (hc : X.calm = true) (hg : PGs X es t) (hn : (assignEach es X.env).length = n := by rfl) (hst : (assignEach es X.env).findIdx? (·.1) = none := by rfl) : PG X (.Tuple es k pos) (gTup K n t) := h ▸ pg_tup hc hg hn hst
theorem pe_bm0K {T id : String} {name : Str} {apos cpos : Pos} {r : V → List V → Hp → VK → Prop} (h : X.K = K) (pa : PlainAttrs T) (slot : Slot T name id) (hty : typeOf (.builtin id) = pure (.type "method_descriptor")) (hm : MtR X id r) (ho : PE X o to)
    (hbase : attributeBase o name X.env (eval o X.env) = eval o X.env := by rfl) (hline : (apos.endLine == cpos.line) = true := by rfl) : PE X (.Call (.Attribute o name apos) [] [] cpos) (tBM0 K T r to) := h ▸ pe_bm0 pa slot hty hm ho hbase hline
theorem pe_bmK {T id : String} {name : Str} {apos cpos : Pos} {r : V → List V → Hp → VK → Prop} (h : X.K = K) (pa : PlainAttrs T) (slot : Slot T name id) (hty : typeOf (.builtin id) = pure (.type "method_descriptor")) (hm : MtR X id r) (ho : PE X o to) (ha : PA X (e :: es) tr)
    (hbase : attributeBase o name X.env (eval o X.env) = eval o X.env := by rfl)
    (hfew : ((backTo cpos (starEach (e :: es) X.env)).all (fun x => !x.1) && (backToKw cpos (keywordEach [] X.env)).all (fun x => x.1.isSome)
      && decide ((e :: es).length + ([] : List Keyword).length + (if ([] : List Keyword).isEmpty then 0 else 1) < 30)) = true := by rfl)
    (hline : (apos.endLine == cpos.line) = true := by rfl) (hs : starEach (e :: es) X.env = (false, eval e X.env) :: starEach es X.env := by rfl) (hplain : (backTo cpos (starEach es X.env)).any (·.1) = false := by rfl) :
    PE X (.Call (.Attribute o name apos) (e :: es) [] cpos) (tBM K T r to tr) := h ▸ pe_bm pa slot hty hm ho ha hbase hfew hline hs hplain
end
/-! ### while -/
def kTurn (W : Nat → L2.St → Hp → Prop) (tb : TS) (D : Ends) (m : Nat) (σ : L2.St) (H1 : Hp) : Prop := ∃ N : L2.St → Hp → Prop, (∀ σ' H', N σ' H' → ∃ m', m' < m ∧ W m' σ' H') ∧ tb { D with nx := N, ct := N, bk := D.nx } σ H1
theorem w_turn {W : Nat → L2.St → Hp → Prop} {tb : TS} {D : Ends} {m : Nat} {σ : L2.St} {H1 : Hp} (h : tb { D with nx := fun σ2 H2 => ∃ m', m' < m ∧ W m' σ2 H2, ct := fun σ2 H2 => ∃ m', m' < m ∧ W m' σ2 H2, bk := D.nx } σ H1) : kTurn W tb D m σ H1 := ⟨_, fun _ _ q => q, h⟩
theorem l_while {c : TT} {tb : TS} {D : Ends} {σ : L2.St} {H : Hp} (W : Nat → L2.St → Hp → Prop) (m0 : Nat) (h0 : W m0 σ H)
    (hs : ∀ m σ' H', W m σ' H' → c σ' H' fun b H1 => if b = true then kTurn W tb D m σ' H1 else D.nx σ' H1) : tWhile c tb D σ H := ⟨W, ⟨m0, h0⟩, hs⟩
/-! ### count of flat items -/
theorem countP_eqU {x : V} : ∀ {xs : List V} {us : List Value}, Vals xs us → xs.all flatV = true → us.countP (eqU x) = xs.countP fun y => eqV y x
  | _, _, .nil, _ => rfl
  | _, _, .cons r t, f => by
    rw [List.all_cons, Bool.and_eq_true] at f
    rw [List.countP_cons, List.countP_cons, countP_eqU t f.2, eqU_of r f.1]
def rCntX (K : PySem.W.Frag) : V → List V → Hp → VK → Prop := fun x xs H Q => ∃ (p : Addr) (ys : List V) (y : V), x = .ref p ∧ xs = [y] ∧ SqL K H p ys ∧ flatV y = true ∧ ys.all flatV = true ∧ Q (.int ((ys.countP fun z => eqV z y : Nat) : Int)) H
theorem mt_countX {X : Cx} : MtR X "list.count" (rCntX X.K) := by
  intro pn s₀ σ₀ H₀ x₀ xs₀ v₀ us₀ Q₀ I₀ rx rxs hq
  obtain ⟨p, ys, y, rfl, rfl, hs, fy, fa, q⟩ := hq
  cases rx
  obtain ⟨u, rfl, ru⟩ := rxs.one
  obtain ⟨its, rv, ⟨⟨cls, dd, data, sl⟩, n, ho, hc, hdn, hd⟩, hlen⟩ := I₀.list hs
  simp only at hc hd
  subst hc hd
  refine call_meets PySem.F.slot_list_count ⟨_, ho, rfl⟩ PySem.F.entry_list_count (PySem.F.args_list_count_2 _ _)
    (SeqAt.list_countAt p its.toArray n dd sl u (eqU y)) ⟨ho, fun z hz => mem_eqAt ru fy rv fa z (by simpa using hz), ?_⟩
  have ec : its.toArray.toList.countP (eqU y) = ys.countP fun z => eqV z y := countP_eqU rv fa
  refine ⟨.int ((ys.countP fun z => eqV z y : Nat) : Int), H₀, I₀.tok _, ⟨s₀.toks, ?_⟩, q⟩
  show Value.int ((its.toArray.toList.countP (eqU y) : Nat) : Int) s₀.toks = Value.int ((ys.countP fun z => eqV z y : Nat) : Int) s₀.toks
  rw [ec]
theorem mt_countK {X : Cx} {K : PySem.W.Frag} (h : X.K = K) : MtR X "list.count" (rCntX K) := h ▸ mt_countX
theorem mt_indexK {X : Cx} {K : PySem.W.Frag} (h : X.K = K) : MtR X "list.index" (rIndex K) := h ▸ mt_index
/-! ### an exception that is caught -/
theorem pe_never {X : Cx} {e : Expr} : PE X e (fun _ _ _ => False) := ⟨fun _ _ _ _ _ _ h => False.elim h⟩
def rIsE2 (K : PySem.W.Frag) (cls : Value) (d : Option Addr) (a : Addr) : List V → Hp → VK → Prop := fun xs H Q => ∃ D, cls = .ref D ∧ d = none ∧ ExcC K D ∧ rIsE K D a xs H Q
theorem call_isE2 {X : Cx} {K : PySem.W.Frag} {a : Addr} {cls : Value} {d : Option Addr} {oe : Obj} {pn : List (Addr × Obj)} (h : X.K = K) (hz : Zc cls d oe) (hf : ∃ vs, oe.data = .fields vs) : CallR (X.suite a ((a, oe) :: pn)) (.builtin "isinstance") (rIsE2 K cls d a) := by
  subst h
  intro pins s σ H xs us Q I r q
  obtain ⟨D, rfl, rfl, C, q⟩ := q
  exact call_isE C hz hf pins s σ H xs us Q I r q
theorem takesLen {X : Cx} {W : WX} (tk : Takes X W) : Takes X (fun cls d σ H => σ.length = X.N.length → W cls d σ H) := fun u s' x => by
  obtain ⟨a, B, sI, pins, σ, H, cls, d, e1, I, r1, r2, r3, r4, r5, r6, q⟩ := x
  exact tk u s' ⟨a, B, sI, pins, σ, H, cls, d, e1, I, r1, r2, r3, r4, r5, r6, q I.len⟩
/-! ### displays of dicts -/
theorem w_pairs0 {σ : L2.St} {H : Hp} {R : List (V × V) → Hp → Prop} (h : R [] H) : tPairs [] σ H R := h
theorem w_pairs {tk tv : TE} {r : List (TE × TE)} {σ : L2.St} {H : Hp} {R : List (V × V) → Hp → Prop} (h : tk σ H fun k H1 => tv σ H1 fun v H2 => tPairs r σ H2 fun ps H3 => R ((k, v) :: ps) H3) : tPairs ((tk, tv) :: r) σ H R := h
def kDisp (p : Addr) (ps : List (V × V)) (H2 : Hp) (Q : VK) : Prop := H2 p = some (.dK []) ∧ ∃ kvs : List (Key × V), ps = kvs.map (fun kv => (kV kv.1, kv.2)) ∧ kvs.length ≤ 15 ∧ Q (.ref p) (upd H2 p (.dK (mergeK [] kvs)))
theorem w_disp {trs : List (TE × TE)} {σ : L2.St} {H : Hp} {Q : VK} (h : ∀ p, H p = none → tPairs trs σ (upd H p (.dK [])) fun ps H2 => kDisp p ps H2 Q) : tDisp trs σ H Q := h
theorem l_disp {p : Addr} {H2 : Hp} {Q : VK} (kvs : List (Key × V)) (e : H2 p = some (.dK [])) (l : kvs.length ≤ 15) (m : mergeK [] kvs = kvs) (h : Q (.ref p) (upd H2 p (.dK kvs))) : kDisp p (kvs.map (fun kv => (kV kv.1, kv.2))) H2 Q :=
  ⟨e, kvs, rfl, l, by rw [m]; exact h⟩
theorem putK_new {kvs : List (Key × V)} {k : Key} {v : V} (h : k ∉ kvs.map (·.1)) : putK kvs k v = kvs ++ [(k, v)] := by
  unfold putK
  rw [if_neg]
  intro z
  rw [List.any_eq_true] at z
  obtain ⟨x, hx, e⟩ := z
  exact h (List.mem_map.mpr ⟨x, hx, of_decide_eq_true e⟩)
theorem merge_nd : ∀ (more kvs : List (Key × V)), ((kvs ++ more).map (·.1)).Nodup → mergeK kvs more = kvs ++ more
  | [], kvs, _ => by rw [List.append_nil]; rfl
  | (k, v) :: r, kvs, h => by
    have hk : k ∉ kvs.map (·.1) := fun m => by
      rw [List.map_append, List.map_cons, List.nodup_append] at h
      exact h.2.2 k m k List.mem_cons_self rfl
    show mergeK (putK kvs k v) r = _
    rw [putK_new hk, merge_nd r (kvs ++ [(k, v)]) (by rw [List.append_assoc]; exact h), List.append_assoc]
    rfl
theorem merge_ok (kvs : List (Key × V)) (h : (kvs.map (·.1)).Nodup) : mergeK [] kvs = kvs := merge_nd kvs [] h
theorem put_hd {κ : Type} [DecidableEq κ] {k : κ} {v x : V} {l : List (κ × V)} (h : k ∉ l.map (·.1)) : putK ((k, x) :: l) k v = (k, v) :: l := by
  unfold putK
  rw [if_pos (by rw [List.any_cons]; simp)]
  rw [List.map_cons, if_pos rfl]
  congr 1
  have e : ∀ y, y ∈ l → (if y.1 = k then (y.1, v) else y) = y := fun y hy => if_neg fun z => h (List.mem_map.mpr ⟨y, hy, z⟩)
  rw [List.map_congr_left e, List.map_id']
theorem put_tl {κ : Type} [DecidableEq κ] {k j : κ} {v x : V} {l : List (κ × V)} (h : ¬ j = k) : putK ((j, x) :: l) k v = (j, x) :: putK l k v := by
  unfold putK
  rw [List.any_cons, decide_eq_false h, Bool.false_or, List.map_cons, if_neg h]
  split <;> rfl
theorem w_dputP {H : Hp} {a : Addr} {v : V} {R : Hp → Prop} {kvs kvs' : List (Key × V)} {s : Str} (e : H a = some (.dK kvs)) (l : kvs.length < sizeLine) (p : putK kvs (Sum.inr s) v = kvs') (h : R (upd H a (.dK kvs'))) : kDPut v (.ref a) (.str s) H R := w_dputS e l (by rw [p]; exact h)
/-- == of scalars alone -/
theorem w_eq0S {s z : Str} {H : Hp} {Q : VK} (h : Q (.bl (decide (s = z))) H) : rEq (.str s) (.str z) H Q := ⟨rfl, by
  have e : decide (V.str s = V.str z) = decide (s = z) := by
    by_cases q : s = z
    · subst q; rw [decide_eq_true rfl, decide_eq_true rfl]
    · rw [decide_eq_false q, decide_eq_false (fun w => q (V.str.inj w))]
  rw [e]; exact h⟩
theorem w_ne0I {i j : Int} {H : Hp} {Q : VK} (h : Q (.bl (!decide (i = j))) H) : rNe (.int i) (.int j) H Q := ⟨rfl, by
  have e : decide (V.int i = V.int j) = decide (i = j) := by
    by_cases q : i = j
    · subst q; rw [decide_eq_true rfl, decide_eq_true rfl]
    · rw [decide_eq_false q, decide_eq_false (fun z => q (V.int.inj z))]
  rw [e]; exact h⟩
section
variable {κ : Type} {k j : κ} {x : V} {l : List (κ × V)}
theorem nk_nil : k ∉ ([] : List (κ × V)).map (·.1) := List.not_mem_nil
theorem nk_cons (h : ¬ k = j) (t : k ∉ l.map (·.1)) : k ∉ ((j, x) :: l).map (·.1) := fun m => by
  rw [List.map_cons] at m
  rcases List.mem_cons.mp m with z | z
  · exact h z
  · exact t z
theorem nd_nil : (([] : List (κ × V)).map (·.1)).Nodup := List.nodup_nil
theorem nd_cons (h : j ∉ l.map (·.1)) (t : (l.map (·.1)).Nodup) : (((j, x) :: l).map (·.1)).Nodup := by
  rw [List.map_cons]
  exact List.nodup_cons.mpr ⟨h, t⟩
end
theorem pe_cls {X : Cx} {x : Str} {C : Addr} {pos : Pos} (hg : Gl X x) (hm : X.mg x = some (.ref C)) (hd : (x == ("__debug__" : Str)) = false := by decide) : PE X (.Name x pos) (tC (.ref C)) := pe_glob (v := .ref C) hg hm rfl hd
section
variable {K : PySem.W.Frag} {H : Hp} {Q : VK} {a : Addr} {ys : List V} {y z : V} {cls : Value} {d : Option Addr}
theorem w_cnt {n : Nat} (e : H a = some (.lst ys)) (fy : flatV y = true) (fa : ys.all flatV = true) (hn : (ys.countP fun z => eqV z y) = n) (h : Q (.int (n : Nat)) H) : rCntX K (.ref a) [y] H Q := ⟨a, ys, y, rfl, rfl, SqL.of e, fy, fa, by rw [hn]; exact h⟩
theorem w_idx (j : Nat) (e : H a = some (.lst ys)) (fy : flatV y = true) (fa : ys.all flatV = true) (hz : ys[j]? = some z) (hy : eqV z y = true) (ha : ∀ (m : Nat) (z' : V), m < j → ys[m]? = some z' → eqV z' y = false) (h : Q (.int (j : Nat)) H) : rIndex K (.ref a) [y] H Q :=
  ⟨a, ys, y, j, z, rfl, rfl, SqL.of e, fy, fa, hz, hy, ha, h⟩
theorem w_isE {D C : Addr} {k : Bool} (hc : cls = .ref D) (hd : d = none) (x : ExcC K D) (hk : PySem.W.kitOne K (.ref D) (.ref C) = some k) (h : Q (.bl k) H) : rIsE2 K cls d a [.ref a, .ref C] H Q := ⟨D, hc, hd, x, .ref C, .ref C, k, rfl, fun _ r => r, hk, h⟩
theorem w_isET {D : Addr} {T : String} {k : Bool} (hc : cls = .ref D) (hd : d = none) (x : ExcC K D) (hk : PySem.W.kitOne K (.ref D) (.type T) = some k) (h : Q (.bl k) H) : rIsE2 K cls d a [.ref a, .ty T] H Q := ⟨D, hc, hd, x, .ty T, .type T, k, rfl, fun _ r => r, hk, h⟩
end
/-- what the text knows of an error class of its own (of six), without an __init__: which of the six it is -/
structure OneBad (K : PySem.W.Frag) (C0 C1 C2 C3 C4 C5 C6 D : Addr) (b1 b2 b3 b4 b5 b6 : Bool) : Prop where
  m : PySem.W.exmOne K (.ref D) (.ref C0) = some true
  x : ExcC K D
  k1 : PySem.W.kitOne K (.ref D) (.ref C1) = some b1
  k2 : PySem.W.kitOne K (.ref D) (.ref C2) = some b2
  k3 : PySem.W.kitOne K (.ref D) (.ref C3) = some b3
  k4 : PySem.W.kitOne K (.ref D) (.ref C4) = some b4
  k5 : PySem.W.kitOne K (.ref D) (.ref C5) = some b5
  k6 : PySem.W.kitOne K (.ref D) (.ref C6) = some b6
  kv : PySem.W.kitOne K (.ref D) (.type "ValueError") = some true
/-- told: what is returned, or the word of the refusal -/
def TTold2 (tab : Value → Str → Prop) : (XK → Hp → VK → Prop) → Hp → VK → Prop := fun tl H Q =>
  tl (fun cls d H' => d = none ∧ ∃ wd, tab cls wd ∧ ∀ p H2, H' p = none → Keep [] H' H2 → H2 p = some (.tup [.str wd]) → Q (.ref p) H2) H Q
theorem w_idxI {K : PySem.W.Frag} {H : Hp} {Q : VK} {a : Addr} {ys : List V} {y z : V} (j : Nat) (jj : Int) (ej : ((j : Nat) : Int) = jj) (e : H a = some (.lst ys)) (fy : flatV y = true) (fa : ys.all flatV = true) (hz : ys[j]? = some z) (hy : eqV z y = true)
    (ha : ∀ (m : Nat) (z' : V), m < j → ys[m]? = some z' → eqV z' y = false) (h : Q (.int jj) H) : rIndex K (.ref a) [y] H Q := w_idx j e fy fa hz hy ha (by rw [ej]; exact h)
/-- no True ahead of the j-th -/
theorem bl_ahead (bs : List Bool) (j : Nat) (h : (bs.take j).all (fun b => !b) = true) : ∀ (m : Nat) (z' : V), m < j → (bs.map V.bl)[m]? = some z' → eqV z' (.bl true) = false := fun m z' hm hz => by
  rw [List.getElem?_map] at hz
  cases e : bs[m]? with
  | none => rw [e] at hz; cases hz
  | some b =>
    rw [e] at hz
    cases hz
    have hb : b ∈ bs.take j := by
      rw [List.mem_iff_getElem?]
      exact ⟨m, by rw [List.getElem?_take, if_pos hm, e]⟩
    have := List.all_eq_true.mp h b hb
    cases b with
    | true => cases this
    | false => rfl
/-- a tuple of the written part -/
theorem sqT_of {K : PySem.W.Frag} {a : Addr} {xs : List V} {o : Obj} {its : Array Value} {n : Nat} (l : K.lookup a = some o) (c : o.cls = .type "tuple") (d : o.data = .seq its n) (z : its.size ≤ sizeLine) (v : Vals xs its.toList) : ∀ H, SqT K H a xs := fun _ => Or.inr ⟨o, its, n, l, c, d, z, v⟩
theorem cx_none {P : Program} {w : World} {H : Hp} {s : Shared} {e : Value} {s' : Shared} (h : L2.CX P w [] H s (fun _ _ _ => False) e s') : False := by
  obtain ⟨_, _, _, _, _, _, _, _, _, _, _, _, z⟩ := h
  exact z
end Ak
namespace Ak
open PySem PySem.Spec PyProof.Rows L2
/-! ### a built-in class called with keywords -/
theorem callWith_typeK {M : Model} {A : Around} {Eb : Value → Shared → Prop} {s : Shared} {env : Env} {pos : Pos} {T : String} {e : Expr} {rest : List Expr} {kws : List Keyword} {Q : Value → Shared → Prop}
    (h : wpAny M A (spliced (backTo pos (starEach (e :: rest) env))) (fun us s1 => wpAny M A (evalAll ((backToKw pos (keywordEach kws env)).map (·.2)))
      (fun ws s2 => wpAny M A (call (.type T) us (((backToKw pos (keywordEach kws env)).filterMap (·.1)).zip ws)) Q Eb s2) Eb s1) Eb s)
    (he : backTo pos (starEach (e :: rest) env) = (false, eval e env) :: backTo pos (starEach rest env) := by rfl) (hp : (backTo pos (starEach (e :: rest) env)).any (·.1) = false := by rfl)
    (ha : (backToKw pos (keywordEach kws env)).all (·.1.isSome) = true := by rfl) (hn : (backToKw pos (keywordEach kws env)).any (·.1.isNone) = false := by rfl) :
    wpAny M A (callWith pos (.type T) [] (backTo pos (starEach (e :: rest) env)) (backToKw pos (keywordEach kws env))) Q Eb s := by
  unfold callWith
  rw [he] at h
  have h2 := evalArgs_kwB (f := .type T) (Q := fun a s1 => wpAny M A (call (.type T) a.pos a.kw) Q Eb s1) ha h
  rw [← he] at h2
  refine wpAny_bind (wpAny_holding (wpAny_mono h2 (fun a s1 h1 => wpAny_bind (wpAny_standAt ?_)) fun _ _ z => z))
  simp only [hp, hn, Bool.or_false]
  refine wpAny_bind (wpAny_pure ?_)
  exact wpAny_bind (wpAny_mono h1 (fun r s2 hr => wpAny_bind (wpAny_holding (wpAny_point (wpAny_pure hr)))) fun _ _ z => z)
/-! ### enumerate(a tuple, start=c) -/
def IteT (K : PySem.W.Frag) (a : Addr) (c : Int) : It :=
  ⟨fun i H => ∃ (xs : List V) (x : V), SqT K H a xs ∧ xs[i]? = some x, fun i H v H' => ∃ T x, v = .ref T ∧ H T = none ∧ H' = upd H T (.tup [.int (c + (i : Int)), x]) ∧ ∀ xs, SqT K H a xs → xs[i]? = some x, fun i H => ∃ xs : List V, SqT K H a xs ∧ xs.length = i⟩
theorem turn_enumT {P : Program} {w : World} {K : PySem.W.Frag} {elts : List Expr} {kk : Nat} {tpos : Pos} (a e it : Addr) (c : Int) :
    Turn P w K (.Tuple elts kk tpos) (IteT K a c) [e, it] e (fun i h => (∃ old, IsEnum h e it (c + (i : Int)) old) ∧ h.IsTupleIter it a i ∧ e ≠ it) where
  mem := by simp
  obj := fun i h st b hb => by
    obtain ⟨⟨old, he⟩, ⟨o, ho, hc, hd⟩, _⟩ := st
    have e' : b = e ∨ b = it := by simpa using hb
    rcases e' with rfl | rfl
    · exact ⟨_, he, fun v q => nomatch q⟩
    · exact ⟨o, ho, fun v q => by rw [hd] at q; cases q⟩
  keep := fun i h h' st k => by
    obtain ⟨⟨old, he⟩, hi, hne⟩ := st
    exact ⟨⟨old, k e (by simp) _ he⟩, hi.at fun o q => k it (by simp) o q, hne⟩
  item := by
    intro X hP hw hK hc i pins s σ H E I hf st hg
    subst hP hw hK
    obtain ⟨⟨old, he⟩, hit, hne⟩ := st
    obtain ⟨xs, x, hq, hx⟩ := hg
    obtain ⟨its, rv, p, hz⟩ := I.tuple hq
    obtain ⟨u, hu, ru⟩ := rv.get hx
    have hel : e < s.heap.objs.size := Heap.lt_size he
    have hil : it < s.heap.objs.size := by obtain ⟨_, q, _⟩ := hit; exact Heap.lt_size q
    obtain ⟨ot, hot, hoc, n, hod⟩ := id p
    have hai : a ≠ it := fun z => by
      obtain ⟨o2, q2, q3, q4⟩ := hit
      rw [z, q2] at hot
      cases hot
      rw [q4] at hod
      cases hod
    have hea : e ≠ a := fun z => by
      rw [← z, show s.heap.get? e = _ from he] at hot
      cases hot
      cases hod
    have hi : i < its.toArray.size := by
      rw [List.size_toArray]
      exact (List.getElem?_eq_some_iff.mp hu).1
    refine wpAny_pyNext_enum_itemC (Draws.tuple (A := X.A.in1) (I.ok.hd hc) it a hai its.toArray) he ⟨hit, p⟩ hi hne (by simp [hne, hea]) fun u' h' tk hP ho hit' hT hsz hk => ?_
    obtain rfl : u' = u := by
      have hP' : its.toArray[i]? = some u' := hP
      rw [List.getElem?_toArray, hu] at hP'
      exact (Option.some.inj hP').symm
    refine ⟨_, rfl, wpAny_letOwnedTupleGo_enum (s := { s with heap := h', toks := tk + 1 }) ho fun h'' he' sb => ?_⟩
    have hT2 : h''.get? s.heap.objs.size = some { cls := .type "tuple", data := .seq #[.int (c + (i : Int)) tk, u'] } := (sb.2 _ (Nat.ne_of_gt hel)).trans hT
    have made : ObjOk X.prog X.w (upd H s.heap.objs.size (.tup [.int (c + (i : Int)), x])) h'' s.heap.objs.size (.tup [.int (c + (i : Int)), x]) :=
      ⟨by show 2 ≤ sizeLine; decide, [.int (c + (i : Int)) tk, u'], .cons ⟨_, rfl⟩ (.cons ru .nil), ⟨_, hT2, rfl, _, rfl⟩⟩
    have I1 : Inv X pins σ (upd H s.heap.objs.size (.tup [.int (c + (i : Int)), x])) { s with heap := h'', toks := tk + 1 } :=
      I.turnedNew (ch := [e, it]) (fun b ob hb q => (sb.2 b (fun z => hb (by simp [z]))).trans (hk b ob (fun z => hb (by simp [z])) (fun z => hb (by simp [z])) q)) hf (Nat.le_refl _) made
    refine ⟨.ref s.heap.objs.size, _, I1, rfl, ⟨_, x, rfl, I.hok.fresh (Nat.le_refl _), rfl, fun ys hy => by rw [I.tuple_inj hy hq]; exact hx⟩, ⟨⟨u', ?_⟩, hit'.1.at fun o q => (sb.2 it (Ne.symm hne)).trans q, hne⟩, fun b hb => ?_⟩
    · have e1 : c + ((i + 1 : Nat) : Int) = c + (i : Int) + 1 := by omega
      rw [e1]
      exact he'
    · have hlt : b < s.heap.objs.size := by
        have e' : b = e ∨ b = it := by simpa using hb
        rcases e' with rfl | rfl
        · exact hel
        · exact hil
      rw [upd_ne (Nat.ne_of_lt hlt)]
      exact (hf b hb).1
  done := by
    intro X hP hw hK hc i pins s σ H E I hf st hg
    subst hP hw hK
    obtain ⟨⟨old, he⟩, hit, hne⟩ := st
    obtain ⟨xs, hq, hx⟩ := hg
    obtain ⟨its, rv, p, hz⟩ := I.tuple hq
    obtain ⟨f0, f1, f2, f3, f4, f5⟩ := hf it (by simp)
    obtain ⟨ot, hot, hoc, n, hod⟩ := id p
    have hai : a ≠ it := fun z => by
      obtain ⟨o2, q2, q3, q4⟩ := hit
      rw [z, q2] at hot
      cases hot
      rw [q4] at hod
      cases hod
    have hi : i = its.toArray.size := by
      rw [List.size_toArray, ← rv.length]
      exact hx.symm
    rw [hi] at hit
    exact wpAny_pyNext_enum_endD (Draws.tuple (A := X.A.in1) (I.ok.hd hc) it a hai its.toArray) he ⟨hit, p⟩ fun h' eb => ⟨rfl, I.turned (t' := s.toks) (fun b o hb q => eb b o hb q) f0 f1 f3 f4 f5⟩
  self := fun A i s Q E st h => by
    obtain ⟨⟨_, he⟩, _⟩ := st
    exact wpAny_pyIter_enum he h
def iEnumTS (K : PySem.W.Frag) (ta tk : TA) : TI := fun σ H R => ta σ H fun vs H1 => tk σ H1 fun ks H2 => ∃ a xs c, vs = [.ref a] ∧ ks = [.int c] ∧ -(2 ^ 63) ≤ c ∧ c < 2 ^ 63 ∧ SqT K H2 a xs ∧ R (IteT K a c) H2
theorem pi_enumTS {X : Cx} {K : PySem.W.Frag} {e ke : Expr} {ta tk : TA} {p pos tpos kp : Pos} {elts : List Expr} {kk : Nat} (hX : X.K = K) (hg : Gl X "enumerate") (hm : X.mg "enumerate" = none) (ha : PA X [e] ta) (hk : PK X [⟨some "start", ke, kp⟩] tk)
    (he : backTo pos (starEach [e] X.env) = (false, eval e X.env) :: backTo pos (starEach [] X.env) := by rfl) (hs : (backTo pos (starEach [e] X.env)).any (·.1) = false := by rfl) :
    PI X (.Tuple elts kk tpos) (.Call (.Name "enumerate" p) [e] [⟨some "start", ke, kp⟩] pos) (iEnumTS K ta tk) := by
  subst hX
  refine ⟨fun pins s σ H R I h => ?_⟩
  refine wpAny_Call_Name_kw (ld_blt I hg hm PyProof.Rows.boot_enumerate (callWith_typeK (thn (ha.run pos pins s σ H _ I h) fun us s1 ⟨vs, H1, I1, r1, q1⟩ => thn (hk.run pos pins s1 σ H1 _ I1 q1) fun ws s2 ⟨ks, H2, I2, r2, q2⟩ => ?_) he hs))
  obtain ⟨a, xs, c, rfl, rfl, c0, c1, hq, q⟩ := q2
  obtain rfl := Vals.ref1 r1
  obtain ⟨w1, rfl, t, rfl⟩ := vals1 r2
  obtain ⟨its, rv, p', hz⟩ := I2.tuple hq
  show wpAny _ _ (call (.type "enumerate") [.ref a] [(Str.ofString "start", .int c t)]) _ _ s2
  refine enum_begins_start (begins_tuple a its.toArray) p' c0 c1 fun h' hen hit hsz hkp => wpAny_pyIter_enum hen ?_
  have I3 : Inv X pins σ H2 { s2 with heap := h' } := I2.kept (t' := s2.toks) hkp
  refine ⟨s2.heap.objs.size + 1, [s2.heap.objs.size + 1, s2.heap.objs.size], _, _, H2, rfl, I3, turn_enumT a (s2.heap.objs.size + 1) s2.heap.objs.size c, ⟨⟨.none, by rw [show c + ((0 : Nat) : Int) = c by omega]; exact hen⟩, ⟨_, hit, rfl, rfl⟩, Nat.succ_ne_self _⟩, fun b hb => ?_, q⟩
  have e' : b = s2.heap.objs.size + 1 ∨ b = s2.heap.objs.size := by simpa using hb
  have hle : s2.heap.objs.size ≤ b := by
    rcases e' with rfl | rfl
    · exact Nat.le_add_right _ _
    · exact Nat.le_refl _
  exact I2.fpOk hle (I2.hok.fresh hle)
end Ak
namespace Ak
open PySem PySem.Spec PyProof.Rows L2
/-! ### sorted ints -/
def srt (ns : List Int) : List Int := ns.mergeSort fun a b => decide (a ≤ b)
theorem srt_perm (ns : List Int) : (srt ns).Perm ns := List.mergeSort_perm _ _
theorem srt_le (ns : List Int) : (srt ns).Pairwise (· ≤ ·) := by
  have h := List.pairwise_mergeSort (le := fun (a b : Int) => decide (a ≤ b)) (fun a b c h1 h2 => by
    rw [decide_eq_true_eq] at h1 h2 ⊢
    omega) (fun a b => by
    rw [Bool.or_eq_true, decide_eq_true_eq, decide_eq_true_eq]
    omega) ns
  exact h.imp fun h1 => of_decide_eq_true h1
theorem srt_eq {ns ms : List Int} (p : ms.Perm ns) (s : ms.Pairwise (· ≤ ·)) : ms = srt ns :=
  List.Perm.eq_of_pairwise (le := fun (a b : Int) => a ≤ b) (fun a b _ _ h1 h2 => Int.le_antisymm h1 h2) s (srt_le ns) (p.trans (srt_perm ns).symm)
theorem srt_of {ns : List Int} (s : ns.Pairwise (· ≤ ·)) : srt ns = ns := (srt_eq (List.Perm.refl ns) s).symm
theorem srt_congr {ns ms : List Int} (p : ms.Perm ns) : srt ms = srt ns := srt_eq ((srt_perm ms).trans p) (srt_le ms)
theorem srt_mem {ns : List Int} {x : Int} : x ∈ srt ns ↔ x ∈ ns := (srt_perm ns).mem_iff
theorem srt_len {ns : List Int} : (srt ns).length = ns.length := (srt_perm ns).length_eq
theorem srt_filter {ns : List Int} (q : Int → Bool) : (srt ns).filter q = srt (ns.filter q) := srt_eq ((srt_perm ns).filter q) ((srt_le ns).filter q)
theorem srt_nodup {ns : List Int} (h : ns.Nodup) : (srt ns).Nodup := (srt_perm ns).nodup_iff.mpr h
/-- sorted: of a list of ints, of a dict's int keys, of any length -/
def rSortDI : List V → Hp → VK → Prop := fun xs H Q => ∃ (a : Addr) (kvs : List (Key × V)) (ks : List Int), xs = [.ref a] ∧ H a = some (.dK kvs) ∧ kvs.map (·.1) = ks.map Sum.inl ∧ ∀ (ys : List Int) (p : Addr), ys.Perm ks → ys.Pairwise (· ≤ ·) → H p = none → Q (.ref p) (upd H p (.lst (ys.map V.int)))
theorem cr_sortDI {X : Cx} (hcalm : X.calm = true) : CallR X (.builtin "sorted") rSortDI := by
  intro pins s σ H xs us Q I r q
  obtain ⟨a, kvs, ks, rfl, hd, hks, q⟩ := q
  obtain rfl := Vals.ref1 r
  obtain ⟨z, lo, vs, rel, dd⟩ := dk_rd I.hok (Or.inl hd)
  obtain ⟨ep, hat⟩ := dd.dictAt
  have hkeys : vs.map (·.1) = ks.map Sum.inl := rel.keys.symm.trans hks
  have hl : vs.length = ks.length := by
    have e := congrArg List.length hkeys
    rwa [List.length_map, List.length_map] at e
  have hz : vs.length ≤ sizeLine := by
    have e := congrArg List.length hks
    rw [List.length_map, List.length_map] at e
    omega
  refine Calls.call_function_entry PyProof.Rows.kind_sorted PyProof.Rows.plain_sorted PyProof.Rows.entry_sorted (PyProof.Rows.args_sorted1 _) ?_
  unfold Builtin.«sorted»
  refine wpAny_bind (m := checkCount "sorted" 1 1 _) (wpAny_pure ?_)
  refine wpAny_bind (PySem.W.kdu_collect (A := X.A.in1) (PySem.W.kdl_dict (knd := mixKind X.prog X.w) (kvs := vs) (ep := ep) lo) (I.ok.hd hcalm) hat hz fun h1 tk acc hk hacc => ?_)
  have hal : acc.toList.length = ks.length := by rw [Array.length_toList, hacc.1, hl]
  have hS : IntsAre acc.toList ks := ints_each hal fun j v e => by
    obtain ⟨k, x, e1, e2⟩ := hacc.2 j v (by rw [← Array.getElem?_toList]; exact e)
    have e3 : (vs.map (·.1))[j]? = some k := by rw [List.getElem?_map, e1]; rfl
    rw [hkeys, List.getElem?_map] at e3
    cases e4 : ks[j]? with
    | none => rw [e4] at e3; cases e3
    | some y =>
      rw [e4] at e3
      obtain rfl : Sum.inl y = k := Option.some.inj e3
      rcases keyIs_shape (show keyIs (Sum.inl y) v = true from e2) with ⟨i, t, ek, ev⟩ | ⟨z, t, ek, ev⟩
      · cases ek
        exact ⟨y, t, rfl, ev⟩
      · cases ek
  have I1 : Inv X pins σ H { s with heap := h1, toks := tk } := I.kept hk
  have hal2 : acc.toList.length ≤ sizeLine := by rw [hal, ← hl]; exact hz
  refine wpAny_bind (wpAny_newList ?_ hal2)
  have hoL : (h1.push (seqObj "list" acc.toList.toArray 0)).get? h1.objs.size = some (seqObj "list" acc.toList.toArray 0) := Heap.get?_push_size _ rfl
  show wpAny _ _ _ _ _ { s with heap := h1.push (seqObj "list" acc.toList.toArray 0), toks := tk }
  refine wpAny_bind (wpAny_holding (wpAny_call_entry PyProof.Rows.slot_list_sort ⟨_, hoL, rfl⟩ PyProof.Rows.entry_list_sort
    (SrtO.list_sort_ord (s := { s with heap := h1.push (seqObj "list" acc.toList.toArray 0), toks := tk }) SrtO.swo_int hoL hal2 (fun h2 => SrtO.ints_sortable hS h2) fun out g1 g2 => ⟨_, rfl, ?_⟩) (PyProof.Rows.args_list_sort _)))
  obtain ⟨k1, k2, k3⟩ := SrtO.ints_out hS g1 g2
  obtain ⟨e', he'⟩ := PyProof.Rows.sortedHeap_at (vs := acc.toList) (out := out.toArray) hoL
  have hlen : ((out.map SrtO.iv).map V.int).length ≤ sizeLine := by
    rw [List.length_map, k2.length_eq, ← hl]
    exact hz
  refine wpAny_pure ⟨_, rfl, .ref h1.objs.size, upd H h1.objs.size (.lst ((out.map SrtO.iv).map V.int)), I1.laid (t' := tk) (fun b u e => ?_) (Nat.le_refl _)
    (show ObjOk X.prog X.w _ _ _ (.lst ((out.map SrtO.iv).map V.int)) from ⟨hlen, out, e', vals_of_ints k1, he'⟩), rfl, q _ _ k2 k3 (I1.hok.fresh (Nat.le_refl _))⟩
  have hb : b < h1.objs.size := Heap.lt_size e
  rw [PyProof.Rows.sortedHeap_old (Nat.ne_of_lt hb) (by rw [size_push']; exact Nat.lt_succ_of_lt hb)]
  exact Heap.get?_push_of_some _ e
def rSortX (K : PySem.W.Frag) : List V → Hp → VK → Prop := fun xs H Q => rSortedI K xs H Q ∨ rSortDI xs H Q
theorem cr_sortK {X : Cx} {K : PySem.W.Frag} (h : X.K = K) (hc : X.calm = true) : CallR X (.builtin "sorted") (rSortX K) := by
  subst h
  exact CallR.or cr_sortedI (cr_sortDI hc)
/-! ### dicts whose keys are ints, each True -/
def sureD (ks : List Int) : List (Key × V) := ks.map fun k => (Sum.inl k, V.bl true)
section
variable {K : PySem.W.Frag} {H : Hp} {Q : VK} {a : Addr} {ns ks : List Int} {k : Int} {R : Hp → Prop}
theorem w_sortL (e : SqL K H a (ns.map V.int)) (h : ∀ p, H p = none → Q (.ref p) (upd H p (.lst ((srt ns).map V.int)))) : rSortX K [.ref a] H Q := Or.inl ⟨a, ns, rfl, e, fun ys p hp hs n => by rw [srt_eq hp hs]; exact h p n⟩
theorem w_sortO (e : H a = some (.lst (ns.map V.int))) (h : ∀ p, H p = none → Q (.ref p) (upd H p (.lst ((srt ns).map V.int)))) : rSortX K [.ref a] H Q := w_sortL (SqL.of e) h
theorem sureD_keys : (sureD ks).map (·.1) = ks.map Sum.inl := by unfold sureD; rw [List.map_map]; rfl
theorem w_sortD (e : H a = some (.dK (sureD ks))) (h : ∀ p, H p = none → Q (.ref p) (upd H p (.lst ((srt ks).map V.int)))) : rSortX K [.ref a] H Q := Or.inr ⟨a, _, ks, rfl, e, sureD_keys, fun ys p hp hs n => by rw [srt_eq hp hs]; exact h p n⟩
theorem val_sure : (valV (sureD ks) (Sum.inl k)).isSome = decide (k ∈ ks) := by
  unfold sureD
  induction ks with
  | nil => rfl
  | cons j r ih =>
    rw [List.map_cons]
    by_cases e : j = k
    · subst e
      rw [val_hd, decide_eq_true List.mem_cons_self]
      rfl
    · rw [val_tl (fun z => e (Sum.inl.inj z)), ih]
      by_cases m : k ∈ r
      · rw [decide_eq_true m, decide_eq_true (List.mem_cons_of_mem _ m)]
      · rw [decide_eq_false m, decide_eq_false (fun z => (List.mem_cons.mp z).elim (fun z => e z.symm) m)]
theorem sure_put (n : k ∉ ks) : putK (sureD ks) (Sum.inl k) (.bl true) = sureD (ks ++ [k]) := by
  rw [putK_new]
  · unfold sureD
    rw [List.map_append]
    rfl
  · rw [sureD_keys]
    intro m
    obtain ⟨j, hj, e⟩ := List.mem_map.mp m
    exact n (Sum.inl.inj e ▸ hj)
def kDNot (y x : V) (H : Hp) (Q : VK) : Prop := ∃ a o, x = .ref a ∧ DGet H a y o ∧ Q (.bl (!o.isSome)) H
theorem w_dnot {ty td : TE} {σ : L2.St} (h : ty σ H fun y H1 => td σ H1 fun x H2 => kDNot y x H2 Q) : tDNotIn ty td σ H Q := h
theorem w_dnotS (e : H a = some (.dK (sureD ks))) (h : Q (.bl (!decide (k ∈ ks))) H) : kDNot (.int k) (.ref a) H Q := ⟨a, _, rfl, DGet.k (k := Sum.inl k) e, by rw [val_sure]; exact h⟩
theorem sureD_len : (sureD ks).length = ks.length := by unfold sureD; rw [List.length_map]
theorem w_dputN (e : H a = some (.dK (sureD ks))) (n : k ∉ ks) (l : ks.length < sizeLine) (h : R (upd H a (.dK (sureD (ks ++ [k]))))) : kDPut (.bl true) (.ref a) (.int k) H R := w_dputI e (by rw [sureD_len]; exact l) (by rw [sure_put n]; exact h)
end
/-! ### o.f += e -/
section
variable {K : PySem.W.Frag} {σ : L2.St} {H : Hp} {D : Ends} {ta tv : TE} {rd : V → V → Hp → VK → Prop} {f : Str} {x v : V} {a C dx : Addr} {fs : List (Str × V)} {i j : Int} {Q : VK}
def kFA (K : PySem.W.Frag) (f : Str) (tv : TE) (rd : V → V → Hp → VK → Prop) (D : Ends) (σ : L2.St) (x : V) (H1 : Hp) : Prop := ∃ a C dx fs v, x = .ref a ∧ H1 a = some (.ins C dx fs) ∧ Cls K C ∧ NoAttr K C f ∧ fs.lookup f = some v ∧
  tv σ H1 fun y H2 => rd v y H2 fun z H3 => ∃ dx' fs', H3 a = some (.ins C dx' fs') ∧ fs'.length < 1000 ∧ D.nx σ (upd H3 a (.ins C dx' (putF f z fs')))
def kFS (f : Str) (a C : Addr) (D : Ends) (σ : L2.St) (z : V) (H3 : Hp) : Prop := ∃ dx' fs', H3 a = some (.ins C dx' fs') ∧ fs'.length < 1000 ∧ D.nx σ (upd H3 a (.ins C dx' (putF f z fs')))
theorem w_fldaug (h : ta σ H fun x H1 => kFA K f tv rd D σ x H1) : sFldAug K ta tv rd f D σ H := h
theorem w_fa (e : H a = some (.ins C dx fs)) (c : Cls K C) (nn : NoAttr K C f) (l : fs.lookup f = some v) (h : tv σ H fun y H2 => rd v y H2 fun z H3 => kFS f a C D σ z H3) : kFA K f tv rd D σ (.ref a) H := ⟨a, C, dx, fs, v, rfl, e, c, nn, l, h⟩
theorem w_fs {z : V} {fs' : List (Str × V)} (e : H a = some (.ins C dx fs)) (l : fs.length < 1000) (p : putF f z fs = fs') (h : D.nx σ (upd H a (.ins C dx fs'))) : kFS f a C D σ z H := ⟨dx, fs, e, l, by rw [p]; exact h⟩
theorem w_addI (h : Q (.int (i + j)) H) : rAdd (.int i) (.int j) H Q := ⟨i, j, rfl, rfl, h⟩
theorem w_subI (h : Q (.int (i - j)) H) : rSub (.int i) (.int j) H Q := ⟨i, j, rfl, rfl, h⟩
end
/-! ### comprehensions over enumerate(a tuple, start=c) -/
section
variable {K : PySem.W.Frag} {σ : L2.St} {H : Hp} {Q : VK} {a : Addr} {xs : List V} {g : TG} {tt : TT} {te : TE} {ta tk : TA} {vs : List Nat} {c : Int}
def kLcE (K : PySem.W.Frag) (g : TG) (tt : TT) (te : TE) (vs : List Nat) (σ : L2.St) (ws ks : List V) (H1 : Hp) (Q : VK) : Prop := ∃ a xs c, ws = [.ref a] ∧ ks = [.int c] ∧ -(2 ^ 63) ≤ c ∧ c < 2 ^ 63 ∧ SqT K H1 a xs ∧ ∀ D, H1 D = none → ∃ W : Nat → Nat → Hp → Prop, (∃ m, W 0 m (upd H1 D (.lst []))) ∧ ∀ i m H, W i m H →
  ((IteT K a c).stop i H ∧ Q (.ref D) H) ∨ ((IteT K a c).go i H ∧ ∃ Nx : Hp → Prop, (∀ H', Nx H' → ∃ m', m' < m ∧ W (i + 1) m' H') ∧ ∀ x H', (IteT K a c).yld i H x H' → g x (wipe σ vs) H' fun σ2 H2 => wipe σ2 vs = wipe σ vs ∧ tt σ2 H2 fun b H3 =>
    if b = true then te σ2 H3 fun y H4 => ∃ acc, H4 D = some (.lst acc) ∧ acc.length < sizeLine ∧ Nx (upd H4 D (.lst (acc ++ [y]))) else Nx H3)
theorem w_lcE (h : ta σ H fun ws H1 => tk σ H1 fun ks H2 => kLcE K g tt te vs σ ws ks H2 Q) : tLc (iEnumTS K ta tk) g tt te vs σ H Q := h
theorem l_lcE (e : SqT K H a xs) (c0 : -(2 ^ 63) ≤ c) (c1 : c < 2 ^ 63) (out : Nat → List V) (o0 : out 0 = [])
    (hs : ∀ D i x T H', H D = none → xs[i]? = some x → Keep [] H H' → H' D = some (.lst (out i)) → H' T = none → LcTurn H g tt te vs σ D out i (.ref T) (upd H' T (.tup [.int (c + (i : Int)), x])))
    (hd : ∀ D H', H D = none → Keep [] H H' → H' D = some (.lst (out xs.length)) → Q (.ref D) H') : kLcE K g tt te vs σ [.ref a] [.int c] H Q := by
  refine ⟨a, xs, c, rfl, rfl, c0, c1, e, fun D hD => ⟨fun i m H' => PvOf H D out i H' ∧ m + i = xs.length, ⟨xs.length, ⟨Keep.refl.own hD, by rw [upd_same, o0]⟩, rfl⟩, fun i m H' ⟨pv, hm⟩ => ?_⟩⟩
  have eH : SqT K H' a xs := pv.1.seqT nin_nil e
  by_cases hi : i < xs.length
  · refine Or.inr ⟨⟨xs, xs[i], eH, List.getElem?_eq_getElem hi⟩, PvOf H D out (i + 1), fun H2 q => ⟨m - 1, by omega, q, by omega⟩, fun x H2 hy => ?_⟩
    obtain ⟨T, y, rfl, nT, rfl, hx⟩ := hy
    exact hs D i y T H' hD (hx xs eH) pv.1 pv.2 nT
  · obtain rfl : i = xs.length := by omega
    exact Or.inl ⟨⟨xs, eH, rfl⟩, hd D H' hD pv.1 pv.2⟩
end
/-! for over a tuple -/
section
variable {K : PySem.W.Frag} {σ : L2.St} {H : Hp} {a : Addr} {xs : List V} {g : TG} {t : TS} {D : Ends} {te : TE} {Q : VK} {i : Int}
def kForT (K : PySem.W.Frag) (g : TG) (t : TS) (D : Ends) (σ : L2.St) (x : V) (H1 : Hp) : Prop := ∃ a, x = .ref a ∧ (∃ xs, SqT K H1 a xs) ∧ ∃ W : Nat → Nat → L2.St → Hp → Prop, (∃ m, W 0 m σ H1) ∧ ∀ i m σ H, W i m σ H →
      ((Itt K a).stop i H ∧ D.nx σ H) ∨ ((Itt K a).go i H ∧ ∃ N : L2.St → Hp → Prop, (∀ σ' H', N σ' H' → ∃ m', m' < m ∧ W (i + 1) m' σ' H') ∧ ∀ x H', (Itt K a).yld i H x H' → g x σ H' fun σ2 H2 => t { D with nx := N, ct := N, bk := D.nx } σ2 H2)
theorem w_forTup (h : te σ H fun x H1 => kForT K g t D σ x H1) : tFor (iTup K te) g t D σ H := h
theorem l_forTup (e : SqT K H a xs) (Pv : Nat → L2.St → Hp → Prop) (h0 : Pv 0 σ H) (hl : ∀ i σ' H', i ≤ xs.length → Pv i σ' H' → SqT K H' a xs)
    (hs : ∀ i x σ' H', xs[i]? = some x → Pv i σ' H' → g x σ' H' fun σ2 H2 => t { D with nx := Pv (i + 1), ct := Pv (i + 1), bk := D.nx } σ2 H2) (hd : ∀ σ' H', Pv xs.length σ' H' → D.nx σ' H') : kForT K g t D σ (.ref a) H :=
  ⟨a, rfl, ⟨xs, e⟩, for_tup Pv h0 hl hs hd⟩
end
theorem w_dnewK {σ : L2.St} {H : Hp} {Q : VK} (h : ∀ p, H p = none → Q (.ref p) (upd H p (.dK []))) : tDNewK σ H Q := h
end Ak
namespace Ak
open PySem PySem.Spec PyProof.Rows L2
/-! ### slices -/
def rSlX (K : PySem.W.Frag) : V → Option Int → Option Int → Hp → VK → Prop := fun x lo hi H Q => rSlL K x lo hi H Q ∨ rSlS x lo hi H Q
theorem sl_K {X : Cx} {K : PySem.W.Frag} (h : X.K = K) : SlR X (rSlX K) := by
  subst h
  intro pins s σ H x v vl vu lo hi sl Q I rx h1 h2 h3 q
  rcases q with q | q
  · exact sl_list pins s σ H x v vl vu lo hi sl Q I rx h1 h2 h3 q
  · exact sl_str pins s σ H x v vl vu lo hi sl Q I rx h1 h2 h3 q
section
variable {K : PySem.W.Frag} {σ : L2.St} {H : Hp} {Q : VK} {te : TE} {tl th : TO} {r : V → Option Int → Option Int → Hp → VK → Prop} {R : Option Int → Hp → Prop} {i j : Int} {a : Addr} {xs ys : List V} {S : Hp → Prop}
theorem w_slice (h : te σ H fun x H1 => tl σ H1 fun l H2 => th σ H2 fun u H3 => r x l u H3 Q) : tSl r te tl th σ H Q := h
theorem w_noP (h : R none H) : tNoPart σ H R := h
theorem w_part (h : te σ H fun x H1 => ∃ i, x = .int i ∧ R (some i) H1) : tPart te σ H R := h
theorem w_isI {R : Int → Prop} (h : R i) : ∃ j, V.int i = .int j ∧ R j := ⟨i, rfl, h⟩
theorem cut_take (h : 0 ≤ i) : cutV xs none (some i) = xs.take i.toNat := by
  unfold cutV HT.sIx
  simp only [List.drop_zero, Nat.sub_zero]
  rw [if_neg (by omega)]
  by_cases q : i.toNat ≤ xs.length
  · rw [Nat.min_eq_left q]
  · rw [Nat.min_eq_right (by omega), List.take_length, List.take_of_length_le (by omega)]
theorem cut_drop (h : 0 ≤ i) : cutV xs (some i) none = xs.drop i.toNat := by
  unfold cutV HT.sIx
  simp only []
  rw [if_neg (by omega)]
  by_cases q : i.toNat ≤ xs.length
  · rw [Nat.min_eq_left q, List.take_of_length_le (by rw [List.length_drop]; omega)]
  · rw [Nat.min_eq_right (by omega), List.drop_length, List.drop_of_length_le (by omega), List.take_nil]
theorem w_slTake (e : SqL K H a xs) (i0 : 0 ≤ i) (h : ∀ p, H p = none → Q (.ref p) (upd H p (.lst (xs.take i.toNat)))) : rSlX K (.ref a) none (some i) H Q := Or.inl ⟨a, xs, rfl, e, by rw [cut_take i0]; exact h⟩
theorem w_slDrop (e : SqL K H a xs) (i0 : 0 ≤ i) (h : ∀ p, H p = none → Q (.ref p) (upd H p (.lst (xs.drop i.toNat)))) : rSlX K (.ref a) (some i) none H Q := Or.inl ⟨a, xs, rfl, e, by rw [cut_drop i0]; exact h⟩
/-! ### extend -/
theorem w_ext {b : Addr} (e : H a = some (.lst xs)) (e2 : H b = some (.lst ys)) (l : xs.length + ys.length ≤ sizeLine) (h : Q .non (upd H a (.lst (xs ++ ys)))) : rExtend (.ref a) [.ref b] H Q := ⟨a, b, xs, ys, rfl, rfl, e, e2, l, h⟩
end
/-! ### dicts of int keys, each with a value by a function -/
def dOf (ks : List Int) (f : Int → V) : List (Key × V) := ks.map fun k => (Sum.inl k, f k)
section
variable {K : PySem.W.Frag} {H : Hp} {Q : VK} {a : Addr} {ns ks : List Int} {k : Int} {R : Hp → Prop} {f g : Int → V} {v x : V} {σ : L2.St} {D : Ends} {td ty : TE}
theorem dOf_keys : (dOf ks f).map (·.1) = ks.map Sum.inl := by unfold dOf; rw [List.map_map]; rfl
theorem dOf_len : (dOf ks f).length = ks.length := by unfold dOf; rw [List.length_map]
theorem dOf_congr (h : ∀ k, k ∈ ks → f k = g k) : dOf ks f = dOf ks g := by
  unfold dOf
  exact List.map_congr_left fun k hk => by rw [h k hk]
theorem val_dOf (h : k ∈ ks) : valV (dOf ks f) (Sum.inl k) = some (f k) := by
  unfold dOf
  induction ks with
  | nil => exact absurd h List.not_mem_nil
  | cons j r ih =>
    rw [List.map_cons]
    by_cases e : j = k
    · subst e
      exact val_hd
    · rw [val_tl (fun z => e (Sum.inl.inj z))]
      exact ih ((List.mem_cons.mp h).elim (fun z => absurd z.symm e) id)
theorem val_dOfN (h : k ∉ ks) : valV (dOf ks f) (Sum.inl k) = none := by
  unfold dOf
  induction ks with
  | nil => rfl
  | cons j r ih =>
    rw [List.map_cons, val_tl (fun z => h (by rw [Sum.inl.inj z]; exact List.mem_cons_self))]
    exact ih fun m => h (List.mem_cons_of_mem _ m)
theorem val_dOfS : (valV (dOf ks f) (Sum.inl k)).isSome = decide (k ∈ ks) := by
  by_cases h : k ∈ ks
  · rw [val_dOf h, decide_eq_true h]; rfl
  · rw [val_dOfN h, decide_eq_false h]; rfl
theorem put_dOf (h : k ∈ ks) : putK (dOf ks f) (Sum.inl k) v = dOf ks fun q => if q = k then v else f q := by
  unfold putK
  have e : ((dOf ks f).any fun kv => decide (kv.1 = Sum.inl k)) = true := by
    rw [List.any_eq_true]
    exact ⟨(Sum.inl k, f k), List.mem_map.mpr ⟨k, h, rfl⟩, decide_eq_true rfl⟩
  rw [if_pos e]
  unfold dOf
  rw [List.map_map]
  refine List.map_congr_left fun q _ => ?_
  show (if (Sum.inl q : Key) = Sum.inl k then ((Sum.inl q : Key), v) else (Sum.inl q, f q)) = (Sum.inl q, if q = k then v else f q)
  by_cases z : q = k
  · subst z; rw [if_pos rfl, if_pos rfl]
  · rw [if_neg (fun y => z (Sum.inl.inj y)), if_neg z]
theorem put_dOfN (h : k ∉ ks) : putK (dOf ks f) (Sum.inl k) v = dOf ks f ++ [(Sum.inl k, v)] := putK_new (by
  rw [dOf_keys]
  intro m
  obtain ⟨j, hj, e⟩ := List.mem_map.mp m
  exact h (Sum.inl.inj e ▸ hj))
theorem dOf_app : dOf (ns ++ ks) f = dOf ns f ++ dOf ks f := by unfold dOf; rw [List.map_append]
theorem drop_dOf : dropK (dOf ks f) (Sum.inl k) = dOf (ks.filter fun q => !decide (q = k)) f := by
  unfold dropK dOf
  rw [List.filter_map]
  congr 1
  refine List.filter_congr fun q _ => ?_
  show decide ((Sum.inl q : Key) ≠ Sum.inl k) = !decide (q = k)
  by_cases z : q = k
  · subst z; simp
  · simp [z]
theorem w_dgetO (e : H a = some (.dK (dOf ks f))) (h : k ∈ ks) (q : Q (f k) H) : kDGet (.ref a) (.int k) H Q := w_dgetI e (val_dOf h) q
theorem w_dputO (e : H a = some (.dK (dOf ks f))) (l : ks.length < sizeLine) (h : k ∈ ks) (q : R (upd H a (.dK (dOf ks fun q => if q = k then v else f q)))) : kDPut v (.ref a) (.int k) H R := w_dputI e (by rw [dOf_len]; exact l) (by rw [put_dOf h]; exact q)
theorem w_dputON (e : H a = some (.dK (dOf ks f))) (l : ks.length < sizeLine) (h : k ∉ ks) (hf : ∀ q, q ∈ ks → g q = f q) (hv : g k = v) (q : R (upd H a (.dK (dOf (ks ++ [k]) g)))) : kDPut v (.ref a) (.int k) H R :=
  w_dputI e (by rw [dOf_len]; exact l) (by
    rw [put_dOfN h]
    rw [dOf_app, dOf_congr hf, show dOf [k] g = [(Sum.inl k, v)] by unfold dOf; rw [← hv]; rfl] at q
    exact q)
def kDIn (y x : V) (H : Hp) (Q : VK) : Prop := ∃ a o, x = .ref a ∧ DGet H a y o ∧ Q (.bl o.isSome) H
theorem w_din (h : ty σ H fun y H1 => td σ H1 fun x H2 => kDIn y x H2 Q) : tDIn ty td σ H Q := h
theorem w_dinO (e : H a = some (.dK (dOf ks f))) (h : Q (.bl (decide (k ∈ ks))) H) : kDIn (.int k) (.ref a) H Q := ⟨a, _, rfl, DGet.k (k := Sum.inl k) e, by rw [val_dOfS]; exact h⟩
def kDDel (x y : V) (H : Hp) (R : Hp → Prop) : Prop := ∃ a kvs k, x = .ref a ∧ H a = some (.dK kvs) ∧ y = kV k ∧ (valV kvs k).isSome = true ∧ R (upd H a (.dK (dropK kvs k)))
theorem w_ddel (h : td σ H fun x H1 => ty σ H1 fun y H2 => kDDel x y H2 (D.nx σ)) : sDDel td ty D σ H := h
theorem w_ddelO (e : H a = some (.dK (dOf ks f))) (h : k ∈ ks) (q : R (upd H a (.dK (dOf (ks.filter fun q => !decide (q = k)) f)))) : kDDel (.ref a) (.int k) H R :=
  ⟨a, _, Sum.inl k, rfl, e, rfl, by rw [val_dOfS, decide_eq_true h], by rw [drop_dOf]; exact q⟩
theorem w_sortO2 (e : H a = some (.dK (dOf ks f))) (h : ∀ p, H p = none → Q (.ref p) (upd H p (.lst ((srt ks).map V.int)))) : rSortX K [.ref a] H Q := Or.inr ⟨a, _, ks, rfl, e, dOf_keys, fun ys p hp hs n => by rw [srt_eq hp hs]; exact h p n⟩
end
/-! ### the ints 0 .. n - 1 -/
def upTo (n : Nat) : List Int := (List.range n).map fun k : Nat => ((k : Nat) : Int)
theorem upTo_mem {n : Nat} {x : Int} : x ∈ upTo n ↔ 0 ≤ x ∧ x < n := by
  unfold upTo
  rw [List.mem_map]
  constructor
  · rintro ⟨k, hk, rfl⟩
    have := List.mem_range.mp hk
    omega
  · rintro ⟨h0, h1⟩
    exact ⟨x.toNat, List.mem_range.mpr (by omega), by omega⟩
theorem upTo_succ (n : Nat) : upTo (n + 1) = upTo n ++ [(n : Int)] := by unfold upTo; rw [List.range_succ, List.map_append]; rfl
theorem upTo_len (n : Nat) : (upTo n).length = n := by unfold upTo; rw [List.length_map, List.length_range]
theorem upTo_lt (n : Nat) : (upTo n).Pairwise (· < ·) := by
  unfold upTo
  rw [List.pairwise_map]
  exact List.pairwise_lt_range.imp fun h => Int.ofNat_lt.mpr h
theorem upTo_srt {n : Nat} {p : Int → Bool} : srt ((upTo n).filter p) = (upTo n).filter p := srt_of (((upTo_lt n).filter p).imp fun h => by omega)
/-- a list of ints that are told, in a list or a tuple -/
theorem w_inIT {K : PySem.W.Frag} {H : Hp} {Q : VK} {a : Addr} {i : Int} {ns : List Int} (e : SqT K H a (ns.map V.int)) (h : Q (.bl (decide (i ∈ ns))) H) : rInX K (.int i) (.ref a) H Q := w_inT e rfl (flat_ints ns) (by rw [inV_ints]; exact h)
/-! ### lists of ints that are the same -/
theorem dp_ints {K : PySem.W.Frag} {H : Hp} : ∀ {ns : List Int}, DpAll K H (ns.map V.int) (ns.map PyData.int)
  | [] => .nil
  | n :: r => .cons (.int n) dp_ints
theorem eqvAll_ints : ∀ ns : List Int, PyData.eqvAll (ns.map PyData.int) (ns.map PyData.int) = true
  | [] => by simp [PyData.eqvAll]
  | n :: r => by simp [PyData.eqvAll, PyData.eqv, eqvAll_ints r]
theorem eqv_ints (ns : List Int) : PyData.eqv (.list (ns.map PyData.int)) (.list (ns.map PyData.int)) = true := by
  simp [PyData.eqv, eqvAll_ints]
theorem depthAll_ints : ∀ ns : List Int, PyData.depthAll (ns.map PyData.int) ≤ 1
  | [] => by simp [PyData.depthAll]
  | n :: r => by
    have := depthAll_ints r
    simp [PyData.depthAll, PyData.depth]; omega
theorem layAll_ints : ∀ ns : List Int, PyData.canLayAll0 (ns.map PyData.int) = true
  | [] => by simp [PyData.canLayAll0]
  | n :: r => by simp [PyData.canLayAll0, PyData.canLay0, layAll_ints r]
theorem shaped_ints (ns : List Int) : SeqAt.shaped (.list (ns.map PyData.int)) = true := by
  unfold SeqAt.shaped
  simp [PyData.canLay0, PyData.depth, layAll_ints]
  have := depthAll_ints ns
  omega
theorem w_neLI {K : PySem.W.Frag} {H : Hp} {Q : VK} {a b : Addr} {ns : List Int} (ha : SqL K H a (ns.map V.int)) (hb : SqL K H b (ns.map V.int)) (h : Q (.bl false) H) : rNeX K (.ref a) (.ref b) H Q :=
  w_neD (Dp.lst ha dp_ints) (Dp.lst hb dp_ints) (shaped_ints ns) (shaped_ints ns) (by rw [eqv_ints]; exact h)
theorem atI_last {α : Type} {xs : List α} {x : α} (h : xs[xs.length - 1]? = some x) : atI xs (-1) = some x := by
  have hl : 0 < xs.length := by
    have := (List.getElem?_eq_some_iff.mp h).1
    omega
  unfold atI ixN
  rw [if_neg (by omega), if_pos (by omega)]
  show xs[_]? = some x
  rw [← h]
  congr 1
  omega
theorem eqv_intsE : ∀ ns : List Int, PyData.eqv (.list (ns.map PyData.int)) (.list []) = decide (ns = [])
  | [] => by simp [PyData.eqv, PyData.eqvAll]
  | n :: r => by simp [PyData.eqv, PyData.eqvAll]
theorem w_neE {K : PySem.W.Frag} {H : Hp} {Q : VK} {a b : Addr} {ns : List Int} (ha : SqL K H a (ns.map V.int)) (hb : SqL K H b []) (h : Q (.bl (!decide (ns = []))) H) : rNeX K (.ref a) (.ref b) H Q :=
  w_neD (Dp.lst ha dp_ints) (Dp.lst hb .nil) (shaped_ints ns) (shaped_ints []) (by rw [eqv_intsE]; exact h)
theorem w_eqE {K : PySem.W.Frag} {H : Hp} {Q : VK} {a b : Addr} {ns : List Int} (ha : SqL K H a (ns.map V.int)) (hb : SqL K H b []) (h : Q (.bl (decide (ns = []))) H) : rEqX K (.ref a) (.ref b) H Q :=
  w_eqD (Dp.lst ha dp_ints) (Dp.lst hb .nil) (shaped_ints ns) (shaped_ints []) (by rw [eqv_intsE]; exact h)
theorem w_chain {r r' : R2} {ta tb tc : TE} {σ : L2.St} {H : Hp} {Q : VK} (h : ta σ H fun x H1 => tb σ H1 fun y H2 => r x y H2 fun z H3 => ∃ k, z = V.bl k ∧ if k = true then tc σ H3 fun w' H4 => r' y w' H4 Q else Q (V.bl false) H3) : tChain r r' ta tb tc σ H Q := h
theorem w_par {i j : Nat} {ta : TA} {D : Ends} {σ : L2.St} {H : Hp} (h : ta σ H fun vs H1 => ∃ v w, vs = [v, w] ∧ D.nx ((List.set σ i (some v)).set j (some w)) H1) : tPar i j ta D σ H := h
theorem w_par2 {x y : V} {R : V → V → Prop} (h : R x y) : ∃ v w, [x, y] = [v, w] ∧ R v w := ⟨x, y, rfl, h⟩
def pdA : V → PyData
  | .str s => .str s
  | .int i => .int i
  | .bl b => .bool b
  | _ => .none
def atomV : V → Bool
  | .str s => PyData.strOk s
  | .int _ => true
  | _ => false
theorem dp_atom {K : PySem.W.Frag} {H : Hp} {x : V} (h : atomV x = true) : Dp K H x (pdA x) := by
  cases x with
  | str s => exact .str s
  | int i => exact .int i
  | _ => cases h
theorem dp_atoms {K : PySem.W.Frag} {H : Hp} : ∀ {xs : List V}, xs.all atomV = true → DpAll K H xs (xs.map pdA)
  | [], _ => .nil
  | x :: r, h => by
    rw [List.all_cons, Bool.and_eq_true] at h
    exact .cons (dp_atom h.1) (dp_atoms h.2)
theorem eqv_atom {x y : V} (hx : atomV x = true) (hy : atomV y = true) : PyData.eqv (pdA x) (pdA y) = decide (x = y) := by
  cases x <;> cases y <;> first | (cases hx; done) | (cases hy; done) | skip
  all_goals simp [pdA, PyData.eqv]
  all_goals first | rfl | (rw [Bool.eq_iff_iff]; simp)
theorem eqvAll_atoms : ∀ {xs ys : List V}, xs.all atomV = true → ys.all atomV = true → PyData.eqvAll (xs.map pdA) (ys.map pdA) = decide (xs = ys)
  | [], [], _, _ => by simp [PyData.eqvAll]
  | [], _ :: _, _, _ => by simp [PyData.eqvAll]
  | _ :: _, [], _, _ => by simp [PyData.eqvAll]
  | x :: r, y :: q, hx, hy => by
    rw [List.all_cons, Bool.and_eq_true] at hx hy
    simp [PyData.eqvAll, eqv_atom hx.1 hy.1, eqvAll_atoms hx.2 hy.2]
theorem depthAll_atoms : ∀ {xs : List V}, xs.all atomV = true → PyData.depthAll (xs.map pdA) ≤ 1
  | [], _ => by simp [PyData.depthAll]
  | x :: r, h => by
    rw [List.all_cons, Bool.and_eq_true] at h
    have := depthAll_atoms h.2
    have : PyData.depth (pdA x) ≤ 1 := by
      cases x <;> first | (cases h.1; done) | skip
      all_goals simp [pdA, PyData.depth]
    simp [PyData.depthAll]
    omega
theorem layAll_atoms : ∀ {xs : List V}, xs.all atomV = true → PyData.canLayAll0 (xs.map pdA) = true
  | [], _ => by simp [PyData.canLayAll0]
  | x :: r, h => by
    rw [List.all_cons, Bool.and_eq_true] at h
    have : PyData.canLay0 (pdA x) = true := by
      cases x <;> first | (cases h.1; done) | skip
      all_goals first | (simp [pdA, PyData.canLay0]; done) | (simpa [pdA, PyData.canLay0, atomV] using h.1)
    simp [PyData.canLayAll0, this, layAll_atoms h.2]
theorem shaped_atoms {xs : List V} (h : xs.all atomV = true) : SeqAt.shaped (.tuple (xs.map pdA)) = true := by
  unfold SeqAt.shaped
  simp [PyData.canLay0, PyData.depth, layAll_atoms h]
  have := depthAll_atoms h
  omega
theorem w_eqT {K : PySem.W.Frag} {H : Hp} {Q : VK} {a b : Addr} {xs ys : List V} (ha : SqT K H a xs) (hb : SqT K H b ys) (hx : xs.all atomV = true) (hy : ys.all atomV = true) (h : Q (.bl (decide (xs = ys))) H) : rEqX K (.ref a) (.ref b) H Q :=
  w_eqD (Dp.tup ha (dp_atoms hx)) (Dp.tup hb (dp_atoms hy)) (shaped_atoms hx) (shaped_atoms hy) (by
    have e : PyData.eqv (.tuple (xs.map pdA)) (.tuple (ys.map pdA)) = decide (xs = ys) := by simp [PyData.eqv, eqvAll_atoms hx hy]
    rw [e]; exact h)
theorem w_neT {K : PySem.W.Frag} {H : Hp} {Q : VK} {a b : Addr} {xs ys : List V} (ha : SqT K H a xs) (hb : SqT K H b ys) (hx : xs.all atomV = true) (hy : ys.all atomV = true) (h : Q (.bl (!decide (xs = ys))) H) : rNeX K (.ref a) (.ref b) H Q :=
  w_neD (Dp.tup ha (dp_atoms hx)) (Dp.tup hb (dp_atoms hy)) (shaped_atoms hx) (shaped_atoms hy) (by
    have e : PyData.eqv (.tuple (xs.map pdA)) (.tuple (ys.map pdA)) = decide (xs = ys) := by simp [PyData.eqv, eqvAll_atoms hx hy]
    rw [e]; exact h)
/-! ### for .. in enumerate(a list) -/
section
variable {K : PySem.W.Frag} {σ : L2.St} {H : Hp} {a : Addr} {xs : List V} {g : TG} {t : TS} {D : Ends} {ta : TA}
def kForEn (K : PySem.W.Frag) (g : TG) (t : TS) (D : Ends) (σ : L2.St) (vs : List V) (H1 : Hp) : Prop := ∃ a xs, vs = [V.ref a] ∧ SqL K H1 a xs ∧ ∃ W : Nat → Nat → L2.St → Hp → Prop, (∃ m, W 0 m σ H1) ∧ ∀ i m σ H, W i m σ H →
      ((Ite K a).stop i H ∧ D.nx σ H) ∨ ((Ite K a).go i H ∧ ∃ N : L2.St → Hp → Prop, (∀ σ' H', N σ' H' → ∃ m', m' < m ∧ W (i + 1) m' σ' H') ∧ ∀ x H', (Ite K a).yld i H x H' → g x σ H' fun σ2 H2 => t { D with nx := N, ct := N, bk := D.nx } σ2 H2)
theorem w_forEn (h : ta σ H fun vs H1 => kForEn K g t D σ vs H1) : tFor (iEnum K ta) g t D σ H := h
theorem l_forEn (e : SqL K H a xs) (Pv : Nat → L2.St → Hp → Prop) (h0 : Pv 0 σ H) (hl : ∀ i σ' H', Pv i σ' H' → SqL K H' a xs)
    (hs : ∀ i x T σ' H', xs[i]? = some x → Pv i σ' H' → H' T = none → g (.ref T) σ' (upd H' T (.tup [.int (i : Nat), x])) fun σ2 H2 => t { D with nx := Pv (i + 1), ct := Pv (i + 1), bk := D.nx } σ2 H2) (hd : ∀ σ' H', Pv xs.length σ' H' → D.nx σ' H') : kForEn K g t D σ [.ref a] H := by
  refine ⟨a, xs, rfl, e, fun i m σ' H' => Pv i σ' H' ∧ m + i = xs.length, ⟨xs.length, h0, rfl⟩, fun i m σ' H' ⟨pv, hm⟩ => ?_⟩
  have eH := hl i σ' H' pv
  by_cases hi : i < xs.length
  · refine Or.inr ⟨⟨xs, xs[i], eH, List.getElem?_eq_getElem hi⟩, Pv (i + 1), fun σ2 H2 q => ⟨m - 1, by omega, q, by omega⟩, fun x H2 hy => ?_⟩
    obtain ⟨T, y, rfl, nT, rfl, hx⟩ := hy
    exact hs i y T σ' H' (hx xs eH) pv nT
  · obtain rfl : i = xs.length := by omega
    exact Or.inl ⟨⟨xs, eH, Nat.le_refl _⟩, hd _ _ pv⟩
end
theorem pe_gint {X : Cx} {x : Str} {i : Int} {t : Tok} {pos : Pos} (hg : Gl X x) (hm : X.mg x = some (.int i t)) (hd : (x == ("__debug__" : Str)) = false := by decide) : PE X (.Name x pos) (tC (.int i)) := pe_glob (v := .int i) hg hm ⟨_, rfl⟩ hd
end Ak
local macro_rules | `(tactic| walk_at "as") => `(tactic| with_reducible assumption)
local macro_rules | `(tactic| walk_at "lkl") => `(tactic| first
  | walk_at "as"
  | with_reducible exact L2.upd_same
  | ((with_reducible show L2.upd _ _ _ _ = _); exact Ak.at_new (by walk_at "as") (by walk_at "lkl")))
local macro_rules | `(tactic| walk_at "nel") => `(tactic| first
  | walk_at "as"
  | exact Ne.symm (by walk_at "as")
  | exact Ne.symm (Ak.ne_new (by walk_at "as") (by walk_at "lkl"))
  | exact Ak.ne_new (by walk_at "as") (by walk_at "lkl")
  | exact L2.ne_of (by walk_at "as") (by walk_at "as") (by intro z; cases z))
local macro_rules | `(tactic| walk_at "ninl") => `(tactic| first | with_reducible exact Ak.nin_nil | walk_at "as" | ((with_reducible show ¬ (_ ∈ _ :: _)); exact Ak.nin_cons (by walk_at "nel") (by walk_at "ninl")))
local macro_rules | `(tactic| walk_at "lk") => `(tactic| first
  | walk_at "as"
  | with_reducible exact L2.upd_same
  | ((with_reducible show L2.upd _ _ _ _ = _); first | exact Ak.at_new (by walk_at "as") (by walk_at "lk") | exact Ak.at_upd (by walk_at "nel") (by walk_at "lk"))
  | exact Ak.Keep.at (by walk_at "as") (by walk_at "ninl") (by walk_at "lk"))
local macro_rules | `(tactic| walk_at "ne") => `(tactic| first
  | walk_at "nel"
  | exact Ne.symm (Ak.ne_new (by walk_at "as") (by walk_at "lk"))
  | exact Ak.ne_new (by walk_at "as") (by walk_at "lk"))
local macro_rules | `(tactic| walk_at "nin") => `(tactic| first | with_reducible exact Ak.nin_nil | walk_at "as" | ((with_reducible show ¬ (_ ∈ _ :: _)); exact Ak.nin_cons (by walk_at "ne") (by walk_at "nin")))
local macro_rules | `(tactic| walk_at "mem") => `(tactic| ((with_reducible show _ ∈ _ :: _); first | with_reducible exact List.mem_cons_self | exact List.mem_cons_of_mem _ (by walk_at "mem")))
local macro_rules | `(tactic| walk_at "sub") => `(tactic| first | with_reducible exact fun _ m => m | with_reducible exact Ak.sub_nil | ((with_reducible show ∀ b, b ∈ _ :: _ → _); exact Ak.sub_cons (by walk_at "mem") (by walk_at "sub")))
local macro_rules | `(tactic| walk_at "kp") => `(tactic| first
  | with_reducible exact Ak.Keep.refl
  | walk_at "as"
  | ((with_reducible show Ak.Keep _ _ (L2.upd _ _ _)); first | exact Ak.Keep.new' (by walk_at "as") (by walk_at "kp") | exact Ak.Keep.set' (by walk_at "mem") (by walk_at "kp") | exact Ak.Keep.own' (by walk_at "as") (by walk_at "kp"))
  | exact Ak.Keep.call (by walk_at "as") (by walk_at "sub") (by walk_at "kp"))
local macro_rules | `(tactic| walk_at "sqd") => `(tactic| first
  | walk_at "as"
  | ((with_reducible show L2.SqL _ (L2.upd _ _ _) _ _); exact Ak.SqL.upd (by walk_at "sqd") (by walk_at "as"))
  | ((with_reducible show L2.SqL _ _ _ _); exact Ak.Keep.seqL (by walk_at "as") (by walk_at "nin") (by walk_at "sqd"))
  | ((with_reducible show L2.SqT _ (L2.upd _ _ _) _ _); exact Ak.SqT.upd (by walk_at "sqd") (by walk_at "as"))
  | ((with_reducible show L2.SqT _ _ _ _); exact Ak.Keep.seqT (by walk_at "as") (by walk_at "nin") (by walk_at "sqd")))
local macro_rules | `(tactic| walk_at "sqh") => `(tactic| first
  | walk_at "as"
  | ((with_reducible show L2.SqL _ _ _ _); first | exact Ak.Ext0.seqL (by walk_at "as") (by walk_at "xt") | exact Ak.chkL (by walk_at "as") (by walk_at "sqd"))
  | ((with_reducible show L2.SqT _ _ _ _); first | exact Ak.Ext0.seqT (by walk_at "as") (by walk_at "xt") | exact Ak.chkT (by walk_at "as") (by walk_at "sqd")))
local macro_rules | `(tactic| walk_at "sq") => `(tactic| first
  | walk_at "sqh"
  | ((with_reducible show L2.SqL _ _ _ _); exact L2.SqL.of (by walk_at "lk"))
  | ((with_reducible show L2.SqT _ _ _ _); exact L2.SqT.of (by walk_at "lk")))
local macro_rules | `(tactic| walk_at "xt") => `(tactic| first
  | walk_at "as"
  | with_reducible exact Ak.Ext0.refl
  | ((with_reducible show LamX.ExtN _ (L2.upd _ _ _)); first | exact Ak.Ext0.set (by walk_at "xt") (by walk_at "as") | exact Ak.Ext0.new (by walk_at "xt") (by walk_at "as"))
  | exact Ak.Ext0.kept (by walk_at "as") (by walk_at "xt") (by walk_at "n0"))
local macro_rules | `(tactic| walk_at "n0") => `(tactic| first | exact Ak.none_nil | exact Ak.none_in (by walk_at "n0") (by walk_at "as"))
local macro_rules | `(tactic| walk_at "sz") => `(tactic| first | walk_at "as" | exact Ak.sz_of rfl | exact Ak.sz_lt rfl | (rw [PySem.sizeLine_eq]; omega) | (simp only [List.length_append, List.length_cons, List.length_nil, List.length_map, PySem.sizeLine_eq]; omega))
local macro_rules | `(tactic| walk_at "ix") => `(tactic| first | walk_at "as" | ((with_reducible show L2.atI _ (OfNat.ofNat _) = _); exact rfl))
local macro_rules | `(tactic| walk_at "fl") => `(tactic| first | walk_at "as" | with_reducible exact Ak.look_hd | with_reducible exact Ak.look_nil | ((with_reducible show List.lookup _ (_ :: _) = _); exact Eq.trans (Ak.look_tl (by decide +kernel)) (by walk_at "fl")))
local macro_rules | `(tactic| walk_at "dv") => `(tactic| first | walk_at "as" | with_reducible exact Ak.val_hd | with_reducible exact Ak.val_nil | ((with_reducible show L2.valV (_ :: _) _ = _); exact Eq.trans (Ak.val_tl (by decide +kernel)) (by walk_at "dv")))
local macro_rules | `(tactic| walk_at "s") => `(tactic| first
  | with_reducible refine Ak.w_seq ?_
  | with_reducible refine Ak.w_asg ?_
  | with_reducible refine Ak.w_name ?_
  | with_reducible refine Ak.w_op ?_
  | ((with_reducible show L2.tVar _ _ _ _); refine Ak.w_var (by exact rfl) ?_)
  | with_reducible refine Ak.w_c ?_
  | with_reducible refine Ak.w_plusI ?_
  | with_reducible refine Ak.w_I0 ?_
  | with_reducible refine Ak.w_fldE ?_
  | with_reducible refine Ak.w_if ?_
  | with_reducible refine Ak.w_iT ?_
  | with_reducible refine Ak.w_iF ?_
  | with_reducible refine Ak.w_nT ?_
  | with_reducible refine Ak.w_nF ?_
  | with_reducible refine Ak.w_test ?_
  | with_reducible refine Ak.w_eqI ?_
  | with_reducible refine Ak.w_neI ?_
  | with_reducible refine Ak.w_eqS ?_
  | with_reducible refine Ak.w_neS ?_
  | with_reducible refine Ak.w_neTT ?_
  | with_reducible refine Ak.w_eqB ?_
  | with_reducible refine Ak.w_neB ?_
  | with_reducible refine Ak.w_isNN ?_
  | with_reducible refine Ak.w_isNR ?_
  | with_reducible refine Ak.w_isNI ?_
  | with_reducible refine Ak.w_isNB ?_
  | with_reducible refine Ak.w_isNS ?_
  | with_reducible refine Ak.w_ntNN ?_
  | with_reducible refine Ak.w_ntNR ?_
  | with_reducible refine Ak.w_ntNI ?_
  | with_reducible refine Ak.w_isN ?_
  | with_reducible refine Ak.w_notN ?_
  | with_reducible refine Ak.w_bl ?_
  | with_reducible refine Ak.w_tru ?_
  | with_reducible refine Ak.w_truB ?_
  | with_reducible refine Ak.w_truI ?_
  | with_reducible refine Ak.w_tB ?_
  | with_reducible refine Ak.w_cons ?_
  | with_reducible refine Ak.w_nil ?_
  | with_reducible refine Ak.w_call ?_
  | with_reducible refine Ak.w_meth ?_
  | with_reducible refine Ak.w_cb ?_
  | with_reducible refine Ak.w_ret ?_
  | with_reducible refine Ak.w_retN ?_
  | with_reducible refine Ak.w_drop ?_
  | with_reducible refine Ak.w_next ?_
  | with_reducible refine Ak.w_cont ?_
  | with_reducible refine Ak.w_brk ?_
  | with_reducible refine Ak.w_and ?_
  | with_reducible refine Ak.w_or ?_
  | with_reducible refine Ak.w_not ?_
  | with_reducible refine Ak.w_andV ?_
  | with_reducible refine Ak.w_orV ?_
  | with_reducible refine Ak.w_notV ?_
  | with_reducible refine Ak.w_ifx ?_
  | with_reducible refine Ak.w_max2 ?_
  | with_reducible refine Ak.w_min2 ?_
  | with_reducible refine Ak.w_intI ?_
  | with_reducible refine Ak.w_intB ?_
  | with_reducible refine Ak.w_un ?_
  | with_reducible refine Ak.w_U ?_
  | with_reducible refine Ak.w_dget ?_
  | with_reducible refine Ak.w_dput ?_
  | with_reducible refine Ak.w_sfld ?_
  | with_reducible refine Ak.w_bm ?_
  | with_reducible refine Ak.w_bm0 ?_
  | with_reducible refine Ak.w_tup ?_
  | with_reducible refine Ak.w_lst ?_
  | with_reducible refine Ak.w_make ?_
  | with_reducible refine Ak.w_gnil ?_
  | with_reducible refine Ak.w_gcons ?_
  | with_reducible refine Ak.w_gsub ?_
  | with_reducible refine Ak.w_forList ?_
  | with_reducible refine Ak.w_forR1 ?_
  | with_reducible refine Ak.w_forR2 ?_
  | with_reducible refine Ak.w_forZ ?_
  | with_reducible refine Ak.w_lcL ?_
  | with_reducible refine Ak.w_lcT ?_
  | with_reducible refine Ak.w_lcR1 ?_
  | with_reducible refine Ak.w_lcR2 ?_
  | with_reducible refine Ak.w_yes ?_
  | with_reducible refine Ak.w_turn ?_
  | with_reducible refine Ak.w_pairs0 ?_
  | with_reducible refine Ak.w_pairs ?_
  | with_reducible refine Ak.w_eq0S ?_
  | with_reducible refine Ak.w_ne0I ?_
  | with_reducible refine Ak.w_disp fun _ _ => ?_
  | ((with_reducible show L2.wipe _ _ = L2.wipe _ _ ∧ _); refine ⟨by exact rfl, ?_⟩)
  | ((with_reducible show Ak.kFld _ _ _ _ _); refine Ak.w_fldK (by walk_at "lk") (by walk_at "as") (by walk_at "as") (by walk_at "fl") ?_)
  | ((with_reducible show Ak.kMeth _ _ _ _ _); refine Ak.w_methK (by walk_at "lk") (by walk_at "fl") ?_)
  | ((with_reducible show Ak.rPlus _ (L2.V.ref _) (L2.V.ref _) _ _); refine Ak.w_plusL (by walk_at "lk") (by walk_at "lk") (by walk_at "sz") fun _ _ => ?_)
  | ((with_reducible show Ak.rTimes (L2.V.int _) (L2.V.int _) _ _); refine Ak.w_timesI (by first | exact Or.inl (by omega) | exact Or.inr (by omega)) ?_)
  | ((with_reducible show L2.rI _ _ _ _ _ _); refine Ak.w_I (by walk_at "ci") ?_)
  | ((with_reducible show L2.rIx _ _ (L2.V.int (OfNat.ofNat _)) _ _); first | refine Ak.w_ixO (by walk_at "lk") (by exact rfl) (by exact rfl) ?_ | refine Ak.w_ixL (by walk_at "sqh") (by exact rfl) ?_ | refine Ak.w_ixT (by walk_at "sqh") (by exact rfl) ?_)
  | ((with_reducible show L2.rIx _ _ (L2.V.int _) _ _); first | refine Ak.w_ixL (by walk_at "sqh") (by walk_at "as") ?_ | refine Ak.w_ixT (by walk_at "sqh") (by walk_at "as") ?_ | refine Ak.w_ixO (by walk_at "lk") (by exact rfl) (by walk_at "as") ?_)
  | ((with_reducible show Ak.rLenX _ [L2.V.ref _] _ _); first | refine Ak.w_lenL (by walk_at "sqh") ?_ | refine Ak.w_lenT (by walk_at "sqh") ?_ | refine Ak.w_lenO (by walk_at "lk") (by exact rfl) ?_)
  | ((with_reducible show Ak.rTupX _ [L2.V.ref _] _ _); refine Ak.w_tupL (by walk_at "sq") fun _ _ => ?_)
  | ((with_reducible show L2.rSetL (L2.V.ref _) (L2.V.int _) _ _ _); (with_reducible show L2.rSetL (L2.V.ref _) (L2.V.int (OfNat.ofNat _)) _ _ _); refine Ak.w_setL (by walk_at "lk") (by exact rfl) ?_)
  | ((with_reducible show Ak.kDGet _ (L2.V.str _) _ _); refine Ak.w_dgetS (by walk_at "lk") (by walk_at "dv") ?_)
  | ((with_reducible show L2.rAppend _ _ _ _); refine Ak.w_app (by walk_at "lk") (by walk_at "sz") ?_)
  | ((with_reducible show L2.gTup _ _ _ _ _ _ _); first | refine Ak.w_gtup (by walk_at "sqh") (by exact rfl) ?_ | refine Ak.w_gtupO (by walk_at "lk") (by exact rfl) ?_)
  | ((with_reducible show L2.tyV _ _ _ _ ∧ _); refine ⟨Ak.tyL (by walk_at "lk"), ?_⟩)
  | ((with_reducible show _ ≤ PySem.sizeLine ∧ ∀ _, _); refine ⟨by walk_at "sz", fun _ _ => ?_⟩))
local macro_rules | `(tactic| walk_at "ty") => `(tactic| first | with_reducible exact L2.TyX.base (.int _) | with_reducible exact L2.TyX.base (.bl _) | with_reducible exact L2.TyX.base (.str _) | with_reducible exact L2.TyX.base .non | exact Ak.tyT (by walk_at "sqh") | exact Ak.tyLs (by walk_at "sqh") | exact Ak.tyO (by walk_at "lk") (by exact rfl))
local macro_rules | `(tactic| walk_at "s") => `(tactic| ((with_reducible show L2.rIsi _ [_, L2.V.ty _] _ _); first | refine Ak.w_isiB (k := true) (by walk_at "ty") (by decide +kernel) ?_ | refine Ak.w_isiB (k := false) (by walk_at "ty") (by decide +kernel) ?_))
local macro_rules | `(tactic| walk_at "pf") => `(tactic| first | with_reducible exact Ak.putF_hd | with_reducible exact Ak.putF_nil | ((with_reducible show L2.putF _ _ (_ :: _) = _); exact Eq.trans (Ak.putF_tl (by decide +kernel)) (congrArg (List.cons _) (by walk_at "pf"))))
local macro_rules | `(tactic| walk_at "s") => `(tactic| ((with_reducible show Ak.kSFld _ _ _ _ _ _); refine Ak.w_sfldP (by walk_at "lk") (by walk_at "as") (by walk_at "as") (Ak.lt_of rfl) (by walk_at "pf") ?_))
local macro_rules | `(tactic| walk_at "s") => `(tactic| ((with_reducible show Ak.rInX _ (L2.V.int _) (L2.V.ref _) _ _); refine Ak.w_inI (by walk_at "lk") ?_))
local macro_rules | `(tactic| walk_at "s") => `(tactic| ((with_reducible show Ak.rNinX _ (L2.V.int _) (L2.V.ref _) _ _); refine Ak.w_ninI (by walk_at "lk") ?_))
local macro_rules | `(tactic| walk_at "nk") => `(tactic| first | exact Ak.nk_nil | exact Ak.nk_cons (by decide +kernel) (by walk_at "nk"))
local macro_rules | `(tactic| walk_at "nd") => `(tactic| first | exact Ak.nd_nil | exact Ak.nd_cons (by walk_at "nk") (by walk_at "nd"))
local macro_rules | `(tactic| walk_at "dp") => `(tactic| ((with_reducible show L2.putK (_ :: _) _ _ = _); first | exact Ak.put_hd (by walk_at "nk") | exact Eq.trans (Ak.put_tl (by decide +kernel)) (congrArg (List.cons _) (by walk_at "dp"))))
local macro_rules | `(tactic| walk_at "s") => `(tactic| ((with_reducible show Ak.kDPut _ (L2.V.ref _) (L2.V.str _) _ _); refine Ak.w_dputP (by walk_at "lk") (Ak.sz_lt rfl) (by walk_at "dp") ?_))
local macro_rules | `(tactic| walk_at "s") => `(tactic| ((with_reducible show Ak.rIsE2 _ _ _ _ _ _ _); first | refine Ak.w_isE (by exact rfl) (by exact rfl) (by walk_at "as") (by walk_at "as") ?_ | refine Ak.w_isET (by exact rfl) (by exact rfl) (by walk_at "as") (by walk_at "as") ?_))
local macro_rules | `(tactic| walk_at "s") => `(tactic| ((with_reducible show Ak.rCntX _ _ _ _ _); refine Ak.w_cnt (by walk_at "lk") (by exact rfl) (by exact rfl) (by exact rfl) ?_))
local macro_rules | `(tactic| walk_at "s") => `(tactic| first
  | with_reducible refine Ak.w_fldaug ?_
  | with_reducible refine Ak.w_addI ?_
  | with_reducible refine Ak.w_dnot ?_
  | with_reducible refine Ak.w_lcE ?_
  | ((with_reducible show L2.rClear (L2.V.ref _) _ _ _); refine Ak.w_clear (by walk_at "lk") ?_)
  | with_reducible refine Ak.w_dnewK fun _ _ => ?_
  | with_reducible refine Ak.w_forTup ?_
  | ((with_reducible show Ak.kFA _ _ _ _ _ _ _ _); refine Ak.w_fa (by walk_at "lk") (by walk_at "as") (by walk_at "as") (by walk_at "fl") ?_)
  | ((with_reducible show Ak.kFS _ _ _ _ _ _ _); refine Ak.w_fs (by walk_at "lk") (Ak.lt_of rfl) (by walk_at "pf") ?_)
  | ((with_reducible show Ak.kDNot (L2.V.int _) (L2.V.ref _) _ _); refine Ak.w_dnotS (by walk_at "lk") ?_)
  | ((with_reducible show Ak.rSortX _ [L2.V.ref _] _ _); first | refine Ak.w_sortO (by walk_at "lk") fun _ _ => ?_ | refine Ak.w_sortD (by walk_at "lk") fun _ _ => ?_))
local macro_rules | `(tactic| walk_at "ci") => `(tactic| first | decide | omega | (constructor <;> first | decide | omega) | exact ⟨by decide, by decide, by decide⟩)
local macro_rules | `(tactic| walk_at "dc") => `(tactic| first | walk_at "as" | exact Ak.Dice.keep (S := []) (by walk_at "as") (by walk_at "kp") Ak.nin_nil Ak.none_nil)
local macro_rules | `(tactic| walk_at "s") => `(tactic| ((with_reducible show Ak.spNext _ _ _ _ _); refine Ak.next_go (by walk_at "dc") (by omega) (by omega) fun _ _ _ _ _ _ _ _ => ?_))
local macro_rules | `(tactic| walk_at "pk") => `(tactic| (intro x hx; (repeat (rcases List.mem_cons.mp hx with rfl | hx; · exact ⟨_, rfl, by omega⟩)); exact absurd hx List.not_mem_nil))
local macro_rules | `(tactic| walk_at "rd") => `(tactic| repeat (walk_at "s"))
local macro_rules | `(tactic| walk_at "lv") => `(tactic| first | decide | omega)
local macro_rules | `(tactic| walk_at "s") => `(tactic| first
  | with_reducible refine Ak.w_slice ?_
  | with_reducible refine Ak.w_forEn ?_
  | with_reducible refine Ak.w_par ?_
  | with_reducible refine Ak.w_par2 ?_
  | with_reducible refine Ak.w_chain ?_
  | with_reducible refine Ak.w_noP ?_
  | with_reducible refine Ak.w_part ?_
  | with_reducible refine Ak.w_isI ?_
  | with_reducible refine Ak.w_din ?_
  | with_reducible refine Ak.w_ddel ?_
  | ((with_reducible show L2.rExtend (L2.V.ref _) [L2.V.ref _] _ _); refine Ak.w_ext (by walk_at "lk") (by walk_at "lk") (by walk_at "sz") ?_)
  | ((with_reducible show Ak.kDGet _ (L2.V.int _) _ _); refine Ak.w_dgetO (by walk_at "lk") (by walk_at "as") ?_)
  | ((with_reducible show Ak.kDIn (L2.V.int _) (L2.V.ref _) _ _); refine Ak.w_dinO (by walk_at "lk") ?_)
  | ((with_reducible show Ak.rSortX _ [L2.V.ref _] _ _); refine Ak.w_sortO2 (by walk_at "lk") fun _ _ => ?_))
namespace Ak
open PySem PySem.Spec PyProof.Rows L2
def top (i : Nat) : Stmt := PySem.Challenge.pw_ackbits_k10_written_and_read.main.body.getD i (.Pass ⟨0, 0, 0, 0⟩)
abbrev s_l_next : Stmt := top 26
abbrev N_l_next : List Str := ["_law_dice_here", "_law_many", "_law_found", "_law_cell"]
theorem sc_l_next : FnScope N_l_next ["_law_dice_here", "_law_many"] (defScope s_l_next) := ⟨rfl, rfl, rfl, by decide +kernel, rfl, by decide +kernel, by decide +kernel⟩
abbrev s_l_dice : Stmt := top 25
abbrev N_l_dice : List Str := ["_law_script", "_law_mixed", "_law_cell"]
theorem sc_l_dice : FnScope N_l_dice ["_law_script"] (defScope s_l_dice) := ⟨rfl, rfl, rfl, by decide +kernel, rfl, by decide +kernel, by decide +kernel⟩
abbrev s_l_setting : Stmt := top 28
abbrev N_l_setting : List Str := ["_law_d", "_law_late", "_law_ahead", "_law_wide", "_law_marks"]
theorem sc_l_setting : FnScope N_l_setting ["_law_d"] (defScope s_l_setting) := ⟨rfl, rfl, rfl, by decide +kernel, rfl, by decide +kernel, by decide +kernel⟩
abbrev s_l_like : Stmt := top 27
abbrev N_l_like : List Str := ["_law_found", "_law_due_here", "_law_key", "_law_k"]
theorem sc_l_like : FnScope N_l_like ["_law_found", "_law_due_here"] (defScope s_l_like) := ⟨rfl, rfl, rfl, by decide +kernel, rfl, by decide +kernel, by decide +kernel⟩
abbrev s_l_told : Stmt := top 30
abbrev N_l_told : List Str := ["_law_work", "e", "_law_kinds", "_law_words", "_law_word"]
theorem sc_l_told : FnScope N_l_told ["_law_work"] (defScope s_l_told) := ⟨rfl, rfl, rfl, by decide +kernel, rfl, by decide +kernel, by decide +kernel⟩
abbrev s_check_mark : Stmt := top 12
abbrev N_check_mark : List Str := ["mark", "marks"]
theorem sc_check_mark : FnScope N_check_mark ["mark", "marks"] (defScope s_check_mark) := ⟨rfl, rfl, rfl, by decide +kernel, rfl, by decide +kernel, by decide +kernel⟩
abbrev s_check_number : Stmt := top 10
abbrev N_check_number : List Str := ["word", "number", "least", "most"]
theorem sc_check_number : FnScope N_check_number ["word", "number"] (defScope s_check_number) := ⟨rfl, rfl, rfl, by decide +kernel, rfl, by decide +kernel, by decide +kernel⟩
abbrev s_check_setting : Stmt := top 11
abbrev N_check_setting : List Str := ["setting", "marks", "wide", "late", "ahead"]
theorem sc_check_setting : FnScope N_check_setting ["setting"] (defScope s_check_setting) := ⟨rfl, rfl, rfl, by decide +kernel, rfl, by decide +kernel, by decide +kernel⟩
abbrev s_check_bits : Stmt := top 13
abbrev N_check_bits : List Str := ["bits", "wide", "bit"]
theorem sc_check_bits : FnScope N_check_bits ["bits", "wide"] (defScope s_check_bits) := ⟨rfl, rfl, rfl, by decide +kernel, rfl, by decide +kernel, by decide +kernel⟩
abbrev s_check_telling : Stmt := top 14
abbrev N_check_telling : List Str := ["told", "marks", "wide", "mark", "bits"]
theorem sc_check_telling : FnScope N_check_telling ["told", "marks", "wide"] (defScope s_check_telling) := ⟨rfl, rfl, rfl, by decide +kernel, rfl, by decide +kernel, by decide +kernel⟩
abbrev s_written : Stmt := top 18
abbrev N_written : List Str := ["setting", "told", "mark", "bits", "signs", "bit"]
theorem sc_written : FnScope N_written ["setting", "told"] (defScope s_written) := ⟨rfl, rfl, rfl, by decide +kernel, rfl, by decide +kernel, by decide +kernel⟩
abbrev s_read : Stmt := top 19
abbrev N_read : List Str := ["setting", "text", "blank", "told"]
theorem sc_read : FnScope N_read ["setting", "text"] (defScope s_read) := ⟨rfl, rfl, rfl, by decide +kernel, rfl, by decide +kernel, by decide +kernel⟩
abbrev s_check_sign : Stmt := top 20
abbrev N_check_sign : List Str := ["text", "place", "signs"]
theorem sc_check_sign : FnScope N_check_sign ["text", "place", "signs"] (defScope s_check_sign) := ⟨rfl, rfl, rfl, by decide +kernel, rfl, by decide +kernel, by decide +kernel⟩
abbrev s_end_of_mark : Stmt := top 21
abbrev N_end_of_mark : List Str := ["text"]
theorem sc_end_of_mark : FnScope N_end_of_mark ["text"] (defScope s_end_of_mark) := ⟨rfl, rfl, rfl, by decide +kernel, rfl, by decide +kernel, by decide +kernel⟩
abbrev s_u_check_bits : Stmt := top 22
abbrev N_u_check_bits : List Str := ["text", "first", "others", "place"]
theorem sc_u_check_bits : FnScope N_u_check_bits ["text", "first"] (defScope s_u_check_bits) := ⟨rfl, rfl, rfl, by decide +kernel, rfl, by decide +kernel, by decide +kernel⟩
abbrev s_bits_of : Stmt := top 23
abbrev N_bits_of : List Str := ["signs", "sign"]
theorem sc_bits_of : FnScope N_bits_of ["signs"] (defScope s_bits_of) := ⟨rfl, rfl, rfl, by decide +kernel, rfl, by decide +kernel, by decide +kernel⟩
abbrev s_l_due : Stmt := top 31
abbrev N_l_due : List Str := ["_law_setting_here", "_law_text", "_law_place", "_law_rest", "_law_k", "_law_bits", "_law_sign"]
theorem sc_l_due : FnScope N_l_due ["_law_setting_here", "_law_text"] (defScope s_l_due) := ⟨rfl, rfl, rfl, by decide +kernel, rfl, by decide +kernel, by decide +kernel⟩
abbrev s_law : Stmt := top 32
abbrev N_law : List Str := ["_law_script", "_law_d", "_law_turn", "_law_setting_here", "_law_mark", "_law_bits", "_law_k", "_law_text", "_law_bit", "_law_told_here", "_law_bad", "_law_change", "_law_at", "_law_every", "_law_sign", "_law_way"]
theorem sc_law : FnScope N_law ["_law_script"] (defScope s_law) := ⟨rfl, rfl, rfl, by decide +kernel, rfl, by decide +kernel, by decide +kernel⟩
end Ak
namespace Ak
open PySem PySem.Spec PyProof.Rows L2
def spCheckMark : Sp := fun vs H Q _ => ∃ k m, vs = [.int k, .int m] ∧ 0 ≤ k ∧ k < m ∧ Q .non H
/-- what is raised as a class of one's own, without __init__ -/
structure RaiseC (K : PySem.W.Frag) (mg : Str → Option Value) (x : Str) (C : Addr) : Prop where
  q : PySem.W.excIn K C [.type "ValueError", .type "Exception", .type "BaseException", .type "object"] "ValueError.__new__" = true
  g : mg x = some (.ref C)
  k : PySem.W.keepIn K (.ref C) = true
  s : PySem.W.subIn K (.ref C) (.type "BaseException") = some true
  t : PySem.W.typeIn K (.ref C) = some (.type "type")
theorem RaiseC.r {X : Cx} {x : Str} {C : Addr} (R : RaiseC X.K X.mg x C) : Raises X (.ref C) := raises_own R.s R.t
/-- the bounds of each number, by its word -/
inductive BoundOf : Str → Int → Int → Prop
  | marks : BoundOf "marks" 2 64
  | wide : BoundOf "wide" 0 16
  | late : BoundOf "late" 0 8
  | ahead : BoundOf "ahead" 1 16
  | room : BoundOf "room" 1 8
  | wait : BoundOf "wait" 1 20
structure BoundsT (K : PySem.W.Frag) (w : World) (mg : Str → Option Value) (b : Addr) : Prop where
  g : mg "BOUNDS" = some (.ref b)
  get : ∀ wd lo hi, BoundOf wd lo hi → ∃ t, KDct K w b wd (.ref t) ∧ ∀ H, SqT K H t [.int lo, .int hi]
theorem bounds_mk {K : PySem.W.Frag} {w : World} {mg : Str → Option Value} {b t1 t2 t3 t4 t5 t6 : Addr} {es : Array DictEntry} {n : Nat} (g : mg "BOUNDS" = some (.ref b))
    (lk : K.lookup b = some { cls := .type "dict", data := .dict es n }) (kl : PySem.W.KeysLit w.params es.toList)
    (n1 : PySem.W.nsIn K b "marks" = some (some (.ref t1))) (n2 : PySem.W.nsIn K b "wide" = some (some (.ref t2))) (n3 : PySem.W.nsIn K b "late" = some (some (.ref t3)))
    (n4 : PySem.W.nsIn K b "ahead" = some (some (.ref t4))) (n5 : PySem.W.nsIn K b "room" = some (some (.ref t5))) (n6 : PySem.W.nsIn K b "wait" = some (some (.ref t6)))
    (s1 : ∀ H, SqT K H t1 [.int 2, .int 64]) (s2 : ∀ H, SqT K H t2 [.int 0, .int 16]) (s3 : ∀ H, SqT K H t3 [.int 0, .int 8])
    (s4 : ∀ H, SqT K H t4 [.int 1, .int 16]) (s5 : ∀ H, SqT K H t5 [.int 1, .int 8]) (s6 : ∀ H, SqT K H t6 [.int 1, .int 20]) : BoundsT K w mg b :=
  ⟨g, fun wd lo hi h => by
    cases h with
    | marks => exact ⟨t1, ⟨es, n, _, lk, kl, n1, rfl⟩, s1⟩
    | wide => exact ⟨t2, ⟨es, n, _, lk, kl, n2, rfl⟩, s2⟩
    | late => exact ⟨t3, ⟨es, n, _, lk, kl, n3, rfl⟩, s3⟩
    | ahead => exact ⟨t4, ⟨es, n, _, lk, kl, n4, rfl⟩, s4⟩
    | room => exact ⟨t5, ⟨es, n, _, lk, kl, n5, rfl⟩, s5⟩
    | wait => exact ⟨t6, ⟨es, n, _, lk, kl, n6, rfl⟩, s6⟩⟩
theorem ix_kd {X : Cx} {K : PySem.W.Frag} {w : World} (h : X.K = K) (hw : X.w = w) : IxR X (rIxD K w) := by
  subst h hw
  exact ix_kdict
def spCheckNumber : Sp := fun vs H Q _ => ∃ wd n lo hi, vs = [.str wd, .int n] ∧ BoundOf wd lo hi ∧ lo ≤ n ∧ n ≤ hi ∧ Q .non H
def spCheckSetting (K : PySem.W.Frag) : Sp := fun vs H Q _ => ∃ q m w l a, vs = [.ref q] ∧ SqT K H q [.int m, .int w, .int l, .int a] ∧ SetOk m w l a ∧ ∀ H', Keep [] H H' → Q .non H'
end Ak

namespace Ak
open PySem PySem.Spec PyProof.Rows L2
def Bits01 (bs : List Int) : Prop := ∀ x, x ∈ bs → x = 0 ∨ x = 1
def MarkOk (k m : Int) : Prop := 0 ≤ k ∧ k < m
def BitsOk (bs : List Int) (w : Int) : Prop := (bs.length : Int) = w ∧ Bits01 bs
def spMarkX (C2 : Addr) : Sp := fun vs H Q E => ∃ k m : Int, vs = [.int k, .int m] ∧ k.natAbs < 2 ^ 59 ∧ (MarkOk k m → Q .non H) ∧ (¬ MarkOk k m → E (.ref C2) none H)
def spBitsX (K : PySem.W.Frag) (C3 : Addr) : Sp := fun vs H Q E => ∃ b bs, ∃ w : Int, vs = [.ref b, .int w] ∧ SqT K H b (bs.map V.int) ∧ bs.length ≤ 100 ∧ w.natAbs < 2 ^ 59 ∧ (∀ x : Int, x ∈ bs → x.natAbs < 2 ^ 59) ∧ (BitsOk bs w → ∀ H', Keep [] H H' → Q .non H') ∧ (¬ BitsOk bs w → ∀ H', Keep [] H H' → E (.ref C3) none H')
def spTellX (K : PySem.W.Frag) (C2 C3 : Addr) : Sp := fun vs H Q E => ∃ q b bs, ∃ k m w : Int, vs = [.ref q, .int m, .int w] ∧ SqT K H q [.int k, .ref b] ∧ SqT K H b (bs.map V.int) ∧ bs.length ≤ 100 ∧ w.natAbs < 2 ^ 59 ∧ k.natAbs < 2 ^ 59 ∧ (∀ x : Int, x ∈ bs → x.natAbs < 2 ^ 59) ∧
  (¬ MarkOk k m → E (.ref C2) none H) ∧ (MarkOk k m → ¬ BitsOk bs w → ∀ H', Keep [] H H' → E (.ref C3) none H') ∧ (MarkOk k m → BitsOk bs w → ∀ H', Keep [] H H' → Q .non H')
end Ak

namespace Ak
open PySem PySem.Spec PyProof.Rows L2
/-! ### texts by their code points -/
abbrev tx (l : List Nat) : Str := ⟨l.toArray⟩
theorem tx_len {l : List Nat} : (tx l).length = l.length := List.size_toArray
theorem tx_app {l m : List Nat} : tx l ++ tx m = tx (l ++ m) := by
  show Str.append _ _ = _
  unfold Str.append
  simp
theorem tx_of {s : Str} : tx s.cps.toList = s := by
  cases s
  simp
theorem tx_inj {l m : List Nat} : tx l = tx m ↔ l = m := ⟨fun h => by
  have := congrArg (fun s : Str => s.cps.toList) h
  simpa using this, fun h => by rw [h]⟩
section
variable {K : PySem.W.Frag} {H : Hp} {Q : VK} {l : List Nat} {c j : Nat} {i : Int} {z : Str}
theorem w_ixTx (hl : l.length ≤ 1000) (e : i = (j : Nat)) (h : l[j]? = some c) (q : Q (.str (tx [c])) H) : rIx K (.str (tx l)) (.int i) H Q :=
  Or.inr (Or.inr ⟨tx l, i, c, rfl, rfl, by rw [tx_len, sizeLine_eq]; omega, by rw [e]; exact atI_nat (by simpa using h), q⟩)
theorem w_lenTx (hl : l.length ≤ 1000) (q : Q (.int (l.length : Nat)) H) : rLenX K [.str (tx l)] H Q := w_lenS (by rw [tx_len, sizeLine_eq]; omega) (by rw [tx_len]; exact q)
theorem w_inTx (q : Q (.bl (decide (c ∈ z.cps.toList))) H) : rInX K (.str (tx [c])) (.str z) H Q := Or.inr ⟨c, z, rfl, rfl, q⟩
theorem w_ninTx (q : Q (.bl (!decide (c ∈ z.cps.toList))) H) : rNinX K (.str (tx [c])) (.str z) H Q := Or.inr ⟨c, z, rfl, rfl, q⟩
theorem cutS_take (h : 0 ≤ i) : cutS (tx l) none (some i) = tx (l.take i.toNat) := by
  unfold cutS HT.sIx
  simp only [List.drop_zero, Nat.sub_zero, tx_len]
  rw [if_neg (by omega)]
  by_cases q : i.toNat ≤ l.length
  · rw [Nat.min_eq_left q]
  · rw [Nat.min_eq_right (by omega), List.take_length, List.take_of_length_le (by omega)]
theorem cutS_drop (h : 0 ≤ i) : cutS (tx l) (some i) none = tx (l.drop i.toNat) := by
  unfold cutS HT.sIx
  simp only [tx_len]
  rw [if_neg (by omega)]
  by_cases q : i.toNat ≤ l.length
  · rw [Nat.min_eq_left q, List.take_of_length_le (by rw [List.length_drop]; exact Nat.le_refl _)]
  · rw [Nat.min_eq_right (by omega), List.drop_length, List.drop_of_length_le (by omega), List.take_nil]
theorem cutS_12 : cutS (tx l) (some 1) (some 2) = tx ((l.drop 1).take 1) := by
  unfold cutS HT.sIx
  simp only [tx_len]
  rw [if_neg (by decide), if_neg (by decide), show (1 : Int).toNat = 1 from rfl, show (2 : Int).toNat = 2 from rfl]
  match l with
  | [] => simp
  | [a] => simp
  | a :: b :: r =>
    rw [Nat.min_eq_left (by simp), Nat.min_eq_left (by simp)]
theorem w_slS {lo hi : Option Int} {y : Str} (hl : l.length ≤ 1000) (e : cutS (tx l) lo hi = y) (q : Q (.str y) H) : rSlX K (.str (tx l)) lo hi H Q := Or.inr ⟨tx l, rfl, by rw [tx_len, sizeLine_eq]; omega, by rw [e]; exact q⟩
end
theorem pe_gstr {X : Cx} {x : Str} {z : Str} {t : Tok} {pos : Pos} (hg : Gl X x) (hm : X.mg x = some (.str z t)) (hd : (x == ("__debug__" : Str)) = false := by decide) : PE X (.Name x pos) (tC (.str z)) := pe_glob (v := .str z) hg hm ⟨_, rfl⟩ hd
theorem pe_orTK {X : Cx} {K : PySem.W.Frag} (h : X.K = K) {a b : Expr} {ta tb : TE} {rest : List Expr} {pos : Pos} (ha : PE X a ta) (hb : PE X (.BoolOp .Or (b :: rest) pos) tb) : PE X (.BoolOp .Or (a :: b :: rest) pos) (tOrT K ta tb) := h ▸ pe_orT ha hb
def rJoinK (K : PySem.W.Frag) : V → List V → Hp → VK → Prop := fun x xs H Q => ∃ a p, ∃ ys : List Str, x = .str a ∧ xs = [.ref p] ∧ (SqL K H p (ys.map V.str) ∨ SqT K H p (ys.map V.str)) ∧ (ys.map (·.length)).sum + ys.length * a.length ≤ 16777216 ∧ Q (.str (Txt.join a ys)) H
theorem mt_joinK {X : Cx} {K : PySem.W.Frag} (h : X.K = K) : MtR X "str.join" (rJoinK K) := h ▸ mt_join
def rDigit : V → List V → Hp → VK → Prop := fun x xs H Q => ∃ a, x = .str a ∧ xs = [] ∧ True ∧ Q (.bl (Txt.isdigit a)) H
theorem mt_isdig {X : Cx} : MtR X "str.isdigit" rDigit := mt_isdigit
def rIntS : List V → Hp → VK → Prop := fun xs H Q => ∃ a n, xs = [.str a] ∧ PySem.intText? a = some n ∧ a.length ≤ 640 ∧ Q (.int n) H
theorem cr_intS {X : Cx} : CallR X (.type "int") rIntS := call_int_str
/-! ### a sign's kind -/
def isD (c : Nat) : Bool := decide (48 ≤ c ∧ c ≤ 57)
theorem dig_all : ∀ c : Fin 128, Unicode.isDigit c.val = isD c.val := by decide +kernel
theorem dig_at {c : Nat} (h : c < 128) : Unicode.isDigit c = isD c := dig_all ⟨c, h⟩
theorem figs : (Str.ofString "0123456789").cps.toList = [48, 49, 50, 51, 52, 53, 54, 55, 56, 57] := by decide +kernel
theorem fig_in {c : Nat} : decide (c ∈ (Str.ofString "0123456789").cps.toList) = isD c := by
  rw [figs]
  unfold isD
  rw [decide_eq_decide]
  simp only [List.mem_cons, List.not_mem_nil, or_false]
  omega
theorem isdig_one {c : Nat} (h : c < 128) : Txt.isdigit (tx [c]) = isD c := by
  unfold Txt.isdigit
  rw [tx_len]
  show (decide (1 > 0) && (#[c] : Array Nat).all Unicode.isDigit) = _
  rw [show (#[c] : Array Nat).all Unicode.isDigit = Unicode.isDigit c by simp, dig_at h]
  rfl
theorem isdig_nil : Txt.isdigit (tx []) = false := by
  unfold Txt.isdigit
  rw [tx_len]
  rfl
/-- how many signs the mark has -/
def markL : List Nat → Nat
  | [] => 0
  | c :: r => if isD c = true then (if c = 48 then 1 else match r with
    | [] => 1
    | d :: _ => if isD d = true then 2 else 1) else 0
theorem markL_one {c : Nat} : markL [c] = if isD c = true then 1 else 0 := by
  simp only [markL]
  split <;> (try split) <;> rfl
theorem markL_two {c d : Nat} {r : List Nat} : markL (c :: d :: r) = if isD c = true then (if c = 48 then 1 else if isD d = true then 2 else 1) else 0 := by
  simp only [markL]
theorem markL_le {l : List Nat} : markL l ≤ l.length ∧ markL l ≤ 2 := by
  match l with
  | [] => exact ⟨Nat.le_refl _, Nat.zero_le _⟩
  | [c] =>
    rw [markL_one]
    split
    · exact ⟨Nat.le_refl _, by omega⟩
    · exact ⟨Nat.zero_le _, by omega⟩
  | c :: d :: r =>
    rw [markL_two]
    simp only [List.length_cons]
    split
    · split
      · omega
      · split <;> omega
    · omega
/-- the number of its figures -/
def markV (l : List Nat) : Int := ((PySem.NumText.digitsVal l : Nat) : Int)
/-- whether the k-th sign of the bits can stand there -/
def okB (r : List Nat) (k : Nat) : Bool := ((decide (r[k]? = some 48) || decide (r[k]? = some 49)) && !decide (r[0]? = some 45)) || (decide (r[k]? = some 45) && decide (k = 0))
def badAt (r : List Nat) : Option Nat := (List.range r.length).find? fun k => !okB r k
def bitsL (r : List Nat) : List Int := (r.filter fun c => !decide (c = 45)).map fun (c : Nat) => (c : Int) - 48
inductive Out where
  | told (k : Int) (bs : List Int)
  | text (p : Nat)
  | mark
  | bits
def dueL (m w : Int) (l : List Nat) : Out :=
  if markL l = 0 ∨ l[markL l]? ≠ some 32 then .text (markL l)
  else if l.length = markL l + 1 then .text l.length
  else match badAt (l.drop (markL l + 1)) with
    | some k => .text (markL l + 1 + k)
    | none => if m ≤ markV (l.take (markL l)) then .mark else if ((bitsL (l.drop (markL l + 1))).length : Int) = w then .told (markV (l.take (markL l))) (bitsL (l.drop (markL l + 1))) else .bits
/-! ### promises -/
def Asc (l : List Nat) : Prop := l.length ≤ 100 ∧ ∀ c, c ∈ l → c < 128
def spSign (C6 : Addr) : Sp := fun vs H Q E => ∃ (l : List Nat) (p : Nat) (sg : Str), vs = [.str (tx l), .int (p : Nat), .str sg] ∧ Asc l ∧ p ≤ 1000 ∧ (∀ c, l[p]? = some c → c ∈ sg.cps.toList → Q .non H) ∧
  ((∀ c, l[p]? = some c → c ∉ sg.cps.toList) → ∀ d, H d = none → E (.ref C6) (some d) (upd H d (.xd [("place", .int (p : Nat))])))
def spEndMark (C6 : Addr) : Sp := fun vs H Q E => ∃ l : List Nat, vs = [.str (tx l)] ∧ Asc l ∧ (markL l ≠ 0 → Q (.int (markL l : Nat)) H) ∧ (markL l = 0 → ∀ d, H d = none → E (.ref C6) (some d) (upd H d (.xd [("place", .int 0)])))
def spBitsSigns (C6 : Addr) : Sp := fun vs H Q E => ∃ (l : List Nat) (p : Nat), vs = [.str (tx l), .int (p : Nat)] ∧ Asc l ∧ p ≤ 1000 ∧ (l.length ≤ p → ∀ d, H d = none → E (.ref C6) (some d) (upd H d (.xd [("place", .int (p : Nat))]))) ∧
  (p < l.length → ∀ k, badAt (l.drop p) = some k → ∀ d, H d = none → E (.ref C6) (some d) (upd H d (.xd [("place", .int (p + k : Nat))]))) ∧
  (p < l.length → badAt (l.drop p) = none → Q .non H)
def spBitsOf : Sp := fun vs H Q _ => ∃ r : List Nat, vs = [.str (tx r)] ∧ Asc r ∧ r ≠ [] ∧ badAt r = none ∧ ∀ p H', H p = none → H' p = some (.tup ((bitsL r).map V.int)) → Keep [] H H' → Q (.ref p) H'
def spRead (C2 C3 C6 : Addr) : Sp := fun vs H Q E => ∃ q, ∃ m w l a : Int, ∃ t : List Nat, vs = [.ref q, .str (tx t)] ∧ H q = some (.tup [.int m, .int w, .int l, .int a]) ∧ SetOk m w l a ∧ Asc t ∧
  match dueL m w t with
  | .told k bs => ∀ p b H', H p = none → H b = none → H' p = some (.tup [.int k, .ref b]) → H' b = some (.tup (bs.map V.int)) → Keep [] H H' → Q (.ref p) H'
  | .text pl => ∀ d H', H d = none → Keep [] H H' → H' d = some (.xd [("place", .int (pl : Nat))]) → E (.ref C6) (some d) H'
  | .mark => ∀ H', Keep [] H H' → E (.ref C2) none H'
  | .bits => ∀ H', Keep [] H H' → E (.ref C3) none H'
def decS (i : Int) : Str := Str.ofString (toString i)
def writS (k : Int) (bs : List Int) : Str := (Str.empty ++ decS k ++ Str.ofString " ") ++ (if bs = [] then Str.ofString "-" else Txt.join (Str.ofString "") (bs.map decS))
def spWritten (K : PySem.W.Frag) (C2 C3 : Addr) : Sp := fun vs H Q E => ∃ q t b bs, ∃ k m w l a : Int, vs = [.ref q, .ref t] ∧ H q = some (.tup [.int m, .int w, .int l, .int a]) ∧ SetOk m w l a ∧ SqT K H t [.int k, .ref b] ∧ SqT K H b (bs.map V.int) ∧ bs.length ≤ 100 ∧ k.natAbs < 2 ^ 59 ∧ (∀ x : Int, x ∈ bs → x.natAbs < 2 ^ 59) ∧
  (¬ MarkOk k m → ∀ H', Keep [] H H' → E (.ref C2) none H') ∧ (MarkOk k m → ¬ BitsOk bs w → ∀ H', Keep [] H H' → E (.ref C3) none H') ∧ (MarkOk k m → BitsOk bs w → ∀ H', Keep [] H H' → Q (.str (writS k bs)) H')
theorem glued_bits {bs : List Int} (h : Bits01 bs) : Txt.join (Str.ofString "") (bs.map decS) = tx (bs.map fun b => (48 + b).toNat) := by
  have d01 : ∀ b : Int, b = 0 ∨ b = 1 → decS b = tx [(48 + b).toNat] := fun b hb => by
    rcases hb with rfl | rfl <;> decide +kernel
  have e0 : (Str.ofString "").cps = #[] := by decide +kernel
  have key : ∀ (r : List Int) (acc : Array Nat), Bits01 r → (r.map decS).foldl (fun acc p => acc ++ (Str.ofString "").cps ++ p.cps) acc = acc ++ (r.map fun b => (48 + b).toNat).toArray := by
    intro r
    induction r with
    | nil => intro acc _; simp
    | cons b r ih =>
      intro acc hr
      rw [List.map_cons, List.foldl_cons, ih _ fun x hx => hr x (List.mem_cons_of_mem _ hx), d01 b (hr b List.mem_cons_self), e0]
      simp
  unfold Txt.join PySem.Builtin.Str.glued
  cases bs with
  | nil => rfl
  | cons b r =>
    rw [List.map_cons, List.drop_succ_cons, List.drop_zero, key r _ fun x hx => h x (List.mem_cons_of_mem _ hx), List.headD_cons, d01 b (h b List.mem_cons_self)]
    simp
end Ak

namespace Ak
open PySem PySem.Spec PyProof.Rows L2
section
variable {P : Program} {w : World} {K : PySem.W.Frag} {mg : Str → Option Value} {base : Heap}
theorem ok_next {f : Addr} {fd : FuncData} (F : L2.Fun K "_law_next" "_law_next" s_l_next f fd) (g_len : mg "len" = none) : FnOk P w K mg base (L2.CX P w) 1 f fd ["_law_dice_here", "_law_many"] (spNext K) := by
  refine Fun.okX F sc_l_next (fun vs H Q E h => ?_) (fun cdv A outer s H vs Q E hr h => ?_)
  · obtain ⟨_, _, _, rfl, _⟩ := h
    rfl
  · obtain ⟨H0, d, n, rfl, n0, n1, ⟨⟨a, ns, i, m, r, hd, ha, hl, i0⟩, dn, dx⟩, k⟩ := h
    refine ⟨_, (pss_cons (ps_if (pt_cmpR op_gt (pe_ix (Ak.ix_K (K := K) (by rfl)) (pv 0) pe_int (by intro _ _; rfl)) pe_int (nomark _))
      (pss_cons (ps_set (i := 2) sc_l_next.nd rfl (Or.inl rfl) (pe_op op_mod (pe_ix (Ak.ix_K (K := K) (by rfl)) (pv 0) pe_int (by intro _ _; rfl)) (pv 1)))
      (pss_cons (ps_asg (pe_op op_fdiv (pe_ix (Ak.ix_K (K := K) (by rfl)) (pv 0) pe_int (by intro _ _; rfl)) (pv 1)) (pg_sub (pv 0) pe_int set_list))
      (pss_one (ps_ret (pv 2)))))
      pss_nil)
      (pss_cons (ps_asg (pe_op (Ak.op_plusK (K := K) (by rfl)) (pe_ix (Ak.ix_K (K := K) (by rfl)) (pv 0) pe_int (by intro _ _; rfl)) pe_int) (pg_sub (pv 0) pe_int set_list))
      (pss_cons (ps_if (pt_cmpR op_le (pe_ix (Ak.ix_K (K := K) (by rfl)) (pv 0) pe_int (by intro _ _; rfl)) (pe_callB (Ak.cr_lenK (K := K) (by rfl)) (by rfl) g_len (by decide +kernel) (pa_cons (pe_ix (Ak.ix_K (K := K) (by rfl)) (pv 0) pe_int (by intro _ _; rfl)) pa_nil)) (nomark _))
      (pss_cons (ps_set (i := 3) sc_l_next.nd rfl (Or.inl rfl) (pe_ix (Ak.ix_K (K := K) (by rfl)) (pe_ix (Ak.ix_K (K := K) (by rfl)) (pv 0) pe_int (by intro _ _; rfl)) (pe_op op_sub (pe_ix (Ak.ix_K (K := K) (by rfl)) (pv 0) pe_int (by intro _ _; rfl)) pe_int) (by intro _ _; rfl)))
      (pss_cons (ps_asg (pe_ifExp (pt_cmpR op_ge (pv 3) (pe_op op_pow pe_int pe_int) (nomark _)) (pe_op op_fdiv (pv 3) (pv 1)) pe_int) (pg_sub (pv 0) pe_int set_list))
      (pss_one (ps_ret (pe_op op_mod (pv 3) (pv 1))))))
      pss_nil)
      (pss_cons (ps_asg (pe_op op_mod (pe_op Ak.op_times (pe_ix (Ak.ix_K (K := K) (by rfl)) (pv 0) pe_int (by intro _ _; rfl)) pe_int) pe_int) (pg_sub (pv 0) pe_int set_list))
      (pss_one (ps_ret (pe_op op_mod (pe_op op_fdiv (pe_ix (Ak.ix_K (K := K) (by rfl)) (pv 0) pe_int (by intro _ _; rfl)) pe_int) (pv 1)))))))), ?_⟩
    have e0 : L2.start N_l_next [V.ref d, V.int n] = [some (V.ref d), some (V.int n), none, none] := rfl
    rw [e0]
    try dsimp only [cxOf]
    walk_at "rd"
    have fin : ∀ (x y z u : Int), 0 ≤ y → 0 ≤ x → x < n → Q (.int x) (upd H d (.lst [.ref a, .int y, .int z, .int u])) := fun x y z u y0 x0 x1 =>
      k _ _ x0 x1 ⟨⟨a, ns, y, z, u, upd_same, ha, hl, y0⟩, dn, dx.keep (S := [d]) (by walk_at "kp") (fun b hb => by
        rw [List.mem_singleton.mp hb]
        exact dn)⟩ (by walk_at "kp")
    refine Ak.w_ite (fun h0 => ?_) (fun h0 => ?_)
    · walk_at "rd"
      exact fin _ _ _ _ i0 (Int.emod_nonneg _ (by omega)) (Int.emod_lt_of_pos _ n0)
    · walk_at "rd"
      refine Ak.w_ite (fun h1 => ?_) (fun h1 => ?_)
      · walk_at "rd"
        rw [List.length_map] at h1
        obtain ⟨c, hc⟩ : ∃ c, atI (ns.map V.int) (i + 1 - 1) = some (V.int c) := by
          have e : i + 1 - 1 = ((i.toNat : Nat) : Int) := by omega
          rw [e]
          refine ⟨ns[i.toNat]'(by omega), atI_nat ?_⟩
          rw [List.getElem?_map, List.getElem?_eq_getElem (by omega)]
          rfl
        walk_at "rd"
        refine Ak.w_ite (fun h2 => ?_) (fun h2 => ?_)
        all_goals
          walk_at "rd"
          rw [upd_upd]
          exact fin _ _ _ _ (by omega) (Int.emod_nonneg _ (by omega)) (Int.emod_lt_of_pos _ n0)
      · walk_at "rd"
        rw [upd_upd]
        exact fin _ _ _ _ (by omega) (Int.emod_nonneg _ (by omega)) (Int.emod_lt_of_pos _ n0)
theorem ok_dice {f : Addr} {fd : FuncData} (F : L2.Fun K "_law_dice" "_law_dice" s_l_dice f fd) (g_len : mg "len" = none) (g_int : mg "int" = none) : FnOk P w K mg base (L2.CX P w) 1 f fd ["_law_script"] (spDice K) := by
  refine Fun.okX F sc_l_dice (fun vs H Q E h => ?_) (fun cdv A outer s H vs Q E hr h => ?_)
  · obtain ⟨_, _, rfl, _⟩ := h
    rfl
  · obtain ⟨a, ns, rfl, ha, hl, k⟩ := h
    refine ⟨_, (pss_cons (ps_set (i := 1) sc_l_dice.nd rfl (Or.inl rfl) pe_int)
      (pss_cons (ps_for (passes_of rfl) rfl (Ak.pi_listK (K := K) (by rfl) (pv 0)) (pg_name (i := 2) sc_l_dice.nd rfl (Or.inl rfl))
      (pss_one (ps_set (i := 1) sc_l_dice.nd rfl (Or.inl rfl) (pe_op op_mod (pe_op (Ak.op_plusK (K := K) (by rfl)) (pe_op (Ak.op_plusK (K := K) (by rfl)) (pe_op Ak.op_times (pv 1) pe_int) (pe_op Ak.op_times (pe_op op_mod (pv 2) pe_int) pe_int)) pe_int) pe_int))))
      (pss_one (ps_ret (pe_lst (pa_cons (pv 0) (pa_cons pe_int (pa_cons (pe_op Ak.op_times (pv 1) (pe_callTy Ak.cr_intX (by rfl) g_int (by decide +kernel) (pa_cons (pe_cmpR op_gt (pe_callB (Ak.cr_lenK (K := K) (by rfl)) (by rfl) g_len (by decide +kernel) (pa_cons (pv 0) pa_nil)) pe_int (nomark _)) pa_nil))) (pa_cons pe_int pa_nil))))))))), ?_⟩
    have e0 : L2.start N_l_dice [V.ref a] = [some (V.ref a), none, none] := rfl
    rw [e0]
    try dsimp only [cxOf]
    walk_at "rd"
    refine Ak.l_forList ha (fun _ σ H' => ∃ m v, σ = [some (.ref a), some (.int m), v] ∧ H' = H) ⟨0, none, rfl, rfl⟩ (fun i σ' H' _ q => by obtain ⟨_, _, _, rfl⟩ := q; exact ha) (fun i x σ' H' hx q => ?_) (fun σ' H' q => ?_)
    · obtain ⟨m, v, rfl, rfl⟩ := q
      obtain ⟨c, rfl⟩ : ∃ c, x = V.int c := by
        rw [List.getElem?_map] at hx
        cases e : ns[i]? with
        | none => rw [e] at hx; cases hx
        | some c => rw [e] at hx; exact ⟨c, (Option.some.inj hx).symm⟩
      walk_at "rd"
      exact ⟨_, _, rfl, rfl⟩
    · obtain ⟨m, v, rfl, rfl⟩ := q
      walk_at "rd"
      exact k _ _ (by walk_at "as") ⟨⟨a, ns, 0, _, 0, upd_same, ha, hl, Int.le_refl 0⟩, by walk_at "as", by walk_at "xt"⟩ (by walk_at "kp")
end
end Ak

namespace Ak
open PySem PySem.Spec PyProof.Rows L2
section
variable {P : Program} {w : World} {K : PySem.W.Frag} {mg : Str → Option Value} {base : Heap}
theorem ok_setting {f : Addr} {fd : FuncData} (F : L2.Fun K "_law_setting" "_law_setting" s_l_setting f fd) (g_max : mg "max" = none) (g_min : mg "min" = none) (c_l_next : CalX P w K mg base 1 "_law_next" (spNext K)) : FnOk P w K mg base (L2.CX P w) 2 f fd ["_law_d"] (spSetting K) := by
  refine Fun.okX F sc_l_setting (fun vs H Q E h => ?_) (fun cdv A outer s H vs Q E hr h => ?_)
  · obtain ⟨_, _, rfl, _⟩ := h
    rfl
  · obtain ⟨H0, d, rfl, hd, k⟩ := h
    refine ⟨_, (pss_cons (ps_set (i := 1) sc_l_setting.nd rfl (Or.inl rfl) (pe_ix (Ak.ix_K (K := K) (by rfl)) (pe_lst (pa_cons (Ak.pe_cx c_l_next hr (by walk_at "lv") (by rfl) (takes_of rfl rfl rfl rfl) (pa_cons (pv 0) (pa_cons pe_int pa_nil))) (pa_cons (Ak.pe_cx c_l_next hr (by walk_at "lv") (by rfl) (takes_of rfl rfl rfl rfl) (pa_cons (pv 0) (pa_cons pe_int pa_nil))) pa_nil))) (Ak.pe_cx c_l_next hr (by walk_at "lv") (by rfl) (takes_of rfl rfl rfl rfl) (pa_cons (pv 0) (pa_cons pe_int pa_nil))) (by intro _ _; rfl)))
      (pss_cons (ps_set (i := 2) sc_l_setting.nd rfl (Or.inl rfl) (pe_op (Ak.op_plusK (K := K) (by rfl)) pe_int (pe_ix (Ak.ix_K (K := K) (by rfl)) (pe_lst (pa_cons (Ak.pe_cx c_l_next hr (by walk_at "lv") (by rfl) (takes_of rfl rfl rfl rfl) (pa_cons (pv 0) (pa_cons pe_int pa_nil))) (pa_cons (Ak.pe_cx c_l_next hr (by walk_at "lv") (by rfl) (takes_of rfl rfl rfl rfl) (pa_cons (pv 0) (pa_cons pe_int pa_nil))) pa_nil))) (Ak.pe_cx c_l_next hr (by walk_at "lv") (by rfl) (takes_of rfl rfl rfl rfl) (pa_cons (pv 0) (pa_cons pe_int pa_nil))) (by intro _ _; rfl))))
      (pss_cons (ps_set (i := 3) sc_l_setting.nd rfl (Or.inl rfl) (pe_ix (Ak.ix_K (K := K) (by rfl)) (pe_lst (pa_cons (Ak.pe_cx c_l_next hr (by walk_at "lv") (by rfl) (takes_of rfl rfl rfl rfl) (pa_cons (pv 0) (pa_cons pe_int pa_nil))) (pa_cons (Ak.pe_cx c_l_next hr (by walk_at "lv") (by rfl) (takes_of rfl rfl rfl rfl) (pa_cons (pv 0) (pa_cons pe_int pa_nil))) pa_nil))) (Ak.pe_cx c_l_next hr (by walk_at "lv") (by rfl) (takes_of rfl rfl rfl rfl) (pa_cons (pv 0) (pa_cons pe_int pa_nil))) (by intro _ _; rfl)))
      (pss_cons (ps_set (i := 4) sc_l_setting.nd rfl (Or.inl rfl) (pe_op (Ak.op_plusK (K := K) (by rfl)) (pe_op (Ak.op_plusK (K := K) (by rfl)) (pv 1) (pv 2)) (pe_ix (Ak.ix_K (K := K) (by rfl)) (pe_lst (pa_cons pe_int (pa_cons pe_int (pa_cons pe_int (pa_cons pe_int (pa_cons (pe_op op_sub (Ak.pe_cx c_l_next hr (by walk_at "lv") (by rfl) (takes_of rfl rfl rfl rfl) (pa_cons (pv 0) (pa_cons pe_int pa_nil))) pe_int) pa_nil)))))) (Ak.pe_cx c_l_next hr (by walk_at "lv") (by rfl) (takes_of rfl rfl rfl rfl) (pa_cons (pv 0) (pa_cons pe_int pa_nil))) (by intro _ _; rfl))))
      (pss_cons (ps_set (i := 4) sc_l_setting.nd rfl (Or.inl rfl) (pe_ix (Ak.ix_K (K := K) (by rfl)) (pe_lst (pa_cons (pv 4) (pa_cons (pe_op (Ak.op_plusK (K := K) (by rfl)) pe_int (Ak.pe_cx c_l_next hr (by walk_at "lv") (by rfl) (takes_of rfl rfl rfl rfl) (pa_cons (pv 0) (pa_cons pe_int pa_nil)))) (pa_cons pe_int pa_nil)))) (pe_callB (Ak.cr_maxK (K := K) (by rfl) rfl) (by rfl) g_max (by decide +kernel) (pa_cons pe_int (pa_cons (pe_op op_sub (Ak.pe_cx c_l_next hr (by walk_at "lv") (by rfl) (takes_of rfl rfl rfl rfl) (pa_cons (pv 0) (pa_cons pe_int pa_nil))) pe_int) pa_nil))) (by intro _ _; rfl)))
      (pss_one (ps_ret (pe_tup (pa_cons (pe_callB (Ak.cr_minK (K := K) (by rfl) rfl) (by rfl) g_min (by decide +kernel) (pa_cons pe_int (pa_cons (pe_callB (Ak.cr_maxK (K := K) (by rfl) rfl) (by rfl) g_max (by decide +kernel) (pa_cons pe_int (pa_cons (pv 4) pa_nil))) pa_nil))) (pa_cons (pv 3) (pa_cons (pv 1) (pa_cons (pv 2) pa_nil)))))))))))), ?_⟩
    have e0 : L2.start N_l_setting [V.ref d] = [some (V.ref d), none, none, none, none] := rfl
    rw [e0]
    try dsimp only [cxOf]
    walk_at "rd"
    refine Ak.pickP (fun v => 0 ≤ v ∧ v ≤ 8) (by walk_at "sq") (by omega) (by show _ < (2 : Int); omega) (by walk_at "pk") (fun late hlate => ?_)
    walk_at "rd"
    refine Ak.pickP (fun v => 0 ≤ v ∧ v ≤ 15) (by walk_at "sq") (by omega) (by show _ < (2 : Int); omega) (by walk_at "pk") (fun ah hah => ?_)
    walk_at "rd"
    refine Ak.pickP (fun v => 0 ≤ v ∧ v ≤ 16) (by walk_at "sq") (by omega) (by show _ < (2 : Int); omega) (by walk_at "pk") (fun wide hwide => ?_)
    walk_at "rd"
    refine Ak.pickP (fun v => True) (by walk_at "sq") (by omega) (by show _ < (5 : Int); omega) (by
      intro x hx
      (repeat (rcases List.mem_cons.mp hx with rfl | hx; · exact ⟨_, rfl, trivial⟩))
      exact absurd hx List.not_mem_nil) (fun mk _ => ?_)
    walk_at "rd"
    refine Ak.pickP (fun v => True) (by walk_at "sq") (by omega) (by show _ < (3 : Int); omega) (by
      intro x hx
      (repeat (rcases List.mem_cons.mp hx with rfl | hx; · exact ⟨_, rfl, trivial⟩))
      exact absurd hx List.not_mem_nil) (fun mk2 _ => ?_)
    walk_at "rd"
    exact k _ _ _ _ _ _ ⟨by omega, by omega, by omega, by omega, by omega, by omega, by omega, by omega⟩ (Ak.fresh_of [d] (by walk_at "as") (by walk_at "kp")) upd_same (by walk_at "dc") (by walk_at "kp")
end
end Ak

namespace Ak
open PySem PySem.Spec PyProof.Rows L2
section
variable {P : Program} {w : World} {K : PySem.W.Frag} {mg : Str → Option Value} {base : Heap}
theorem like_step {n : Nat} {f : Addr} {fd : FuncData} (F : L2.Fun K "_law_like" "_law_like" s_l_like f fd) (g_isinstance : mg "isinstance" = none) (g_bool : mg "bool" = none) (g_str : mg "str" = none) (g_int : mg "int" = none) (g_dict : mg "dict" = none) (g_tuple : mg "tuple" = none) (g_list : mg "list" = none)
    (g_len : mg "len" = none) (g_range : mg "range" = none) (c_l_like : CalX P w K mg base (n + 1) "_law_like" (spLike K n)) : FnOk P w K mg base (L2.CX P w) (n + 2) f fd ["_law_found", "_law_due_here"] (spLike K (n + 1)) := by
  refine Fun.okX F sc_l_like (fun vs H Q E h => ?_) (fun cdv A outer s H vs Q E hr h => ?_)
  · obtain ⟨_, _, rfl, _⟩ := h
    rfl
  · obtain ⟨x, y, rfl, al, k⟩ := h
    refine ⟨_, (pss_cons (ps_if (Ak.pt_truK (K := K) (by rfl) (pe_callB (Ak.cr_isiK (K := K) (by rfl)) (by rfl) g_isinstance (by decide +kernel) (pa_cons (pv 1) (pa_cons (Ak.pe_ty (T := "bool") (by rfl) g_bool (by decide +kernel)) pa_nil))))
      (pss_one (ps_ret (pe_and (pe_callB (Ak.cr_isiK (K := K) (by rfl)) (by rfl) g_isinstance (by decide +kernel) (pa_cons (pv 0) (pa_cons (Ak.pe_ty (T := "bool") (by rfl) g_bool (by decide +kernel)) pa_nil))) (pe_one (pe_cmpR (Ak.op_eqK (K := K) (by rfl) hr.units) (pv 0) (pv 1) (nomark _))))))
      pss_nil)
      (pss_cons (ps_if (Ak.pt_truK (K := K) (by rfl) (pe_callB (Ak.cr_isiK (K := K) (by rfl)) (by rfl) g_isinstance (by decide +kernel) (pa_cons (pv 1) (pa_cons (Ak.pe_ty (T := "str") (by rfl) g_str (by decide +kernel)) pa_nil))))
      (pss_one (ps_ret (pe_and (pe_callB (Ak.cr_isiK (K := K) (by rfl)) (by rfl) g_isinstance (by decide +kernel) (pa_cons (pv 0) (pa_cons (Ak.pe_ty (T := "str") (by rfl) g_str (by decide +kernel)) pa_nil))) (pe_one (pe_cmpR (Ak.op_eqK (K := K) (by rfl) hr.units) (pv 0) (pv 1) (nomark _))))))
      pss_nil)
      (pss_cons (ps_if (Ak.pt_truK (K := K) (by rfl) (pe_callB (Ak.cr_isiK (K := K) (by rfl)) (by rfl) g_isinstance (by decide +kernel) (pa_cons (pv 1) (pa_cons (Ak.pe_ty (T := "int") (by rfl) g_int (by decide +kernel)) pa_nil))))
      (pss_one (ps_ret (pe_and (pe_callB (Ak.cr_isiK (K := K) (by rfl)) (by rfl) g_isinstance (by decide +kernel) (pa_cons (pv 0) (pa_cons (Ak.pe_ty (T := "int") (by rfl) g_int (by decide +kernel)) pa_nil))) (pe_and (pe_not (pe_callB (Ak.cr_isiK (K := K) (by rfl)) (by rfl) g_isinstance (by decide +kernel) (pa_cons (pv 0) (pa_cons (Ak.pe_ty (T := "bool") (by rfl) g_bool (by decide +kernel)) pa_nil)))) (pe_one (pe_cmpR (Ak.op_eqK (K := K) (by rfl) hr.units) (pv 0) (pv 1) (nomark _)))))))
      pss_nil)
      (pss_cons (ps_if (pt_cmpR Ak.op_isNon (pv 1) pe_non (nomark _))
      (pss_one (ps_ret (pe_cmpR Ak.op_isNon (pv 0) pe_non (nomark _))))
      pss_nil)
      (pss_cons (ps_if (Ak.pt_truK (K := K) (by rfl) (pe_callB (Ak.cr_isiK (K := K) (by rfl)) (by rfl) g_isinstance (by decide +kernel) (pa_cons (pv 1) (pa_cons (Ak.pe_ty (T := "dict") (by rfl) g_dict (by decide +kernel)) pa_nil))))
      (pss_cons ps_never
      (pss_one ps_never))
      pss_nil)
      (pss_cons (ps_if (PW.pt (pw_or (pt_cmpR (Ak.op_neK (K := K) (by rfl) hr.units) (pe_callB (Ak.cr_isiK (K := K) (by rfl)) (by rfl) g_isinstance (by decide +kernel) (pa_cons (pv 1) (pa_cons (Ak.pe_ty (T := "tuple") (by rfl) g_tuple (by decide +kernel)) pa_nil))) (pe_callB (Ak.cr_isiK (K := K) (by rfl)) (by rfl) g_isinstance (by decide +kernel) (pa_cons (pv 0) (pa_cons (Ak.pe_ty (T := "tuple") (by rfl) g_tuple (by decide +kernel)) pa_nil))) (nomark _)) (pw_or1 (pt_cmpR (Ak.op_neK (K := K) (by rfl) hr.units) (pe_callB (Ak.cr_isiK (K := K) (by rfl)) (by rfl) g_isinstance (by decide +kernel) (pa_cons (pv 1) (pa_cons (Ak.pe_ty (T := "list") (by rfl) g_list (by decide +kernel)) pa_nil))) (pe_callB (Ak.cr_isiK (K := K) (by rfl)) (by rfl) g_isinstance (by decide +kernel) (pa_cons (pv 0) (pa_cons (Ak.pe_ty (T := "list") (by rfl) g_list (by decide +kernel)) pa_nil))) (nomark _)))))
      (pss_one (ps_ret pe_bl))
      pss_nil)
      (pss_cons (ps_if (pt_cmpR (Ak.op_neK (K := K) (by rfl) hr.units) (pe_callB (Ak.cr_lenK (K := K) (by rfl)) (by rfl) g_len (by decide +kernel) (pa_cons (pv 0) pa_nil)) (pe_callB (Ak.cr_lenK (K := K) (by rfl)) (by rfl) g_len (by decide +kernel) (pa_cons (pv 1) pa_nil)) (nomark _))
      (pss_one (ps_ret pe_bl))
      pss_nil)
      (pss_cons (ps_for (passes_of rfl) rfl (pi_range1 (by rfl) g_range (pa_cons (pe_callB (Ak.cr_lenK (K := K) (by rfl)) (by rfl) g_len (by decide +kernel) (pa_cons (pv 1) pa_nil)) pa_nil)) (pg_name (i := 3) sc_l_like.nd rfl (Or.inl rfl))
      (pss_one (ps_if (pt_not (Ak.pt_truK (K := K) (by rfl) (Ak.pe_cx c_l_like hr (by walk_at "lv") (by rfl) (takes_of rfl rfl rfl rfl) (pa_cons (pe_ix (Ak.ix_K (K := K) (by rfl)) (pv 0) (pv 3) (by intro _ _; rfl)) (pa_cons (pe_ix (Ak.ix_K (K := K) (by rfl)) (pv 1) (pv 3) (by intro _ _; rfl)) pa_nil)))))
      (pss_one (ps_ret pe_bl))
      pss_nil)))
      (pss_one (ps_ret pe_bl)))))))))), ?_⟩
    have e0 : L2.start N_l_like [x, y] = [some (x), some (y), none, none] := rfl
    rw [e0]
    try dsimp only [cxOf]
    rcases al with ⟨b, rfl, rfl⟩ | ⟨b, rfl, rfl⟩ | ⟨b, rfl, rfl⟩ | ⟨rfl, rfl⟩ | ⟨a, b, xs, ys, rfl, rfl, hx, hy, hl, hz, hk⟩ | ⟨a, b, xs, ys, rfl, rfl, hx, hy, hl, hz, hk⟩
    · walk_at "rd"
      rw [decide_eq_true rfl]
      exact k
    · walk_at "rd"
      rw [decide_eq_true rfl]
      exact k
    · walk_at "rd"
      rw [decide_eq_true rfl]
      exact k
    · walk_at "rd"
      exact k
    all_goals
      walk_at "rd"
      refine Ak.w_iteN (fun z => absurd (by rw [hl]) z) (fun _ => ?_)
      walk_at "rd"
      refine Ak.l_forR1 (by omega) (by omega) (fun _ σ H' => (∃ v, σ = [some (.ref a), some (.ref b), none, v]) ∧ H' = H) ⟨⟨none, rfl⟩, rfl⟩ (fun i σ' H' hi q => ?_) (fun σ' H' q => ?_)
      · obtain ⟨⟨v, rfl⟩, rfl⟩ := q
        have i1 : i < ys.length := by omega
        have i2 : i < xs.length := by omega
        have q1 : atI xs (i : Int) = some (xs[i]'i2) := atI_nat (List.getElem?_eq_getElem i2)
        have q2 : atI ys (i : Int) = some (ys[i]'i1) := atI_nat (List.getElem?_eq_getElem i1)
        walk_at "rd"
        refine Ak.like_go (hk i _ _ (List.getElem?_eq_getElem i2) (List.getElem?_eq_getElem i1)) ?_
        walk_at "rd"
        exact ⟨⟨_, rfl⟩, rfl⟩
      · obtain ⟨⟨v, rfl⟩, rfl⟩ := q
        walk_at "rd"
        exact k
theorem ok_like {f : Addr} {fd : FuncData} (F : L2.Fun K "_law_like" "_law_like" s_l_like f fd) (g_isinstance : mg "isinstance" = none) (g_bool : mg "bool" = none) (g_str : mg "str" = none) (g_int : mg "int" = none) (g_dict : mg "dict" = none) (g_tuple : mg "tuple" = none) (g_list : mg "list" = none)
    (g_len : mg "len" = none) (g_range : mg "range" = none) (gf : mg "_law_like" = some (.ref f)) (b : Binds K fd ["_law_found", "_law_due_here"] []) : ∀ n, CalX P w K mg base (n + 1) "_law_like" (spLike K n)
  | 0 => ⟨f, fd, ["_law_found", "_law_due_here"], ⟨fun _ _ _ _ ⟨_, _, _, al, _⟩ => al.elim, fun _ _ _ _ _ _ _ _ _ _ _ _ _ ⟨_, _, _, al, _⟩ => al.elim⟩, gf, F.kp, b⟩
  | n + 1 => ⟨f, fd, ["_law_found", "_law_due_here"], like_step F g_isinstance g_bool g_str g_int g_dict g_tuple g_list g_len g_range (ok_like F g_isinstance g_bool g_str g_int g_dict g_tuple g_list g_len g_range gf b n), gf, F.kp, b⟩
end
end Ak

namespace Ak
open PySem PySem.Spec PyProof.Rows L2
section
variable {P : Program} {w : World} {K : PySem.W.Frag} {mg : Str → Option Value} {base : Heap} {C : Addr}
theorem ok_check_number {b : Addr} {f : Addr} {fd : FuncData} (F : L2.Fun K "check_number" "check_number" s_check_number f fd) (B : BoundsT K w mg b) : FnOk P w K mg base (L2.CX P w) 1 f fd ["word", "number"] spCheckNumber := by
  refine Fun.okX F sc_check_number (fun vs H Q E h => ?_) (fun cdv A outer s H vs Q E hr h => ?_)
  · obtain ⟨_, _, _, _, rfl, _⟩ := h
    rfl
  · obtain ⟨wd, n, lo, hi, rfl, hb, h0, h1, hQ⟩ := h
    refine ⟨_, (pss_cons (ps_asg (pe_ix (Ak.ix_kd (K := K) (w := w) (by rfl) (by rfl)) (Ak.pe_cls (by rfl) B.g) (pv 0) (by intro _ _; rfl)) (Ak.pg_tupK (K := K) (n := 2) (by rfl) rfl (pgs_cons (pg_name (i := 2) sc_check_number.nd rfl (Or.inl rfl)) (pgs_cons (pg_name (i := 3) sc_check_number.nd rfl (Or.inl rfl)) pgs_nil))))
      (pss_one (ps_if (PW.pt (pw_or (pt_cmpR op_lt (pv 1) (pv 2) (nomark _)) (pw_or1 (pt_cmpR op_gt (pv 1) (pv 3) (nomark _)))))
      (pss_one ps_never)
      pss_nil))), ?_⟩
    have e0 : L2.start N_check_number [V.str wd, V.int n] = [some (V.str wd), some (V.int n), none, none] := rfl
    rw [e0]
    try dsimp only [cxOf]
    obtain ⟨t, kt, st⟩ := B.get wd lo hi hb
    walk_at "rd"
    refine ⟨b, wd, _, rfl, rfl, kt, ?_⟩
    have st' := st H
    walk_at "rd"
    refine Ak.w_ite (fun z => by omega) (fun _ => ?_)
    walk_at "rd"
    refine Ak.w_ite (fun z => by omega) (fun _ => ?_)
    walk_at "rd"
    exact hQ
end
end Ak

namespace Ak
open PySem PySem.Spec PyProof.Rows L2
section
variable {P : Program} {w : World} {K : PySem.W.Frag} {mg : Str → Option Value} {base : Heap} {C : Addr}
theorem ok_check_setting {f : Addr} {fd : FuncData} (F : L2.Fun K "check_setting" "check_setting" s_check_setting f fd) (c_check_number : CalX P w K mg base 1 "check_number" spCheckNumber) : FnOk P w K mg base (L2.CX P w) 2 f fd ["setting"] (spCheckSetting K) := by
  refine Fun.okX F sc_check_setting (fun vs H Q E h => ?_) (fun cdv A outer s H vs Q E hr h => ?_)
  · obtain ⟨_, _, _, _, _, rfl, _⟩ := h
    rfl
  · obtain ⟨q, m, w, l, a, rfl, hq, so, k⟩ := h
    obtain ⟨so1, so2, so3, so4, so5, so6, so7, so8⟩ := so
    refine ⟨_, (pss_cons (ps_asg (pv 0) (Ak.pg_tupK (K := K) (n := 4) (by rfl) rfl (pgs_cons (pg_name (i := 1) sc_check_setting.nd rfl (Or.inl rfl)) (pgs_cons (pg_name (i := 2) sc_check_setting.nd rfl (Or.inl rfl)) (pgs_cons (pg_name (i := 3) sc_check_setting.nd rfl (Or.inl rfl)) (pgs_cons (pg_name (i := 4) sc_check_setting.nd rfl (Or.inl rfl)) pgs_nil))))))
      (pss_cons (ps_expr (Ak.pe_cx c_check_number hr (by walk_at "lv") (by rfl) (takes_of rfl rfl rfl rfl) (pa_cons pe_str (pa_cons (pv 1) pa_nil))))
      (pss_cons (ps_expr (Ak.pe_cx c_check_number hr (by walk_at "lv") (by rfl) (takes_of rfl rfl rfl rfl) (pa_cons pe_str (pa_cons (pv 2) pa_nil))))
      (pss_cons (ps_expr (Ak.pe_cx c_check_number hr (by walk_at "lv") (by rfl) (takes_of rfl rfl rfl rfl) (pa_cons pe_str (pa_cons (pv 3) pa_nil))))
      (pss_one (ps_expr (Ak.pe_cx c_check_number hr (by walk_at "lv") (by rfl) (takes_of rfl rfl rfl rfl) (pa_cons pe_str (pa_cons (pv 4) pa_nil))))))))), ?_⟩
    have e0 : L2.start N_check_setting [V.ref q] = [some (V.ref q), none, none, none, none] := rfl
    rw [e0]
    try dsimp only [cxOf]
    walk_at "rd"
    refine ⟨_, _, _, _, rfl, .marks, so1, so2, ?_⟩
    walk_at "rd"
    refine ⟨_, _, _, _, rfl, .wide, so3, so4, ?_⟩
    walk_at "rd"
    refine ⟨_, _, _, _, rfl, .late, so5, so6, ?_⟩
    walk_at "rd"
    refine ⟨_, _, _, _, rfl, .ahead, so7, so8, ?_⟩
    walk_at "rd"
    exact k _ Keep.refl
end
end Ak

namespace Ak
open PySem PySem.Spec PyProof.Rows L2
theorem log2_small {n : Nat} (h : n < 1152921504606846976) : n.log2 < 60 := by
  rcases Nat.eq_zero_or_pos n with rfl | z
  · decide
  · exact (Nat.log2_lt (by omega)).mpr h
theorem dec_len {i : Int} (h2 : i.natAbs < 2 ^ 59) : (Str.ofString (toString i)).length ≤ 100 := by
  have e := int_text_length_le (a := i) (k := 60) (by decide) (log2_small (by omega))
  rw [PySem.ofString_length]
  omega
section
variable {σ : L2.St} {H : Hp} {ts : List TE} {acc c : Str} {Q : Str → Hp → Prop} {te : TE} {i : Int} {R : VK}
theorem j_nil (h : Q acc H) : tJs [] acc σ H Q := h
theorem j_c (hl : acc.length + c.length ≤ 2000) (h : tJs ts (acc ++ c) σ H Q) : tJs (tC (.str c) :: ts) acc σ H Q := ⟨c, rfl, by rw [Str.length_append, sizeLine_eq]; omega, h⟩
def kJ (acc : Str) (ts : List TE) (σ : L2.St) (Q : Str → Hp → Prop) (x : V) (H1 : Hp) : Prop := ∃ y : Str, x = .str y ∧ (acc ++ y).length ≤ sizeLine ∧ tJs ts (acc ++ y) σ H1 Q
theorem j_t (h : te σ H fun x H1 => kJ acc ts σ Q x H1) : tJs (te :: ts) acc σ H Q := h
theorem k_J {y : Str} (hl : acc.length + y.length ≤ 2000) (h : tJs ts (acc ++ y) σ H Q) : kJ acc ts σ Q (.str y) H := ⟨y, rfl, by rw [Str.length_append, sizeLine_eq]; omega, h⟩
def kF (R : VK) (x : V) (H1 : Hp) : Prop := (∃ y : Str, x = .str y ∧ y.length ≤ sizeLine ∧ R (.str y) H1) ∨ ∃ i : Int, x = .int i ∧ i.natAbs.log2 < 1920 ∧ R (.str (toString i)) H1
theorem w_fmtK (h : te σ H fun x H1 => kF R x H1) : tFmt te σ H R := h
theorem k_Fi (hb : i.natAbs < 2 ^ 59) (h : R (.str (Str.ofString (toString i))) H) : kF R (.int i) H := Or.inr ⟨i, rfl, by have := log2_small (n := i.natAbs) (by omega); omega, h⟩
theorem k_Fs {y : Str} (hl : y.length ≤ 2000) (h : R (.str y) H) : kF R (.str y) H := Or.inl ⟨y, rfl, by rw [sizeLine_eq]; omega, h⟩
end
section
variable {P : Program} {w : World} {K : PySem.W.Frag} {mg : Str → Option Value} {base : Heap} {C2 C3 : Addr}
theorem ok_markX {f : Addr} {fd : FuncData} (F : L2.Fun K "check_mark" "check_mark" s_check_mark f fd) (x_BadMark : RaiseC K mg "BadMark" C2) : FnOk P w K mg base (L2.CX P w) 1 f fd ["mark", "marks"] (spMarkX C2) := by
  refine Fun.okX F sc_check_mark (fun vs H Q E h => ?_) (fun cdv A outer s H vs Q E hr h => ?_)
  · obtain ⟨_, _, rfl, _⟩ := h
    rfl
  · obtain ⟨k, m, rfl, hk, kg, kb⟩ := h
    refine ⟨_, (pss_one (ps_if (PW.pt (pw_or (pt_cmpR op_lt (pv 0) pe_int (nomark _)) (pw_or1 (pt_cmpR op_ge (pv 0) (pv 1) (nomark _)))))
      (pss_one (ps_raise rfl (takes_of rfl rfl rfl rfl) (pmk_ownA PySem.F.excBase_ValueError x_BadMark.q x_BadMark.g x_BadMark.k x_BadMark.r rfl (pa_cons (pe_joined (.cons pe_str (.cons (pe_fmt (pv 0)) .nil))) pa_nil))))
      pss_nil)), ?_⟩
    have e0 : L2.start N_check_mark [V.int k, V.int m] = [some (V.int k), some (V.int m)] := rfl
    rw [e0]
    try dsimp only [cxOf]
    walk_at "rd"
    have dl := dec_len hk
    have raise1 : ∀ R : Str → Hp → Prop, (∀ out, R out H) → tJs [tC (.str "there is no mark "), tFmt (tVar 0)] Str.empty [some (.int k), some (.int m)] H R := fun R hR => by
      refine j_c (by decide +kernel) ?_
      refine j_t (w_fmtK ?_)
      refine Ak.w_var (by exact rfl) ?_
      refine k_Fi hk ?_
      refine k_J ?_ (j_nil (hR _))
      have : (Str.empty ++ Str.ofString "there is no mark ").length ≤ 100 := by decide +kernel
      omega
    refine Ak.w_ite (fun z => ?_) (fun z => ?_)
    · walk_at "rd"
      refine raise1 _ fun out => ?_
      exact ⟨by show 1 ≤ sizeLine; decide, kb fun h => by have := h.1; omega⟩
    · walk_at "rd"
      refine Ak.w_ite (fun z2 => ?_) (fun z2 => ?_)
      · walk_at "rd"
        refine raise1 _ fun out => ?_
        exact ⟨by show 1 ≤ sizeLine; decide, kb fun h => by have := h.2; omega⟩
      · walk_at "rd"
        exact kg ⟨by omega, by omega⟩
theorem ok_bitsX {f : Addr} {fd : FuncData} (F : L2.Fun K "check_bits" "check_bits" s_check_bits f fd) (g_len : mg "len" = none) (x_BadBits : RaiseC K mg "BadBits" C3) : FnOk P w K mg base (L2.CX P w) 1 f fd ["bits", "wide"] (spBitsX K C3) := by
  refine Fun.okX F sc_check_bits (fun vs H Q E h => ?_) (fun cdv A outer s H vs Q E hr h => ?_)
  · obtain ⟨_, _, _, rfl, _⟩ := h
    rfl
  · obtain ⟨b, bs, wi, rfl, hb, hl, hw, hx, kg, kb⟩ := h
    refine ⟨_, (pss_cons (ps_if (pt_cmpR (Ak.op_neK (K := K) (by rfl) hr.units) (pe_callB (Ak.cr_lenK (K := K) (by rfl)) (by rfl) g_len (by decide +kernel) (pa_cons (pv 0) pa_nil)) (pv 1) (nomark _))
      (pss_one (ps_raise rfl (takes_of rfl rfl rfl rfl) (pmk_ownA PySem.F.excBase_ValueError x_BadBits.q x_BadBits.g x_BadBits.k x_BadBits.r rfl (pa_cons (pe_joined (.cons (pe_fmt (pe_callB (Ak.cr_lenK (K := K) (by rfl)) (by rfl) g_len (by decide +kernel) (pa_cons (pv 0) pa_nil))) (.cons pe_str (.cons (pe_fmt (pv 1)) .nil)))) pa_nil))))
      pss_nil)
      (pss_one (ps_for (passes_of rfl) rfl (Ak.pi_tupK (K := K) (by rfl) (pv 0)) (pg_name (i := 2) sc_check_bits.nd rfl (Or.inl rfl))
      (pss_one (ps_if (pt_cmpR (Ak.op_ninK (K := K) (by rfl)) (pv 2) (pe_tup (pa_cons pe_int (pa_cons pe_int pa_nil))) (by rfl))
      (pss_one (ps_raise rfl (takes_of rfl rfl rfl rfl) (pmk_ownA PySem.F.excBase_ValueError x_BadBits.q x_BadBits.g x_BadBits.k x_BadBits.r rfl (pa_cons (pe_joined (.cons (pe_fmt (pv 2)) (.cons pe_str .nil))) pa_nil))))
      pss_nil))))), ?_⟩
    have e0 : L2.start N_check_bits [V.ref b, V.int wi] = [some (V.ref b), some (V.int wi), none] := rfl
    rw [e0]
    try dsimp only [cxOf]
    have lm : (bs.map V.int).length = bs.length := List.length_map _
    walk_at "rd"
    refine Ak.w_iteN (fun z => ?_) (fun z => ?_)
    · rw [lm] at z
      walk_at "rd"
      refine j_t (w_fmtK ?_)
      walk_at "rd"
      rw [lm]
      have d1 := dec_len (i := (bs.length : Int)) (by omega)
      have d2 := dec_len hw
      have d3 : (Str.ofString " bits instead of ").length ≤ 100 := by decide +kernel
      have d0 : Str.empty.length = 0 := rfl
      refine k_Fi (by omega) (k_J (by omega) ?_)
      refine j_c (by rw [Str.length_append]; omega) ?_
      refine j_t (w_fmtK ?_)
      walk_at "rd"
      refine k_Fi hw (k_J (by rw [Str.length_append, Str.length_append]; omega) (j_nil ?_))
      exact ⟨by show 1 ≤ sizeLine; decide, kb (fun h => z h.1) _ Keep.refl⟩
    · rw [lm] at z
      walk_at "rd"
      refine l_forTup hb (fun i σ' H' => ∃ v, σ' = [some (.ref b), some (.int wi), v] ∧ Keep [] H H' ∧ ∀ x, x ∈ bs.take i → x = 0 ∨ x = 1) ⟨none, rfl, Keep.refl, fun x hx => absurd hx (by simp)⟩ (fun i σ' H' _ pv => by obtain ⟨_, _, pv, _⟩ := pv; exact pv.seqT nin_nil hb) (fun i x σ' H' hx' pv => ?_) (fun σ' H' pv => ?_)
      · obtain ⟨v, rfl, hk, hall⟩ := pv
        obtain ⟨y, hy, rfl⟩ := map_at hx'
        walk_at "rd"
        rename_i t nt
        have k1 : Keep [] H (upd H' t (.tup [.int 0, .int 1])) := hk.new nt
        refine w_ninO upd_same rfl rfl rfl ?_
        have e01 : inV (.int y) [V.int 0, V.int 1] = decide (y ∈ [(0 : Int), 1]) := inV_ints y [0, 1]
        rw [e01]
        walk_at "rd"
        refine Ak.w_iteN (fun z2 => ?_) (fun z2 => ?_)
        · walk_at "rd"
          refine j_t (w_fmtK ?_)
          walk_at "rd"
          have d1 := dec_len (hx y (List.mem_of_getElem? hy))
          have d0 : Str.empty.length = 0 := rfl
          have d3 : (Str.ofString " is no bit").length ≤ 100 := by decide +kernel
          refine k_Fi (hx y (List.mem_of_getElem? hy)) (k_J (by omega) ?_)
          refine j_c (by rw [Str.length_append]; omega) (j_nil ?_)
          exact ⟨by show 1 ≤ sizeLine; decide, kb (fun h => z2 (by
            have := h.2 y (List.mem_of_getElem? hy)
            simpa using this)) _ k1⟩
        · walk_at "rd"
          refine ⟨_, rfl, k1, fun x hx2 => ?_⟩
          rw [take_at hy] at hx2
          rcases List.mem_append.mp hx2 with h | h
          · exact hall x h
          · rw [List.mem_singleton.mp h]
            simpa using z2
      · obtain ⟨v, rfl, hk, hall⟩ := pv
        rw [lm, List.take_length] at hall
        walk_at "rd"
        exact kg ⟨z, hall⟩ _ hk
theorem ok_tellX {f : Addr} {fd : FuncData} (F : L2.Fun K "check_telling" "check_telling" s_check_telling f fd) (c_check_mark : CalX P w K mg base 1 "check_mark" (spMarkX C2)) (c_check_bits : CalX P w K mg base 1 "check_bits" (spBitsX K C3)) : FnOk P w K mg base (L2.CX P w) 2 f fd ["told", "marks", "wide"] (spTellX K C2 C3) := by
  refine Fun.okX F sc_check_telling (fun vs H Q E h => ?_) (fun cdv A outer s H vs Q E hr h => ?_)
  · obtain ⟨_, _, _, _, _, _, rfl, _⟩ := h
    rfl
  · obtain ⟨q, b, bs, k, m, wi, rfl, hq, hb, hl, hw, hk, hx, k1, k2, k3⟩ := h
    refine ⟨_, (pss_cons (ps_asg (pv 0) (Ak.pg_tupK (K := K) (n := 2) (by rfl) rfl (pgs_cons (pg_name (i := 3) sc_check_telling.nd rfl (Or.inl rfl)) (pgs_cons (pg_name (i := 4) sc_check_telling.nd rfl (Or.inl rfl)) pgs_nil))))
      (pss_cons (ps_expr (Ak.pe_cx c_check_mark hr (by walk_at "lv") (by rfl) (takes_of rfl rfl rfl rfl) (pa_cons (pv 3) (pa_cons (pv 1) pa_nil))))
      (pss_one (ps_expr (Ak.pe_cx c_check_bits hr (by walk_at "lv") (by rfl) (takes_of rfl rfl rfl rfl) (pa_cons (pv 4) (pa_cons (pv 2) pa_nil))))))), ?_⟩
    have e0 : L2.start N_check_telling [V.ref q, V.int m, V.int wi] = [some (V.ref q), some (V.int m), some (V.int wi), none, none] := rfl
    rw [e0]
    try dsimp only [cxOf]
    walk_at "rd"
    refine ⟨k, m, rfl, hk, fun ok => ?_, fun no => k1 no⟩
    walk_at "rd"
    refine ⟨b, bs, wi, rfl, hb, hl, hw, hx, fun ok2 H' k' => ?_, fun no H' k' => k2 ok no H' k'⟩
    walk_at "rd"
    exact k3 ok ok2 H' k'
end
end Ak

namespace Ak
open PySem PySem.Spec PyProof.Rows L2
/-! ### super().__init__(x) in the __init__ of an own error over an own class over ValueError -/
section
open PySem.W
variable {prog : Program} {w : World} {A : Around} {E : Value → Shared → Prop} {hh : Heap} {g : Array GenState} {d : Drawn} {tk : Nat} {os : OsState} {B i newId : String} {bmB : List Value}
theorem sup_run {nm q : Str} {C N u x t : Addr} {bs bm : List Value} {hdct : Bool} {sn : List Str} {sub : List Value} {ab : Bool} {col : Option Bool} {dd dv : Option Addr} {k0 k1 k2 k3 k5 : Option Value} {c2 : Value} {rest : List Value} {Q : Value → Shared → Prop} (FB : ExcBaseFacts B newId i bmB)
    (hC : hh.get? C = some (excClassObj nm q C N bs bm hdct sn sub ab col dd k0 k1 k2 k3 k5 newId)) (he : hh.get? x = some (excObj C t dv c2)) (hu : hh.get? u = some (kxs_mw i x)) (hz : rest.length ≤ sizeLine)
    (h : ∀ h', (∀ b o, b ≠ x → hh.get? b = some o → h'.get? b = some o) → h'.get? x = some (excObj C hh.objs.size dv c2) → Q .none ⟨h', g, d, tk, os⟩) : wpAny (model prog w) A (call (.ref u) rest) Q E ⟨hh, g, d, tk, os⟩ := by
  refine wpAny_call (codeAny_of_tree ?_)
  show wpAny _ A.in1 (callAny (.ref u) ⟨rest, []⟩) _ _ _
  simp only [callAny]
  refine wpAny_bind (wpAny_load hu ?_)
  simp only [kxs_mw, show (Value.type "method-wrapper" == Value.type "method" || Value.type "method-wrapper" == Value.type "builtin_function_or_method" || Value.type "method-wrapper" == Value.type "method-wrapper") = true by decide, if_true]
  refine KFB.if_so (by decide) ?_
  refine wpAny_bind (check_bound_init FB.toExcCallFacts hC he rfl ?_)
  refine wpAny_bind (wpAny_pure (wpAny_pure ?_))
  refine ⟨plainId_quiet FB.init.plain _, codeAny_builtin FB.initEntry ?_⟩
  exact exc_init_tree (cls := .ref C) (t0 := t) (dv := dv) (c2 := c2) (c3 := .none) (b4 := .bool false) he hz fun h' k e _ => h h' k e
end
/-- what the written part says of the __init__ at f of the error at C -/
structure SupF (P : Program) (K : PySem.W.Frag) (mg : Str → Option Value) (C f cc cda : Addr) (fd : FuncData) (slf : Str) (of cx : Value) (od cd : Option Addr) (osl csl : Array (Option Value)) (vs : Array Value) (file : Str) (tf : Tok) (cl : Value) (cld : Option Addr) (cls : Array (Option Value)) : Prop where
  lk : K.lookup f = some ⟨of, od, .func fd, osl⟩
  arg : ∃ ar, (fd.params.posonlyargs ++ fd.params.args).head? = some ar ∧ ar.arg = slf
  lc : K.lookup cda = some ⟨cx, cd, .fields vs, csl⟩
  vs2 : vs[2]? = some (.str file tf)
  fl : ((P.main.file : Str) == file) = true
  tp : (P.main.scope.names.lookup ("super" : Str)).isSome = false
  ce : K.lookup cc = some ⟨cl, cld, .cell (some (.ref C)), cls⟩
  dc : (PySem.W.clsIn K C).isSome = true
  sb : PySem.W.mroIn K C (.ref C) = some true
  nm : mg "super" = none
  op : PySem.W.nsIn K cStatics "thirdparty.any" = some none
  su : PySem.W.ks_superIn K C C "__init__" = some (some (.builtin "ValueError.__init__"))
  sv : PySem.W.subIn K (.ref C) (.type "ValueError") = some true
section
variable {X : Cx} {pins : List (Addr × Obj)} {σ : L2.St} {H : Hp} {s : Shared} {a C f cc cda : Addr} {fd : FuncData} {slf : Str} {of cx : Value} {od cd : Option Addr} {osl csl : Array (Option Value)} {vs : Array Value} {file : Str} {tf : Tok} {cl : Value} {cld : Option Addr} {cls : Array (Option Value)}
theorem sup_eval {body : List Stmt} {e : Expr} {es : List Expr} {p0 p1 p2 pos : Pos} {pl : Sem Bool} {t : TA} {R : Hp → Prop} (S : SupF X.prog X.K X.mg C f cc cda fd slf of cx od cd osl csl vs file tf cl cld cls) (T : OexC X.K C) (I : Inv X pins σ H s) (ea : H a = some (exo a C none))
    (hself : σ[0]? = some (some (.ref a))) (hN : X.N[0]? = some slf) (hks : X.env.scope.names.lookup ("super" : Str) = some .globalImplicit) (hkc : X.env.scope.names.lookup ("__class__" : Str) = some .free) (hka : X.env.scope.names.lookup slf = some .local)
    (hfu : X.env.func = some f) (hco : X.env.code = .ref cda) (hcl : X.env.cells.lookup ("__class__" : Str) = some cc) (ha : PA X (e :: es) t)
    (hq : t σ H fun vs H1 => vs.length ≤ 1000 ∧ H1 a = some (exo a C none) ∧ R H1)
    (hmc : eval (.Call (.Attribute (.Call (.Name "super" p0) [] [] p1) "__init__" p2) (e :: es) [] pos) X.env = (do
      let ov ← attributeBase (.Call (.Name "super" p0) [] [] p1) "__init__" X.env (eval (.Call (.Name "super" p0) [] [] p1) X.env)
      standAt p2.atName
      let (f, first) ← holding [ov] (getMethod ov "__init__" pl)
      callWith pos f first (backTo pos (starEach (e :: es) X.env)) []))
    (he : starEach (e :: es) X.env = (false, eval e X.env) :: starEach es X.env) (hpl : (backTo pos (starEach es X.env)).any (·.1) = false) :
    PySem.wpAt (model X.prog X.w) X.A (.func body X.env) (eval (.Call (.Attribute (.Call (.Name "super" p0) [] [] p1) "__init__" p2) (e :: es) [] pos) X.env) (fun _ s' => ∃ H', Inv X pins σ H' s' ∧ R H') X.xe s := by
  obtain ⟨nm, q, N, bs, bm, sn, sub, ab, col, dd, k0, k1, k2, k3, k5, hC, hbm⟩ := T.cls
  have X0 := I.kIn
  obtain ⟨t1, ho⟩ := exo_at I.hok ea
  obtain ⟨ar, har, harg⟩ := S.arg
  obtain ⟨m, hns, hloc⟩ := I.loc
  obtain ⟨u0, ru0, hlk⟩ := hloc 0 slf _ hN hself (.inl hka)
  obtain rfl : u0 = Value.ref a := ru0
  have hma : m slf = some (.ref a) := by
    rcases hlk with ⟨_, h⟩ | ⟨h, _⟩
    · exact h
    · exfalso
      have hk : X.env.kindOf slf = some .local := hka
      rcases h with h | h <;> (rw [hk] at h; cases h)
  obtain ⟨cdC, hcd⟩ := Option.isSome_iff_exists.mp S.dc
  obtain ⟨oD, hD1, hD2⟩ : ∃ oD, s.heap.get? C = some oD ∧ oD.data = .cls cdC := by
    unfold PySem.W.clsIn at hcd
    split at hcd
    · rename_i c d cd' sl hoC
      cases hcd
      exact ⟨_, X0 _ _ hoC, rfl⟩
    · cases hcd
  refine PySem.ks_wpAt_MethodCall ?_ hmc
  refine PySem.ks_wpAt_super_base hks hkc (by decide) hfu (X0 _ _ S.lk) rfl har hco (X0 _ _ S.lc) rfl S.vs2 S.fl S.tp ?_
  obtain ⟨mb, hb1, hb2⟩ := I.ok.mod.blt
  refine PySem.W.ks_loadName_global I.ok.kind hks (Calls.loadGlobal_builtin (by rw [I.ok.glob]; exact I.ok.mod.glob.keeps I.bk) S.nm (by rw [I.ok.blt]; exact hb1.keeps I.bk) ((hb2 "super" (by decide)).trans (by first | rfl | kernel_rfl)) ⟨rfl, ?_⟩)
  refine wpAny_loadName_free I.ok.kind hkc hcl ⟨_, X0 _ _ S.ce, rfl⟩ ?_
  rw [harg]
  refine wpAny_loadName_local I.ok.kind hka hns hma ?_
  obtain ⟨hp, g, d, tk, os⟩ := s
  refine PySem.ks_wpAny_isType_cls hD1 hD2 ⟨rfl, ?_⟩
  refine PySem.ks_wpAny_call_super hD1 hD2 ho rfl (fun c z => by cases z) (PySem.W.looks_mroIn X0 S.sb) (fun h1 e1 kk1 => ?_)
  have I1 : Inv X pins σ H ⟨h1, g, d, tk, os⟩ := I.kept (s := ⟨hp, g, d, tk, os⟩) (t' := tk) kk1
  have ho1 := kk1 _ _ ho
  have inst : PySem.W.InstAt h1 a { cls := .ref C, dict := none, data := .fields #[.ref t1, .none, .none, .none, .bool false, .none] } C none := ⟨ho1, rfl, rfl, trivial⟩
  have hsu := S.su
  unfold PySem.W.ks_superIn at hsu
  rw [hcd, Option.bind_some] at hsu
  have hI : PySem.W.Looks (model X.prog X.w) h1 (isInstance (.ref a) (.type "ValueError")) true := inst.type.andThen (PySem.W.looks_subIn I1.kIn S.sv)
  refine PySem.W.kxs_getMethod PySem.W.kxs_ValueError e1 (PySem.W.looks_opaque I1.kIn S.op) (l₀ := cdC.mro) (fun A Q E s k q => wpAny_bind ((PySem.W.looks_clsIn I1.kIn hcd) A _ E s k (wpAny_pure q))) rfl I1.kIn hsu hI (PySem.W.ks_ne I1.kIn inst hcd) (by decide) ?_
  have hu : (h1.push (PySem.W.kxs_mw "ValueError.__init__" a)).get? h1.objs.size = some (PySem.W.kxs_mw "ValueError.__init__" a) := Heap.get?_push_at rfl rfl
  have I2 : Inv X pins σ H ⟨h1.push (PySem.W.kxs_mw "ValueError.__init__" a), g, d, tk + 1, os⟩ := I1.kept (s := ⟨h1, g, d, tk, os⟩) (t' := tk + 1) (fun b o z => Heap.get?_push_of_some _ z)
  have I3 := I2.pinned (fp := [h1.objs.size]) (fun b hb => by rw [List.mem_singleton.mp hb]; exact I1.fpOk (Nat.le_refl _) (I1.hok.fresh (Nat.le_refl _))) (fun b hb => by rw [List.mem_singleton.mp hb]; exact ⟨_, hu, fun v z => by cases z⟩)
  rw [he]
  refine PySem.W.kxs_callWith (i := "ValueError.__init__") (x := a) (by show (false || (backTo pos (starEach es X.env)).any (·.1)) = false; rw [hpl]; rfl) ?_
  refine Calls.evalArgs_plain ?_
  have har2 := ha.run pos _ _ σ H _ I3 hq
  rw [he] at har2
  refine thn har2 fun us s1 ⟨ws, H1, I4, r1, hl, ea1, hR⟩ => ?_
  have hpin := I4.pin (h1.objs.size, PySem.W.kxs_mw "ValueError.__init__" a) (List.mem_append_right _ (List.mem_append_right _ (by
    unfold pinsAt
    rw [List.filterMap_cons, show (Heap.get? (Shared.heap ⟨h1.push (PySem.W.kxs_mw "ValueError.__init__" a), g, d, tk + 1, os⟩) h1.objs.size) = _ from hu]
    exact List.mem_cons_self)))
  refine ⟨hpin.1, ?_⟩
  obtain ⟨t2, ho2⟩ := exo_at I4.hok ea1
  obtain ⟨hp1, g1, d1, tk1, os1⟩ := s1
  have hlen : us.length ≤ sizeLine := by
    rw [← r1.length, sizeLine_eq]
    omega
  show wpAny _ _ (call (.ref h1.objs.size) us) _ _ _
  refine sup_run PySem.F.excBase_ValueError (I4.kIn _ _ hC) ho2 hpin.1 hlen (fun h' k hx => ?_)
  have J := I4.unpinned.write (s := ⟨hp1, g1, d1, tk1, os1⟩) (t' := tk1) (x := a) (e := a) (o := exo a C none) (by rw [ea1]; exact True.intro) (.inl rfl) k ⟨_, hx⟩ (exo_ok hx)
  have eu : upd H1 a (exo a C none) = H1 := by
    funext b
    by_cases hb : b = a
    · rw [hb, upd_same, ea1]
    · rw [upd_ne hb]
  rw [eu] at J
  exact ⟨H1, J, hR⟩
end
/-- an own error is made: self.fld = v, nothing else is told -/
def spSup (K : PySem.W.Frag) (C : Addr) (fld : Str) : Sp := fun vs H Q _ => ∃ (a : Addr) (v : V), vs = [.ref a, v] ∧ ((∃ i, v = .int i ∧ i.natAbs < 2 ^ 59) ∨ ∃ z : Str, v = .str z ∧ z.length ≤ 100) ∧ OexC K C ∧ H a = some (exo a C none) ∧
  ∀ dx, H dx = none → dx ≠ a → Q .non (upd (upd H dx (exd dx [(fld, v)])) a (exo a C (some dx)))
abbrev supD (qual : Str) (st : Stmt) (cc cda : Addr) (kV doc pm ct : Value) (an : Option Addr) : FuncData := PySem.W.fnX "__init__" qual (defArgs st) (defBody st) (defScope st) [("__class__", cc)] .none kV doc pm an (.ref cda) ct
abbrev supN (qual : Str) (st : Stmt) (cc cda : Addr) : NdefX.NF := ⟨"__init__", qual, defArgs st, defBody st, defScope st, [("__class__", cc)], cda⟩
theorem sup_fn {P : Program} {w : World} {K : PySem.W.Frag} {mg : Str → Option Value} {base : Heap} {k : Nat} {C f cc cda : Addr} {st : Stmt} {qual prm fld : Str} {kV doc pm ct : Value} {an : Option Addr} {of cx : Value} {od cd : Option Addr} {osl csl : Array (Option Value)} {vs : Array Value} {file : Str} {tf : Tok} {cl : Value} {cld : Option Addr} {cls : Array (Option Value)}
    {arg : Expr} {p0 p1 p2 p3 p4 p5 p6 p7 p8 : Pos} {t : TA}
    (S : SupF P K mg C f cc cda (supD qual st cc cda kV doc pm ct an) "self" of cx od cd osl csl vs file tf cl cld cls) (hcd : PySem.W.codeIn K (.ref cda) qual = true)
    (NS : NdefX.NScope ["self", prm, "__class__"] ["self", prm] ["__class__"] (defScope st)) (hks : (defScope st).names.lookup ("super" : Str) = some .globalImplicit)
    (hbody : defBody st = [.Expr (.Call (.Attribute (.Call (.Name "super" p0) [] [] p1) "__init__" p2) [arg] [] p3) p4, .Assign [.Attribute (.Name "self" p5) fld p6] (.Name prm p7) p8])
    (hno : PySem.W.findIn K (.ref C) fld = some none)
    (hmc : ∀ env : Env, eval (.Call (.Attribute (.Call (.Name "super" p0) [] [] p1) "__init__" p2) [arg] [] p3) env = (do
      let ov ← attributeBase (.Call (.Name "super" p0) [] [] p1) "__init__" env (eval (.Call (.Name "super" p0) [] [] p1) env)
      standAt p2.atName
      let (f, first) ← holding [ov] (getMethod ov "__init__" (pure false))
      callWith p3 f first (backTo p3 (starEach [arg] env)) []))
    (hse : ∀ env : Env, starEach [arg] env = (false, eval arg env) :: starEach [] env)
    (hsw : ∀ env : Env, swapsWith (.Call (.Attribute (.Call (.Name "super" p0) [] [] p1) "__init__" p2) [arg] [] p3) none p4.line env = pure false)
    (hprm : (prm == ("__debug__" : Str)) = false) (hprm2 : (prm == ("__classdict__" : Str)) = false)
    (ha : ∀ (A : Around) (outer : List Env) (s : Shared) (H : Hp) (E : XK), Room k (A.deeper (NdefX.envF (supN qual st cc cda) f s.heap.objs.size)) → PA (NdefX.ncx (L2.CX P w) P w K mg base ["self", prm, "__class__"] (supN qual st cc cda) f A outer s H E) [arg] t)
    (hta : ∀ (a : Addr) (v : V) (H : Hp) (Q : List V → Hp → Prop), ((∃ i, v = .int i ∧ i.natAbs < 2 ^ 59) ∨ ∃ z : Str, v = .str z ∧ z.length ≤ 100) → (∀ z : Str, Q [.str z] H) → t [some (.ref a), some v, some (.ref C)] H Q) :
    FnOk P w K mg base (L2.CX P w) (k + 1) f (supD qual st cc cda kV doc pm ct an) ["self", prm] (spSup K C fld) := by
  refine ⟨fun vs H Q E h => ?_, fun A outer s H args us vs Q E hr e0 hb r hsp => ?_⟩
  · obtain ⟨a, v, rfl, _⟩ := h
    rfl
  · obtain ⟨a, v, rfl, hv, T, ea, hq⟩ := hsp
    have KX : K.In s.heap := e0.mod.kin.keeps fun b o e => (e0.bs b o e).1
    have lim : s.heap.NoLimit := e0.mod.nolimit.keeps fun b o e => (e0.bs b o e).1
    refine PySem.ks_codeAny_call_defAt (fd := supD qual st cc cda kV doc pm ct an) (body := defBody st) hr.depth (KX _ _ S.lk) rfl lim (PySem.W.codeRec_of KX hcd) rfl hb NS.nocell (fun ⟨n, _⟩ hy => NS.par n (List.of_mem_zip hy).1) (fun h1 hns kp => ?_) NS.co NS.gen NS.kind
    have hcc : s.heap.get? cc = some ⟨cl, cld, .cell (some (.ref C)), cls⟩ ∧ H cc = none := e0.bs _ _ (e0.mod.kin _ _ S.ce)
    have CA : NdefX.CellsAt [("__class__", cc)] ["__class__"] [some (.ref C)] s.heap H := by
      refine ⟨rfl, fun y c e => ?_, fun x y c e1 e2 => ?_, fun i y e => ?_⟩
      · have e' : c = cc ∧ y = "__class__" := by
          by_cases z : y = "__class__"
          · subst z
            exact ⟨(by simpa using e.symm), rfl⟩
          · exfalso
            have : (y == ("__class__" : Str)) = false := by simpa using z
            simp [List.lookup, this] at e
        rw [e'.1]
        exact ⟨hcc.2, _, _, hcc.1, rfl⟩
      · have key : ∀ {y : Str}, List.lookup y [(("__class__" : Str), cc)] = some c → y = "__class__" := fun {y} e => by
          by_cases z : y = "__class__"
          · exact z
          · exfalso
            have : (y == ("__class__" : Str)) = false := by simpa using z
            simp [List.lookup, this] at e
        rw [key e1, key e2]
      · match i, e with
        | 0, e =>
          cases e
          exact ⟨cc, by simp, fun v hv => by cases hv; exact ⟨.ref C, rfl, _, hcc.1, rfl⟩⟩
        | i + 1, e => cases e
    have I : Inv (NdefX.ncx (L2.CX P w) P w K mg base ["self", prm, "__class__"] (supN qual st cc cda) f A outer s H E) [] (NdefX.startF ["self", prm, "__class__"] [.ref a, v] [some (.ref C)]) H { s with heap := h1, toks := s.toks + ((["self", prm] : List Str).zip us).length } :=
      NdefX.inv_startN (F := supN qual st cc cda) NS hr.hd e0 rfl r CA hns kp
    have est : NdefX.startF ["self", prm, "__class__"] [.ref a, v] [some (.ref C)] = [some (.ref a), some v, some (.ref C)] := rfl
    rw [est] at I
    have hpar := NS.par
    have hself : (defScope st).names.lookup ("self" : Str) = some .local := hpar _ List.mem_cons_self
    have hprmL : (defScope st).names.lookup prm = some .local := hpar _ (List.mem_cons_of_mem _ List.mem_cons_self)
    have hcls : (defScope st).names.lookup ("__class__" : Str) = some .free := NS.frk _ List.mem_cons_self
    have hpa := ha A outer s H E (hr.deeper _)
    have hcel : List.lookup ("__class__" : Str) [(("__class__" : Str), cc)] = some cc := by simp [List.lookup]
    rw [hbody]
    refine PySem.ks_wpAt_execs_cons (PySem.ks_wpAt_Expr_any (PySem.ks_wpAt_mono (sup_eval (R := fun H1 => H1 = H) S T I ea rfl rfl hks hcls hself rfl rfl hcel hpa (hta a v H _ hv fun z => ⟨by simp, ea, rfl⟩) (hmc _) (hse _) rfl) (fun v' s' hs' => ?_) (fun e s' z => z)) (by unfold interactive; rw [show (callEnv (supD qual st cc cda kV doc pm ct an) s.heap.objs.size f).scope.kind = .function from NS.kind]; rfl) (hsw _))
    obtain ⟨H', I', rfl⟩ := hs'
    refine PySem.wpAt_of_wpAny ?_
    have hp0 : PE (NdefX.ncx (L2.CX P w) P w K mg base ["self", prm, "__class__"] (supN qual st cc cda) f A outer s H' E) (.Name "self" p5) (tVar 0) := pv 0 rfl (.inl hself)
    have hp1 : PE (NdefX.ncx (L2.CX P w) P w K mg base ["self", prm, "__class__"] (supN qual st cc cda) f A outer s H' E) (.Name prm p7) (tVar 1) := pv 1 rfl (.inl hprmL) hprm hprm2
    have ps := pss_one (ps_ost (f := fld) (p' := p6) (pos := p8) hp0 hp1)
    refine wpAny_mono (ps.run [] s' _ H' { nx := fun _ H1 => Q .non H1, rt := Q } I' ?_) (fun fl s'' hs => ?_) fun e s'' hs => hs
    · refine ⟨v, rfl, .ref a, rfl, a, C, rfl, T, hno, Or.inl ⟨ea, hq⟩⟩
    · have fin : ∀ {σ' : L2.St} {H'' : Hp} {v : V} {u : Value}, Inv (NdefX.ncx (L2.CX P w) P w K mg base ["self", prm, "__class__"] (supN qual st cc cda) f A outer s H' E) [] σ' H'' s'' → L2.RelV v u → Q v H'' → CE outer P w H' s Q u s'' :=
        fun {σ' H'' v u} J rv q => ⟨v, H'', J.os, J.bare, J.base, J.hok, rv, q⟩
      cases fl with
      | ret u =>
        obtain ⟨v, σ', H'', J, rv, q⟩ := hs
        exact fin J rv q
      | next =>
        obtain ⟨σ', H'', J, q⟩ := hs
        exact fin (v := V.non) (u := Value.none) J rfl q
      | brk =>
        obtain ⟨_, _, _, q⟩ := hs
        exact False.elim q
      | cont =>
        obtain ⟨_, _, _, q⟩ := hs
        exact False.elim q
/-! ### raise C(v) -/
/-- what an error may bear -/
def BearsV (v : V) : Prop := (∃ i, v = .int i ∧ i.natAbs < 2 ^ 59) ∨ ∃ z : Str, v = .str z ∧ z.length ≤ 100
structure RaiO (P : Program) (w : World) (K : PySem.W.Frag) (mg : Str → Option Value) (base : Heap) (k : Nat) (x : Str) (C : Addr) (fld : Str) : Prop where
  ex : ∃ (fI : Addr) (fd : FuncData) (ps : List Str), PySem.W.findIn K (.ref C) "__init__" = some (some (.ref fI)) ∧ PySem.W.typeIn K (.ref fI) = some (.type "function") ∧ FnOk P w K mg base (L2.CX P w) k fI fd ps (spSup K C fld) ∧ Binds K fd ps []
  T : OexC K C
  g : mg x = some (.ref C)
theorem pmk_o {X : Cx} {K : PySem.W.Frag} {k j : Nat} {x : Str} {C : Addr} {fld : Str} {p pos : Pos} {e : Expr} {t : TA} (hK : X.K = K) (c : RaiO X.prog X.w X.K X.mg X.base k x C fld) (hr : Room j X.A) (hk : k + 1 ≤ j) (hg : Gl X x) (ha : PA X [e] t)
    (hdb : (x == ("__debug__" : Str)) = false := by decide) (he : starEach [e] X.env = (false, eval e X.env) :: starEach [] X.env := by rfl) : PMk X (.Call (.Name x p) [e] [] pos) (tMkO C (spSup K C fld) [] t) := by
  subst hK
  obtain ⟨fI, fd, ps, iC, tI, F1, hb⟩ := c.ex
  exact pmk_oex (CX := L2.CX X.prog X.w) (p := p) (pos := pos) c.T iC tI F1 (hr.mono hk) hb (dvs := []) (ds := []) .nil (fun _ _ _ _ _ _ _ h => by
    obtain ⟨_, _, _, _, _, _, _, _, _, _, _, _, z⟩ := h
    exact z.elim) hg c.g ha hdb he rfl
def kMkO (K : PySem.W.Frag) (C : Addr) (fld : Str) (vs : List V) (H1 : Hp) (Q : XK) : Prop := vs.length ≤ 1000 ∧ ∀ a, H1 a = none → spSup K C fld (.ref a :: (vs ++ [])) (upd H1 a (exo a C none))
  (fun v H2 => v = .non ∧ ∃ (d : Addr) (fs : List (Str × V)), H2 a = some (exo a C (some d)) ∧ H2 d = some (exd d fs) ∧ H1 d = none ∧ Q (.ref C) (some d) (upd (del H2 a) d (.xd fs))) (fun _ _ _ => False)
theorem w_mkO {K : PySem.W.Frag} {C : Addr} {fld : Str} {t : TA} {σ : L2.St} {H : Hp} {Q : XK} (h : t σ H fun vs H1 => kMkO K C fld vs H1 Q) : tMkO C (spSup K C fld) [] t σ H Q := h
theorem l_mkO {K : PySem.W.Frag} {C : Addr} {fld : Str} {v : V} {H : Hp} {Q : XK} (hv : BearsV v) (T : OexC K C) (h : ∀ d, H d = none → Q (.ref C) (some d) (upd H d (.xd [(fld, v)]))) : kMkO K C fld [v] H Q :=
  ⟨by simp, fun a ha => ⟨a, v, rfl, hv, T, upd_same, fun dx ndx ne => ⟨rfl, dx, [(fld, v)], upd_same, by rw [upd_ne ne]; exact upd_same, (by rw [upd_ne ne] at ndx; exact ndx), by
    have nH : H dx = none := by rw [upd_ne ne] at ndx; exact ndx
    have e : upd (del (upd (upd (upd H a (exo a C none)) dx (exd dx [(fld, v)])) a (exo a C (some dx))) a) dx (.xd [(fld, v)]) = upd H dx (.xd [(fld, v)]) := by
      funext b
      by_cases hb : b = dx
      · rw [hb, upd_same, upd_same]
      · rw [upd_ne hb, upd_ne hb]
        by_cases hba : b = a
        · rw [hba, del_same, ha]
        · rw [del_ne hba, upd_ne hba, upd_ne hb, upd_ne hba]
    rw [e]
    exact h dx nH⟩⟩⟩
end Ak

namespace Ak
open PySem PySem.Spec PyProof.Rows L2
/-! ### the law's world: dice, a list of tuples, what each of them stands for -/
/-- not a list of ints -/
def NoInts (H : Hp) (b : Addr) : Prop := ∀ ns : List Int, H b ≠ some (.lst (ns.map V.int))
theorem NoInts.dice {K : PySem.W.Frag} {H0 H : Hp} {d : Addr} (x : Dice K H0 H d) : NoInts H d := by
  obtain ⟨⟨a, ns, i, m, r, h1, h2⟩, h3, h4⟩ := x
  intro ms e
  rw [h1] at e
  cases ms with
  | nil => cases e
  | cons n t => cases e
/-- no list, no tuple, no table, no code object -/
structure Solid (o : HO) : Prop where
  l : ∀ xs, o ≠ .lst xs
  t : ∀ xs, o ≠ .tup xs
  b : ∀ ps, o ≠ .tbl ps
  x : ∀ φ, o ≠ .ext φ
theorem Solid.ins {C dx : Addr} {fs : List (Str × V)} : Solid (.ins C dx fs) := ⟨fun _ z => (by cases z), fun _ z => (by cases z), fun _ z => (by cases z), fun _ z => (by cases z)⟩
theorem Solid.dK {kvs : List (Key × V)} : Solid (.dK kvs) := ⟨fun _ z => (by cases z), fun _ z => (by cases z), fun _ z => (by cases z), fun _ z => (by cases z)⟩
theorem NoInts.solid {H : Hp} {b : Addr} {o : HO} (h : H b = some o) (s : Solid o) : NoInts H b := fun ns e => s.l _ (Option.some.inj (h.symm.trans e))
theorem Dice.ext' {K : PySem.W.Frag} {H0 H H' : Hp} {d : Addr} (x : Dice K H0 H d) (e : Ext0 H H') : Dice K H0 H' d := by
  obtain ⟨⟨a, ns, i, m, r, h1, h2⟩, h3, h4⟩ := x
  exact ⟨⟨a, ns, i, m, r, e _ _ h1 (fun _ z => by cases z), h2⟩, h3, h4.trans e⟩
theorem Keep.ext {H H' : Hp} (k : Keep [] H H') : Ext0 H H' := fun b o h _ => k.1 b o nin_nil h
/-- neither a table nor a code object -/
def Plain (H : Hp) (b : Addr) : Prop := ∃ o, H b = some o ∧ (∀ ps, o ≠ .tbl ps) ∧ ∀ φ, o ≠ .ext φ
theorem Plain.lst {H : Hp} {b : Addr} {xs : List V} (h : H b = some (.lst xs)) : Plain H b := ⟨_, h, fun _ z => (by cases z), fun _ z => (by cases z)⟩
theorem Plain.solid {H : Hp} {b : Addr} {o : HO} (h : H b = some o) (s : Solid o) : Plain H b := ⟨o, h, s.b, s.x⟩
theorem Tabs.keep {T : List (Addr × Str)} {S : List Addr} {H H' : Hp} (t : LamX.Tabs T H) (k : Keep S H H') (n : ∀ b, b ∈ S → Plain H b) : LamX.Tabs T H' := by
  intro x hx
  obtain ⟨ps, h1, h2, h3⟩ := t x hx
  refine ⟨ps, k.1 _ _ (fun m => ?_) h1, h2, fun pos cv hcv => ?_⟩
  · obtain ⟨o, e, ne, _⟩ := n _ m
    rw [h1] at e
    exact ne ps (Option.some.inj e).symm
  · obtain ⟨c, e1, e2⟩ := h3 pos cv hcv
    refine ⟨c, e1, k.1 _ _ (fun m => ?_) e2⟩
    obtain ⟨o, e, _, ne⟩ := n _ m
    rw [e2] at e
    exact ne _ (Option.some.inj e).symm
theorem plain0 {H : Hp} : ∀ c, c ∈ ([] : List Addr) → Plain H c := fun _ m => absurd m List.not_mem_nil
theorem plain1 {H : Hp} {b : Addr} (h : Plain H b) : ∀ c, c ∈ [b] → Plain H c := fun c m => by rw [List.mem_singleton.mp m]; exact h
theorem Tabs.one {P : Addr} {q : Str} {H : Hp} (h : LamX.TabS H P q) : LamX.Tabs [(P, q)] H := fun p hp => by rw [List.mem_singleton.mp hp]; exact h
/-- behind a call that changed what is new alone -/
theorem Keep.fresh {S T : List Addr} {H H1 H2 : Hp} (l : Keep T H1 H2) (h : ∀ b, b ∈ T → H b = none) (k : Keep S H H1) : Keep S H H2 :=
  ⟨fun b u n e => l.1 b u (fun m => by rw [h b m] at e; cases e) (k.1 b u n e), fun b e => k.2 b (l.2 b e)⟩
theorem Keep.old {S : List Addr} {H0 H H' : Hp} (old : ∀ b, H b = none → H0 b = none) (k : Keep S H H') : ∀ b, H' b = none → H0 b = none := fun b e => old b (k.2 b e)
/-- all but S and the tables stay -/
def KeepX (S : List Addr) (H H' : Hp) : Prop := ∀ a o, a ∉ S → H a = some o → (∀ ps, o ≠ .tbl ps) → H' a = some o
theorem Keep.x {S : List Addr} {H H' : Hp} (k : Keep S H H') : KeepX S H H' := fun a o n h _ => k.1 a o n h
theorem KeepX.ext {H H' : Hp} (e : Ext0 H H') : KeepX [] H H' := fun a o _ h n => e a o h n
theorem KeepX.trans {S : List Addr} {H H1 H2 : Hp} (a : KeepX S H H1) (b : KeepX S H1 H2) : KeepX S H H2 := fun c o n h t => b c o n (a c o n h t) t
theorem KeepX.mono {S T : List Addr} {H H1 : Hp} (a : KeepX T H H1) (h : ∀ b, b ∈ T → b ∈ S) : KeepX S H H1 := fun c o n => a c o fun m => n (h c m)
theorem KeepX.mono0 {S : List Addr} {H H1 : Hp} (a : KeepX [] H H1) : KeepX S H H1 := a.mono sub_nil
theorem KeepX.fresh {S T : List Addr} {H H1 H2 : Hp} (l : KeepX T H1 H2) (h : ∀ b, b ∈ T → b ∈ S ∨ H b = none) (k : KeepX S H H1) : KeepX S H H2 := fun a o n e t => l a o (fun m => by
  rcases h a m with z | z
  · exact n z
  · rw [e] at z; cases z) (k a o n e t) t
theorem KeepX.fresh' {S T : List Addr} {H H1 H2 : Hp} (l : KeepX T H1 H2) (h : ∀ b, b ∈ T → b ∈ S ∨ ∀ o, H b = some o → ¬ ∀ ps, o ≠ .tbl ps) (k : KeepX S H H1) : KeepX S H H2 := fun a o n e t => l a o (fun m => by
  rcases h a m with z | z
  · exact n z
  · exact z o e t) (k a o n e t) t
theorem Dice.keepX {K : PySem.W.Frag} {H0 H H1 : Hp} {d : Addr} {S : List Addr} (x : Dice K H0 H d) (k : KeepX S H H1) (nd : d ∉ S) (n : ∀ b, b ∈ S → H0 b = none) : Dice K H0 H1 d := by
  obtain ⟨⟨a, ns, i, m, r, h1, h2⟩, h3, h4⟩ := x
  exact ⟨⟨a, ns, i, m, r, k _ _ nd h1 (fun _ z => by cases z), h2⟩, h3, fun b o h t => k b o (fun m => by rw [n b m] at h; cases h) (h4 b o h t) t⟩
theorem Dice.own {K : PySem.W.Frag} {H0 H1 H2 : Hp} {d D : Addr} {o : HO} (x : Dice K H0 H1 d) (y : Dice K H0 H2 d) (n : H1 D = none) (ne : d ≠ D) : Dice K H0 (upd H2 D o) d := by
  obtain ⟨⟨a, ns, i, m, r, h1, h2⟩, h3, h4⟩ := y
  exact ⟨⟨a, ns, i, m, r, (upd_ne ne).trans h1, h2⟩, h3, fun b u h t => by
    rw [upd_ne (fun z => by
      have := x.ext b u h t
      rw [z, n] at this
      cases this)]
    exact h4 b u h t⟩
/-- what follows an if, said once -/
theorem cut_if {c : Bool} {t u : TS} {D : Ends} {σ : L2.St} {H : Hp} (N : L2.St → Hp → Prop) (a : ∀ σ' H', N σ' H' → D.nx σ' H') (b : (∀ σ' H', N σ' H' → D.nx σ' H') → if c = true then t D σ H else u D σ H) : if c = true then t D σ H else u D σ H := b a
/-- the same, what follows kept closed -/
theorem cut_ifO {c : Bool} {t u : TS} {D : Ends} {σ : L2.St} {H : Hp} (N : L2.St → Hp → Prop) (a : ∀ σ' H', N σ' H' → D.nx σ' H') (b : ∀ R : L2.St → Hp → Prop, (∀ σ' H', N σ' H' → R σ' H') → if c = true then t { D with nx := R } σ H else u { D with nx := R } σ H) : if c = true then t D σ H else u D σ H := b D.nx a
theorem cut_isi {K : PySem.W.Frag} {vf c : V} {t u : TS} {D : Ends} {σ : L2.St} {H : Hp} (N : L2.St → Hp → Prop) (a : ∀ σ' H', N σ' H' → D.nx σ' H') (b : ∀ R : L2.St → Hp → Prop, (∀ σ' H', N σ' H' → R σ' H') → rIsi K [vf, c] H fun x H' => ∃ k, TruV K x H' k ∧ if k = true then t { D with nx := R } σ H' else u { D with nx := R } σ H') : rIsi K [vf, c] H fun x H' => ∃ k, TruV K x H' k ∧ if k = true then t D σ H' else u D σ H' := b D.nx a
theorem cut_seq {t u : TS} {D : Ends} {σ : L2.St} {H : Hp} (N : L2.St → Hp → Prop) (a : ∀ σ' H', N σ' H' → u D σ' H') (b : ∀ R : L2.St → Hp → Prop, (∀ σ' H', N σ' H' → R σ' H') → t { D with nx := R } σ H) : tSeq t u D σ H := b (u D) a
/-! alike -/
section
variable {K : PySem.W.Frag} {H : Hp} {n : Nat} {p q : Addr}
theorem al_int {i : Int} : Alike K H (n + 1) (.int i) (.int i) := Or.inr (Or.inl ⟨i, rfl, rfl⟩)
theorem al_bl {b : Bool} : Alike K H (n + 1) (.bl b) (.bl b) := Or.inl ⟨b, rfl, rfl⟩
theorem al_str {s : Str} : Alike K H (n + 1) (.str s) (.str s) := Or.inr (Or.inr (Or.inl ⟨s, rfl, rfl⟩))
theorem al_non : Alike K H (n + 1) .non .non := Or.inr (Or.inr (Or.inr (Or.inl ⟨rfl, rfl⟩)))
inductive AlL (K : PySem.W.Frag) (H : Hp) (n : Nat) : List V → List V → Prop
  | nil : AlL K H n [] []
  | cons {x y : V} {xs ys : List V} (h : Alike K H n x y) (t : AlL K H n xs ys) : AlL K H n (x :: xs) (y :: ys)
theorem AlL.len {xs ys : List V} (h : AlL K H n xs ys) : xs.length = ys.length := by
  induction h with
  | nil => rfl
  | cons _ _ ih => rw [List.length_cons, List.length_cons, ih]
theorem AlL.at {xs ys : List V} (h : AlL K H n xs ys) : ∀ (k : Nat) u v, xs[k]? = some u → ys[k]? = some v → Alike K H n u v := by
  induction h with
  | nil => intro k u v a _; simp at a
  | cons h t ih =>
    intro k u v a b
    match k, a, b with
    | 0, a, b => cases a; cases b; exact h
    | k + 1, a, b => exact ih k u v (by simpa using a) (by simpa using b)
theorem al_tup {xs ys : List V} (hx : H p = some (.tup xs)) (hy : H q = some (.tup ys)) (h : AlL K H n xs ys) (hl : xs.length ≤ 16777216) : Alike K H (n + 1) (.ref p) (.ref q) :=
  Or.inr (Or.inr (Or.inr (Or.inr (Or.inl ⟨p, q, _, _, rfl, rfl, SqT.of hx, SqT.of hy, h.len, hl, h.at⟩))))
theorem al_lst {xs ys : List V} (hx : H p = some (.lst xs)) (hy : H q = some (.lst ys)) (h : AlL K H n xs ys) (hl : xs.length ≤ 16777216) : Alike K H (n + 1) (.ref p) (.ref q) :=
  Or.inr (Or.inr (Or.inr (Or.inr (Or.inr ⟨p, q, _, _, rfl, rfl, SqL.of hx, SqL.of hy, h.len, hl, h.at⟩))))
theorem AlL.same {xs : List V} (h : ∀ x, x ∈ xs → Alike K H n x x) : AlL K H n xs xs := by
  induction xs with
  | nil => exact .nil
  | cons x r ih => exact .cons (h x List.mem_cons_self) (ih fun y hy => h y (List.mem_cons_of_mem _ hy))
theorem AlL.ints {ns : List Int} : AlL K H (n + 1) (ns.map V.int) (ns.map V.int) := AlL.same fun x hx => by
  obtain ⟨i, _, rfl⟩ := List.mem_map.mp hx
  exact al_int
end
def Fr (H0 : Hp) (a : Addr) : Prop := ∀ o, H0 a = some o → ∃ ps, o = .tbl ps
theorem Fr.of {H0 H : Hp} {a : Addr} (e : Ext0 H0 H) (n : H a = none) : Fr H0 a := fun o h => by
  by_cases q : ∃ ps, o = .tbl ps
  · exact q
  · have := e a o h fun ps z => q ⟨ps, z⟩
    rw [n] at this
    cases this
theorem Dice.keepF {K : PySem.W.Frag} {H0 H H1 : Hp} {d : Addr} {S : List Addr} (x : Dice K H0 H d) (k : KeepX S H H1) (nd : d ∉ S) (n : ∀ b, b ∈ S → Fr H0 b) : Dice K H0 H1 d := by
  obtain ⟨⟨a, ns, i, m, r, h1, h2⟩, h3, h4⟩ := x
  exact ⟨⟨a, ns, i, m, r, k _ _ nd h1 (fun _ z => by cases z), h2⟩, h3, fun b o h t => k b o (fun m => by
    obtain ⟨ps, z⟩ := n b m o h
    exact t ps z) (h4 b o h t) t⟩
end Ak

namespace Ak
open PySem PySem.Spec PyProof.Rows L2
/-! ### isinstance of a caught error that carries fields -/
structure ExcD (K : PySem.W.Frag) (D : Addr) : Prop where
  c : ExcC K D
  k : (PySem.W.clsIn K D).isSome = true
def rIsE3 (K : PySem.W.Frag) (cls : Value) (d : Option Addr) (a : Addr) : List V → Hp → VK → Prop := fun xs H Q => ∃ D dd fs, cls = .ref D ∧ d = some dd ∧ H dd = some (.xd fs) ∧ ExcD K D ∧ rIsE K D a xs H Q
theorem call_isE3 {X : Cx} {K : PySem.W.Frag} {a : Addr} {cls : Value} {d : Option Addr} {oe : Obj} {pn : List (Addr × Obj)} (h : X.K = K) (hz : Zc cls d oe) (hf : ∃ vs, oe.data = .fields vs) : CallR (X.suite a ((a, oe) :: pn)) (.builtin "isinstance") (rIsE3 K cls d a) := by
  subst h
  intro pins s σ H xs us Q I r q
  obtain ⟨D, dd, fs, rfl, rfl, hdd, C, c, cv, b, rfl, hcv, hk, q⟩ := q
  obtain ⟨u1, u2, rfl, r1, r2⟩ : ∃ u1 u2, us = [u1, u2] ∧ RelV (.ref a) u1 ∧ RelV c u2 := by
    cases r with
    | cons r1 rr => cases rr with
      | cons r2 rn => cases rn with
        | nil => exact ⟨_, _, rfl, r1, r2⟩
  obtain rfl : u1 = Value.ref a := r1
  obtain rfl := hcv _ r2
  obtain ⟨hget, _⟩ := I.pin (a, oe) (List.mem_append.mpr (Or.inl List.mem_cons_self))
  have hx := I.hok dd _ hdd
  obtain ⟨odd, hodd⟩ : ∃ o, s.heap.get? dd = some o := by
    simp only [ObjOk] at hx
    obtain ⟨mA, hn, _⟩ := hx
    obtain ⟨o, _, _, ho, _⟩ := hn
    exact ⟨o, ho⟩
  obtain ⟨oc, od, oda, osl⟩ := oe
  obtain ⟨h1, h2⟩ := hz
  obtain ⟨vs, hv⟩ := hf
  simp only at h1 h2 hv hget
  subst h1 h2 hv
  have J : PySem.W.InstAt s.heap a ⟨.ref D, some dd, .fields vs, osl⟩ D (some odd) := ⟨hget, rfl, rfl, hodd⟩
  exact PySem.W.kia_one (PySem.W.kitx_exc C.k C.c.hg C.c.hk C.c.hs C.c.ha C.c.hn C.c.ht C.c.hm) I.kIn J hk (fun z => nomatch z) fun tk => ⟨.bl b, H, I.kept fun x x_1 z => z, rfl, q⟩
def rIsE4 (K : PySem.W.Frag) (cls : Value) (d : Option Addr) (a : Addr) : List V → Hp → VK → Prop := fun xs H Q => rIsE2 K cls d a xs H Q ∨ rIsE3 K cls d a xs H Q
theorem call_isE4 {X : Cx} {K : PySem.W.Frag} {a : Addr} {cls : Value} {d : Option Addr} {oe : Obj} {pn : List (Addr × Obj)} (h : X.K = K) (hz : Zc cls d oe) (hf : ∃ vs, oe.data = .fields vs) : CallR (X.suite a ((a, oe) :: pn)) (.builtin "isinstance") (rIsE4 K cls d a) :=
  CallR.or (call_isE2 h hz hf) (call_isE3 h hz hf)
section
variable {K : PySem.W.Frag} {H : Hp} {Q : VK} {a : Addr} {cls : Value} {d : Option Addr} {D C dd : Addr} {k : Bool} {fs : List (Str × V)} {T : String}
theorem w_isE4 (x : ExcC K D) (hk : PySem.W.kitOne K (.ref D) (.ref C) = some k) (h : Q (.bl k) H) : rIsE4 K (.ref D) none a [.ref a, .ref C] H Q := Or.inl (w_isE rfl rfl x hk h)
theorem w_isE4T (x : ExcC K D) (hk : PySem.W.kitOne K (.ref D) (.type T) = some k) (h : Q (.bl k) H) : rIsE4 K (.ref D) none a [.ref a, .ty T] H Q := Or.inl (w_isET rfl rfl x hk h)
theorem w_isE4d (x : ExcD K D) (e : H dd = some (.xd fs)) (hk : PySem.W.kitOne K (.ref D) (.ref C) = some k) (h : Q (.bl k) H) : rIsE4 K (.ref D) (some dd) a [.ref a, .ref C] H Q := Or.inr ⟨D, dd, fs, rfl, rfl, e, x, .ref C, .ref C, k, rfl, fun _ r => r, hk, h⟩
theorem w_isE4dT (x : ExcD K D) (e : H dd = some (.xd fs)) (hk : PySem.W.kitOne K (.ref D) (.type T) = some k) (h : Q (.bl k) H) : rIsE4 K (.ref D) (some dd) a [.ref a, .ty T] H Q := Or.inr ⟨D, dd, fs, rfl, rfl, e, x, .ty T, .type T, k, rfl, fun _ r => r, hk, h⟩
end
theorem w_xf {a : Addr} {cls : Value} {d : Option Addr} {C : Addr} {f : Str} {te : TE} {σ : L2.St} {H : Hp} {Q : VK} (h : te σ H fun x H1 => x = .ref a ∧ cls = .ref C ∧ ∃ (dd : Addr) (fs : List (Str × V)) (v : V), d = some dd ∧ H1 dd = some (.xd fs) ∧ fs.lookup f = some v ∧ Q v H1) : tXf a cls d C f te σ H Q := h
local macro_rules | `(tactic| walk_at "s") => `(tactic| ((with_reducible show Ak.rIsE4 _ _ _ _ _ _ _); first | refine Ak.w_isE4 (by walk_at "as") (by walk_at "as") ?_ | refine Ak.w_isE4T (by walk_at "as") (by walk_at "as") ?_ | refine Ak.w_isE4d (by walk_at "as") (by walk_at "lk") (by walk_at "as") ?_ | refine Ak.w_isE4dT (by walk_at "as") (by walk_at "lk") (by walk_at "as") ?_))
/-- what the text knows of its errors -/
structure ToldC (K : PySem.W.Frag) (C0 C1 C2 C3 C4 C5 C6 : Addr) : Prop where
  o1 : OneBad K C0 C1 C2 C3 C4 C5 C6 C1 true false false false false false
  o2 : OneBad K C0 C1 C2 C3 C4 C5 C6 C2 false true false false false false
  o3 : OneBad K C0 C1 C2 C3 C4 C5 C6 C3 false false true false false false
  o4 : OneBad K C0 C1 C2 C3 C4 C5 C6 C4 false false false true false false
  o5 : OneBad K C0 C1 C2 C3 C4 C5 C6 C5 false false false false true false
  o6 : OneBad K C0 C1 C2 C3 C4 C5 C6 C6 false false false false false true
  s1 : (PySem.W.clsIn K C1).isSome = true
  n1 : PySem.W.findIn K (.ref C1) "word" = some none
  s5 : (PySem.W.clsIn K C5).isSome = true
  n5 : PySem.W.findIn K (.ref C5) "number" = some none
  s6 : (PySem.W.clsIn K C6).isSome = true
  n6 : PySem.W.findIn K (.ref C6) "place" = some none
theorem ToldC.x1 {K : PySem.W.Frag} {C0 C1 C2 C3 C4 C5 C6 : Addr} (t : ToldC K C0 C1 C2 C3 C4 C5 C6) : XfC K C1 := ⟨t.o1.x.hg, t.o1.x.hk, t.o1.x.hs, t.o1.x.hd⟩
theorem ToldC.x5 {K : PySem.W.Frag} {C0 C1 C2 C3 C4 C5 C6 : Addr} (t : ToldC K C0 C1 C2 C3 C4 C5 C6) : XfC K C5 := ⟨t.o5.x.hg, t.o5.x.hk, t.o5.x.hs, t.o5.x.hd⟩
theorem ToldC.x6 {K : PySem.W.Frag} {C0 C1 C2 C3 C4 C5 C6 : Addr} (t : ToldC K C0 C1 C2 C3 C4 C5 C6) : XfC K C6 := ⟨t.o6.x.hg, t.o6.x.hk, t.o6.x.hs, t.o6.x.hd⟩
/-- what is told of a refusal -/
inductive ToldW (C1 C2 C3 C4 C5 C6 : Addr) (H : Hp) : Value → Option Addr → List V → Prop
  | setting {dd : Addr} {fs : List (Str × V)} {v : V} (h : H dd = some (.xd fs)) (l : fs.lookup ("word" : Str) = some v) : ToldW C1 C2 C3 C4 C5 C6 H (.ref C1) (some dd) [.str "setting", v]
  | mark : ToldW C1 C2 C3 C4 C5 C6 H (.ref C2) none [.str "mark"]
  | bits : ToldW C1 C2 C3 C4 C5 C6 H (.ref C3) none [.str "bits"]
  | full : ToldW C1 C2 C3 C4 C5 C6 H (.ref C4) none [.str "full"]
  | event {dd : Addr} {fs : List (Str × V)} {v : V} (h : H dd = some (.xd fs)) (l : fs.lookup ("number" : Str) = some v) : ToldW C1 C2 C3 C4 C5 C6 H (.ref C5) (some dd) [.str "event", v]
  | text {dd : Addr} {fs : List (Str × V)} {v : V} (h : H dd = some (.xd fs)) (l : fs.lookup ("place" : Str) = some v) : ToldW C1 C2 C3 C4 C5 C6 H (.ref C6) (some dd) [.str "text", v]
def TTold3 (C1 C2 C3 C4 C5 C6 : Addr) : (XK → Hp → VK → Prop) → Hp → VK → Prop := fun tl H Q =>
  tl (fun cls d H' => ∃ out, ToldW C1 C2 C3 C4 C5 C6 H' cls d out ∧ ∀ p H2, H' p = none → Keep [] H' H2 → H2 p = some (.tup out) → Q (.ref p) H2) H Q
theorem told_gives3 {X : Cx} {g C0 C1 C2 C3 C4 C5 C6 : Addr} {cdg : Value} {q : Str} (TC : ToldC X.K C0 C1 C2 C3 C4 C5 C6) (g_BitsError : X.mg "BitsError" = some (.ref C0)) (g_BadSetting : X.mg "BadSetting" = some (.ref C1)) (g_BadMark : X.mg "BadMark" = some (.ref C2))
    (g_BadBits : X.mg "BadBits" = some (.ref C3)) (g_Full : X.mg "Full" = some (.ref C4)) (g_BadEvent : X.mg "BadEvent" = some (.ref C5)) (g_BadText : X.mg "BadText" = some (.ref C6)) (g_isinstance : X.mg "isinstance" = none) (g_ValueError : X.mg "ValueError" = none) :
    LamX.GivesTo X N_l_told "_law_told" (defScope s_l_told) g cdg (defBody s_l_told) "_law_work" q (TTold3 C1 C2 C3 C4 C5 C6) := by
  intro f c' s H Q tl act hc h
  refine ⟨_, pss_one (ps_try_as (X := (cxOf C8.CX0 X.prog X.w X.K X.mg X.base N_l_told "_law_told" (defScope s_l_told) g cdg X.A X.stack s H C8.E0).nox) (i := 1) (c := .ref C0)
      (tb := fun W D σ H => ∃ Ech : XK, (∀ cls d σ' H', σ'.length = 5 → Ech cls d H' → W cls d σ' H') ∧ σ[0]? = some (some (.ref f)) ∧ H c' = some (LamX.CodeO c' q) ∧ tl Ech H D.rt)
      rfl rfl sc_l_told.nd rfl rfl ⟨by rfl, by decide, .inl g_BitsError⟩ takes0 (fun W pn xe tk _ => ?_) (fun a oe cls d pn hz hf => (pss_cons (ps_set (i := 2) sc_l_told.nd rfl (Or.inl rfl) (pe_lst (pa_cons (pe_callB (Ak.call_isE4 (K := X.K) (by rfl) hz hf) (by rfl) g_isinstance (by decide +kernel) (pa_cons (pv 1) (pa_cons (Ak.pe_cls (by rfl) g_BadSetting) pa_nil))) (pa_cons (pe_callB (Ak.call_isE4 (K := X.K) (by rfl) hz hf) (by rfl) g_isinstance (by decide +kernel) (pa_cons (pv 1) (pa_cons (Ak.pe_cls (by rfl) g_BadMark) pa_nil))) (pa_cons (pe_callB (Ak.call_isE4 (K := X.K) (by rfl) hz hf) (by rfl) g_isinstance (by decide +kernel) (pa_cons (pv 1) (pa_cons (Ak.pe_cls (by rfl) g_BadBits) pa_nil))) (pa_cons (pe_callB (Ak.call_isE4 (K := X.K) (by rfl) hz hf) (by rfl) g_isinstance (by decide +kernel) (pa_cons (pv 1) (pa_cons (Ak.pe_cls (by rfl) g_Full) pa_nil))) pa_nil))))))
      (pss_cons (ps_set (i := 2) sc_l_told.nd rfl (Or.inl rfl) (pe_op (Ak.op_plusK (K := X.K) (by rfl)) (pv 2) (pe_lst (pa_cons (pe_callB (Ak.call_isE4 (K := X.K) (by rfl) hz hf) (by rfl) g_isinstance (by decide +kernel) (pa_cons (pv 1) (pa_cons (Ak.pe_cls (by rfl) g_BadEvent) pa_nil))) (pa_cons (pe_callB (Ak.call_isE4 (K := X.K) (by rfl) hz hf) (by rfl) g_isinstance (by decide +kernel) (pa_cons (pv 1) (pa_cons (Ak.pe_cls (by rfl) g_BadText) pa_nil))) pa_nil)))))
      (pss_cons (ps_set (i := 3) sc_l_told.nd rfl (Or.inl rfl) (pe_lst (pa_cons pe_str (pa_cons pe_str (pa_cons pe_str (pa_cons pe_str (pa_cons pe_str (pa_cons pe_str pa_nil))))))))
      (pss_cons (ps_if (PW.pt (pw_or (pt_cmpR op_ne (Ak.pe_bmK (K := X.K) (by rfl) PySem.F.plainAttrs_list PySem.F.slot_list_count PySem.F.type_list_count (Ak.mt_countK (K := X.K) (by rfl)) (pv 2) (pa_cons pe_bl pa_nil)) pe_int (nomark _)) (pw_or1 (pt_not (Ak.pt_truK (K := X.K) (by rfl) (pe_callB (Ak.call_isE4 (K := X.K) (by rfl) hz hf) (by rfl) g_isinstance (by decide +kernel) (pa_cons (pv 1) (pa_cons (Ak.pe_ty (T := "ValueError") (by rfl) g_ValueError (by decide +kernel)) pa_nil))))))))
      (pss_one (ps_ret (pe_tup (pa_cons pe_str pa_nil))))
      pss_nil)
      (pss_cons (ps_set (i := 4) sc_l_told.nd rfl (Or.inl rfl) (pe_ix (Ak.ix_K (K := X.K) (by rfl)) (pv 3) (Ak.pe_bmK (K := X.K) (by rfl) PySem.F.plainAttrs_list PySem.F.slot_list_index PySem.F.type_list_index (Ak.mt_indexK (K := X.K) (by rfl)) (pv 2) (pa_cons pe_bl pa_nil)) (by intro _ _; rfl)))
      (pss_cons (ps_if (pt_cmpR op_eq (pv 4) pe_str (nomark _))
      (pss_one (ps_ret (pe_tup (pa_cons (pv 4) (pa_cons (L2.pe_xf TC.x1 TC.n1 hz hf (pv 1)) pa_nil)))))
      pss_nil)
      (pss_cons (ps_if (pt_cmpR op_eq (pv 4) pe_str (nomark _))
      (pss_one (ps_ret (pe_tup (pa_cons (pv 4) (pa_cons (L2.pe_xf TC.x5 TC.n5 hz hf (pv 1)) pa_nil)))))
      pss_nil)
      (pss_one (ps_ret (pe_ifExp (pt_cmpR op_eq (pv 4) pe_str (nomark _)) (pe_tup (pa_cons (pv 4) (pa_cons (L2.pe_xf TC.x6 TC.n6 hz hf (pv 1)) pa_nil))) (pe_tup (pa_cons (pv 4) pa_nil)))))))))))))), ?_⟩
  · refine ⟨fun pins s' σ H' D I h' => ?_⟩
    obtain ⟨Ech, hW, h1, h2, h3⟩ := h'
    exact (pss_one (ps_ret (act _ pn xe Ech _ _ (takesLen tk) (fun cls d σ' H' e l => hW cls d σ' H' l e)))).run pins s' σ H' D I ⟨h1, h2, h3⟩
  · refine ⟨_, fun cls d σ' H' hl he => ?_, rfl, hc, h⟩
    obtain ⟨out, to, k⟩ := he
    obtain ⟨v0, v1, v2, v3, v4, rfl⟩ : ∃ v0 v1 v2 v3 v4, σ' = [v0, v1, v2, v3, v4] := by
      match σ', hl with
      | [v0, v1, v2, v3, v4], _ => exact ⟨v0, v1, v2, v3, v4, rfl⟩
    obtain ⟨o1, o2, o3, o4, o5, o6, s1, n1, s5, n5, s6, n6⟩ := TC
    cases to with
    | setting h l =>
      obtain ⟨m, x, k1, k2, k3, k4, k5, k6, kv⟩ := o1
      have xd : ExcD X.K C1 := ⟨x, s1⟩
      refine ⟨true, m, fun _ a ha => ?_, fun z => nomatch z⟩
      walk_at "rd"
      refine Ak.w_iteN (fun z => absurd rfl z) (fun _ => ?_)
      walk_at "rd"
      refine Ak.w_idxI 0 0 rfl (by walk_at "lk") (by rfl) (by rfl) (by rfl) (by rfl) (by exact bl_ahead [true, false, false, false, false, false] 0 rfl) ?_
      walk_at "rd"
      refine Ak.w_ite (fun _ => ?_) (fun z => absurd rfl z)
      walk_at "rd"
      refine Ak.w_xf ?_
      walk_at "rd"
      refine ⟨rfl, rfl, _, _, _, rfl, (by walk_at "lk"), l, ?_⟩
      walk_at "rd"
      refine k _ _ ?_ ?_ upd_same
      · exact fresh_of [] (by walk_at "as") (by walk_at "kp")
      · walk_at "kp"
    | mark =>
      obtain ⟨m, x, k1, k2, k3, k4, k5, k6, kv⟩ := o2
      refine ⟨true, m, fun _ a ha => ?_, fun z => nomatch z⟩
      walk_at "rd"
      refine Ak.w_iteN (fun z => absurd rfl z) (fun _ => ?_)
      walk_at "rd"
      refine Ak.w_idxI 1 1 rfl (by walk_at "lk") (by rfl) (by rfl) (by rfl) (by rfl) (by exact bl_ahead [false, true, false, false, false, false] 1 rfl) ?_
      walk_at "rd"
      refine Ak.w_ite (fun z => absurd z (by decide +kernel)) (fun _ => ?_)
      walk_at "rd"
      refine Ak.w_ite (fun z => absurd z (by decide +kernel)) (fun _ => ?_)
      walk_at "rd"
      refine Ak.w_ite (fun z => absurd z (by decide +kernel)) (fun _ => ?_)
      walk_at "rd"
      refine k _ _ ?_ ?_ upd_same
      · exact fresh_of [] (by walk_at "as") (by walk_at "kp")
      · walk_at "kp"
    | bits =>
      obtain ⟨m, x, k1, k2, k3, k4, k5, k6, kv⟩ := o3
      refine ⟨true, m, fun _ a ha => ?_, fun z => nomatch z⟩
      walk_at "rd"
      refine Ak.w_iteN (fun z => absurd rfl z) (fun _ => ?_)
      walk_at "rd"
      refine Ak.w_idxI 2 2 rfl (by walk_at "lk") (by rfl) (by rfl) (by rfl) (by rfl) (by exact bl_ahead [false, false, true, false, false, false] 2 rfl) ?_
      walk_at "rd"
      refine Ak.w_ite (fun z => absurd z (by decide +kernel)) (fun _ => ?_)
      walk_at "rd"
      refine Ak.w_ite (fun z => absurd z (by decide +kernel)) (fun _ => ?_)
      walk_at "rd"
      refine Ak.w_ite (fun z => absurd z (by decide +kernel)) (fun _ => ?_)
      walk_at "rd"
      refine k _ _ ?_ ?_ upd_same
      · exact fresh_of [] (by walk_at "as") (by walk_at "kp")
      · walk_at "kp"
    | full =>
      obtain ⟨m, x, k1, k2, k3, k4, k5, k6, kv⟩ := o4
      refine ⟨true, m, fun _ a ha => ?_, fun z => nomatch z⟩
      walk_at "rd"
      refine Ak.w_iteN (fun z => absurd rfl z) (fun _ => ?_)
      walk_at "rd"
      refine Ak.w_idxI 3 3 rfl (by walk_at "lk") (by rfl) (by rfl) (by rfl) (by rfl) (by exact bl_ahead [false, false, false, true, false, false] 3 rfl) ?_
      walk_at "rd"
      refine Ak.w_ite (fun z => absurd z (by decide +kernel)) (fun _ => ?_)
      walk_at "rd"
      refine Ak.w_ite (fun z => absurd z (by decide +kernel)) (fun _ => ?_)
      walk_at "rd"
      refine Ak.w_ite (fun z => absurd z (by decide +kernel)) (fun _ => ?_)
      walk_at "rd"
      refine k _ _ ?_ ?_ upd_same
      · exact fresh_of [] (by walk_at "as") (by walk_at "kp")
      · walk_at "kp"
    | event h l =>
      obtain ⟨m, x, k1, k2, k3, k4, k5, k6, kv⟩ := o5
      have xd : ExcD X.K C5 := ⟨x, s5⟩
      refine ⟨true, m, fun _ a ha => ?_, fun z => nomatch z⟩
      walk_at "rd"
      refine Ak.w_iteN (fun z => absurd rfl z) (fun _ => ?_)
      walk_at "rd"
      refine Ak.w_idxI 4 4 rfl (by walk_at "lk") (by rfl) (by rfl) (by rfl) (by rfl) (by exact bl_ahead [false, false, false, false, true, false] 4 rfl) ?_
      walk_at "rd"
      refine Ak.w_ite (fun z => absurd z (by decide +kernel)) (fun _ => ?_)
      walk_at "rd"
      refine Ak.w_ite (fun _ => ?_) (fun z => absurd rfl z)
      walk_at "rd"
      refine Ak.w_xf ?_
      walk_at "rd"
      refine ⟨rfl, rfl, _, _, _, rfl, (by walk_at "lk"), l, ?_⟩
      walk_at "rd"
      refine k _ _ ?_ ?_ upd_same
      · exact fresh_of [] (by walk_at "as") (by walk_at "kp")
      · walk_at "kp"
    | text h l =>
      obtain ⟨m, x, k1, k2, k3, k4, k5, k6, kv⟩ := o6
      have xd : ExcD X.K C6 := ⟨x, s6⟩
      refine ⟨true, m, fun _ a ha => ?_, fun z => nomatch z⟩
      walk_at "rd"
      refine Ak.w_iteN (fun z => absurd rfl z) (fun _ => ?_)
      walk_at "rd"
      refine Ak.w_idxI 5 5 rfl (by walk_at "lk") (by rfl) (by rfl) (by rfl) (by rfl) (by exact bl_ahead [false, false, false, false, false, true] 5 rfl) ?_
      walk_at "rd"
      refine Ak.w_ite (fun z => absurd z (by decide +kernel)) (fun _ => ?_)
      walk_at "rd"
      refine Ak.w_ite (fun z => absurd z (by decide +kernel)) (fun _ => ?_)
      walk_at "rd"
      refine Ak.w_ite (fun _ => ?_) (fun z => absurd rfl z)
      walk_at "rd"
      refine Ak.w_xf ?_
      walk_at "rd"
      refine ⟨rfl, rfl, _, _, _, rfl, (by walk_at "lk"), l, ?_⟩
      walk_at "rd"
      refine k _ _ ?_ ?_ upd_same
      · exact fresh_of [] (by walk_at "as") (by walk_at "kp")
      · walk_at "kp"
end Ak

namespace Ak
open PySem PySem.Spec PyProof.Rows L2
theorem s_0 : Str.ofString "0" = tx [48] := by decide +kernel
theorem s_sp : (Str.ofString " ").cps.toList = [32] := by decide +kernel
theorem s_01d : (Str.ofString "01" ++ Str.ofString "-").cps.toList = [48, 49, 45] := by decide +kernel
theorem s_01 : (Str.ofString "01").cps.toList = [48, 49] := by decide +kernel
theorem s_emp : (Str.ofString "").cps.toList = [] := by decide +kernel
theorem s_d : Str.ofString "-" = tx [45] := by decide +kernel
theorem seq_is {t u : TS} {D : Ends} {σ : L2.St} {H : Hp} (h : tSeq t u D σ H) : tSeq t u D σ H := h
theorem w_plusTx {K : PySem.W.Frag} {H : Hp} {Q : VK} {i j : Str} (hl : i.length + j.length ≤ sizeLine) (q : Q (.str (i ++ j)) H) : rPlus K (.str i) (.str j) H Q := Or.inr (Or.inr (Or.inl ⟨i, j, rfl, rfl, hl, q⟩))
/-! comprehensions over a text -/
section
variable {σ : L2.St} {H : Hp} {Q : VK} {g : TG} {tt : TT} {te tl : TE} {vs : List Nat} {l : List Nat}
def kLcS (g : TG) (tt : TT) (te : TE) (vs : List Nat) (σ : L2.St) (x : V) (H1 : Hp) (Q : VK) : Prop := ∃ s : Str, x = .str s ∧ ∀ D, H1 D = none → ∃ W : Nat → Nat → Hp → Prop, (∃ m, W 0 m (upd H1 D (.lst []))) ∧ ∀ i m H, W i m H →
  ((Its s).stop i H ∧ Q (.ref D) H) ∨ ((Its s).go i H ∧ ∃ Nx : Hp → Prop, (∀ H', Nx H' → ∃ m', m' < m ∧ W (i + 1) m' H') ∧ ∀ x H', (Its s).yld i H x H' → g x (wipe σ vs) H' fun σ2 H2 => wipe σ2 vs = wipe σ vs ∧ tt σ2 H2 fun b H3 =>
    if b = true then te σ2 H3 fun y H4 => ∃ acc, H4 D = some (.lst acc) ∧ acc.length < sizeLine ∧ Nx (upd H4 D (.lst (acc ++ [y]))) else Nx H3)
theorem w_lcS (h : tl σ H fun x H1 => kLcS g tt te vs σ x H1 Q) : tLc (iStr tl) g tt te vs σ H Q := h
theorem l_lcS (out : Nat → List V) (o0 : out 0 = [])
    (hs : ∀ D i c H', H D = none → l[i]? = some c → Keep [] H H' → H' D = some (.lst (out i)) → LcTurn H g tt te vs σ D out i (.str (tx [c])) H') (hd : ∀ D H', H D = none → Keep [] H H' → H' D = some (.lst (out l.length)) → Q (.ref D) H') : kLcS g tt te vs σ (.str (tx l)) H Q := by
  refine ⟨tx l, rfl, fun D hD => ⟨fun i m H' => PvOf H D out i H' ∧ m + i = l.length, ⟨l.length, ⟨Keep.refl.own hD, by rw [upd_same, o0]⟩, rfl⟩, fun i m H' ⟨pv, hm⟩ => ?_⟩⟩
  have sz : (tx l).cps.size = l.length := List.size_toArray
  by_cases hi : i < l.length
  · refine Or.inr ⟨by show i < (tx l).cps.size; omega, PvOf H D out (i + 1), fun H2 q => ⟨m - 1, by omega, q, by omega⟩, fun x H2 hy => ?_⟩
    obtain ⟨rfl, c, hc, rfl⟩ := hy
    exact hs D i c H2 hD (by simpa using hc) pv.1 pv.2
  · obtain rfl : i = l.length := by omega
    exact Or.inl ⟨by show (tx l).cps.size ≤ l.length; omega, hd D H' hD pv.1 pv.2⟩
end
theorem pi_strE {X : Cx} {tg e : Expr} {te : TE} (he : PE X e te) : PI X tg e (iStr te) := pi_str he
section
variable {P : Program} {w : World} {K : PySem.W.Frag} {mg : Str → Option Value} {base : Heap} {C6 : Addr}
local macro_rules | `(tactic| walk_at "s") => `(tactic| first | with_reducible refine Ak.w_mkO ?_)
theorem ok_sign {f : Addr} {fd : FuncData} (F : L2.Fun K "_check_sign" "_check_sign" s_check_sign f fd) (g_len : mg "len" = none) (r_BadText : RaiO P w K mg base 1 "BadText" C6 "place") : FnOk P w K mg base (L2.CX P w) 3 f fd ["text", "place", "signs"] (spSign C6) := by
  refine Fun.okX F sc_check_sign (fun vs H Q E h => ?_) (fun cdv A outer s H vs Q E hr h => ?_)
  · obtain ⟨_, _, _, rfl, _⟩ := h
    rfl
  · obtain ⟨l, p, sg, rfl, ha, hp, kg, kb⟩ := h
    have h1 := ha.1
    refine ⟨_, (pss_one (ps_if (PW.pt (pw_or (pt_cmpR op_ge (pv 1) (pe_callB (Ak.cr_lenK (K := K) (by rfl)) (by rfl) g_len (by decide +kernel) (pa_cons (pv 0) pa_nil)) (nomark _)) (pw_or1 (pt_cmpR (Ak.op_ninK (K := K) (by rfl)) (pe_ix (Ak.ix_K (K := K) (by rfl)) (pv 0) (pv 1) (by intro _ _; rfl)) (pv 2) (by rfl)))))
      (pss_one (ps_raise rfl (takes_of rfl rfl rfl rfl) (Ak.pmk_o (K := K) (by rfl) r_BadText hr (by walk_at "lv") (by rfl) (pa_cons (pv 1) pa_nil))))
      pss_nil)), ?_⟩
    have e0 : L2.start N_check_sign [V.str (tx l), V.int (p : Nat), V.str sg] = [some (V.str (tx l)), some (V.int (p : Nat)), some (V.str sg)] := rfl
    rw [e0]
    try dsimp only [cxOf]
    have bv : BearsV (.int (p : Nat)) := Or.inl ⟨_, rfl, by omega⟩
    walk_at "rd"
    refine w_lenTx (by omega) ?_
    walk_at "rd"
    refine Ak.w_ite (fun z => ?_) (fun z => ?_)
    · walk_at "rd"
      refine l_mkO bv r_BadText.T fun d nd => ?_
      exact kb (fun c hc => by rw [List.getElem?_eq_none (by omega)] at hc; cases hc) d nd
    · walk_at "rd"
      have hp2 : p < l.length := by omega
      refine w_ixTx (by omega) rfl (List.getElem?_eq_getElem hp2) ?_
      walk_at "rd"
      refine w_ninTx ?_
      walk_at "rd"
      refine Ak.w_iteN (fun z => ?_) (fun z => ?_)
      · walk_at "rd"
        refine l_mkO bv r_BadText.T fun d nd => ?_
        exact kb (fun c hc => by rw [List.getElem?_eq_getElem hp2] at hc; cases hc; exact z) d nd
      · walk_at "rd"
        exact kg _ (List.getElem?_eq_getElem hp2) z
theorem ok_end_mark {tF : Tok} {f : Addr} {fd : FuncData} (F : L2.Fun K "_end_of_mark" "_end_of_mark" s_end_of_mark f fd) (gF : mg "FIGURES" = some (.str "0123456789" tF)) (c_check_sign : CalX P w K mg base 3 "_check_sign" (spSign C6)) : FnOk P w K mg base (L2.CX P w) 4 f fd ["text"] (spEndMark C6) := by
  refine Fun.okX F sc_end_of_mark (fun vs H Q E h => ?_) (fun cdv A outer s H vs Q E hr h => ?_)
  · obtain ⟨_, rfl, _⟩ := h
    rfl
  · obtain ⟨l, rfl, ha, kg, kb⟩ := h
    have h1 := ha.1
    refine ⟨_, (pss_cons (ps_expr (Ak.pe_cx c_check_sign hr (by walk_at "lv") (by rfl) (takes_of rfl rfl rfl rfl) (pa_cons (pv 0) (pa_cons pe_int (pa_cons (Ak.pe_gstr (by rfl) gF) pa_nil)))))
      (pss_cons (ps_if (PW.pt (pw_or (pt_cmpR (Ak.op_eqK (K := K) (by rfl) hr.units) (pe_ix (Ak.ix_K (K := K) (by rfl)) (pv 0) pe_int (by intro _ _; rfl)) pe_str (nomark _)) (pw_or1 (pt_not (Ak.pt_truK (K := K) (by rfl) (Ak.pe_bm0K (K := K) (by rfl) PySem.F.plainAttrs_str PySem.F.slot_str_isdigit PySem.F.type_str_isdigit Ak.mt_isdig (pe_slice (Ak.sl_K (K := K) (by rfl)) (pv 0) (po_some pe_int) (po_some pe_int))))))))
      (pss_one (ps_ret pe_int))
      pss_nil)
      (pss_one (ps_ret pe_int)))), ?_⟩
    have e0 : L2.start N_end_of_mark [V.str (tx l)] = [some (V.str (tx l))] := rfl
    rw [e0]
    try dsimp only [cxOf]
    walk_at "rd"
    refine ⟨l, 0, _, rfl, ha, by omega, fun c hc hin => ?_, fun hn d nd => ?_⟩
    · have dc : isD c = true := by rw [← fig_in]; exact decide_eq_true hin
      have hc128 := ha.2 c (List.mem_of_getElem? hc)
      match l, hc with
      | c' :: r, hc =>
        cases hc
        walk_at "rd"
        refine w_ixTx (j := 0) (by omega) rfl rfl ?_
        walk_at "rd"
        rw [s_0]
        refine Ak.w_ite (fun z => ?_) (fun z => ?_)
        · have c48 : c = 48 := by simpa using tx_inj.mp z
          walk_at "rd"
          have ml : markL (c :: r) = 1 := by
            subst c48
            cases r with
            | nil => rw [markL_one, if_pos dc]
            | cons d r => rw [markL_two, if_pos dc, if_pos rfl]
          rw [ml] at kg
          exact kg (by decide)
        · have c48 : c ≠ 48 := fun h => z (by rw [h])
          walk_at "rd"
          refine w_slS (by omega) cutS_12 ?_
          refine ⟨rfl, ?_⟩
          cases r with
          | nil =>
            have ml : markL [c] = 1 := by rw [markL_one, if_pos dc]
            rw [ml] at kg
            refine ⟨_, rfl, rfl, trivial, ?_⟩
            rw [show Txt.isdigit (tx (([c] : List Nat).drop 1 |>.take 1)) = false from isdig_nil]
            walk_at "rd"
            exact kg (by decide)
          | cons d r =>
            have d128 : d < 128 := ha.2 d (by simp)
            refine ⟨_, rfl, rfl, trivial, ?_⟩
            rw [show Txt.isdigit (tx (((c :: d :: r) : List Nat).drop 1 |>.take 1)) = isD d from isdig_one d128]
            have ml : markL (c :: d :: r) = if isD d = true then 2 else 1 := by rw [markL_two, if_pos dc, if_neg c48]
            rw [ml] at kg
            cases hd : isD d with
            | true =>
              rw [hd, if_pos rfl] at kg
              walk_at "rd"
              exact kg (by decide)
            | false =>
              rw [hd, if_neg (by decide)] at kg
              walk_at "rd"
              exact kg (by decide)
      | [], hc => cases hc
    · refine kb ?_ d nd
      cases l with
      | nil => rfl
      | cons c r =>
        have dc : isD c = false := by
          rw [← fig_in]
          exact decide_eq_false (hn c rfl)
        cases r with
        | nil => rw [markL_one, if_neg (by rw [dc]; decide)]
        | cons d r => rw [markL_two, if_neg (by rw [dc]; decide)]
theorem bad_okB {r : List Nat} {k : Nat} (h : badAt r = some k) : okB r k = false ∧ k < r.length ∧ ∀ j, j < k → okB r j = true := by
  unfold badAt at h
  obtain ⟨h1, h2⟩ := List.find?_range_eq_some.mp h
  exact ⟨by simpa using h1, List.mem_range.mp h2.1, fun j hj => by simpa using h2.2 j hj⟩
theorem bad_none {r : List Nat} (h : badAt r = none) : ∀ k, k < r.length → okB r k = true := fun k hk => by
  unfold badAt at h
  have := List.find?_eq_none.mp h k (List.mem_range.mpr hk)
  simpa using this
theorem bad_first {r : List Nat} {k : Nat} (h : okB r k = false) (hk : k < r.length) (hj : ∀ j, j < k → okB r j = true) : badAt r = some k := by
  unfold badAt
  exact List.find?_range_eq_some.mpr ⟨by simp [h], List.mem_range.mpr hk, fun j hj' => by simp [hj j hj']⟩
theorem bad_all {r : List Nat} (h : ∀ k, k < r.length → okB r k = true) : badAt r = none := by
  unfold badAt
  exact List.find?_eq_none.mpr fun k hk => by simp [h k (List.mem_range.mp hk)]
theorem ok_bits_signs {tN : Tok} {f : Addr} {fd : FuncData} (F : L2.Fun K "_check_bits" "_check_bits" s_u_check_bits f fd) (g_range : mg "range" = none) (g_len : mg "len" = none) (gN : mg "NO_BITS" = some (.str "-" tN)) (c_check_sign : CalX P w K mg base 3 "_check_sign" (spSign C6)) : FnOk P w K mg base (L2.CX P w) 4 f fd ["text", "first"] (spBitsSigns C6) := by
  refine Fun.okX F sc_u_check_bits (fun vs H Q E h => ?_) (fun cdv A outer s H vs Q E hr h => ?_)
  · obtain ⟨_, _, rfl, _⟩ := h
    rfl
  · obtain ⟨l, p, rfl, ha, hp, k1, k2, k3⟩ := h
    have h1 := ha.1
    refine ⟨_, (pss_cons (ps_expr (Ak.pe_cx c_check_sign hr (by walk_at "lv") (by rfl) (takes_of rfl rfl rfl rfl) (pa_cons (pv 0) (pa_cons (pv 1) (pa_cons (pe_op (Ak.op_plusK (K := K) (by rfl)) pe_str (Ak.pe_gstr (by rfl) gN)) pa_nil)))))
      (pss_cons (ps_set (i := 2) sc_u_check_bits.nd rfl (Or.inl rfl) (pe_ifExp (pt_cmpR (Ak.op_eqK (K := K) (by rfl) hr.units) (pe_ix (Ak.ix_K (K := K) (by rfl)) (pv 0) (pv 1) (by intro _ _; rfl)) (Ak.pe_gstr (by rfl) gN) (nomark _)) pe_str pe_str))
      (pss_one (ps_for (passes_of rfl) rfl (pi_range2 (by rfl) g_range (pa_cons (pe_op (Ak.op_plusK (K := K) (by rfl)) (pv 1) pe_int) (pa_cons (pe_callB (Ak.cr_lenK (K := K) (by rfl)) (by rfl) g_len (by decide +kernel) (pa_cons (pv 0) pa_nil)) pa_nil))) (pg_name (i := 3) sc_u_check_bits.nd rfl (Or.inl rfl))
      (pss_one (ps_expr (Ak.pe_cx c_check_sign hr (by walk_at "lv") (by rfl) (takes_of rfl rfl rfl rfl) (pa_cons (pv 0) (pa_cons (pv 3) (pa_cons (pv 2) pa_nil)))))))))), ?_⟩
    have e0 : L2.start N_u_check_bits [V.str (tx l), V.int (p : Nat)] = [some (V.str (tx l)), some (V.int (p : Nat)), none, none] := rfl
    rw [e0]
    try dsimp only [cxOf]
    walk_at "rd"
    refine w_plusTx (by decide +kernel) ?_
    walk_at "rd"
    have rd : ∀ j, (l.drop p)[j]? = l[p + j]? := fun j => List.getElem?_drop
    have rl : (l.drop p).length = l.length - p := List.length_drop
    refine ⟨l, p, _, rfl, ha, hp, fun c hc hin => ?_, fun hn d nd => ?_⟩
    · rw [s_01d] at hin
      have hpl : p < l.length := (List.getElem?_eq_some_iff.mp hc).1
      have r0 : (l.drop p)[0]? = some c := by rw [rd]; exact hc
      have ok0 : okB (l.drop p) 0 = true := by
        unfold okB
        rw [r0]
        simp only [List.mem_cons, List.not_mem_nil, or_false] at hin
        rcases hin with rfl | rfl | rfl <;> decide
      have okj : ∀ j x, 1 ≤ j → l[p + j]? = some x → (okB (l.drop p) j = true ↔ ((x = 48 ∨ x = 49) ∧ c ≠ 45)) := fun j x hj hx => by
        unfold okB
        rw [r0, rd, hx]
        have : decide (j = 0) = false := decide_eq_false (by omega)
        rw [this, Bool.and_false, Bool.or_false]
        simp
      with_reducible refine Ak.seq_is ?_
      refine cut_seq (fun σ' H' => ∃ sg : Str, σ' = [some (.str (tx l)), some (.int (p : Nat)), some (.str sg), none] ∧ H' = H ∧ ∀ x, x ∈ sg.cps.toList ↔ ((x = 48 ∨ x = 49) ∧ c ≠ 45)) (fun σ' H' pv => ?_) (fun R rest => ?_)
      · obtain ⟨sg, rfl, rfl, hsg⟩ := pv
        walk_at "rd"
        refine w_lenTx (by omega) ?_
        walk_at "rd"
        refine Ak.l_forR2 (by omega) (fun k σ' H1 => ∃ v3, σ' = [some (.str (tx l)), some (.int (p : Nat)), some (.str sg), v3] ∧ H1 = H' ∧ ∀ j, j ≤ k → j < (l.drop p).length → okB (l.drop p) j = true)
          ⟨none, rfl, rfl, fun j hj _ => by rw [show j = 0 by omega]; exact ok0⟩ (fun k σ' H1 hk pv => ?_) (fun σ' H1 pv => ?_)
        · obtain ⟨v3, rfl, rfl, hall⟩ := pv
          walk_at "rd"
          refine ⟨l, p + 1 + k, sg, by rw [show (((p + 1 + k : Nat) : Int)) = (p : Int) + 1 + k by omega], ha, by omega, fun x hx hin => ?_, fun hn d nd => ?_⟩
          · walk_at "rd"
            refine ⟨_, rfl, rfl, fun j hj hjl => ?_⟩
            by_cases z : j ≤ k
            · exact hall j z hjl
            · have e : j = 1 + k := by omega
              subst e
              exact (okj (1 + k) x (by omega) (by rw [← Nat.add_assoc]; exact hx)).mpr ((hsg x).mp hin)
          · have hx : l[p + 1 + k]? = some (l[p + 1 + k]'(by omega)) := List.getElem?_eq_getElem (by omega)
            have hb : okB (l.drop p) (1 + k) = false := by
              have := okj (1 + k) _ (by omega) (by rw [← Nat.add_assoc]; exact hx)
              cases hh : okB (l.drop p) (1 + k) with
              | false => rfl
              | true => exact absurd ((hsg _).mpr (this.mp hh)) (hn _ hx)
            have := k2 hpl (1 + k) (bad_first hb (by omega) fun j hj => hall j (by omega) (by omega)) d nd
            rw [show p + (1 + k) = p + 1 + k by omega] at this
            exact this
        · obtain ⟨v3, rfl, rfl, hall⟩ := pv
          walk_at "rd"
          exact k3 hpl (bad_all fun j hj => hall j (by omega) hj)
      · walk_at "rd"
        refine w_ixTx (j := p) (by omega) rfl hc ?_
        walk_at "rd"
        rw [s_d]
        refine Ak.w_ite (fun z => ?_) (fun z => ?_)
        · walk_at "rd"
          have c45 : c = 45 := by simpa using tx_inj.mp z
          exact rest _ _ ⟨_, rfl, rfl, fun x => by rw [s_emp]; simp [c45]⟩
        · walk_at "rd"
          have c45 : c ≠ 45 := fun h => z (by rw [h])
          exact rest _ _ ⟨_, rfl, rfl, fun x => by rw [s_01]; simp [c45]⟩
    · by_cases hpl : p < l.length
      · have hx : l[p]? = some l[p] := List.getElem?_eq_getElem hpl
        have nin := hn _ hx
        rw [s_01d] at nin
        have hb : okB (l.drop p) 0 = false := by
          unfold okB
          rw [rd, Nat.add_zero, hx]
          simp only [List.mem_cons, List.not_mem_nil, or_false, not_or] at nin
          simp [nin]
        exact k2 hpl 0 (bad_first hb (by omega) fun j hj => absurd hj (Nat.not_lt_zero _)) d nd
      · exact k1 (by omega) d nd
theorem digV_one {c : Nat} : PySem.NumText.digitsVal [c] = c - 48 := by simp [PySem.NumText.digitsVal]
theorem ok_bits_of {tN : Tok} {f : Addr} {fd : FuncData} (F : L2.Fun K "_bits_of" "_bits_of" s_bits_of f fd) (gN : mg "NO_BITS" = some (.str "-" tN)) (g_tuple : mg "tuple" = none) (g_int : mg "int" = none) : FnOk P w K mg base (L2.CX P w) 1 f fd ["signs"] spBitsOf := by
  refine Fun.okX F sc_bits_of (fun vs H Q E h => ?_) (fun cdv A outer s H vs Q E hr h => ?_)
  · obtain ⟨_, rfl, _⟩ := h
    rfl
  · obtain ⟨r, rfl, ha, hne, hb, k⟩ := h
    have h1 := ha.1
    refine ⟨_, (pss_cons (ps_if (pt_cmpR (Ak.op_eqK (K := K) (by rfl) hr.units) (pv 0) (Ak.pe_gstr (by rfl) gN) (nomark _))
      (pss_one (ps_ret (pe_tup pa_nil)))
      pss_nil)
      (pss_one (ps_ret (pe_callTy (Ak.cr_tupK (K := K) (by rfl)) (by rfl) g_tuple (by decide +kernel) (pa_cons (pe_lc (own := [("sign", 1)]) (g := (gName 1)) (tt := tYes) rfl sc_bits_of.nd (Ak.pi_strE (pv 0)) (blkOk_by (N := N_bits_of) (sc := defScope s_bits_of) (by decide +kernel)) (fun _ _ _ _ _ => by exact (pg_name (i := 1) sc_bits_of.nd rfl (Or.inl rfl))) (fun _ _ _ _ _ => by exact pts_nil) (fun _ _ _ _ _ => by exact (pe_callTy Ak.cr_intS (by rfl) g_int (by decide +kernel) (pa_cons (pv 1) pa_nil)))) pa_nil))))), ?_⟩
    have e0 : L2.start N_bits_of [V.str (tx r)] = [some (V.str (tx r)), none] := rfl
    rw [e0]
    try dsimp only [cxOf]
    walk_at "rd"
    rw [s_d]
    have noD : ∀ c, c ∈ r → r ≠ [45] → c = 48 ∨ c = 49 := fun c hc hr => by
      obtain ⟨k, hk, rfl⟩ := List.mem_iff_getElem.mp hc
      have ok := bad_none hb k hk
      unfold okB at ok
      rw [List.getElem?_eq_getElem hk] at ok
      by_cases k0 : k = 0
      · subst k0
        by_cases c45 : r[0] = 45
        · exfalso
          by_cases r1 : r.length = 1
          · apply hr
            match r, r1 with
            | [x], _ => simpa using c45
          · have ok1 := bad_none hb 1 (by omega)
            unfold okB at ok1
            rw [List.getElem?_eq_getElem (show 0 < r.length by omega), c45] at ok1
            simp at ok1
        · simp [c45] at ok
          omega
      · have : decide (k = 0) = false := decide_eq_false k0
        rw [this, Bool.and_false, Bool.or_false] at ok
        simp at ok
        omega
    refine Ak.w_ite (fun z => ?_) (fun z => ?_)
    · have er : r = [45] := tx_inj.mp z
      walk_at "rd"
      rename_i p np
      exact k p _ np (by rw [upd_same, er]; rfl) (Keep.refl.new np)
    · have er : r ≠ [45] := fun h => z (by rw [h])
      walk_at "rd"
      refine w_lcS ?_
      walk_at "rd"
      refine l_lcS (fun i => ((r.take i).map fun (c : Nat) => (c : Int) - 48).map V.int) rfl (fun D i c H' hD hc kD hf => ?_) (fun D H1 hD k1 hf => ?_)
      · have h01 := noD c (List.mem_of_getElem? hc) er
        have tl := List.length_take_le i r
        have tl2 : (r.take i).length ≤ r.length := by rw [List.length_take]; omega
        walk_at "rd"
        refine ⟨tx [c], ((PySem.NumText.digitsVal [c] : Nat) : Int), rfl, PySem.intText_digits (fun x hx => by
          have : x = c := by simpa using hx
          omega) (by simp) (by rw [tx_len]; simp), by rw [tx_len]; simp, ?_⟩
        rw [digV_one, show (((c - 48 : Nat) : Int)) = (c : Int) - 48 by omega]
        exact kIn_go hD hf kD (by rw [List.length_map, List.length_map, sizeLine_eq]; omega) (by rw [take_at hc, List.map_append, List.map_append]; rfl)
      · rw [List.take_length] at hf
        walk_at "rd"
        rename_i p np
        refine k p _ (k1.2 _ np) ?_ (k1.new np)
        rw [upd_same]
        have : bitsL r = r.map fun (c : Nat) => (c : Int) - 48 := by
          unfold bitsL
          rw [List.filter_eq_self.mpr fun c hc => by have := noD c hc er; simp; omega]
        rw [this]
theorem no_dash {r : List Nat} (hb : badAt r = none) : ∀ c, c ∈ r → r ≠ [45] → c = 48 ∨ c = 49 := fun c hc hr => by
  obtain ⟨k, hk, rfl⟩ := List.mem_iff_getElem.mp hc
  have ok := bad_none hb k hk
  unfold okB at ok
  rw [List.getElem?_eq_getElem hk] at ok
  by_cases k0 : k = 0
  · subst k0
    by_cases c45 : r[0] = 45
    · exfalso
      by_cases r1 : r.length = 1
      · apply hr
        match r, r1 with
        | [x], _ => simpa using c45
      · have ok1 := bad_none hb 1 (by omega)
        unfold okB at ok1
        rw [List.getElem?_eq_getElem (show 0 < r.length by omega), c45] at ok1
        simp at ok1
    · simp [c45] at ok
      omega
  · have : decide (k = 0) = false := decide_eq_false k0
    rw [this, Bool.and_false, Bool.or_false] at ok
    simp at ok
    omega
theorem bits_01 {r : List Nat} (hb : badAt r = none) : Bits01 (bitsL r) := fun x hx => by
  unfold bitsL at hx
  obtain ⟨c, hc, rfl⟩ := List.mem_map.mp hx
  obtain ⟨h1, h2⟩ := List.mem_filter.mp hc
  have c45 : c ≠ 45 := by simpa using h2
  have := no_dash hb c h1 (fun e => by rw [e] at h1; exact c45 (by simpa using h1))
  omega
theorem bits_le {r : List Nat} : (bitsL r).length ≤ r.length := by
  unfold bitsL
  rw [List.length_map]
  exact List.length_filter_le _ _
theorem isD_iff {c : Nat} : isD c = true ↔ 48 ≤ c ∧ c ≤ 57 := by unfold isD; exact decide_eq_true_iff
theorem mark_digits {l : List Nat} : ∀ c, c ∈ l.take (markL l) → 48 ≤ c ∧ c ≤ 57 := fun c hc => by
  match l with
  | [] => simp at hc
  | [x] =>
    rw [markL_one] at hc
    by_cases h : isD x = true
    · rw [if_pos h] at hc
      have : c = x := by simpa using hc
      rw [this]
      exact isD_iff.mp h
    · rw [if_neg h] at hc
      simp at hc
  | x :: y :: r =>
    rw [markL_two] at hc
    by_cases h : isD x = true
    · rw [if_pos h] at hc
      by_cases h48 : x = 48
      · rw [if_pos h48] at hc
        have : c = x := by simpa using hc
        rw [this]
        exact isD_iff.mp h
      · rw [if_neg h48] at hc
        by_cases hy : isD y = true
        · rw [if_pos hy] at hc
          have : c = x ∨ c = y := by simpa using hc
          rcases this with e | e <;> rw [e]
          · exact isD_iff.mp h
          · exact isD_iff.mp hy
        · rw [if_neg hy] at hc
          have : c = x := by simpa using hc
          rw [this]
          exact isD_iff.mp h
    · rw [if_neg h] at hc
      simp at hc
theorem digV_le : ∀ {l : List Nat} {acc : Nat}, (∀ c, c ∈ l → 48 ≤ c ∧ c ≤ 57) → l.foldl (fun acc c => acc * 10 + (c - 48)) acc ≤ acc * 10 ^ l.length + (10 ^ l.length - 1) := by
  intro l
  induction l with
  | nil => intro acc _; simp
  | cons c r ih =>
    intro acc h
    rw [List.foldl_cons]
    have h1 := ih (acc := acc * 10 + (c - 48)) fun x hx => h x (List.mem_cons_of_mem _ hx)
    have hc := h c List.mem_cons_self
    have e : 10 ^ (c :: r).length = 10 * 10 ^ r.length := by rw [List.length_cons, Nat.pow_succ, Nat.mul_comm]
    rw [e]
    have hp : 1 ≤ 10 ^ r.length := Nat.one_le_iff_ne_zero.mpr (by simp)
    have h2 : (acc * 10 + (c - 48)) * 10 ^ r.length ≤ (acc * 10 + 9) * 10 ^ r.length := Nat.mul_le_mul_right _ (by omega)
    have h3 : (acc * 10 + 9) * 10 ^ r.length = acc * (10 * 10 ^ r.length) + 9 * 10 ^ r.length := by
      rw [Nat.add_mul, Nat.mul_assoc]
    omega
theorem markV_le {l : List Nat} : 0 ≤ markV (l.take (markL l)) ∧ markV (l.take (markL l)) < 100 := by
  unfold markV PySem.NumText.digitsVal
  have h := digV_le (acc := 0) (mark_digits (l := l))
  have hl : (l.take (markL l)).length ≤ 2 := by
    have := (markL_le (l := l)).2
    rw [List.length_take]
    omega
  have : 10 ^ (l.take (markL l)).length ≤ 10 ^ 2 := Nat.pow_le_pow_right (by decide) hl
  omega
theorem ok_read {C2 C3 : Addr} {f : Addr} {fd : FuncData} (F : L2.Fun K "read" "read" s_read f fd) (g_int : mg "int" = none) (c_check_setting : CalX P w K mg base 2 "check_setting" (spCheckSetting K)) (c_end_of_mark : CalX P w K mg base 4 "_end_of_mark" (spEndMark C6)) (c_check_sign : CalX P w K mg base 3 "_check_sign" (spSign C6)) (c_u_check_bits : CalX P w K mg base 4 "_check_bits" (spBitsSigns C6))
    (c_bits_of : CalX P w K mg base 1 "_bits_of" spBitsOf) (c_check_telling : CalX P w K mg base 2 "check_telling" (spTellX K C2 C3)) : FnOk P w K mg base (L2.CX P w) 5 f fd ["setting", "text"] (spRead C2 C3 C6) := by
  refine Fun.okX F sc_read (fun vs H Q E h => ?_) (fun cdv A outer s H vs Q E hr h => ?_)
  · obtain ⟨_, _, _, _, _, _, rfl, _⟩ := h
    rfl
  · obtain ⟨q, m, wi, li, a, t, rfl, hq, so, ha, hd⟩ := h
    have h1 := ha.1
    have ml := markL_le (l := t)
    refine ⟨_, (pss_cons (ps_expr (Ak.pe_cx c_check_setting hr (by walk_at "lv") (by rfl) (takes_of rfl rfl rfl rfl) (pa_cons (pv 0) pa_nil)))
      (pss_cons (ps_set (i := 2) sc_read.nd rfl (Or.inl rfl) (Ak.pe_cx c_end_of_mark hr (by walk_at "lv") (by rfl) (takes_of rfl rfl rfl rfl) (pa_cons (pv 1) pa_nil)))
      (pss_cons (ps_expr (Ak.pe_cx c_check_sign hr (by walk_at "lv") (by rfl) (takes_of rfl rfl rfl rfl) (pa_cons (pv 1) (pa_cons (pv 2) (pa_cons pe_str pa_nil)))))
      (pss_cons (ps_expr (Ak.pe_cx c_u_check_bits hr (by walk_at "lv") (by rfl) (takes_of rfl rfl rfl rfl) (pa_cons (pv 1) (pa_cons (pe_op (Ak.op_plusK (K := K) (by rfl)) (pv 2) pe_int) pa_nil))))
      (pss_cons (ps_set (i := 3) sc_read.nd rfl (Or.inl rfl) (pe_tup (pa_cons (pe_callTy Ak.cr_intS (by rfl) g_int (by decide +kernel) (pa_cons (pe_slice (Ak.sl_K (K := K) (by rfl)) (pv 1) po_none (po_some (pv 2))) pa_nil)) (pa_cons (Ak.pe_cx c_bits_of hr (by walk_at "lv") (by rfl) (takes_of rfl rfl rfl rfl) (pa_cons (pe_slice (Ak.sl_K (K := K) (by rfl)) (pv 1) (po_some (pe_op (Ak.op_plusK (K := K) (by rfl)) (pv 2) pe_int)) po_none) pa_nil)) pa_nil))))
      (pss_cons (ps_expr (Ak.pe_cx c_check_telling hr (by walk_at "lv") (by rfl) (takes_of rfl rfl rfl rfl) (pa_cons (pv 3) (pa_cons (pe_ix (Ak.ix_K (K := K) (by rfl)) (pv 0) pe_int (by intro _ _; rfl)) (pa_cons (pe_ix (Ak.ix_K (K := K) (by rfl)) (pv 0) pe_int (by intro _ _; rfl)) pa_nil)))))
      (pss_one (ps_ret (pv 3))))))))), ?_⟩
    have e0 : L2.start N_read [V.ref q, V.str (tx t)] = [some (V.ref q), some (V.str (tx t)), none, none] := rfl
    rw [e0]
    try dsimp only [cxOf]
    walk_at "rd"
    refine ⟨q, m, wi, li, a, rfl, SqT.of hq, so, fun H1 k1 => ?_⟩
    have hq1 := k1.1 _ _ nin_nil hq
    walk_at "rd"
    refine ⟨t, rfl, ha, fun mn => ?_, fun mz d nd => ?_⟩
    · walk_at "rd"
      refine ⟨t, markL t, _, rfl, ha, by omega, fun c hc hin => ?_, fun hn d nd => ?_⟩
      · rw [s_sp] at hin
        have c32 : c = 32 := by simpa using hin
        subst c32
        have mlt : markL t < t.length := (List.getElem?_eq_some_iff.mp hc).1
        walk_at "rd"
        refine ⟨t, markL t + 1, by rw [show ((markL t + 1 : Nat) : Int) = (markL t : Int) + 1 by omega], ha, by omega, fun hle d nd => ?_, fun hlt k hk d nd => ?_, fun hlt hn => ?_⟩
        · have e : dueL m wi t = .text t.length := by
            unfold dueL
            rw [if_neg (by rw [hc]; simp [mn]), if_pos (by omega)]
          rw [e] at hd
          exact hd d _ (k1.2 _ nd) (k1.new nd) (by rw [upd_same, show t.length = markL t + 1 by omega])
        · have e : dueL m wi t = .text (markL t + 1 + k) := by
            unfold dueL
            rw [if_neg (by rw [hc]; simp [mn]), if_neg (by omega), hk]
          rw [e] at hd
          exact hd d _ (k1.2 _ nd) (k1.new nd) upd_same
        · have e : dueL m wi t = if m ≤ markV (t.take (markL t)) then .mark else if ((bitsL (t.drop (markL t + 1))).length : Int) = wi then .told (markV (t.take (markL t))) (bitsL (t.drop (markL t + 1))) else .bits := by
            unfold dueL
            rw [if_neg (by rw [hc]; simp [mn]), if_neg (by omega), hn]
          rw [e] at hd
          walk_at "rd"
          refine w_slS (by omega) (cutS_take (by omega)) ?_
          walk_at "rd"
          rw [show ((markL t : Nat) : Int).toNat = markL t by omega]
          obtain ⟨mv0, mv1⟩ := markV_le (l := t)
          have hdig := mark_digits (l := t)
          have tne : t.take (markL t) ≠ [] := fun z => by
            have := congrArg List.length z
            rw [List.length_take, List.length_nil] at this
            omega
          refine ⟨_, markV (t.take (markL t)), rfl, PySem.intText_digits (fun c hc => hdig c (by simpa using hc)) (by simpa using tne) (by rw [tx_len, List.length_take]; omega), by rw [tx_len, List.length_take]; omega, ?_⟩
          walk_at "rd"
          refine w_slS (by omega) (cutS_drop (by omega)) ?_
          walk_at "rd"
          rw [show ((markL t : Nat) + 1 : Int).toNat = markL t + 1 by omega]
          have dl : (t.drop (markL t + 1)).length = t.length - (markL t + 1) := List.length_drop
          have bl := bits_le (r := t.drop (markL t + 1))
          have b01 := bits_01 hn
          refine ⟨t.drop (markL t + 1), rfl, ⟨by omega, fun c hc => ha.2 c (List.mem_of_mem_drop hc)⟩, fun z => by rw [z] at dl; simp at dl; omega, hn, fun b H2 nb hb k2 => ?_⟩
          have hq2 := k2.1 _ _ nin_nil hq1
          generalize bitsL (t.drop (markL t + 1)) = bs at hd bl b01 hb
          generalize markV (t.take (markL t)) = mk at hd mv0 mv1 ⊢
          walk_at "rd"
          rename_i p np
          have k3 : Keep [] H2 (upd H2 p (.tup [.int mk, .ref b])) := Keep.refl.new np
          have hp3 : upd H2 p (.tup [.int mk, .ref b]) p = some (.tup [.int mk, .ref b]) := upd_same
          generalize upd H2 p (.tup [.int mk, .ref b]) = H3 at k3 hp3 ⊢
          have hb3 := k3.1 _ _ nin_nil hb
          have hq3 := k3.1 _ _ nin_nil hq2
          have k03 := (k1.trans k2).trans k3
          have np0 : H p = none := (k1.trans k2).2 _ np
          have nb0 : H b = none := k1.2 _ nb
          have w1 := so.w1
          have w0 := so.w0
          walk_at "rd"
          refine ⟨p, b, bs, mk, m, wi, rfl, SqT.of hp3, SqT.of hb3, by omega, by omega, by omega, fun x hx => by rcases b01 x hx with h | h <;> rw [h] <;> decide, fun no => ?_, fun ok no H4 k4 => ?_, fun ok ok2 H4 k4 => ?_⟩
          · rw [if_pos (by unfold MarkOk at no; omega)] at hd
            exact hd _ k03
          · rw [if_neg (by have := ok.2; omega), if_neg (fun z => no ⟨z, b01⟩)] at hd
            exact hd _ (k03.trans k4)
          · rw [if_neg (by have := ok.2; omega), if_pos ok2.1] at hd
            walk_at "rd"
            exact hd p b _ np0 nb0 (k4.1 _ _ nin_nil hp3) (k4.1 _ _ nin_nil hb3) (k03.trans k4)
      · have e : dueL m wi t = .text (markL t) := by
          unfold dueL
          rw [if_pos]
          refine Or.inr fun z => hn 32 z (by rw [s_sp]; simp)
        rw [e] at hd
        exact hd d _ (k1.2 _ nd) (k1.new nd) upd_same
    · have e : dueL m wi t = .text (markL t) := by
        unfold dueL
        rw [if_pos (Or.inl mz)]
      rw [e, mz] at hd
      exact hd d _ (k1.2 _ nd) (k1.new nd) upd_same
theorem ok_written {C2 C3 : Addr} {tN : Tok} {f : Addr} {fd : FuncData} (F : L2.Fun K "written" "written" s_written f fd) (gN : mg "NO_BITS" = some (.str "-" tN)) (g_str : mg "str" = none) (c_check_setting : CalX P w K mg base 2 "check_setting" (spCheckSetting K)) (c_check_telling : CalX P w K mg base 2 "check_telling" (spTellX K C2 C3)) : FnOk P w K mg base (L2.CX P w) 3 f fd ["setting", "told"] (spWritten K C2 C3) := by
  refine Fun.okX F sc_written (fun vs H Q E h => ?_) (fun cdv A outer s H vs Q E hr h => ?_)
  · obtain ⟨_, _, _, _, _, _, _, _, _, rfl, _⟩ := h
    rfl
  · obtain ⟨q, t, b, bs, k, m, wi, li, a, rfl, hq, so, ht, hb, hl, hk, hx, k1, k2, k3⟩ := h
    have w0 := so.w0
    have w1 := so.w1
    refine ⟨_, (pss_cons (ps_expr (Ak.pe_cx c_check_setting hr (by walk_at "lv") (by rfl) (takes_of rfl rfl rfl rfl) (pa_cons (pv 0) pa_nil)))
      (pss_cons (ps_expr (Ak.pe_cx c_check_telling hr (by walk_at "lv") (by rfl) (takes_of rfl rfl rfl rfl) (pa_cons (pv 1) (pa_cons (pe_ix (Ak.ix_K (K := K) (by rfl)) (pv 0) pe_int (by intro _ _; rfl)) (pa_cons (pe_ix (Ak.ix_K (K := K) (by rfl)) (pv 0) pe_int (by intro _ _; rfl)) pa_nil)))))
      (pss_cons (ps_asg (pv 1) (Ak.pg_tupK (K := K) (n := 2) (by rfl) rfl (pgs_cons (pg_name (i := 2) sc_written.nd rfl (Or.inl rfl)) (pgs_cons (pg_name (i := 3) sc_written.nd rfl (Or.inl rfl)) pgs_nil))))
      (pss_cons (ps_set (i := 4) sc_written.nd rfl (Or.inl rfl) (Ak.pe_bmK (K := K) (by rfl) PySem.F.plainAttrs_str PySem.F.slot_str_join PySem.F.type_str_join (Ak.mt_joinK (K := K) (by rfl)) pe_str (pa_cons (pe_lc (own := [("bit", 5)]) (g := (gName 5)) (tt := tYes) rfl sc_written.nd (Ak.pi_tupK (K := K) (by rfl) (pv 3)) (blkOk_by (N := N_written) (sc := defScope s_written) (by decide +kernel)) (fun _ _ _ _ _ => by exact (pg_name (i := 5) sc_written.nd rfl (Or.inl rfl))) (fun _ _ _ _ _ => by exact pts_nil) (fun _ _ _ _ _ => by exact (pe_callTy call_str_int (by rfl) g_str (by decide +kernel) (pa_cons (pv 5) pa_nil)))) pa_nil)))
      (pss_one (ps_ret (pe_joined (.cons (pe_fmt (pv 2)) (.cons pe_str (.cons (pe_fmt (Ak.pe_orTK (K := K) (by rfl) (pv 4) (pe_one (Ak.pe_gstr (by rfl) gN)))) .nil)))))))))), ?_⟩
    have e0 : L2.start N_written [V.ref q, V.ref t] = [some (V.ref q), some (V.ref t), none, none, none, none] := rfl
    rw [e0]
    try dsimp only [cxOf]
    walk_at "rd"
    refine ⟨q, m, wi, li, a, rfl, SqT.of hq, so, fun H1 kk1 => ?_⟩
    have hq1 := kk1.1 _ _ nin_nil hq
    have ht1 := kk1.seqT nin_nil ht
    have hb1 := kk1.seqT nin_nil hb
    walk_at "rd"
    refine ⟨t, b, bs, k, m, wi, rfl, ht1, hb1, hl, by omega, hk, hx, fun no => k1 no _ kk1, fun ok no H2 kk2 => k2 ok no _ (kk1.trans kk2), fun ok ok2 H2 kk2 => ?_⟩
    have ht2 := kk2.seqT nin_nil ht1
    have hb2 := kk2.seqT nin_nil hb1
    walk_at "rd"
    refine ⟨rfl, ?_⟩
    walk_at "rd"
    refine Ak.l_lcT hb2 (fun i => ((bs.take i).map decS).map V.str) rfl (fun D i x H' hD hx' kD hf => ?_) (fun D H3 hD kk3 hf => ?_)
    · obtain ⟨y, hy, rfl⟩ := map_at hx'
      have hyb := hx y (List.mem_of_getElem? hy)
      have tl2 : (bs.take i).length ≤ bs.length := by rw [List.length_take]; omega
      walk_at "rd"
      refine ⟨y, rfl, by have := log2_small (n := y.natAbs) (by omega); omega, ?_⟩
      exact kIn_go hD hf kD (by rw [List.length_map, List.length_map, sizeLine_eq]; omega) (by rw [take_at hy, List.map_append, List.map_append]; rfl)
    · rw [List.length_map, List.take_length] at hf
      have hb3 := kk3.seqT nin_nil hb2
      have kk := (kk1.trans kk2).trans kk3
      have hs : ∀ l : List Int, (∀ x : Int, x ∈ l → x.natAbs < 2 ^ 59) → ((l.map decS).map (·.length)).sum ≤ 100 * l.length := by
        intro l
        induction l with
        | nil => intro _; exact Nat.le_refl _
        | cons y r ih =>
          intro h
          have h1 := dec_len (h y List.mem_cons_self)
          have h2 := ih fun x hx => h x (List.mem_cons_of_mem _ hx)
          rw [List.map_cons, List.map_cons, List.sum_cons, List.length_cons]
          have : (decS y).length ≤ 100 := h1
          omega
      have hsb := hs bs hx
      have e0 : (Str.ofString "").length = 0 := by decide +kernel
      have gb := glued_bits ok2.2
      have gl : (Txt.join (Str.ofString "") (bs.map decS)).length = bs.length := by rw [gb, tx_len, List.length_map]
      walk_at "rd"
      refine ⟨Str.ofString "", D, bs.map decS, rfl, rfl, Or.inl (SqL.of hf), by rw [e0]; omega, ?_⟩
      walk_at "rd"
      refine j_t (w_fmtK ?_)
      walk_at "rd"
      have d1 := dec_len hk
      have d0 : Str.empty.length = 0 := rfl
      have d3 : (Str.ofString " ").length ≤ 100 := by decide +kernel
      have d4 : (Str.ofString "-").length ≤ 100 := by decide +kernel
      refine k_Fi hk (k_J (by omega) ?_)
      refine j_c (by rw [Str.length_append]; omega) ?_
      refine j_t (w_fmtK ?_)
      show tOrT _ _ _ _ _ _
      unfold tOrT
      walk_at "rd"
      refine ⟨decide (bs ≠ []), ⟨by rw [gl, sizeLine_eq]; omega, ?_⟩, ?_⟩
      · rw [gl]
        cases bs with
        | nil => rfl
        | cons x r => simp; omega
      · refine Ak.w_ite (fun z => ?_) (fun z => ?_)
        · refine k_Fs (by omega) (k_J (by rw [Str.length_append, Str.length_append]; omega) (j_nil ?_))
          have := k3 ok ok2 _ kk
          unfold writS at this
          rw [if_neg z] at this
          exact this
        · walk_at "rd"
          have e : bs = [] := by simpa using z
          refine k_Fs (by omega) (k_J (by rw [Str.length_append, Str.length_append]; omega) (j_nil ?_))
          have := k3 ok ok2 _ kk
          unfold writS at this
          rw [if_pos e] at this
          exact this
end
end Ak

namespace Ak
open PySem PySem.Spec PyProof.Rows L2
/-! ### what is written reads back -/
theorem dec_two : ∀ k : Fin 64, decS ((k.val : Nat) : Int) = tx (if k.val < 10 then [48 + k.val] else [48 + k.val / 10, 48 + k.val % 10]) := by decide +kernel
theorem okB_bits {r : List Nat} (h : ∀ c, c ∈ r → c = 48 ∨ c = 49) : badAt r = none := bad_all fun j hj => by
  unfold okB
  have h0 := h r[0] (List.getElem_mem (by omega))
  have h1 := h r[j] (List.getElem_mem hj)
  rw [List.getElem?_eq_getElem hj, List.getElem?_eq_getElem (show 0 < r.length by omega)]
  rcases h0 with e0 | e0 <;> rcases h1 with e1 | e1 <;> rw [e0, e1] <;> simp
theorem bitsL_bits {bs : List Int} (h : Bits01 bs) : bitsL (bs.map fun b => (48 + b).toNat) = bs := by
  unfold bitsL
  rw [List.filter_eq_self.mpr fun c hc => by
    obtain ⟨b, hb, rfl⟩ := List.mem_map.mp hc
    rcases h b hb with rfl | rfl <;> decide, List.map_map]
  refine (List.map_congr_left fun b hb => ?_).trans (List.map_id bs)
  rcases h b hb with rfl | rfl <;> decide
def restL (bs : List Int) : List Nat := if bs = [] then [45] else bs.map fun b => (48 + b).toNat
theorem rest_len {bs : List Int} : 1 ≤ (restL bs).length ∧ (restL bs).length ≤ bs.length + 1 := by
  unfold restL
  split
  · exact ⟨Nat.le_refl _, by simp⟩
  · rename_i h
    rw [List.length_map]
    have := List.length_pos_iff.mpr h
    omega
theorem rest_bad {bs : List Int} (h : Bits01 bs) : badAt (restL bs) = none := by
  unfold restL
  split
  · decide +kernel
  · refine okB_bits fun c hc => ?_
    obtain ⟨b, hb, rfl⟩ := List.mem_map.mp hc
    rcases h b hb with rfl | rfl <;> decide
theorem rest_bits {bs : List Int} (h : Bits01 bs) : bitsL (restL bs) = bs := by
  unfold restL
  split
  · rename_i e
    rw [e]
    decide +kernel
  · exact bitsL_bits h
theorem rest_asc {bs : List Int} (h : Bits01 bs) : ∀ c, c ∈ restL bs → c < 128 := fun c hc => by
  unfold restL at hc
  split at hc
  · rw [List.mem_singleton.mp hc]; decide
  · obtain ⟨b, hb, rfl⟩ := List.mem_map.mp hc
    rcases h b hb with rfl | rfl <;> decide
theorem s_dash : Str.ofString "-" = tx [45] := by decide +kernel
theorem rest_str {bs : List Int} (h : Bits01 bs) : (if bs = [] then Str.ofString "-" else Txt.join (Str.ofString "") (bs.map decS)) = tx (restL bs) := by
  unfold restL
  split
  · exact s_dash
  · exact glued_bits h
theorem due_back {ds rest : List Nat} {m w : Int} {k : Int} {bs : List Int} (hm : markL (ds ++ 32 :: rest) = ds.length) (h0 : ds ≠ []) (hr : rest ≠ []) (hb : badAt rest = none) (hv : markV ds = k) (hbs : bitsL rest = bs) (km : k < m) (hw : (bs.length : Int) = w) :
    dueL m w (ds ++ 32 :: rest) = .told k bs := by
  have dl := List.length_pos_iff.mpr h0
  have rl := List.length_pos_iff.mpr hr
  have e1 : (ds ++ 32 :: rest)[ds.length]? = some 32 := by rw [List.getElem?_append_right (Nat.le_refl _), Nat.sub_self]; rfl
  have e2 : (ds ++ 32 :: rest).drop (ds.length + 1) = rest := by
    rw [← List.drop_drop, List.drop_left]
    rfl
  have e3 : (ds ++ 32 :: rest).take ds.length = ds := List.take_left
  unfold dueL
  rw [hm, e1, e2, e3, hb, hv, hbs]
  rw [if_neg (by simp; omega), if_neg (by rw [List.length_append, List.length_cons]; omega)]
  show (if m ≤ k then _ else _) = _
  rw [if_neg (by omega), if_pos hw]
theorem dig_mk : ∀ k : Fin 64, (10 ≤ k.val → isD (48 + k.val / 10) = true ∧ isD (48 + k.val % 10) = true ∧ 48 + k.val / 10 ≠ 48) ∧ (k.val < 10 → isD (48 + k.val) = true) ∧ markV (if k.val < 10 then [48 + k.val] else [48 + k.val / 10, 48 + k.val % 10]) = (k.val : Int) := by decide +kernel
theorem writ_back {k : Int} {bs : List Int} (k0 : 0 ≤ k) (k1 : k < 64) (h01 : Bits01 bs) (hl : bs.length ≤ 16) :
    ∃ t, (Str.ofString (toString k) ++ Str.ofString " ") ++ (if bs = [] then Str.ofString "-" else Txt.join (Str.ofString "") (bs.map decS)) = tx t ∧ writS k bs = tx t ∧ t.length ≤ 20 ∧ (∀ c, c ∈ t → c < 128) ∧ ∀ m w : Int, k < m → (bs.length : Int) = w → dueL m w t = .told k bs := by
  obtain ⟨n, rfl⟩ : ∃ n : Nat, k = (n : Int) := ⟨k.toNat, by omega⟩
  have n1 : n < 64 := by omega
  have ed := dec_two ⟨n, n1⟩
  have rl := rest_len (bs := bs)
  obtain ⟨g1, g2, g3⟩ := dig_mk ⟨n, n1⟩
  simp only at ed g1 g2 g3
  have ed' : Str.ofString (toString (n : Int)) = tx (if n < 10 then [48 + n] else [48 + n / 10, 48 + n % 10]) := ed
  generalize hds : (if n < 10 then [48 + n] else [48 + n / 10, 48 + n % 10]) = ds at ed ed' g3
  have d1 : ds ≠ [] := by rw [← hds]; split <;> simp
  have d2 : ds.length ≤ 2 := by rw [← hds]; split <;> simp
  have d3 : ∀ c, c ∈ ds → c < 128 := by
    intro c hc
    rw [← hds] at hc
    split at hc <;> simp at hc <;> omega
  have hm : markL (ds ++ 32 :: restL bs) = ds.length := by
    rw [← hds]
    by_cases h : n < 10
    · rw [if_pos h]
      show markL (_ :: 32 :: _) = 1
      rw [markL_two, if_pos (g2 h)]
      split
      · rfl
      · rw [if_neg (by decide)]
    · obtain ⟨a1, a2, a3⟩ := g1 (by omega)
      rw [if_neg h]
      show markL (_ :: _ :: _) = 2
      rw [markL_two, if_pos a1, if_neg a3, if_pos a2]
  have sp : Str.ofString " " = tx [32] := by decide +kernel
  have e0 : Str.empty = tx [] := rfl
  refine ⟨ds ++ 32 :: restL bs, ?_, ?_, ?_, ?_, fun m w km hw => due_back hm d1 (fun z => by rw [z] at rl; simp at rl) (rest_bad h01) g3 (rest_bits h01) km hw⟩
  · rw [rest_str h01, ed', sp, tx_app, tx_app, List.append_assoc]
    rfl
  · unfold writS
    rw [rest_str h01, ed, sp, e0, tx_app, tx_app, tx_app, List.nil_append, List.append_assoc]
    rfl
  · rw [List.length_append, List.length_cons]
    omega
  · intro c hc
    rcases List.mem_append.mp hc with h | h
    · exact d3 c h
    · rcases List.mem_cons.mp h with rfl | h
      · decide
      · exact rest_asc h01 c h
end Ak

namespace Ak
open PySem PySem.Spec PyProof.Rows L2
def spDue : Sp := fun vs H Q _ => ∃ q, ∃ m w l a : Int, ∃ t : List Nat, vs = [.ref q, .str (tx t)] ∧ H q = some (.tup [.int m, .int w, .int l, .int a]) ∧ SetOk m w l a ∧ Asc t ∧
  match dueL m w t with
  | .told k bs => ∀ p b H', H p = none → H b = none → H' p = some (.tup [.int k, .ref b]) → H' b = some (.tup (bs.map V.int)) → Keep [] H H' → Q (.ref p) H'
  | .text pl => ∀ p H', H p = none → Keep [] H H' → H' p = some (.tup [.str "text", .int (pl : Nat)]) → Q (.ref p) H'
  | .mark => ∀ p H', H p = none → Keep [] H H' → H' p = some (.tup [.str "mark"]) → Q (.ref p) H'
  | .bits => ∀ p H', H p = none → Keep [] H H' → H' p = some (.tup [.str "bits"]) → Q (.ref p) H'
/-- one step further in the mark -/
theorem markL_step {t : List Nat} {i : Nat} (hi : i ≤ markL t) : i < markL t ↔ (i < min 2 t.length ∧ (∃ c, t[i]? = some c ∧ isD c = true) ∧ ¬ (i = 1 ∧ t[0]? = some 48)) := by
  match t with
  | [] =>
    have : markL [] = 0 := rfl
    rw [this] at hi ⊢
    simp
  | [c] =>
    rw [markL_one] at hi ⊢
    by_cases h : isD c = true
    · rw [if_pos h] at hi ⊢
      match i, hi with
      | 0, _ => simp [h]
      | 1, _ => simp
    · rw [if_neg h] at hi ⊢
      have : i = 0 := by omega
      subst this
      simp [h]
  | c :: d :: r =>
    rw [markL_two] at hi ⊢
    by_cases h : isD c = true
    · rw [if_pos h] at hi ⊢
      by_cases h48 : c = 48
      · rw [if_pos h48] at hi ⊢
        match i, hi with
        | 0, _ => simp [h]
        | 1, _ => simp [h48]
      · rw [if_neg h48] at hi ⊢
        by_cases hd : isD d = true
        · rw [if_pos hd] at hi ⊢
          match i, hi with
          | 0, _ => simp [h]
          | 1, _ => simp [h48, hd]
          | 2, _ => simp
        · rw [if_neg hd] at hi ⊢
          match i, hi with
          | 0, _ => simp [h]
          | 1, _ => simp [hd]
    · rw [if_neg h] at hi ⊢
      have : i = 0 := by omega
      subst this
      simp [h]
theorem s_sp2 : Str.ofString " " = tx [32] := by decide +kernel
theorem s_1 : Str.ofString "1" = tx [49] := by decide +kernel
theorem inV_01 {c : Nat} : inV (.str (tx [c])) [.str "0", .str "1"] = (decide (c = 48) || decide (c = 49)) := by
  rw [s_0, s_1]
  unfold inV
  simp only [List.any_cons, List.any_nil, Bool.or_false]
  unfold eqV
  have e : ∀ d : Nat, (tx [d] == tx [c]) = decide (c = d) := fun d => by
    by_cases h : c = d
    · rw [h]; simp
    · rw [decide_eq_false h]
      have : ¬ tx [d] = tx [c] := fun z => h (by have := tx_inj.mp z; simpa using this.symm)
      simpa using this
  first | rw [e, e] | (simp only [e])
section
variable {P : Program} {w : World} {K : PySem.W.Frag} {mg : Str → Option Value} {base : Heap}
theorem ok_due {f : Addr} {fd : FuncData} (F : L2.Fun K "_law_due" "_law_due" s_l_due f fd) (g_min : mg "min" = none) (g_len : mg "len" = none) (g_range : mg "range" = none) (g_tuple : mg "tuple" = none) (g_int : mg "int" = none) : FnOk P w K mg base (L2.CX P w) 1 f fd ["_law_setting_here", "_law_text"] spDue := by
  refine Fun.okX F sc_l_due (fun vs H Q E h => ?_) (fun cdv A outer s H vs Q E hr h => ?_)
  · obtain ⟨_, _, _, _, _, _, rfl, _⟩ := h
    rfl
  · obtain ⟨q, m, wi, li, a, t, rfl, hq, so, ha, hd⟩ := h
    have h1 := ha.1
    have ml := markL_le (l := t)
    refine ⟨_, (pss_cons (ps_set (i := 2) sc_l_due.nd rfl (Or.inl rfl) pe_int)
      (pss_cons (ps_while (passes_of rfl) (PW.pt (pw_and (pt_cmpR op_lt (pv 2) (pe_callB (Ak.cr_minK (K := K) (by rfl) rfl) (by rfl) g_min (by decide +kernel) (pa_cons pe_int (pa_cons (pe_callB (Ak.cr_lenK (K := K) (by rfl)) (by rfl) g_len (by decide +kernel) (pa_cons (pv 1) pa_nil)) pa_nil))) (nomark _)) (pw_and (pt_cmpR (Ak.op_inK (K := K) (by rfl)) (pe_ix (Ak.ix_K (K := K) (by rfl)) (pv 1) (pv 2) (by intro _ _; rfl)) pe_str (by rfl)) (pw_and1 (pt_not (PW.pt (pw_and (pt_cmpR (Ak.op_eqK (K := K) (by rfl) hr.units) (pv 2) pe_int (nomark _)) (pw_and1 (pt_cmpR (Ak.op_eqK (K := K) (by rfl) hr.units) (pe_ix (Ak.ix_K (K := K) (by rfl)) (pv 1) pe_int (by intro _ _; rfl)) pe_str (nomark _))))))))))
      (pss_one (ps_set (i := 2) sc_l_due.nd rfl (Or.inl rfl) (pe_op (Ak.op_plusK (K := K) (by rfl)) (pv 2) pe_int))))
      (pss_cons (ps_if (PW.pt (pw_or (pt_cmpR (Ak.op_eqK (K := K) (by rfl) hr.units) (pv 2) (pe_callB (Ak.cr_lenK (K := K) (by rfl)) (by rfl) g_len (by decide +kernel) (pa_cons (pv 1) pa_nil)) (nomark _)) (pw_or (pt_cmpR (Ak.op_eqK (K := K) (by rfl) hr.units) (pv 2) pe_int (nomark _)) (pw_or1 (pt_cmpR (Ak.op_neK (K := K) (by rfl) hr.units) (pe_ix (Ak.ix_K (K := K) (by rfl)) (pv 1) (pv 2) (by intro _ _; rfl)) pe_str (nomark _))))))
      (pss_one (ps_ret (pe_tup (pa_cons pe_str (pa_cons (pv 2) pa_nil)))))
      pss_nil)
      (pss_cons (ps_if (pt_cmpR (Ak.op_eqK (K := K) (by rfl) hr.units) (pv 2) (pe_op op_sub (pe_callB (Ak.cr_lenK (K := K) (by rfl)) (by rfl) g_len (by decide +kernel) (pa_cons (pv 1) pa_nil)) pe_int) (nomark _))
      (pss_one (ps_ret (pe_tup (pa_cons pe_str (pa_cons (pe_callB (Ak.cr_lenK (K := K) (by rfl)) (by rfl) g_len (by decide +kernel) (pa_cons (pv 1) pa_nil)) pa_nil)))))
      pss_nil)
      (pss_cons (ps_set (i := 3) sc_l_due.nd rfl (Or.inl rfl) (pe_slice (Ak.sl_K (K := K) (by rfl)) (pv 1) (po_some (pe_op (Ak.op_plusK (K := K) (by rfl)) (pv 2) pe_int)) po_none))
      (pss_cons (ps_for (passes_of rfl) rfl (pi_range1 (by rfl) g_range (pa_cons (pe_callB (Ak.cr_lenK (K := K) (by rfl)) (by rfl) g_len (by decide +kernel) (pa_cons (pv 3) pa_nil)) pa_nil)) (pg_name (i := 4) sc_l_due.nd rfl (Or.inl rfl))
      (pss_one (ps_if (pt_not (PW.pt (pw_or (PW.pt (pw_and (pt_cmpR (Ak.op_inK (K := K) (by rfl)) (pe_ix (Ak.ix_K (K := K) (by rfl)) (pv 3) (pv 4) (by intro _ _; rfl)) (pe_tup (pa_cons pe_str (pa_cons pe_str pa_nil))) (by rfl)) (pw_and1 (pt_cmpR (Ak.op_neK (K := K) (by rfl) hr.units) (pe_ix (Ak.ix_K (K := K) (by rfl)) (pv 3) pe_int (by intro _ _; rfl)) pe_str (nomark _))))) (pw_or1 (PW.pt (pw_and (pt_cmpR (Ak.op_eqK (K := K) (by rfl) hr.units) (pe_ix (Ak.ix_K (K := K) (by rfl)) (pv 3) (pv 4) (by intro _ _; rfl)) pe_str (nomark _)) (pw_and1 (pt_cmpR (Ak.op_eqK (K := K) (by rfl) hr.units) (pv 4) pe_int (nomark _)))))))))
      (pss_one (ps_ret (pe_tup (pa_cons pe_str (pa_cons (pe_op (Ak.op_plusK (K := K) (by rfl)) (pe_op (Ak.op_plusK (K := K) (by rfl)) (pv 2) pe_int) (pv 4)) pa_nil)))))
      pss_nil)))
      (pss_cons (ps_set (i := 5) sc_l_due.nd rfl (Or.inl rfl) (pe_callTy (Ak.cr_tupK (K := K) (by rfl)) (by rfl) g_tuple (by decide +kernel) (pa_cons (pe_lc (own := [("_law_sign", 6)]) (g := (gName 6)) rfl sc_l_due.nd (Ak.pi_strE (pv 3)) (blkOk_by (N := N_l_due) (sc := defScope s_l_due) (by decide +kernel)) (fun _ _ _ _ _ => by exact (pg_name (i := 6) sc_l_due.nd rfl (Or.inl rfl))) (fun _ _ _ _ _ => by exact (pts_one (pt_cmpR (Ak.op_neK (K := K) (by rfl) hr.units) (pv 6) pe_str (nomark _)))) (fun _ _ _ _ _ => by exact (pe_callTy Ak.cr_intS (by rfl) g_int (by decide +kernel) (pa_cons (pv 6) pa_nil)))) pa_nil)))
      (pss_cons (ps_if (pt_cmpR op_ge (pe_callTy Ak.cr_intS (by rfl) g_int (by decide +kernel) (pa_cons (pe_slice (Ak.sl_K (K := K) (by rfl)) (pv 1) po_none (po_some (pv 2))) pa_nil)) (pe_ix (Ak.ix_K (K := K) (by rfl)) (pv 0) pe_int (by intro _ _; rfl)) (nomark _))
      (pss_one (ps_ret (pe_tup (pa_cons pe_str pa_nil))))
      pss_nil)
      (pss_one (ps_ret (pe_ifExp (pt_cmpR (Ak.op_eqK (K := K) (by rfl) hr.units) (pe_callB (Ak.cr_lenK (K := K) (by rfl)) (by rfl) g_len (by decide +kernel) (pa_cons (pv 5) pa_nil)) (pe_ix (Ak.ix_K (K := K) (by rfl)) (pv 0) pe_int (by intro _ _; rfl)) (nomark _)) (pe_tup (pa_cons (pe_callTy Ak.cr_intS (by rfl) g_int (by decide +kernel) (pa_cons (pe_slice (Ak.sl_K (K := K) (by rfl)) (pv 1) po_none (po_some (pv 2))) pa_nil)) (pa_cons (pv 5) pa_nil))) (pe_tup (pa_cons pe_str pa_nil))))))))))))), ?_⟩
    have e0 : L2.start N_l_due [V.ref q, V.str (tx t)] = [some (V.ref q), some (V.str (tx t)), none, none, none, none, none] := rfl
    rw [e0]
    try dsimp only [cxOf]
    iterate 4 (walk_at "s")
    with_reducible refine Ak.seq_is ?_
    refine cut_seq (fun σ' H' => σ' = [some (.ref q), some (.str (tx t)), some (.int (markL t : Nat)), none, none, none, none] ∧ H' = H) (fun σ' H' pv => ?_) (fun R rest => ?_)
    · obtain ⟨rfl, rfl⟩ := pv
      walk_at "rd"
      refine w_lenTx (by omega) ?_
      walk_at "rd"
      have toText : ∀ pl, dueL m wi t = .text pl → ∀ p, H' p = none → Q (.ref p) (upd H' p (.tup [.str "text", .int (pl : Nat)])) := fun pl e p np => by
        rw [e] at hd
        exact hd p _ np (Keep.refl.new np) upd_same
      refine Ak.w_ite (fun z => ?_) (fun z => ?_)
      · walk_at "rd"
        rename_i p np
        refine toText _ ?_ p np
        unfold dueL
        rw [if_pos (Or.inr (by rw [List.getElem?_eq_none (by omega)]; simp))]
      walk_at "rd"
      refine Ak.w_ite (fun z0 => ?_) (fun z0 => ?_)
      · walk_at "rd"
        rename_i p np
        refine toText _ ?_ p np
        unfold dueL
        rw [if_pos (Or.inl (by omega))]
      have mlt : markL t < t.length := by omega
      have hx : t[markL t]? = some t[markL t] := List.getElem?_eq_getElem mlt
      walk_at "rd"
      refine w_ixTx (by omega) rfl hx ?_
      walk_at "rd"
      rw [s_sp2]
      refine Ak.w_iteN (fun z1 => ?_) (fun z1 => ?_)
      · walk_at "rd"
        rename_i p np
        refine toText _ ?_ p np
        unfold dueL
        rw [if_pos (Or.inr (by rw [hx]; exact fun h => z1 (by rw [Option.some.inj h])))]
      have c32 : t[markL t] = 32 := by simpa using tx_inj.mp z1
      rw [c32] at hx
      have due1 : ¬ (markL t = 0 ∨ t[markL t]? ≠ some 32) := by rw [hx]; simp; omega
      walk_at "rd"
      refine w_lenTx (by omega) ?_
      walk_at "rd"
      refine Ak.w_ite (fun z2 => ?_) (fun z2 => ?_)
      · walk_at "rd"
        refine w_lenTx (by omega) ?_
        walk_at "rd"
        rename_i p np
        refine toText _ ?_ p np
        unfold dueL
        rw [if_neg due1, if_pos (by omega)]
      have due2 : ¬ t.length = markL t + 1 := by omega
      walk_at "rd"
      refine w_slS (by omega) (cutS_drop (by omega)) ?_
      rw [show ((markL t : Nat) + 1 : Int).toNat = markL t + 1 by omega]
      have dl : (t.drop (markL t + 1)).length = t.length - (markL t + 1) := List.length_drop
      have hdue : dueL m wi t = match badAt (t.drop (markL t + 1)) with
          | some k => .text (markL t + 1 + k)
          | none => if m ≤ markV (t.take (markL t)) then .mark else if ((bitsL (t.drop (markL t + 1))).length : Int) = wi then .told (markV (t.take (markL t))) (bitsL (t.drop (markL t + 1))) else .bits := by
        unfold dueL
        rw [if_neg due1, if_neg due2]
        all_goals rfl
      have asc : ∀ c, c ∈ t.drop (markL t + 1) → c < 128 := fun c hc => ha.2 c (List.mem_of_mem_drop hc)
      generalize t.drop (markL t + 1) = r at dl hdue asc ⊢
      walk_at "rd"
      refine w_lenTx (by omega) ?_
      walk_at "rd"
      refine Ak.l_forR1 (by omega) (by omega) (fun i σ' H1 => ∃ v4, σ' = [some (.ref q), some (.str (tx t)), some (.int (markL t : Nat)), some (.str (tx r)), v4, none, none] ∧ Keep [] H' H1 ∧ ∀ j, j < i → okB r j = true)
        ⟨none, rfl, Keep.refl, fun j hj => absurd hj (Nat.not_lt_zero _)⟩ (fun i σ' H1 hi pv => ?_) (fun σ' H1 pv => ?_)
      · obtain ⟨v4, rfl, k1, hall⟩ := pv
        have hir : i < r.length := by omega
        have hxi : r[i]? = some r[i] := List.getElem?_eq_getElem hir
        have hx0 : r[0]? = some r[0] := List.getElem?_eq_getElem (by omega)
        have okd : okB r i = (((decide (r[i] = 48) || decide (r[i] = 49)) && !decide (r[0] = 45)) || (decide (r[i] = 45) && decide (i = 0))) := by
          unfold okB
          rw [hxi, hx0]
          simp only [Option.some.injEq]
        have badE : okB r i = false → ∀ p H2, H1 p = none → Keep [] H1 H2 → Q (.ref p) (upd H2 p (.tup [.str "text", .int ((markL t : Nat) + 1 + (i : Nat))])) ∨ True := fun _ _ _ _ _ => Or.inr trivial
        have bad : okB r i = false → ∀ p H2, Keep [] H' H2 → H2 p = none → Q (.ref p) (upd H2 p (.tup [.str "text", .int ((markL t : Nat) + 1 + (i : Nat))])) := fun hb p H2 k2 np => by
          have e : dueL m wi t = .text (markL t + 1 + i) := by rw [hdue, bad_first hb hir hall]
          rw [e] at hd
          exact hd p _ (k2.2 _ np) (k2.new np) (by rw [upd_same]; rw [show ((markL t + 1 + i : Nat) : Int) = (markL t : Nat) + 1 + (i : Nat) by omega])
        have good : okB r i = true → ∀ j, j < i + 1 → okB r j = true := fun h j hj => by
          by_cases e : j = i
          · rw [e]; exact h
          · exact hall j (by omega)
        clear badE
        walk_at "rd"
        refine w_ixTx (by omega) rfl hxi ?_
        walk_at "rd"
        rename_i t1 nt1
        have k2 : Keep [] H' (upd H1 t1 (.tup [.str "0", .str "1"])) := k1.new nt1
        refine w_inO upd_same rfl rfl rfl ?_
        rw [inV_01]
        generalize upd H1 t1 (.tup [.str "0", .str "1"]) = H2 at k2 ⊢
        walk_at "rd"
        have tail : (∀ h : okB r i = (decide (r[i] = 45) && decide (i = 0)), True) := fun _ => trivial
        refine Ak.w_iteB (fun zA => ?_) (fun zA => ?_)
        · walk_at "rd"
          refine w_ixTx (j := 0) (by omega) rfl hx0 ?_
          walk_at "rd"
          rw [s_d]
          refine Ak.w_iteN (fun zB => ?_) (fun zB => ?_)
          · have hB : ¬ r[0] = 45 := fun h => zB (by rw [h])
            walk_at "rd"
            exact ⟨_, rfl, k2, good (by rw [okd, zA, decide_eq_false hB]; rfl)⟩
          · have hB : r[0] = 45 := by simpa using tx_inj.mp zB
            have n45 : ¬ r[i] = 45 := fun h => by rw [h] at zA; simp at zA
            walk_at "rd"
            refine w_ixTx (by omega) rfl hxi ?_
            walk_at "rd"
            refine Ak.w_ite (fun zC => absurd (by simpa using tx_inj.mp zC) n45) (fun zC => ?_)
            walk_at "rd"
            rename_i p np
            exact bad (by rw [okd, decide_eq_true hB, decide_eq_false n45]; simp) p _ k2 np
        · walk_at "rd"
          refine w_ixTx (by omega) rfl hxi ?_
          walk_at "rd"
          rw [s_d]
          refine Ak.w_ite (fun zC => ?_) (fun zC => ?_)
          · have h45 : r[i] = 45 := by simpa using tx_inj.mp zC
            walk_at "rd"
            refine Ak.w_iteN (fun zD => ?_) (fun zD => ?_)
            · walk_at "rd"
              rename_i p np
              exact bad (by rw [okd, zA, decide_eq_false (show ¬ i = 0 by omega)]; simp) p _ k2 np
            · walk_at "rd"
              exact ⟨_, rfl, k2, good (by rw [okd, zA, decide_eq_true h45, decide_eq_true (show i = 0 by omega)]; simp)⟩
          · have n45 : ¬ r[i] = 45 := fun h => zC (by rw [h])
            walk_at "rd"
            rename_i p np
            exact bad (by rw [okd, zA, decide_eq_false n45]; simp) p _ k2 np
      · obtain ⟨v4, rfl, k1, hall⟩ := pv
        have hq1 := k1.1 _ _ nin_nil hq
        have hn : badAt r = none := bad_all fun j hj => hall j (by omega)
        rw [hdue, hn] at hd
        have b01 := bits_01 hn
        have bl := bits_le (r := r)
        walk_at "rd"
        refine w_lcS ?_
        walk_at "rd"
        refine l_lcS (fun i => (bitsL (r.take i)).map V.int) rfl (fun D i c H2 hD hc kD hf => ?_) (fun D H2 hD k2 hf => ?_)
        · have tl2 : (r.take i).length ≤ r.length := by rw [List.length_take]; omega
          have bl2 := bits_le (r := r.take i)
          walk_at "rd"
          rw [s_d]
          refine Ak.w_iteN (fun zz => ?_) (fun zz => ?_)
          · have n45 : ¬ c = 45 := fun h => zz (by rw [h])
            have h01 := no_dash hn c (List.mem_of_getElem? hc) (fun e => by
              have := List.mem_of_getElem? hc
              rw [e] at this
              exact n45 (by simpa using this))
            walk_at "rd"
            refine ⟨tx [c], ((PySem.NumText.digitsVal [c] : Nat) : Int), rfl, PySem.intText_digits (fun x hx => by
              have : x = c := by simpa using hx
              omega) (by simp) (by rw [tx_len]; simp), by rw [tx_len]; simp, ?_⟩
            rw [digV_one, show (((c - 48 : Nat) : Int)) = (c : Int) - 48 by omega]
            refine kIn_go hD hf kD (by rw [List.length_map, sizeLine_eq]; omega) ?_
            unfold bitsL
            rw [take_at hc, List.filter_append, List.map_append, List.map_append, List.filter_cons, if_pos (by simp [n45])]
            rfl
          · have h45 : c = 45 := by simpa using tx_inj.mp zz
            walk_at "rd"
            refine kOut_go hf kD ?_
            unfold bitsL
            rw [take_at hc, List.filter_append, List.map_append, List.map_append, List.filter_cons, if_neg (by simp [h45])]
            simp
        · rw [List.take_length] at hf
          have k02 := k1.trans k2
          have hq2 := k2.1 _ _ nin_nil hq1
          obtain ⟨mv0, mv1⟩ := markV_le (l := t)
          have hdig := mark_digits (l := t)
          have tne : t.take (markL t) ≠ [] := fun z => by
            have := congrArg List.length z
            rw [List.length_take, List.length_nil] at this
            omega
          have it : PySem.intText? (tx (t.take (markL t))) = some (markV (t.take (markL t))) := PySem.intText_digits (fun c hc => hdig c (by simpa using hc)) (by simpa using tne) (by rw [tx_len, List.length_take]; omega)
          have itl : (tx (t.take (markL t))).length ≤ 640 := by rw [tx_len, List.length_take]; omega
          walk_at "rd"
          rename_i b nb
          have k3 : Keep [] H2 (upd H2 b (.tup ((bitsL r).map V.int))) := Keep.refl.new nb
          have hb3 : upd H2 b (.tup ((bitsL r).map V.int)) b = some (.tup ((bitsL r).map V.int)) := upd_same
          generalize upd H2 b (.tup ((bitsL r).map V.int)) = H3 at k3 hb3 ⊢
          have hq3 := k3.1 _ _ nin_nil hq2
          have k03 := k02.trans k3
          have nb0 : H' b = none := k02.2 _ nb
          have lb : ((bitsL r).map V.int).length = (bitsL r).length := List.length_map _
          generalize bitsL r = bs at hd bl b01 hb3 lb ⊢
          refine w_slS (by omega) (cutS_take (by omega)) ?_
          rw [show ((markL t : Nat) : Int).toNat = markL t by omega]
          walk_at "rd"
          refine ⟨_, _, rfl, it, itl, ?_⟩
          walk_at "rd"
          refine Ak.w_ite (fun zm => ?_) (fun zm => ?_)
          · walk_at "rd"
            rename_i p np
            rw [if_pos zm] at hd
            exact hd p _ (k03.2 _ np) (k03.new np) upd_same
          · rw [if_neg zm] at hd
            walk_at "rd"
            refine Ak.w_ite (fun zw => ?_) (fun zw => ?_)
            · rw [if_pos (by rw [← lb]; exact zw)] at hd
              walk_at "rd"
              refine w_slS (by omega) (cutS_take (by omega)) ?_
              rw [show ((markL t : Nat) : Int).toNat = markL t by omega]
              walk_at "rd"
              refine ⟨_, _, rfl, it, itl, ?_⟩
              walk_at "rd"
              rename_i p np
              exact hd p b _ (k03.2 _ np) nb0 upd_same (at_new np hb3) (k03.new np)
            · rw [if_neg (by rw [← lb]; exact zw)] at hd
              walk_at "rd"
              rename_i p np
              exact hd p _ (k03.2 _ np) (k03.new np) upd_same
    · refine l_while (fun j σ' H' => ∃ i : Nat, σ' = [some (.ref q), some (.str (tx t)), some (.int (i : Nat)), none, none, none, none] ∧ H' = H ∧ i ≤ markL t ∧ j = markL t - i) _ ⟨0, rfl, rfl, Nat.zero_le _, rfl⟩ (fun j σ' H' pv => ?_)
      obtain ⟨i, rfl, rfl, hi, rfl⟩ := pv
      have stp := markL_step hi
      have stop : ¬ i < markL t → i = markL t := fun h => by omega
      walk_at "rd"
      refine w_lenTx (by omega) ?_
      walk_at "rd"
      refine Ak.w_ite (fun z1 => ?_) (fun z1 => ?_)
      · have z1' : i < min 2 t.length := by omega
        have hil : i < t.length := by omega
        have hx : t[i]? = some t[i] := List.getElem?_eq_getElem hil
        walk_at "rd"
        refine w_ixTx (by omega) rfl hx ?_
        walk_at "rd"
        refine w_inTx ?_
        rw [fig_in]
        walk_at "rd"
        refine Ak.w_iteB (fun z2 => ?_) (fun z2 => ?_)
        · walk_at "rd"
          refine Ak.w_ite (fun z3 => ?_) (fun z3 => ?_)
          · have i1 : i = 1 := by omega
            subst i1
            have hx0 : t[0]? = some t[0] := List.getElem?_eq_getElem (by omega)
            walk_at "rd"
            refine w_ixTx (j := 0) (by omega) rfl hx0 ?_
            walk_at "rd"
            rw [s_0]
            refine Ak.w_iteN (fun z4 => ?_) (fun z4 => ?_)
            · have lt : 1 < markL t := stp.mpr ⟨z1', ⟨_, hx, z2⟩, fun h => z4 (by rw [hx0] at h; exact congrArg (fun c => tx [c]) (Option.some.inj h.2))⟩
              walk_at "rd"
              exact ⟨_, by omega, 2, rfl, rfl, lt, rfl⟩
            · have e : t[0] = 48 := by simpa using tx_inj.mp z4
              have := stop (fun lt => (stp.mp lt).2.2 ⟨rfl, by rw [hx0, e]⟩)
              walk_at "rd"
              exact rest _ _ ⟨by rw [← this], rfl⟩
          · have lt : i < markL t := stp.mpr ⟨z1', ⟨_, hx, z2⟩, fun h => z3 (by rw [h.1]; rfl)⟩
            walk_at "rd"
            exact ⟨_, by omega, i + 1, by rw [show ((i + 1 : Nat) : Int) = (i : Int) + 1 by omega]; rfl, rfl, lt, rfl⟩
        · have := stop (fun lt => by
            obtain ⟨_, ⟨c, hc, hd2⟩, _⟩ := stp.mp lt
            rw [hx] at hc
            cases hc
            rw [z2] at hd2
            cases hd2)
          walk_at "rd"
          exact rest _ _ ⟨by rw [← this], rfl⟩
      · have := stop (fun lt => by have := (stp.mp lt).1; omega)
        walk_at "rd"
        exact rest _ _ ⟨by rw [← this], rfl⟩
end
end Ak

namespace Ak
open PySem PySem.Spec PyProof.Rows L2
/-- the value that tells an outcome -/
def AlD (H : Hp) (x : V) : Out → Prop
  | .told k bs => ∃ p b, x = .ref p ∧ H p = some (.tup [.int k, .ref b]) ∧ H b = some (.tup (bs.map V.int)) ∧ bs.length ≤ 100
  | .text pl => ∃ p, x = .ref p ∧ H p = some (.tup [.str "text", .int (pl : Nat)])
  | .mark => ∃ p, x = .ref p ∧ H p = some (.tup [.str "mark"])
  | .bits => ∃ p, x = .ref p ∧ H p = some (.tup [.str "bits"])
theorem told_len {m w k : Int} {bs : List Int} {t : List Nat} (h : dueL m w t = .told k bs) : (bs.length : Int) = w := by
  unfold dueL at h
  split at h
  · cases h
  · split at h
    · cases h
    · split at h
      · cases h
      · split at h
        · cases h
        · split at h
          · rename_i e
            cases h
            exact e
          · cases h
section
variable {K : PySem.W.Frag} {H : Hp} {Q : VK} {q : Addr} {m w l a : Int} {t : List Nat} {C1 C2 C3 C4 C5 C6 : Addr} {E : XK} {x : V}
theorem told_in {tl : XK → Hp → VK → Prop} (h : tl (fun cls d H' => ∃ out, ToldW C1 C2 C3 C4 C5 C6 H' cls d out ∧ ∀ p H2, H' p = none → Keep [] H' H2 → H2 p = some (.tup out) → Q (.ref p) H2) H Q) : TTold3 C1 C2 C3 C4 C5 C6 tl H Q := h
theorem read_told (hq : H q = some (.tup [.int m, .int w, .int l, .int a])) (so : SetOk m w l a) (ha : Asc t) (k : ∀ x H', Keep [] H H' → AlD H' x (dueL m w t) → Q x H') :
    spRead C2 C3 C6 [.ref q, .str (tx t)] H Q (fun cls d H' => ∃ out, ToldW C1 C2 C3 C4 C5 C6 H' cls d out ∧ ∀ p H2, H' p = none → Keep [] H' H2 → H2 p = some (.tup out) → Q (.ref p) H2) := by
  refine ⟨q, m, w, l, a, t, rfl, hq, so, ha, ?_⟩
  have w1 := so.w1
  generalize e : dueL m w t = o at k
  cases o with
  | told n bs =>
    intro p b H' np nb hp hb kp
    have hl := told_len e
    exact k _ _ kp ⟨p, b, rfl, hp, hb, by omega⟩
  | text pl =>
    intro d H' nd kd hd
    exact ⟨_, ToldW.text hd rfl, fun p H2 np k2 hp => k _ _ (kd.trans k2) ⟨p, rfl, hp⟩⟩
  | mark =>
    intro H' kd
    exact ⟨_, ToldW.mark, fun p H2 np k2 hp => k _ _ (kd.trans k2) ⟨p, rfl, hp⟩⟩
  | bits =>
    intro H' kd
    exact ⟨_, ToldW.bits, fun p H2 np k2 hp => k _ _ (kd.trans k2) ⟨p, rfl, hp⟩⟩
theorem due_like (hx : AlD H x (dueL m w t)) (hq : H q = some (.tup [.int m, .int w, .int l, .int a])) (so : SetOk m w l a) (ha : Asc t) (k : ∀ y H', Keep [] H H' → Alike K H' 3 x y → Q y H') : spDue [.ref q, .str (tx t)] H Q E := by
  refine ⟨q, m, w, l, a, t, rfl, hq, so, ha, ?_⟩
  generalize dueL m w t = o at hx
  cases o with
  | told n bs =>
    obtain ⟨p1, b1, rfl, hp1, hb1, hl⟩ := hx
    intro p b H' np nb hp hb kp
    exact k _ _ kp (al_tup (kp.1 _ _ nin_nil hp1) hp (.cons al_int (.cons (al_tup (kp.1 _ _ nin_nil hb1) hb AlL.ints (by rw [List.length_map]; omega)) .nil)) (Nat.le_of_ble_eq_true rfl))
  | text pl =>
    obtain ⟨p1, rfl, hp1⟩ := hx
    intro p H' np kp hp
    exact k _ _ kp (al_tup (kp.1 _ _ nin_nil hp1) hp (.cons al_str (.cons al_int .nil)) (Nat.le_of_ble_eq_true rfl))
  | mark =>
    obtain ⟨p1, rfl, hp1⟩ := hx
    intro p H' np kp hp
    exact k _ _ kp (al_tup (kp.1 _ _ nin_nil hp1) hp (.cons al_str .nil) (Nat.le_of_ble_eq_true rfl))
  | bits =>
    obtain ⟨p1, rfl, hp1⟩ := hx
    intro p H' np kp hp
    exact k _ _ kp (al_tup (kp.1 _ _ nin_nil hp1) hp (.cons al_str .nil) (Nat.le_of_ble_eq_true rfl))
end
end Ak

namespace Ak
open PySem PySem.Spec PyProof.Rows L2
/-! ### what the written part says of an own error with an own __init__ -/
def oexIn (K : PySem.W.Frag) (C : Addr) : Bool := match K.lookup C with
  | some ⟨.type "type", _, .cls cd, sl⟩ => (match cd.mro, sl.toList with
    | .ref C' :: bm, [_, _, _, _, some (.builtin n), _] => C' == C && n == "ValueError.__new__" && !cd.hasDel && cd.hasDict && PySem.HandSPX.refsVE bm
    | _, _ => false)
  | _ => false
theorem oex_of {K : PySem.W.Frag} {C : Addr} (q : oexIn K C = true) : ∃ nm q N bs bm sn sub ab col dd k0 k1 k2 k3 k5, K.lookup C = some (excClassObj nm q C N bs bm true sn sub ab col dd k0 k1 k2 k3 k5 "ValueError.__new__") ∧ PySem.HandSPX.refsVE bm = true := by
  unfold oexIn at q
  split at q
  · rename_i dd cd sl ho
    split at q
    · rename_i C' bm k0 k1 k2 k3 n k5 hm hs
      simp only [Bool.and_eq_true, beq_iff_eq, Bool.not_eq_true'] at q
      obtain ⟨⟨⟨⟨rfl, rfl⟩, hdel⟩, hdct⟩, ht⟩ := q
      obtain ⟨nm, bs, mro, ns, qn, hd, sn, sub, ab, col, del⟩ := cd
      dsimp only at hm hdel hdct
      subst hm hdel hdct
      have hsl : sl = #[k0, k1, k2, k3, some (.builtin "ValueError.__new__"), k5] := by
        obtain ⟨l⟩ := sl
        simp only at hs
        rw [hs]
      subst hsl
      exact ⟨nm, qn, ns, bs, bm, sn, sub, ab, col, dd, k0, k1, k2, k3, k5, ho, ht⟩
    · cases q
  · cases q
end Ak

namespace Ak
open PySem PySem.Spec PyProof.Rows L2
abbrev s_BadText___init : Stmt := inClass (top 7) 0
section
variable {P : Program} {w : World} {K : PySem.W.Frag} {mg : Str → Option Value} {base : Heap} {C f cc cda : Addr} {kV doc pm ct of cx cl : Value} {an od cd cld : Option Addr} {osl csl cls : Array (Option Value)} {vs : Array Value} {file : Str} {tf : Tok}
theorem init_BadText (S : SupF P K mg C f cc cda (supD "BadText.__init__" s_BadText___init cc cda kV doc pm ct an) "self" of cx od cd osl csl vs file tf cl cld cls) (hcd : PySem.W.codeIn K (.ref cda) "BadText.__init__" = true) (hno : PySem.W.findIn K (.ref C) "place" = some none) :
    FnOk P w K mg base (L2.CX P w) 1 f (supD "BadText.__init__" s_BadText___init cc cda kV doc pm ct an) ["self", "place"] (spSup K C "place") :=
  sup_fn (prm := "place") (k := 0) S hcd (NdefX.nscope_by (by decide +kernel)) (by decide +kernel) rfl hno (fun _ => rfl) (fun _ => rfl) (fun _ => rfl) (by decide) (by decide)
    (fun A outer s H E hr => pa_cons (pe_joined (.cons pe_str (.cons (pe_fmt (pv 1)) .nil))) pa_nil)
    (fun a v H Q hv q => by
      refine j_c (H := H) (ts := [tFmt (tVar 1)]) (c := "the text is wrong at place ") (Q := fun out _ => Q [.str out] H) (by decide +kernel) ?_
      refine j_t (w_fmtK ?_)
      refine ⟨v, rfl, ?_⟩
      have l0 : (Str.empty ++ Str.ofString "the text is wrong at place ").length ≤ 100 := by decide +kernel
      rcases hv with ⟨i, rfl, hi⟩ | ⟨z, rfl, hz⟩
      · have := dec_len hi
        exact k_Fi hi (k_J (by omega) (j_nil (q _)))
      · exact k_Fs (by omega) (k_J (by omega) (j_nil (q _))))
theorem rai_BadText (S : SupF P K mg C f cc cda (supD "BadText.__init__" s_BadText___init cc cda kV doc pm ct an) "self" of cx od cd osl csl vs file tf cl cld cls) (hcd : PySem.W.codeIn K (.ref cda) "BadText.__init__" = true) (hno : PySem.W.findIn K (.ref C) "place" = some none)
    (hi : PySem.W.findIn K (.ref C) "__init__" = some (some (.ref f))) (ht : PySem.W.typeIn K (.ref f) = some (.type "function")) (T : OexC K C) (g : mg "BadText" = some (.ref C)) : RaiO P w K mg base 1 "BadText" C "place" :=
  ⟨⟨f, _, _, hi, ht, init_BadText S hcd hno, .all fun us hl => match us, hl with | [_, _], _ => rfl⟩, T, g⟩
end
end Ak

namespace Ak
open PySem PySem.Spec PyProof.Rows L2
section
variable {P : Program} {w : World} {K : PySem.W.Frag} {mg : Str → Option Value} {base : Heap}
def spLaw (K : PySem.W.Frag) (PT : Addr) : Sp := fun vs H Q _ => ∃ (a : Addr) (ns : List Int), vs = [.ref a] ∧ SqL K H a (ns.map V.int) ∧ ns.length ≤ 63 ∧ H PT = some (.tbl #[]) ∧ ∀ H', Q (.bl true) H'
section
variable {σ : L2.St} {H : Hp} {Q : VK} {g : TG} {tt : TT} {te : TE} {vs : List Nat}
abbrev LcTurnP (Pv : Addr → Nat → Hp → Prop) (g : TG) (tt : TT) (te : TE) (vs : List Nat) (σ : L2.St) (D : Addr) (i : Nat) (x : V) (H' : Hp) : Prop :=
  g x (wipe σ vs) H' fun σ2 H2 => wipe σ2 vs = wipe σ vs ∧ tt σ2 H2 fun b H3 => if b = true then te σ2 H3 fun y H4 => ∃ acc, H4 D = some (.lst acc) ∧ acc.length < sizeLine ∧ Pv D (i + 1) (upd H4 D (.lst (acc ++ [y]))) else Pv D (i + 1) H3
theorem l_lcRP {lo : Int} {n : Nat} (Pv : Addr → Nat → Hp → Prop) (h0 : ∀ D, H D = none → Pv D 0 (upd H D (.lst [])))
    (hs : ∀ D i H', H D = none → i < n → Pv D i H' → LcTurnP Pv g tt te vs σ D i (.int (lo + i)) H') (hd : ∀ D H', H D = none → Pv D n H' → Q (.ref D) H') : LcR lo n g tt te vs σ H Q :=
  fun D hD => lc_range (Pv D) (h0 D hD) (fun i H' hi q => hs D i H' hD hi q) fun H' q => hd D H' hD q
theorem l_lcR1P {j : Int} (b : -(2 ^ 62) ≤ j ∧ j < 2 ^ 62) (Pv : Addr → Nat → Hp → Prop) (h0 : ∀ D, H D = none → Pv D 0 (upd H D (.lst [])))
    (hs : ∀ D i H', H D = none → i < j.toNat → Pv D i H' → LcTurnP Pv g tt te vs σ D i (.int i) H') (hd : ∀ D H', H D = none → Pv D j.toNat H' → Q (.ref D) H') : kLcR1 g tt te vs σ [.int j] H Q :=
  ⟨j, rfl, b.1, b.2, l_lcRP Pv h0 (fun D i H' a b c => by rw [Int.zero_add]; exact hs D i H' a b c) hd⟩
end
theorem pickS {K : PySem.W.Frag} {H : Hp} {p : Addr} {i : Int} {xs : List V} {Q : VK} (Pr : Str → Prop) (e : SqL K H p xs) (i0 : 0 ≤ i) (i1 : i < xs.length) (hp : ∀ x, x ∈ xs → ∃ v, x = .str v ∧ Pr v) (h : ∀ v, Pr v → Q (.str v) H) : rIx K (.ref p) (.int i) H Q := by
  have hl : i.toNat < xs.length := by omega
  obtain ⟨v, ev, pv⟩ := hp _ (List.getElem_mem hl)
  have e2 : i = ((i.toNat : Nat) : Int) := by omega
  refine w_ixL e (v := .str v) ?_ (h v pv)
  rw [e2]
  refine atI_nat ?_
  rw [List.getElem?_eq_getElem hl, ev]
/-- a text of at most n plain signs -/
def TxA (n : Nat) (s : Str) : Prop := ∃ l, s = tx l ∧ l.length ≤ n ∧ ∀ c, c ∈ l → c < 128
def txB (n : Nat) (z : Str) : Bool := decide (z.cps.toList.length ≤ n) && z.cps.toList.all fun c => decide (c < 128)
theorem txA_of {n : Nat} {z : Str} (h : txB n z = true) : TxA n z := by
  unfold txB at h
  rw [Bool.and_eq_true] at h
  exact ⟨z.cps.toList, tx_of.symm, of_decide_eq_true h.1, fun c hc => of_decide_eq_true (List.all_eq_true.mp h.2 c hc)⟩
theorem TxA.mono {n m : Nat} {s : Str} (h : TxA n s) (le : n ≤ m) : TxA m s := by
  obtain ⟨l, e, h1, h2⟩ := h
  exact ⟨l, e, by omega, h2⟩
theorem w_ixC {K : PySem.W.Frag} {H : Hp} {Q : VK} {z : Str} {i : Int} (n : Nat) (hn : n ≤ 1000) (hb : txB n z = true) (i0 : 0 ≤ i) (i1 : i < (z.cps.toList.length : Nat)) (q : ∀ c, c < 128 → Q (.str (tx [c])) H) : rIx K (.str z) (.int i) H Q := by
  obtain ⟨l, rfl, hl, ha⟩ := txA_of hb
  have hi : i.toNat < l.length := by simp at i1; omega
  exact w_ixTx (j := i.toNat) (by omega) (by omega) (List.getElem?_eq_getElem hi) (q _ (ha _ (List.getElem_mem hi)))
theorem cut_te {te : TE} {σ : L2.St} {H : Hp} {Q : VK} (N : V → Hp → Prop) (a : ∀ v H', N v H' → Q v H') (b : ∀ R : VK, (∀ v H', N v H' → R v H') → te σ H R) : te σ H Q := b Q a
theorem ok_law {f cL PT fT C0 C1 C2 C3 C4 C5 C6 : Addr} {oc : Value} {od an odT anT : Option Addr} {osl oslT : Array (Option Value)} {kV doc pm ct kVT docT pmT cdT ctT ocT : Value}
    (lk : K.lookup f = some ⟨oc, od, .func (PySem.W.fnOf "law" "law" (defArgs s_law) (defBody s_law) (defScope s_law) .none kV doc pm an (.ref cL) ct), osl⟩) (hcd : PySem.W.codeIn K (.ref cL) "law" = true)
    (TB : LamX.TabB base mg cL PT)
    (lkT : K.lookup fT = some ⟨ocT, odT, .func (PySem.W.fnOf "_law_told" "_law_told" (defArgs s_l_told) (defBody s_l_told) (defScope s_l_told) .none kVT docT pmT anT cdT ctT), oslT⟩) (hcT : PySem.W.codeIn K cdT "_law_told" = true) (hkT : PySem.W.keepIn K (.ref fT) = true) (g__law_told : mg "_law_told" = some (.ref fT))
    (bT : L2.Binds K (PySem.W.fnOf "_law_told" "_law_told" (defArgs s_l_told) (defBody s_l_told) (defScope s_l_told) .none kVT docT pmT anT cdT ctT) ["_law_work"] [])
    (TC : ToldC K C0 C1 C2 C3 C4 C5 C6)
    (g_BitsError : mg "BitsError" = some (.ref C0)) (g_BadSetting : mg "BadSetting" = some (.ref C1)) (g_BadMark : mg "BadMark" = some (.ref C2))
    (g_BadBits : mg "BadBits" = some (.ref C3)) (g_Full : mg "Full" = some (.ref C4)) (g_BadEvent : mg "BadEvent" = some (.ref C5)) (g_BadText : mg "BadText" = some (.ref C6)) (g_isinstance : mg "isinstance" = none) (g_ValueError : mg "ValueError" = none) (g_range : mg "range" = none) (g_tuple : mg "tuple" = none) (g_int : mg "int" = none) (g_str : mg "str" = none) (g_min : mg "min" = none) (g_len : mg "len" = none)
    (c_l_dice : CalX P w K mg base 1 "_law_dice" (spDice K)) (c_l_next : CalX P w K mg base 1 "_law_next" (spNext K)) (c_l_setting : CalX P w K mg base 2 "_law_setting" (spSetting K)) (c_l_like : CalX P w K mg base 4 "_law_like" (spLike K 3)) (c_l_due : CalX P w K mg base 1 "_law_due" spDue)
    (c_written : CalX P w K mg base 3 "written" (spWritten K C2 C3)) (c_read : CalX P w K mg base 5 "read" (spRead C2 C3 C6)) :
    FnOk P w K mg base (L2.CX P w) 8 f (PySem.W.fnOf "law" "law" (defArgs s_law) (defBody s_law) (defScope s_law) .none kV doc pm an (.ref cL) ct) ["_law_script"] (spLaw K PT) := by
  refine fn_of lk hcd sc_law (fun vs H Q E h => ?_) (fun A outer s H vs Q E hr h => ?_)
  · obtain ⟨_, _, rfl, _⟩ := h
    rfl
  · obtain ⟨a, ns, rfl, hS, hl, hPT, k⟩ := h
    refine ⟨_, (pss_cons (ps_set (i := 1) sc_law.nd rfl (Or.inr rfl) (Ak.pe_cx c_l_dice hr (by walk_at "lv") (by rfl) (takes_of rfl rfl rfl rfl) (pa_cons (pv 0) pa_nil)))
      (pss_cons (ps_for (passes_of rfl) rfl (pi_range1 (by rfl) g_range (pa_cons pe_int pa_nil)) (pg_name (i := 2) sc_law.nd rfl (Or.inl rfl))
      (pss_cons (ps_set (i := 3) sc_law.nd rfl (Or.inr rfl) (Ak.pe_cx c_l_setting hr (by walk_at "lv") (by rfl) (takes_of rfl rfl rfl rfl) (pa_cons (pv 1) pa_nil)))
      (pss_cons (ps_set (i := 4) sc_law.nd rfl (Or.inl rfl) (Ak.pe_cx c_l_next hr (by walk_at "lv") (by rfl) (takes_of rfl rfl rfl rfl) (pa_cons (pv 1) (pa_cons (pe_ix (Ak.ix_K (K := K) (by rfl)) (pv 3) pe_int (by intro _ _; rfl)) pa_nil))))
      (pss_cons (ps_setLc (i := 5) (own := [("_law_k", 6)]) (g := (gName 6)) (tt := tYes) rfl sc_law.nd rfl rfl (sw_true rfl rfl rfl (by decide +kernel)) (pi_range1 (by rfl) g_range (pa_cons (pe_ix (Ak.ix_K (K := K) (by rfl)) (pv 3) pe_int (by intro _ _; rfl)) pa_nil)) (blkOk_by (N := N_law) (sc := defScope s_law) (by decide +kernel)) (fun _ _ _ _ _ => by exact (pg_name (i := 6) sc_law.nd rfl (Or.inl rfl))) (fun _ _ _ _ _ => by exact pts_nil) (fun _ _ _ _ _ => by exact (Ak.pe_cx c_l_next hr (by walk_at "lv") (by rfl) L2.takes0 (pa_cons (pv 1) (pa_cons pe_int pa_nil)))))
      (pss_cons (ps_set (i := 7) sc_law.nd rfl (Or.inl rfl) (pe_op (Ak.op_plusK (K := K) (by rfl)) (pe_op (Ak.op_plusK (K := K) (by rfl)) (pe_callTy call_str_int (by rfl) g_str (by decide +kernel) (pa_cons (pv 4) pa_nil)) pe_str) (pe_ifExp (pt_cmpR (Ak.op_neK (K := K) (by rfl) hr.units) (pv 5) (pe_lst pa_nil) (nomark _)) (Ak.pe_bmK (K := K) (by rfl) PySem.F.plainAttrs_str PySem.F.slot_str_join PySem.F.type_str_join (Ak.mt_joinK (K := K) (by rfl)) pe_str (pa_cons (pe_lc (own := [("_law_bit", 8)]) (g := (gName 8)) (tt := tYes) rfl sc_law.nd (Ak.pi_listK (K := K) (by rfl) (pv 5)) (blkOk_by (N := N_law) (sc := defScope s_law) (by decide +kernel)) (fun _ _ _ _ _ => by exact (pg_name (i := 8) sc_law.nd rfl (Or.inl rfl))) (fun _ _ _ _ _ => by exact pts_nil) (fun _ _ _ _ _ => by exact (pe_callTy call_str_int (by rfl) g_str (by decide +kernel) (pa_cons (pv 8) pa_nil)))) pa_nil)) pe_str)))
      (pss_cons (ps_set (i := 9) sc_law.nd rfl (Or.inl rfl) (pe_tup (pa_cons (pv 4) (pa_cons (pe_callTy (Ak.cr_tupK (K := K) (by rfl)) (by rfl) g_tuple (by decide +kernel) (pa_cons (pv 5) pa_nil)) pa_nil))))
      (pss_cons (ps_if (PW.pt (pw_or (pt_not (Ak.pt_truK (K := K) (by rfl) (Ak.pe_cx c_l_like hr (by walk_at "lv") (by rfl) (takes_of rfl rfl rfl rfl) (pa_cons (Ak.pe_cx c_written hr (by walk_at "lv") (by rfl) (takes_of rfl rfl rfl rfl) (pa_cons (pv 3) (pa_cons (pv 9) pa_nil))) (pa_cons (pv 7) pa_nil))))) (pw_or1 (pt_not (Ak.pt_truK (K := K) (by rfl) (Ak.pe_cx c_l_like hr (by walk_at "lv") (by rfl) (takes_of rfl rfl rfl rfl) (pa_cons (Ak.pe_cx c_read hr (by walk_at "lv") (by rfl) (takes_of rfl rfl rfl rfl) (pa_cons (pv 3) (pa_cons (pv 7) pa_nil))) (pa_cons (pv 9) pa_nil))))))))
      (pss_one (ps_ret pe_bl))
      pss_nil)
      (pss_cons (ps_set (i := 10) sc_law.nd rfl (Or.inr rfl) (pe_ix (Ak.ix_K (K := K) (by rfl)) (pe_lst (pa_cons pe_str (pa_cons pe_str (pa_cons pe_str (pa_cons pe_str (pa_cons pe_str (pa_cons pe_str (pa_cons pe_str (pa_cons pe_str (pa_cons pe_str (pa_cons pe_str (pa_cons pe_str (pa_cons (pv 7) pa_nil))))))))))))) (pe_callB (Ak.cr_minK (K := K) (by rfl) rfl) (by rfl) g_min (by decide +kernel) (pa_cons pe_int (pa_cons (Ak.pe_cx c_l_next hr (by walk_at "lv") (by rfl) (takes_of rfl rfl rfl rfl) (pa_cons (pv 1) (pa_cons pe_int pa_nil))) pa_nil))) (by intro _ _; rfl)))
      (pss_cons (ps_for (passes_of rfl) rfl (pi_range1 (by rfl) g_range (pa_cons (Ak.pe_cx c_l_next hr (by walk_at "lv") (by rfl) (takes_of rfl rfl rfl rfl) (pa_cons (pv 1) (pa_cons pe_int pa_nil))) pa_nil)) (pg_name (i := 11) sc_law.nd rfl (Or.inl rfl))
      (pss_cons (ps_set (i := 12) sc_law.nd rfl (Or.inl rfl) (Ak.pe_cx c_l_next hr (by walk_at "lv") (by rfl) (takes_of rfl rfl rfl rfl) (pa_cons (pv 1) (pa_cons (pe_op (Ak.op_plusK (K := K) (by rfl)) (pe_callB (Ak.cr_lenK (K := K) (by rfl)) (by rfl) g_len (by decide +kernel) (pa_cons (pv 10) pa_nil)) pe_int) pa_nil))))
      (pss_cons (ps_set (i := 13) sc_law.nd rfl (Or.inl rfl) pe_str)
      (pss_cons (ps_set (i := 14) sc_law.nd rfl (Or.inl rfl) (pe_ix (Ak.ix_K (K := K) (by rfl)) (pe_lst (pa_cons (pe_ix (Ak.ix_K (K := K) (by rfl)) pe_str (Ak.pe_cx c_l_next hr (by walk_at "lv") (by rfl) (takes_of rfl rfl rfl rfl) (pa_cons (pv 1) (pa_cons pe_int pa_nil))) (by intro _ _; rfl)) (pa_cons (pe_ix (Ak.ix_K (K := K) (by rfl)) (pv 13) (Ak.pe_cx c_l_next hr (by walk_at "lv") (by rfl) (takes_of rfl rfl rfl rfl) (pa_cons (pv 1) (pa_cons pe_int pa_nil))) (by intro _ _; rfl)) pa_nil))) (Ak.pe_cx c_l_next hr (by walk_at "lv") (by rfl) (takes_of rfl rfl rfl rfl) (pa_cons (pv 1) (pa_cons pe_int pa_nil))) (by intro _ _; rfl)))
      (pss_cons (ps_set (i := 15) sc_law.nd rfl (Or.inl rfl) (Ak.pe_cx c_l_next hr (by walk_at "lv") (by rfl) (takes_of rfl rfl rfl rfl) (pa_cons (pv 1) (pa_cons pe_int pa_nil))))
      (pss_one (ps_set (i := 10) sc_law.nd rfl (Or.inr rfl) (pe_op (Ak.op_plusK (K := K) (by rfl)) (pe_op (Ak.op_plusK (K := K) (by rfl)) (pe_slice (Ak.sl_K (K := K) (by rfl)) (pv 10) po_none (po_some (pv 12))) (pe_ix (Ak.ix_K (K := K) (by rfl)) (pe_lst (pa_cons pe_str (pa_cons (pv 14) (pa_cons (pv 14) pa_nil)))) (pv 15) (by intro _ _; rfl))) (pe_slice (Ak.sl_K (K := K) (by rfl)) (pv 10) (po_some (pe_op (Ak.op_plusK (K := K) (by rfl)) (pv 12) (pe_callTy Ak.cr_intX (by rfl) g_int (by decide +kernel) (pa_cons (pe_cmpR op_lt (pv 15) pe_int (nomark _)) pa_nil)))) po_none)))))))))
      (pss_cons (ps_if (pt_not (Ak.pt_truK (K := K) (by rfl) (Ak.pe_cx c_l_like hr (by walk_at "lv") (by rfl) (takes_of rfl rfl rfl rfl) (pa_cons (LamX.pe_lamcall (k := 5) (T := [(PT, (envOfC "law" (defScope s_law) s.heap.objs.size f (.ref cL)).qual ++ "<lambda>")]) (TT := TTold3 C1 C2 C3 C4 C5 C6) (t := fun E => tCallX (spRead C2 C3 C6) (wOut E) (tCons (tVar 3) (tCons (tVar 10) tNil))) (by rfl) g__law_told hkT lkT hcT bT sc_l_told rfl (Or.inl rfl) (told_gives3 TC g_BitsError g_BadSetting g_BadMark g_BadBits g_Full g_BadEvent g_BadText g_isinstance g_ValueError) TB rfl (List.mem_singleton.mpr rfl) (fun p hp _ => by rw [List.mem_singleton.mp hp]; rfl) hr (LamX.lamS_by (by show LamX.lamSB (defScope s_law) _ = true; decide +kernel)) rfl (fun _ _ _ _ _ => rfl) (fun _ _ _ _ _ _ _ hr' => Ak.pe_cx c_read hr' (by decide) (by rfl) (takes_of rfl rfl rfl rfl) (pa_cons (pv 3) (pa_cons (pv 10) pa_nil)))) (pa_cons (Ak.pe_cx c_l_due hr (by walk_at "lv") (by rfl) (takes_of rfl rfl rfl rfl) (pa_cons (pv 3) (pa_cons (pv 10) pa_nil))) pa_nil)))))
      (pss_one (ps_ret pe_bl))
      pss_nil)
      (pss_one (ps_if (pt_not (Ak.pt_truK (K := K) (by rfl) (Ak.pe_cx c_l_like hr (by walk_at "lv") (by rfl) (takes_of rfl rfl rfl rfl) (pa_cons (Ak.pe_cx c_read hr (by walk_at "lv") (by rfl) (takes_of rfl rfl rfl rfl) (pa_cons (pv 3) (pa_cons (pv 7) pa_nil))) (pa_cons (pv 9) pa_nil)))))
      (pss_one (ps_ret pe_bl))
      pss_nil))))))))))))
      (pss_one (ps_ret pe_bl)))), ?_⟩
    have e0 : L2.start N_law [V.ref a] = [some (V.ref a), none, none, none, none, none, none, none, none, none, none, none, none, none, none, none] := rfl
    rw [e0]
    try dsimp only [cxOf]
    walk_at "rd"
    refine ⟨a, ns, rfl, hS, hl, fun d H1 hd dc k1 => ?_⟩
    have tN : LamX.Tabs [(PT, (envOfC "law" (defScope s_law) s.heap.objs.size f (.ref cL)).qual ++ "<lambda>")] H1 := Tabs.one (LamX.TabS.nil (k1.1 _ _ nin_nil hPT))
    walk_at "rd"
    refine Ak.l_forR1 (by decide) (by decide) (fun i σ' H' => ∃ v2 v3 v4 v5 v6 v7 v8 v9 v10 v11 v12 v13 v14 v15, σ' = [some (.ref a), some (.ref d), v2, v3, v4, v5, v6, v7, v8, v9, v10, v11, v12, v13, v14, v15] ∧ Dice K H H' d ∧ LamX.Tabs [(PT, (envOfC "law" (defScope s_law) s.heap.objs.size f (.ref cL)).qual ++ "<lambda>")] H')
      ⟨_, _, _, _, _, _, _, _, _, _, _, _, _, _, rfl, dc, tN⟩ (fun i σ' H' hi pv => ?_) (fun σ' H' pv => ?_)
    · obtain ⟨v2, v3, v4, v5, v6, v7, v8, v9, v10, v11, v12, v13, v14, v15, rfl, dcx, tb⟩ := pv
      obtain ⟨xsx, hdx⟩ := dcx.lst
      walk_at "rd"
      refine ⟨H, d, rfl, dcx, fun q m wi l ah H2 so nq hq dc2 k2 => ?_⟩
      obtain ⟨xs2, hd2⟩ := dc2.lst
      have hqd : q ≠ d := ne_of hq hd2 (by intro z; cases z)
      have o1 := so.m0
      have o2 := so.m1
      have o3 := so.w0
      have o4 := so.w1
      walk_at "rd"
      rename_i mk H3 xs3 mk0 mk1 dc3 hd3 k3
      have hq3 := k3.1 _ _ (nin_cons hqd nin_nil) hq
      walk_at "rd"
      refine l_lcR1P (by omega) (fun D i Hx => ∃ bs : List Int, bs.length = i ∧ Bits01 bs ∧ Hx D = some (.lst (bs.map V.int)) ∧ Dice K H Hx d ∧ Keep [d] H3 Hx)
        (fun D hD => ⟨[], rfl, fun x hx => absurd hx List.not_mem_nil, upd_same, dc3.keep (S := []) (Keep.refl.own hD) nin_nil none_nil, Keep.refl.own hD⟩) (fun D j H4 hD hj pv => ?_) (fun D H4 hD pv => ?_)
      · obtain ⟨bs, hbl, h01, hbD, dc4, k4⟩ := pv
        obtain ⟨xs4, hd4⟩ := dc4.lst
        have nDd : D ≠ d := Ne.symm (ne_of_none hd3 hD)
        walk_at "rd"
        rename_i x5 H5 xs5 j0 j1 dc5 hd5 k5
        refine ⟨bs.map V.int, by walk_at "lk", by rw [List.length_map, sizeLine_eq]; omega, bs ++ [x5], by rw [List.length_append, hbl]; rfl, fun x hx => ?_, by rw [upd_same, List.map_append]; rfl, dc3.own dc5 hD (Ne.symm nDd), (k4.trans k5).own hD⟩
        rcases List.mem_append.mp hx with hx | hx
        · exact h01 x hx
        · rw [List.mem_singleton.mp hx]
          omega
      · obtain ⟨bs, hbl, h01, hbD, dc4, k4⟩ := pv
        obtain ⟨xs4, hd4⟩ := dc4.lst
        have hbl' : (bs.length : Int) = wi := by omega
        have h16 : bs.length ≤ 16 := by omega
        have nDd : D ≠ d := Ne.symm (ne_of_none hd3 hD)
        have hq4 := k4.1 _ _ (nin_cons hqd nin_nil) hq3
        walk_at "rd"
        refine ⟨mk, rfl, by have := log2_small (n := mk.natAbs) (by omega); omega, ?_⟩
        obtain ⟨t, et, ew, tl, ta, td⟩ := writ_back mk0 (show mk < 64 by omega) h01 h16
        have d1 := dec_len (show mk.natAbs < 2 ^ 59 by omega)
        have d3 : (Str.ofString " ").length ≤ 100 := by decide +kernel
        walk_at "rd"
        refine w_plusTx (by rw [sizeLine_eq]; omega) ?_
        refine cut_te (fun v Hx => v = .str (if bs = [] then Str.ofString "-" else Txt.join (Str.ofString "") (bs.map decS)) ∧ Keep [] H4 Hx) (fun v H5 pv => ?_) (fun R rest => ?_)
        · obtain ⟨rfl, k5⟩ := pv
          have tl0 : (if bs = [] then Str.ofString "-" else Txt.join (Str.ofString "") (bs.map decS)).length ≤ 17 := by
            rw [rest_str h01, tx_len]
            have := rest_len (bs := bs)
            omega
          refine w_plusTx (by rw [Str.length_append, sizeLine_eq]; omega) ?_
          rw [et]
          have hq5 := k5.1 _ _ nin_nil hq4
          have hb5 := k5.1 _ _ nin_nil hbD
          have dc5 := dc4.keep (S := []) k5 nin_nil none_nil
          have tb5 := Tabs.keep tb (((k2.trans k3).trans k4).trans (k5.mono sub_nil)) (plain1 (Plain.lst hdx))
          have asc : Asc t := ⟨by omega, ta⟩
          have hd5 := k5.1 _ _ nin_nil hd4
          clear et k5 k4 k3 k2 hbD hq4 hq3 hq dc4 dc3 dc2 tl0 d1 d3 hd4 hd3 hd2 nDd hD tb dcx hdx dc k1 tN
          walk_at "rd"
          rename_i b nb th nth
          have k6 : Keep [] H5 (upd (upd H5 b (.tup (bs.map V.int))) th (.tup [.int mk, .ref b])) := (Keep.refl.new nb).new nth
          have hth6 : upd (upd H5 b (.tup (bs.map V.int))) th (.tup [.int mk, .ref b]) th = some (.tup [.int mk, .ref b]) := upd_same
          have hbb6 : upd (upd H5 b (.tup (bs.map V.int))) th (.tup [.int mk, .ref b]) b = some (.tup (bs.map V.int)) := at_new nth upd_same
          generalize upd (upd H5 b (.tup (bs.map V.int))) th (.tup [.int mk, .ref b]) = H6 at k6 hth6 hbb6 ⊢
          have hq6 := k6.1 _ _ nin_nil hq5
          have mok : MarkOk mk m := ⟨mk0, mk1⟩
          have bok : BitsOk bs wi := ⟨hbl', h01⟩
          refine ⟨q, th, b, bs, mk, m, wi, l, ah, rfl, hq6, so, SqT.of hth6, SqT.of hbb6, by omega, by omega, fun x hx => by rcases h01 x hx with h | h <;> rw [h] <;> decide, fun no => absurd mok no, fun _ no => absurd bok no, fun _ _ H7 k7 => ?_⟩
          walk_at "rd"
          rw [ew]
          refine like_go al_str ?_
          walk_at "rd"
          have hq7 := k7.1 _ _ nin_nil hq6
          refine ⟨q, m, wi, l, ah, t, rfl, hq7, so, asc, ?_⟩
          rw [td m wi mk1 hbl']
          intro p b2 H8 np nb2 hp8 hb8 k8
          have k58 := (k6.trans k7).trans k8
          have hq8 := k8.1 _ _ nin_nil hq7
          have hth8 := (k7.trans k8).1 _ _ nin_nil hth6
          have hbb8 := (k7.trans k8).1 _ _ nin_nil hbb6
          have dc8 := dc5.keep (S := []) k58 nin_nil none_nil
          have tb8 := Tabs.keep tb5 k58 plain0
          have hd8 := k58.1 _ _ nin_nil hd5
          walk_at "rd"
          refine like_go (al_tup hp8 hth8 (.cons al_int (.cons (al_tup hb8 hbb8 AlL.ints (by rw [List.length_map]; omega)) .nil)) (Nat.le_of_ble_eq_true rfl)) ?_
          clear hp8 hb8 np nb2 k8 k7 k6 hth6 hbb6 hq6 hq7 k58 nb nth dc5 tb5 hd5 hq5 hb5
          walk_at "rd"
          rename_i u nu y H9 xs9 y0 y1 dc9 hd9 k9
          refine pickS (TxA 20) (SqL.of (by walk_at "lk")) (by omega) (by show _ < (12 : Int); omega) (fun x hx => ?_) (fun bad hbad => ?_)
          · (repeat (rcases List.mem_cons.mp hx with rfl | hx; · exact ⟨_, rfl, by first | exact txA_of (by decide +kernel) | exact ⟨t, rfl, tl, ta⟩⟩))
            exact absurd hx List.not_mem_nil
          have k89 : Keep [d] H8 H9 := by walk_at "kp"
          have tb9 := Tabs.keep tb8 k89 (plain1 (Plain.lst hd8))
          have hqd : q ≠ d := hqd
          have htd : th ≠ d := ne_of hth8 hd8 (by intro z; cases z)
          have hbd : b ≠ d := ne_of hbb8 hd8 (by intro z; cases z)
          have hq9 := k89.1 _ _ (nin_cons hqd nin_nil) hq8
          have hth9 := k89.1 _ _ (nin_cons htd nin_nil) hth8
          have hbb9 := k89.1 _ _ (nin_cons hbd nin_nil) hbb8
          clear k9 k89 hq8 hth8 hbb8 tb8 dc8 hd8 nu
          walk_at "rd"
          rename_i ch H10 xs10 ch0 ch1 dc10 hd10 k10
          have hq10 := k10.1 _ _ (nin_cons hqd nin_nil) hq9
          have hth10 := k10.1 _ _ (nin_cons htd nin_nil) hth9
          have hbb10 := k10.1 _ _ (nin_cons hbd nin_nil) hbb9
          have tb10 := Tabs.keep tb9 k10 (plain1 (Plain.lst hd9))
          refine Ak.l_forR1 (by omega) (by omega) (fun j σ' Hx => ∃ bad v11 v12 v13 v14 v15, σ' = [some (.ref a), some (.ref d), some (.int (i : Nat)), some (.ref q), some (.int mk), some (.ref D), v6, some (.str (tx t)), v8, some (.ref th), some (.str bad), v11, v12, v13, v14, v15] ∧ TxA (20 + j) bad ∧ Dice K H Hx d ∧
              LamX.Tabs [(PT, (envOfC "law" (defScope s_law) s.heap.objs.size f (.ref cL)).qual ++ "<lambda>")] Hx ∧ Hx q = some (.tup [.int m, .int wi, .int l, .int ah]) ∧ Hx th = some (.tup [.int mk, .ref b]) ∧ Hx b = some (.tup (bs.map V.int)))
            ⟨bad, _, _, _, _, _, rfl, hbad, dc10, tb10, hq10, hth10, hbb10⟩ (fun j σ' Hx hj pv => ?_) (fun σ' Hx pv => ?_)
          · obtain ⟨bad, v11, v12, v13, v14, v15, rfl, ⟨lb, rfl, lbl, lba⟩, dcj, tbj, hqj, hthj, hbbj⟩ := pv
            obtain ⟨xsj, hdj⟩ := dcj.lst
            clear dc10 tb10 hq10 hth10 hbb10 k10 dc9 hq9 hth9 hbb9 tb9 hd9 hd10
            walk_at "rd"
            refine w_lenTx (by omega) ?_
            walk_at "rd"
            rename_i at_ Ha xa a0 a1 dca hda ka x1 Hb xb b0 b1 dcb hdb kb
            refine w_ixC 11 (by decide) (by decide +kernel) (by omega) (by show _ < (11 : Int); omega) (fun c1 hc1 => ?_)
            walk_at "rd"
            rename_i x2 Hc xc c0 cx dcc hdc kc
            refine w_ixC 92 (by decide) (by decide +kernel) (by omega) (by show _ < (92 : Int); omega) (fun c2 hc2 => ?_)
            walk_at "rd"
            rename_i p1 np1 x3 Hd xd e0' e1' dcd hdd kd
            refine pickS (fun v => ∃ c, c < 128 ∧ v = tx [c]) (SqL.of (by walk_at "lk")) (by omega) (by show _ < (2 : Int); omega) (fun x hx => ?_) (fun sg hsg => ?_)
            · rcases List.mem_cons.mp hx with rfl | hx
              · exact ⟨_, rfl, c1, hc1, rfl⟩
              · exact ⟨_, List.mem_singleton.mp hx, c2, hc2, rfl⟩
            obtain ⟨c, hc, rfl⟩ := hsg
            walk_at "rd"
            rename_i way He xe f0 f1 dce hde ke
            refine w_slS (by omega) (cutS_take (by omega)) ?_
            walk_at "rd"
            rename_i p2 np2
            have kje : Keep [d] Hx (upd He p2 (.lst [.str "", .str (tx [c]), .str (tx [c])])) := by walk_at "kp"
            refine pickS (TxA 1) (SqL.of upd_same) (by omega) (by show _ < (3 : Int); omega) (fun x hx => ?_) (fun sg hsg => ?_)
            · have hs : TxA 1 (tx [c]) := ⟨[c], rfl, Nat.le_refl _, fun x hx => by rw [List.mem_singleton.mp hx]; exact hc⟩
              rcases List.mem_cons.mp hx with rfl | hx
              · exact ⟨_, rfl, txA_of (by decide +kernel)⟩
              · rcases List.mem_cons.mp hx with rfl | hx
                · exact ⟨_, rfl, hs⟩
                · exact ⟨_, List.mem_singleton.mp hx, hs⟩
            obtain ⟨ls, rfl, hls, hla⟩ := hsg
            have dcf := dce.keep (S := []) (Keep.refl.new (o := .lst [.str "", .str (tx [c]), .str (tx [c])]) np2) nin_nil none_nil
            have tbf := Tabs.keep tbj kje (plain1 (Plain.lst hdj))
            have hqf := kje.1 _ _ (nin_cons hqd nin_nil) hqj
            have hthf := kje.1 _ _ (nin_cons htd nin_nil) hthj
            have hbbf := kje.1 _ _ (nin_cons hbd nin_nil) hbbj
            generalize upd He p2 (.lst [.str "", .str (tx [c]), .str (tx [c])]) = Hf at kje dcf tbf hqf hthf hbbf ⊢
            have ltk : (lb.take at_.toNat).length = min at_.toNat lb.length := List.length_take
            have cb : ∀ bb : Bool, 0 ≤ (if bb = true then (1 : Int) else 0) ∧ (if bb = true then (1 : Int) else 0) ≤ 1 := fun bb => by cases bb <;> decide
            walk_at "rd"
            refine w_plusTx (by rw [tx_len, tx_len, sizeLine_eq]; omega) ?_
            rw [tx_app]
            walk_at "rd"
            have cb0 := cb (decide (way < 2))
            generalize (if decide (way < 2) = true then (1 : Int) else 0) = cut at cb0 ⊢
            refine w_slS (by omega) (cutS_drop (by omega)) ?_
            walk_at "rd"
            have ldr : (lb.drop (at_ + cut).toNat).length = lb.length - (at_ + cut).toNat := List.length_drop
            refine w_plusTx (by rw [tx_len, tx_len, List.length_append, sizeLine_eq]; omega) ?_
            rw [tx_app]
            walk_at "rd"
            refine ⟨_, _, _, _, _, _, rfl, ⟨_, rfl, ?_, fun x hx => ?_⟩, dcf, tbf, hqf, hthf, hbbf⟩
            · rw [List.length_append, List.length_append]
              omega
            · rcases List.mem_append.mp hx with hx | hx
              · rcases List.mem_append.mp hx with hx | hx
                · exact lba _ (List.mem_of_mem_take hx)
                · exact hla _ hx
              · exact lba _ (List.mem_of_mem_drop hx)
          · obtain ⟨bad, v11, v12, v13, v14, v15, rfl, ⟨lb, rfl, lbl, lba⟩, dcj, tbj, hqj, hthj, hbbj⟩ := pv
            obtain ⟨xsj, hdj⟩ := dcj.lst
            clear dc10 tb10 hq10 hth10 hbb10 k10 dc9 hq9 hth9 hbb9 tb9 hd9 hd10
            walk_at "rd"
            have ascb : Asc lb := ⟨by omega, lba⟩
            refine ⟨tbj, fun H11 ext tb11 => ?_⟩
            have dc11 := dcj.ext' ext
            have hq11 := ext _ _ hqj (fun _ z => by cases z)
            have hth11 := ext _ _ hthj (fun _ z => by cases z)
            have hbb11 := ext _ _ hbbj (fun _ z => by cases z)
            refine told_in ?_
            refine Ak.w_call (tr := tCons (tVar 3) (tCons (tVar 10) tNil)) ?_
            walk_at "rd"
            refine read_told hq11 so ascb (fun x H12 k12 ax => ?_)
            walk_at "rd"
            refine due_like (K := K) ax (k12.1 _ _ nin_nil hq11) so ascb (fun y H13 k13 al => ?_)
            walk_at "rd"
            refine like_go al ?_
            have k113 := k12.trans k13
            have hq13 := k113.1 _ _ nin_nil hq11
            have hth13 := k113.1 _ _ nin_nil hth11
            have hbb13 := k113.1 _ _ nin_nil hbb11
            have dc13 := dc11.keep (S := []) k113 nin_nil none_nil
            have tb13 := Tabs.keep tb11 k113 plain0
            walk_at "rd"
            refine ⟨q, m, wi, l, ah, t, rfl, hq13, so, asc, ?_⟩
            rw [td m wi mk1 hbl']
            intro p3 b3 H14 np3 nb3 hp14 hb14 k14
            walk_at "rd"
            refine like_go (al_tup hp14 (k14.1 _ _ nin_nil hth13) (.cons al_int (.cons (al_tup hb14 (k14.1 _ _ nin_nil hbb13) AlL.ints (by rw [List.length_map]; omega)) .nil)) (Nat.le_of_ble_eq_true rfl)) ?_
            walk_at "rd"
            exact ⟨_, _, _, _, _, _, _, _, _, _, _, _, _, _, rfl, dc13.keep (S := []) k14 nin_nil none_nil, Tabs.keep tb13 k14 plain0⟩
        · walk_at "rd"
          rename_i t1 nt1
          refine w_neE (ns := bs) (SqL.of (at_new nt1 hbD)) (SqL.of upd_same) ?_
          walk_at "rd"
          have k5 : Keep [] H4 (upd H4 t1 (.lst [])) := Keep.refl.new nt1
          have hb5 := k5.1 _ _ nin_nil hbD
          generalize upd H4 t1 (.lst []) = H5 at k5 hb5 ⊢
          refine Ak.w_iteN (fun z => ?_) (fun z => ?_)
          · walk_at "rd"
            refine ⟨rfl, ?_⟩
            walk_at "rd"
            refine Ak.l_lcL (SqL.of hb5) (fun i => ((bs.take i).map decS).map V.str) rfl (fun D2 i x H6 hD2 hx' kD hf => ?_) (fun D2 H6 hD2 kk3 hf => ?_)
            · obtain ⟨y, hy, rfl⟩ := map_at hx'
              have hyb := h01 y (List.mem_of_getElem? hy)
              have tl2 : (bs.take i).length ≤ bs.length := by rw [List.length_take]; omega
              walk_at "rd"
              refine ⟨y, rfl, by have := log2_small (n := y.natAbs) (by omega); omega, ?_⟩
              exact kIn_go hD2 hf kD (by rw [List.length_map, List.length_map, sizeLine_eq]; omega) (by rw [take_at hy, List.map_append, List.map_append]; rfl)
            · rw [List.length_map, List.take_length] at hf
              have e0 : (Str.ofString "").length = 0 := by decide +kernel
              walk_at "rd"
              refine ⟨Str.ofString "", D2, bs.map decS, rfl, rfl, Or.inl (SqL.of hf), ?_, ?_⟩
              · rw [e0, Nat.mul_zero, Nat.add_zero]
                have hs : ∀ l : List Int, Bits01 l → ((l.map decS).map (·.length)).sum ≤ 100 * l.length := by
                  intro l
                  induction l with
                  | nil => intro _; exact Nat.le_refl _
                  | cons y r ih =>
                    intro h
                    have h1 := dec_len (i := y) (by have := h y List.mem_cons_self; omega)
                    have h2 := ih fun x hx => h x (List.mem_cons_of_mem _ hx)
                    rw [List.map_cons, List.map_cons, List.sum_cons, List.length_cons]
                    have : (decS y).length ≤ 100 := h1
                    omega
                have := hs bs h01
                omega
              · exact rest _ _ ⟨by rw [if_neg z], k5.trans kk3⟩
          · walk_at "rd"
            exact rest _ _ ⟨by rw [if_pos z], k5⟩
    · obtain ⟨v2, v3, v4, v5, v6, v7, v8, v9, v10, v11, v12, v13, v14, v15, rfl, dcx, tb⟩ := pv
      walk_at "rd"
      exact k _
end
end Ak
namespace Ak
open PySem PySem.Spec PyProof.Rows L2
theorem all_mk {l : PySem.W.OpenLaw} {w : World} {K : PySem.W.Frag} {h : Heap} {mg : Str → Option Value} {fa A_BadMark A_BadBits A_BadText A_in_BadText A_cc_BadText A_cd_BadText A_BadSetting A_BitsError A_Full A_BadEvent A_l_told A_BOUNDS A_t1 A_t2 A_t3 A_t4 A_t5 A_t6 A_l_like A_l_next A_l_dice A_l_setting A_check_number A_check_setting A_check_mark A_check_bits A_check_telling A_check_sign A_end_of_mark A_u_check_bits A_bits_of A_read A_written A_l_due A_law A_code A_tab : Addr} {ocL kVL docL pmL ctL ocC : Value} {odL anL odC : Option Addr} {oslL oslC : Array (Option Value)} {vsC : Array Value} {esB : Array DictEntry} {nB : Nat} {ocT kVT docT pmT cdT ctT : Value} {odT anT : Option Addr} {oslT : Array (Option Value)} {tkF tkN : Tok} {ofBadText cxBadText clBadText kVBadText docBadText pmBadText ctBadText : Value} {odBadText anBadText cdBadText cldBadText : Option Addr} {oslBadText cslBadText clsBadText : Array (Option Value)} {vsBadText : Array Value} {fileBadText : Str} {tfBadText : Tok}
    (X : K.In h) (G : h.Ns mainGlobals mg) (hfa : mg "law" = some (.ref fa))
    (a_BadMark : PySem.W.nsIn K mainGlobals "BadMark" = some (some (.ref A_BadMark)))
    (xq_BadMark : PySem.W.excIn K A_BadMark [.type "ValueError", .type "Exception", .type "BaseException", .type "object"] "ValueError.__new__" = true)
    (xk_BadMark : PySem.W.keepIn K (.ref A_BadMark) = true)
    (xs_BadMark : PySem.W.subIn K (.ref A_BadMark) (.type "BaseException") = some true)
    (xt_BadMark : PySem.W.typeIn K (.ref A_BadMark) = some (.type "type"))
    (a_BadBits : PySem.W.nsIn K mainGlobals "BadBits" = some (some (.ref A_BadBits)))
    (xq_BadBits : PySem.W.excIn K A_BadBits [.type "ValueError", .type "Exception", .type "BaseException", .type "object"] "ValueError.__new__" = true)
    (xk_BadBits : PySem.W.keepIn K (.ref A_BadBits) = true)
    (xs_BadBits : PySem.W.subIn K (.ref A_BadBits) (.type "BaseException") = some true)
    (xt_BadBits : PySem.W.typeIn K (.ref A_BadBits) = some (.type "type"))
    (a_BadText : PySem.W.nsIn K mainGlobals "BadText" = some (some (.ref A_BadText)))
    (xk_BadText : PySem.W.keepIn K (.ref A_BadText) = true)
    (xs_BadText : PySem.W.subIn K (.ref A_BadText) (.type "BaseException") = some true)
    (xt_BadText : PySem.W.typeIn K (.ref A_BadText) = some (.type "type"))
    (rq_BadText : Ak.oexIn K A_BadText = true)
    (sa_BadText : PySem.W.findIn K (.ref A_BadText) "__setattr__" = some (some (.builtin "object.__setattr__")))
    (ci_BadText : PySem.W.findIn K (.ref A_BadText) "__init__" = some (some (.ref A_in_BadText)))
    (ti_BadText : PySem.W.typeIn K (.ref A_in_BadText) = some (.type "function"))
    (ni_BadText : PySem.W.findIn K (.ref A_BadText) "place" = some none)
    (ri_lk_BadText : K.lookup A_in_BadText = some ⟨ofBadText, odBadText, .func (Ak.supD "BadText.__init__" s_BadText___init A_cc_BadText A_cd_BadText kVBadText docBadText pmBadText ctBadText anBadText), oslBadText⟩)
    (ri_hc_BadText : PySem.W.codeIn K (.ref A_cd_BadText) "BadText.__init__" = true)
    (ri_lc_BadText : K.lookup A_cd_BadText = some ⟨cxBadText, cdBadText, .fields vsBadText, cslBadText⟩)
    (ri_v2_BadText : (vsBadText[2]? : Option Value) = some (.str fileBadText tfBadText))
    (ri_fl_BadText : ((l.prog.main.file : Str) == fileBadText) = true)
    (ri_tp : (l.prog.main.scope.names.lookup ("super" : Str)).isSome = false)
    (ri_ce_BadText : K.lookup A_cc_BadText = some ⟨clBadText, cldBadText, .cell (some (.ref A_BadText)), clsBadText⟩)
    (ri_dc_BadText : (PySem.W.clsIn K A_BadText).isSome = true)
    (ri_sb_BadText : PySem.W.mroIn K A_BadText (.ref A_BadText) = some true)
    (ri_op : PySem.W.nsIn K cStatics "thirdparty.any" = some none)
    (ri_su_BadText : PySem.W.ks_superIn K A_BadText A_BadText "__init__" = some (some (.builtin "ValueError.__init__")))
    (ri_sv_BadText : PySem.W.subIn K (.ref A_BadText) (.type "ValueError") = some true)
    (z_super : PySem.W.nsIn K mainGlobals "super" = some none)
    (a_BadSetting : PySem.W.nsIn K mainGlobals "BadSetting" = some (some (.ref A_BadSetting)))
    (a_BitsError : PySem.W.nsIn K mainGlobals "BitsError" = some (some (.ref A_BitsError)))
    (a_Full : PySem.W.nsIn K mainGlobals "Full" = some (some (.ref A_Full)))
    (a_BadEvent : PySem.W.nsIn K mainGlobals "BadEvent" = some (some (.ref A_BadEvent)))
    (oh_BadSetting_0 : PySem.W.findIn K (.ref A_BadSetting) "__getattribute__" = some (some (.builtin "BaseException.__getattribute__")))
    (oh_BadSetting_1 : PySem.W.findIn K (.ref A_BadSetting) "__getattr__" = some none)
    (oh_BadSetting_2 : PySem.W.subIn K (.ref A_BadSetting) (.type "BaseException") = some true)
    (oh_BadSetting_3 : PySem.W.hasDictIn K A_BadSetting = true)
    (oh_BadSetting_4 : PySem.W.findIn K (.ref A_BadSetting) "__class__" = some (some (.builtin "object.__class__")))
    (oc_hn : PySem.W.specialIn K (.builtin "object.__class__") "__get__" = some (some (.builtin "getset_descriptor.__get__")))
    (oc_ht : PySem.W.takesIn K (.builtin "object.__class__") = some true)
    (om_BadSetting : PySem.W.mroIn K A_BadSetting (.type "object") = some true)
    (ok_BadSetting_0 : PySem.W.kitOne K (.ref A_BadSetting) (.ref A_BadSetting) = some true)
    (ok_BadSetting_1 : PySem.W.kitOne K (.ref A_BadSetting) (.ref A_BadMark) = some false)
    (ok_BadSetting_2 : PySem.W.kitOne K (.ref A_BadSetting) (.ref A_BadBits) = some false)
    (ok_BadSetting_3 : PySem.W.kitOne K (.ref A_BadSetting) (.ref A_Full) = some false)
    (ok_BadSetting_4 : PySem.W.kitOne K (.ref A_BadSetting) (.ref A_BadEvent) = some false)
    (ok_BadSetting_5 : PySem.W.kitOne K (.ref A_BadSetting) (.ref A_BadText) = some false)
    (ox_BadSetting : PySem.W.exmOne K (.ref A_BadSetting) (.ref A_BitsError) = some true)
    (ov_BadSetting : PySem.W.kitOne K (.ref A_BadSetting) (.type "ValueError") = some true)
    (oh_BadMark_0 : PySem.W.findIn K (.ref A_BadMark) "__getattribute__" = some (some (.builtin "BaseException.__getattribute__")))
    (oh_BadMark_1 : PySem.W.findIn K (.ref A_BadMark) "__getattr__" = some none)
    (oh_BadMark_2 : PySem.W.subIn K (.ref A_BadMark) (.type "BaseException") = some true)
    (oh_BadMark_3 : PySem.W.hasDictIn K A_BadMark = true)
    (oh_BadMark_4 : PySem.W.findIn K (.ref A_BadMark) "__class__" = some (some (.builtin "object.__class__")))
    (om_BadMark : PySem.W.mroIn K A_BadMark (.type "object") = some true)
    (ok_BadMark_0 : PySem.W.kitOne K (.ref A_BadMark) (.ref A_BadSetting) = some false)
    (ok_BadMark_1 : PySem.W.kitOne K (.ref A_BadMark) (.ref A_BadMark) = some true)
    (ok_BadMark_2 : PySem.W.kitOne K (.ref A_BadMark) (.ref A_BadBits) = some false)
    (ok_BadMark_3 : PySem.W.kitOne K (.ref A_BadMark) (.ref A_Full) = some false)
    (ok_BadMark_4 : PySem.W.kitOne K (.ref A_BadMark) (.ref A_BadEvent) = some false)
    (ok_BadMark_5 : PySem.W.kitOne K (.ref A_BadMark) (.ref A_BadText) = some false)
    (ox_BadMark : PySem.W.exmOne K (.ref A_BadMark) (.ref A_BitsError) = some true)
    (ov_BadMark : PySem.W.kitOne K (.ref A_BadMark) (.type "ValueError") = some true)
    (oh_BadBits_0 : PySem.W.findIn K (.ref A_BadBits) "__getattribute__" = some (some (.builtin "BaseException.__getattribute__")))
    (oh_BadBits_1 : PySem.W.findIn K (.ref A_BadBits) "__getattr__" = some none)
    (oh_BadBits_2 : PySem.W.subIn K (.ref A_BadBits) (.type "BaseException") = some true)
    (oh_BadBits_3 : PySem.W.hasDictIn K A_BadBits = true)
    (oh_BadBits_4 : PySem.W.findIn K (.ref A_BadBits) "__class__" = some (some (.builtin "object.__class__")))
    (om_BadBits : PySem.W.mroIn K A_BadBits (.type "object") = some true)
    (ok_BadBits_0 : PySem.W.kitOne K (.ref A_BadBits) (.ref A_BadSetting) = some false)
    (ok_BadBits_1 : PySem.W.kitOne K (.ref A_BadBits) (.ref A_BadMark) = some false)
    (ok_BadBits_2 : PySem.W.kitOne K (.ref A_BadBits) (.ref A_BadBits) = some true)
    (ok_BadBits_3 : PySem.W.kitOne K (.ref A_BadBits) (.ref A_Full) = some false)
    (ok_BadBits_4 : PySem.W.kitOne K (.ref A_BadBits) (.ref A_BadEvent) = some false)
    (ok_BadBits_5 : PySem.W.kitOne K (.ref A_BadBits) (.ref A_BadText) = some false)
    (ox_BadBits : PySem.W.exmOne K (.ref A_BadBits) (.ref A_BitsError) = some true)
    (ov_BadBits : PySem.W.kitOne K (.ref A_BadBits) (.type "ValueError") = some true)
    (oh_Full_0 : PySem.W.findIn K (.ref A_Full) "__getattribute__" = some (some (.builtin "BaseException.__getattribute__")))
    (oh_Full_1 : PySem.W.findIn K (.ref A_Full) "__getattr__" = some none)
    (oh_Full_2 : PySem.W.subIn K (.ref A_Full) (.type "BaseException") = some true)
    (oh_Full_3 : PySem.W.hasDictIn K A_Full = true)
    (oh_Full_4 : PySem.W.findIn K (.ref A_Full) "__class__" = some (some (.builtin "object.__class__")))
    (om_Full : PySem.W.mroIn K A_Full (.type "object") = some true)
    (ok_Full_0 : PySem.W.kitOne K (.ref A_Full) (.ref A_BadSetting) = some false)
    (ok_Full_1 : PySem.W.kitOne K (.ref A_Full) (.ref A_BadMark) = some false)
    (ok_Full_2 : PySem.W.kitOne K (.ref A_Full) (.ref A_BadBits) = some false)
    (ok_Full_3 : PySem.W.kitOne K (.ref A_Full) (.ref A_Full) = some true)
    (ok_Full_4 : PySem.W.kitOne K (.ref A_Full) (.ref A_BadEvent) = some false)
    (ok_Full_5 : PySem.W.kitOne K (.ref A_Full) (.ref A_BadText) = some false)
    (ox_Full : PySem.W.exmOne K (.ref A_Full) (.ref A_BitsError) = some true)
    (ov_Full : PySem.W.kitOne K (.ref A_Full) (.type "ValueError") = some true)
    (oh_BadEvent_0 : PySem.W.findIn K (.ref A_BadEvent) "__getattribute__" = some (some (.builtin "BaseException.__getattribute__")))
    (oh_BadEvent_1 : PySem.W.findIn K (.ref A_BadEvent) "__getattr__" = some none)
    (oh_BadEvent_2 : PySem.W.subIn K (.ref A_BadEvent) (.type "BaseException") = some true)
    (oh_BadEvent_3 : PySem.W.hasDictIn K A_BadEvent = true)
    (oh_BadEvent_4 : PySem.W.findIn K (.ref A_BadEvent) "__class__" = some (some (.builtin "object.__class__")))
    (om_BadEvent : PySem.W.mroIn K A_BadEvent (.type "object") = some true)
    (ok_BadEvent_0 : PySem.W.kitOne K (.ref A_BadEvent) (.ref A_BadSetting) = some false)
    (ok_BadEvent_1 : PySem.W.kitOne K (.ref A_BadEvent) (.ref A_BadMark) = some false)
    (ok_BadEvent_2 : PySem.W.kitOne K (.ref A_BadEvent) (.ref A_BadBits) = some false)
    (ok_BadEvent_3 : PySem.W.kitOne K (.ref A_BadEvent) (.ref A_Full) = some false)
    (ok_BadEvent_4 : PySem.W.kitOne K (.ref A_BadEvent) (.ref A_BadEvent) = some true)
    (ok_BadEvent_5 : PySem.W.kitOne K (.ref A_BadEvent) (.ref A_BadText) = some false)
    (ox_BadEvent : PySem.W.exmOne K (.ref A_BadEvent) (.ref A_BitsError) = some true)
    (ov_BadEvent : PySem.W.kitOne K (.ref A_BadEvent) (.type "ValueError") = some true)
    (oh_BadText_0 : PySem.W.findIn K (.ref A_BadText) "__getattribute__" = some (some (.builtin "BaseException.__getattribute__")))
    (oh_BadText_1 : PySem.W.findIn K (.ref A_BadText) "__getattr__" = some none)
    (oh_BadText_2 : PySem.W.subIn K (.ref A_BadText) (.type "BaseException") = some true)
    (oh_BadText_3 : PySem.W.hasDictIn K A_BadText = true)
    (oh_BadText_4 : PySem.W.findIn K (.ref A_BadText) "__class__" = some (some (.builtin "object.__class__")))
    (om_BadText : PySem.W.mroIn K A_BadText (.type "object") = some true)
    (ok_BadText_0 : PySem.W.kitOne K (.ref A_BadText) (.ref A_BadSetting) = some false)
    (ok_BadText_1 : PySem.W.kitOne K (.ref A_BadText) (.ref A_BadMark) = some false)
    (ok_BadText_2 : PySem.W.kitOne K (.ref A_BadText) (.ref A_BadBits) = some false)
    (ok_BadText_3 : PySem.W.kitOne K (.ref A_BadText) (.ref A_Full) = some false)
    (ok_BadText_4 : PySem.W.kitOne K (.ref A_BadText) (.ref A_BadEvent) = some false)
    (ok_BadText_5 : PySem.W.kitOne K (.ref A_BadText) (.ref A_BadText) = some true)
    (ox_BadText : PySem.W.exmOne K (.ref A_BadText) (.ref A_BitsError) = some true)
    (ov_BadText : PySem.W.kitOne K (.ref A_BadText) (.type "ValueError") = some true)
    (tc_s1 : (PySem.W.clsIn K A_BadSetting).isSome = true)
    (tc_n1 : PySem.W.findIn K (.ref A_BadSetting) "word" = some none)
    (tc_s5 : (PySem.W.clsIn K A_BadEvent).isSome = true)
    (tc_n5 : PySem.W.findIn K (.ref A_BadEvent) "number" = some none)
    (tc_s6 : (PySem.W.clsIn K A_BadText).isSome = true)
    (tc_n6 : PySem.W.findIn K (.ref A_BadText) "place" = some none)
    (a_FIG : PySem.W.nsIn K mainGlobals "FIGURES" = some (some (.str "0123456789" tkF)))
    (a_NOB : PySem.W.nsIn K mainGlobals "NO_BITS" = some (some (.str "-" tkN)))
    (a_l_told : PySem.W.nsIn K mainGlobals "_law_told" = some (some (.ref A_l_told)))
    (lkT : K.lookup A_l_told = some ⟨ocT, odT, .func (PySem.W.fnOf "_law_told" "_law_told" (defArgs s_l_told) (defBody s_l_told) (defScope s_l_told) .none kVT docT pmT anT cdT ctT), oslT⟩)
    (hcT : PySem.W.codeIn K cdT "_law_told" = true)
    (hkT : PySem.W.keepIn K (.ref A_l_told) = true)
    (a_BOUNDS : PySem.W.nsIn K mainGlobals "BOUNDS" = some (some (.ref A_BOUNDS)))
    (lkB : K.lookup A_BOUNDS = some { cls := .type "dict", data := .dict esB nB })
    (klB : PySem.W.KeysLit w.params esB.toList)
    (nB1 : PySem.W.nsIn K A_BOUNDS "marks" = some (some (.ref A_t1)))
    (nB2 : PySem.W.nsIn K A_BOUNDS "wide" = some (some (.ref A_t2)))
    (nB3 : PySem.W.nsIn K A_BOUNDS "late" = some (some (.ref A_t3)))
    (nB4 : PySem.W.nsIn K A_BOUNDS "ahead" = some (some (.ref A_t4)))
    (nB5 : PySem.W.nsIn K A_BOUNDS "room" = some (some (.ref A_t5)))
    (nB6 : PySem.W.nsIn K A_BOUNDS "wait" = some (some (.ref A_t6)))
    (sB1 : ∀ H, SqT K H A_t1 [.int 2, .int 64])
    (sB2 : ∀ H, SqT K H A_t2 [.int 0, .int 16])
    (sB3 : ∀ H, SqT K H A_t3 [.int 0, .int 8])
    (sB4 : ∀ H, SqT K H A_t4 [.int 1, .int 16])
    (sB5 : ∀ H, SqT K H A_t5 [.int 1, .int 8])
    (sB6 : ∀ H, SqT K H A_t6 [.int 1, .int 20])
    (F_l_like : ∃ fd, L2.Fun K "_law_like" "_law_like" s_l_like A_l_like fd)
    (a_l_like : PySem.W.nsIn K mainGlobals "_law_like" = some (some (.ref A_l_like)))
    (z_isinstance : PySem.W.nsIn K mainGlobals "isinstance" = some none)
    (z_bool : PySem.W.nsIn K mainGlobals "bool" = some none)
    (z_str : PySem.W.nsIn K mainGlobals "str" = some none)
    (z_int : PySem.W.nsIn K mainGlobals "int" = some none)
    (z_dict : PySem.W.nsIn K mainGlobals "dict" = some none)
    (z_tuple : PySem.W.nsIn K mainGlobals "tuple" = some none)
    (z_list : PySem.W.nsIn K mainGlobals "list" = some none)
    (z_len : PySem.W.nsIn K mainGlobals "len" = some none)
    (z_range : PySem.W.nsIn K mainGlobals "range" = some none)
    (F_l_next : ∃ fd, L2.Fun K "_law_next" "_law_next" s_l_next A_l_next fd)
    (a_l_next : PySem.W.nsIn K mainGlobals "_law_next" = some (some (.ref A_l_next)))
    (F_l_dice : ∃ fd, L2.Fun K "_law_dice" "_law_dice" s_l_dice A_l_dice fd)
    (a_l_dice : PySem.W.nsIn K mainGlobals "_law_dice" = some (some (.ref A_l_dice)))
    (F_l_setting : ∃ fd, L2.Fun K "_law_setting" "_law_setting" s_l_setting A_l_setting fd)
    (z_max : PySem.W.nsIn K mainGlobals "max" = some none)
    (z_min : PySem.W.nsIn K mainGlobals "min" = some none)
    (a_l_setting : PySem.W.nsIn K mainGlobals "_law_setting" = some (some (.ref A_l_setting)))
    (F_check_number : ∃ fd, L2.Fun K "check_number" "check_number" s_check_number A_check_number fd)
    (a_check_number : PySem.W.nsIn K mainGlobals "check_number" = some (some (.ref A_check_number)))
    (F_check_setting : ∃ fd, L2.Fun K "check_setting" "check_setting" s_check_setting A_check_setting fd)
    (a_check_setting : PySem.W.nsIn K mainGlobals "check_setting" = some (some (.ref A_check_setting)))
    (F_check_mark : ∃ fd, L2.Fun K "check_mark" "check_mark" s_check_mark A_check_mark fd)
    (a_check_mark : PySem.W.nsIn K mainGlobals "check_mark" = some (some (.ref A_check_mark)))
    (F_check_bits : ∃ fd, L2.Fun K "check_bits" "check_bits" s_check_bits A_check_bits fd)
    (a_check_bits : PySem.W.nsIn K mainGlobals "check_bits" = some (some (.ref A_check_bits)))
    (F_check_telling : ∃ fd, L2.Fun K "check_telling" "check_telling" s_check_telling A_check_telling fd)
    (a_check_telling : PySem.W.nsIn K mainGlobals "check_telling" = some (some (.ref A_check_telling)))
    (F_check_sign : ∃ fd, L2.Fun K "_check_sign" "_check_sign" s_check_sign A_check_sign fd)
    (a_check_sign : PySem.W.nsIn K mainGlobals "_check_sign" = some (some (.ref A_check_sign)))
    (F_end_of_mark : ∃ fd, L2.Fun K "_end_of_mark" "_end_of_mark" s_end_of_mark A_end_of_mark fd)
    (a_end_of_mark : PySem.W.nsIn K mainGlobals "_end_of_mark" = some (some (.ref A_end_of_mark)))
    (F_u_check_bits : ∃ fd, L2.Fun K "_check_bits" "_check_bits" s_u_check_bits A_u_check_bits fd)
    (a_u_check_bits : PySem.W.nsIn K mainGlobals "_check_bits" = some (some (.ref A_u_check_bits)))
    (F_bits_of : ∃ fd, L2.Fun K "_bits_of" "_bits_of" s_bits_of A_bits_of fd)
    (a_bits_of : PySem.W.nsIn K mainGlobals "_bits_of" = some (some (.ref A_bits_of)))
    (F_read : ∃ fd, L2.Fun K "read" "read" s_read A_read fd)
    (a_read : PySem.W.nsIn K mainGlobals "read" = some (some (.ref A_read)))
    (F_written : ∃ fd, L2.Fun K "written" "written" s_written A_written fd)
    (a_written : PySem.W.nsIn K mainGlobals "written" = some (some (.ref A_written)))
    (F_l_due : ∃ fd, L2.Fun K "_law_due" "_law_due" s_l_due A_l_due fd)
    (a_l_due : PySem.W.nsIn K mainGlobals "_law_due" = some (some (.ref A_l_due)))
    (a_law : PySem.W.nsIn K mainGlobals "law" = some (some (.ref A_law)))
    (lk_law : K.lookup A_law = some ⟨ocL, odL, .func (PySem.W.fnOf "law" "law" (defArgs s_law) (defBody s_law) (defScope s_law) .none kVL docL pmL anL (.ref A_code) ctL), oslL⟩)
    (hc_law : PySem.W.codeIn K (.ref A_code) "law" = true)
    (lk_code : K.lookup A_code = some ⟨ocC, odC, .fields vsC, oslC⟩)
    (ht_law : (vsC[11]? : Option Value) = some (.ref A_tab))
    (hh_law : PySem.W.codeHdIn K A_code A_tab = true)
    (nt_law : K.lookup A_tab = none)
    (z_ValueError : PySem.W.nsIn K mainGlobals "ValueError" = some none)
    (hT : h.get? A_tab = some { cls := .none, data := .fields #[] }) : LamX.LawAtS l w K (L2.CX l.prog w) 8 63 "_law_script" mg fa h := by
  have e0 := hfa.symm.trans (PySem.W.mg_of X G a_law)
  cases e0
  have x_BadMark : RaiseC K mg "BadMark" A_BadMark := ⟨xq_BadMark, PySem.W.mg_of X G a_BadMark, xk_BadMark, xs_BadMark, xt_BadMark⟩
  have x_BadBits : RaiseC K mg "BadBits" A_BadBits := ⟨xq_BadBits, PySem.W.mg_of X G a_BadBits, xk_BadBits, xs_BadBits, xt_BadBits⟩
  have T_BadText : OexC K A_BadText := ⟨Ak.oex_of rq_BadText, sa_BadText, xs_BadText, xt_BadText, xk_BadText⟩
  have S_BadText : SupF l.prog K mg A_BadText A_in_BadText A_cc_BadText A_cd_BadText (Ak.supD "BadText.__init__" s_BadText___init A_cc_BadText A_cd_BadText kVBadText docBadText pmBadText ctBadText anBadText) "self" ofBadText cxBadText odBadText cdBadText oslBadText cslBadText vsBadText fileBadText tfBadText clBadText cldBadText clsBadText := ⟨ri_lk_BadText, ⟨_, rfl, rfl⟩, ri_lc_BadText, ri_v2_BadText, ri_fl_BadText, ri_tp, ri_ce_BadText, ri_dc_BadText, ri_sb_BadText, (PySem.W.mg_none_of X G z_super), ri_op, ri_su_BadText, ri_sv_BadText⟩
  have o1 : OneBad K A_BitsError A_BadSetting A_BadMark A_BadBits A_Full A_BadEvent A_BadText A_BadSetting true false false false false false := ⟨ox_BadSetting, ⟨oh_BadSetting_0, oh_BadSetting_1, oh_BadSetting_2, oh_BadSetting_3, oh_BadSetting_4, oc_hn, oc_ht, om_BadSetting⟩, ok_BadSetting_0, ok_BadSetting_1, ok_BadSetting_2, ok_BadSetting_3, ok_BadSetting_4, ok_BadSetting_5, ov_BadSetting⟩
  have o2 : OneBad K A_BitsError A_BadSetting A_BadMark A_BadBits A_Full A_BadEvent A_BadText A_BadMark false true false false false false := ⟨ox_BadMark, ⟨oh_BadMark_0, oh_BadMark_1, oh_BadMark_2, oh_BadMark_3, oh_BadMark_4, oc_hn, oc_ht, om_BadMark⟩, ok_BadMark_0, ok_BadMark_1, ok_BadMark_2, ok_BadMark_3, ok_BadMark_4, ok_BadMark_5, ov_BadMark⟩
  have o3 : OneBad K A_BitsError A_BadSetting A_BadMark A_BadBits A_Full A_BadEvent A_BadText A_BadBits false false true false false false := ⟨ox_BadBits, ⟨oh_BadBits_0, oh_BadBits_1, oh_BadBits_2, oh_BadBits_3, oh_BadBits_4, oc_hn, oc_ht, om_BadBits⟩, ok_BadBits_0, ok_BadBits_1, ok_BadBits_2, ok_BadBits_3, ok_BadBits_4, ok_BadBits_5, ov_BadBits⟩
  have o4 : OneBad K A_BitsError A_BadSetting A_BadMark A_BadBits A_Full A_BadEvent A_BadText A_Full false false false true false false := ⟨ox_Full, ⟨oh_Full_0, oh_Full_1, oh_Full_2, oh_Full_3, oh_Full_4, oc_hn, oc_ht, om_Full⟩, ok_Full_0, ok_Full_1, ok_Full_2, ok_Full_3, ok_Full_4, ok_Full_5, ov_Full⟩
  have o5 : OneBad K A_BitsError A_BadSetting A_BadMark A_BadBits A_Full A_BadEvent A_BadText A_BadEvent false false false false true false := ⟨ox_BadEvent, ⟨oh_BadEvent_0, oh_BadEvent_1, oh_BadEvent_2, oh_BadEvent_3, oh_BadEvent_4, oc_hn, oc_ht, om_BadEvent⟩, ok_BadEvent_0, ok_BadEvent_1, ok_BadEvent_2, ok_BadEvent_3, ok_BadEvent_4, ok_BadEvent_5, ov_BadEvent⟩
  have o6 : OneBad K A_BitsError A_BadSetting A_BadMark A_BadBits A_Full A_BadEvent A_BadText A_BadText false false false false false true := ⟨ox_BadText, ⟨oh_BadText_0, oh_BadText_1, oh_BadText_2, oh_BadText_3, oh_BadText_4, oc_hn, oc_ht, om_BadText⟩, ok_BadText_0, ok_BadText_1, ok_BadText_2, ok_BadText_3, ok_BadText_4, ok_BadText_5, ov_BadText⟩
  have TC : ToldC K A_BitsError A_BadSetting A_BadMark A_BadBits A_Full A_BadEvent A_BadText := ⟨o1, o2, o3, o4, o5, o6, tc_s1, tc_n1, tc_s5, tc_n5, tc_s6, tc_n6⟩
  have gF := PySem.W.mg_of X G a_FIG
  have gN := PySem.W.mg_of X G a_NOB
  have bT : L2.Binds K (PySem.W.fnOf "_law_told" "_law_told" (defArgs s_l_told) (defBody s_l_told) (defScope s_l_told) .none kVT docT pmT anT cdT ctT) ["_law_work"] [] := (L2.fun_mk lkT hcT hkT).binds fun _ _ _ _ _ _ us hl => match us, hl with | [_], _ => rfl
  have B : BoundsT K w mg A_BOUNDS := bounds_mk (PySem.W.mg_of X G a_BOUNDS) lkB klB nB1 nB2 nB3 nB4 nB5 nB6 sB1 sB2 sB3 sB4 sB5 sB6
  obtain ⟨fd_l_like, F_l_like⟩ := F_l_like
  have b_l_like := F_l_like.binds (ps := ["_law_found", "_law_due_here"]) fun _ _ _ _ _ _ us hl => match us, hl with | [_, _], _ => rfl
  have g_isinstance := (PySem.W.mg_none_of X G z_isinstance)
  have g_bool := (PySem.W.mg_none_of X G z_bool)
  have g_str := (PySem.W.mg_none_of X G z_str)
  have g_int := (PySem.W.mg_none_of X G z_int)
  have g_dict := (PySem.W.mg_none_of X G z_dict)
  have g_tuple := (PySem.W.mg_none_of X G z_tuple)
  have g_list := (PySem.W.mg_none_of X G z_list)
  have g_len := (PySem.W.mg_none_of X G z_len)
  have g_range := (PySem.W.mg_none_of X G z_range)
  obtain ⟨fd_l_next, F_l_next⟩ := F_l_next
  have b_l_next := F_l_next.binds (ps := ["_law_dice_here", "_law_many"]) fun _ _ _ _ _ _ us hl => match us, hl with | [_, _], _ => rfl
  obtain ⟨fd_l_dice, F_l_dice⟩ := F_l_dice
  have b_l_dice := F_l_dice.binds (ps := ["_law_script"]) fun _ _ _ _ _ _ us hl => match us, hl with | [_], _ => rfl
  obtain ⟨fd_l_setting, F_l_setting⟩ := F_l_setting
  have b_l_setting := F_l_setting.binds (ps := ["_law_d"]) fun _ _ _ _ _ _ us hl => match us, hl with | [_], _ => rfl
  obtain ⟨fd_check_number, F_check_number⟩ := F_check_number
  have b_check_number := F_check_number.binds (ps := ["word", "number"]) fun _ _ _ _ _ _ us hl => match us, hl with | [_, _], _ => rfl
  obtain ⟨fd_check_setting, F_check_setting⟩ := F_check_setting
  have b_check_setting := F_check_setting.binds (ps := ["setting"]) fun _ _ _ _ _ _ us hl => match us, hl with | [_], _ => rfl
  obtain ⟨fd_check_mark, F_check_mark⟩ := F_check_mark
  have b_check_mark := F_check_mark.binds (ps := ["mark", "marks"]) fun _ _ _ _ _ _ us hl => match us, hl with | [_, _], _ => rfl
  obtain ⟨fd_check_bits, F_check_bits⟩ := F_check_bits
  have b_check_bits := F_check_bits.binds (ps := ["bits", "wide"]) fun _ _ _ _ _ _ us hl => match us, hl with | [_, _], _ => rfl
  obtain ⟨fd_check_telling, F_check_telling⟩ := F_check_telling
  have b_check_telling := F_check_telling.binds (ps := ["told", "marks", "wide"]) fun _ _ _ _ _ _ us hl => match us, hl with | [_, _, _], _ => rfl
  obtain ⟨fd_check_sign, F_check_sign⟩ := F_check_sign
  have b_check_sign := F_check_sign.binds (ps := ["text", "place", "signs"]) fun _ _ _ _ _ _ us hl => match us, hl with | [_, _, _], _ => rfl
  obtain ⟨fd_end_of_mark, F_end_of_mark⟩ := F_end_of_mark
  have b_end_of_mark := F_end_of_mark.binds (ps := ["text"]) fun _ _ _ _ _ _ us hl => match us, hl with | [_], _ => rfl
  obtain ⟨fd_u_check_bits, F_u_check_bits⟩ := F_u_check_bits
  have b_u_check_bits := F_u_check_bits.binds (ps := ["text", "first"]) fun _ _ _ _ _ _ us hl => match us, hl with | [_, _], _ => rfl
  obtain ⟨fd_bits_of, F_bits_of⟩ := F_bits_of
  have b_bits_of := F_bits_of.binds (ps := ["signs"]) fun _ _ _ _ _ _ us hl => match us, hl with | [_], _ => rfl
  obtain ⟨fd_read, F_read⟩ := F_read
  have b_read := F_read.binds (ps := ["setting", "text"]) fun _ _ _ _ _ _ us hl => match us, hl with | [_, _], _ => rfl
  obtain ⟨fd_written, F_written⟩ := F_written
  have b_written := F_written.binds (ps := ["setting", "told"]) fun _ _ _ _ _ _ us hl => match us, hl with | [_, _], _ => rfl
  obtain ⟨fd_l_due, F_l_due⟩ := F_l_due
  have b_l_due := F_l_due.binds (ps := ["_law_setting_here", "_law_text"]) fun _ _ _ _ _ _ us hl => match us, hl with | [_, _], _ => rfl
  refine ⟨PySem.W.fnOf "law" "law" (defArgs s_law) (defBody s_law) (defScope s_law) .none kVL docL pmL anL (.ref A_code) ctL, [(A_code, A_tab)], spLaw K A_tab, fun p hp => ?_, fun p hp => ?_, fun p hp => ?_, fun s u => .of_eq rfl, fun H a ns hl _ hPT hS => ?_, fun base _ _ hTB => ?_⟩
  · rw [List.mem_singleton.mp hp]; exact hT
  · rw [List.mem_singleton.mp hp]; exact nt_law
  · rw [List.mem_singleton.mp hp]; exact PySem.W.codeHd_of_K X hh_law
  · exact ⟨a, ns, rfl, hS, hl, hPT _ (List.mem_singleton.mpr rfl), fun _ => rfl⟩
  · have TB := hTB _ (List.mem_singleton.mpr rfl)
    have r_BadText : RaiO l.prog w K mg base 1 "BadText" A_BadText "place" := rai_BadText S_BadText ri_hc_BadText ni_BadText ci_BadText ti_BadText T_BadText (PySem.W.mg_of X G a_BadText)
    have c_l_next : CalX l.prog w K mg base 1 "_law_next" _ := ⟨A_l_next, fd_l_next, _, ok_next F_l_next (PySem.W.mg_none_of X G z_len), PySem.W.mg_of X G a_l_next, F_l_next.kp, b_l_next⟩
    have c_l_dice : CalX l.prog w K mg base 1 "_law_dice" _ := ⟨A_l_dice, fd_l_dice, _, ok_dice F_l_dice (PySem.W.mg_none_of X G z_len) (PySem.W.mg_none_of X G z_int), PySem.W.mg_of X G a_l_dice, F_l_dice.kp, b_l_dice⟩
    have c_l_like : CalX l.prog w K mg base 4 "_law_like" (spLike K 3) := ok_like F_l_like g_isinstance g_bool g_str g_int g_dict g_tuple g_list g_len g_range (PySem.W.mg_of X G a_l_like) b_l_like 3
    have c_l_setting : CalX l.prog w K mg base 2 "_law_setting" _ := ⟨A_l_setting, fd_l_setting, _, ok_setting F_l_setting (PySem.W.mg_none_of X G z_max) (PySem.W.mg_none_of X G z_min) c_l_next, PySem.W.mg_of X G a_l_setting, F_l_setting.kp, b_l_setting⟩
    have c_check_number : CalX l.prog w K mg base 1 "check_number" _ := ⟨A_check_number, fd_check_number, _, ok_check_number F_check_number B, PySem.W.mg_of X G a_check_number, F_check_number.kp, b_check_number⟩
    have c_check_setting : CalX l.prog w K mg base 2 "check_setting" _ := ⟨A_check_setting, fd_check_setting, _, ok_check_setting F_check_setting c_check_number, PySem.W.mg_of X G a_check_setting, F_check_setting.kp, b_check_setting⟩
    have c_check_mark : CalX l.prog w K mg base 1 "check_mark" _ := ⟨A_check_mark, fd_check_mark, _, ok_markX F_check_mark x_BadMark, PySem.W.mg_of X G a_check_mark, F_check_mark.kp, b_check_mark⟩
    have c_check_bits : CalX l.prog w K mg base 1 "check_bits" _ := ⟨A_check_bits, fd_check_bits, _, ok_bitsX F_check_bits (PySem.W.mg_none_of X G z_len) x_BadBits, PySem.W.mg_of X G a_check_bits, F_check_bits.kp, b_check_bits⟩
    have c_check_telling : CalX l.prog w K mg base 2 "check_telling" _ := ⟨A_check_telling, fd_check_telling, _, ok_tellX F_check_telling c_check_mark c_check_bits, PySem.W.mg_of X G a_check_telling, F_check_telling.kp, b_check_telling⟩
    have c_check_sign : CalX l.prog w K mg base 3 "_check_sign" _ := ⟨A_check_sign, fd_check_sign, _, ok_sign F_check_sign (PySem.W.mg_none_of X G z_len) r_BadText, PySem.W.mg_of X G a_check_sign, F_check_sign.kp, b_check_sign⟩
    have c_end_of_mark : CalX l.prog w K mg base 4 "_end_of_mark" _ := ⟨A_end_of_mark, fd_end_of_mark, _, ok_end_mark F_end_of_mark gF c_check_sign, PySem.W.mg_of X G a_end_of_mark, F_end_of_mark.kp, b_end_of_mark⟩
    have c_u_check_bits : CalX l.prog w K mg base 4 "_check_bits" _ := ⟨A_u_check_bits, fd_u_check_bits, _, ok_bits_signs F_u_check_bits (PySem.W.mg_none_of X G z_range) (PySem.W.mg_none_of X G z_len) gN c_check_sign, PySem.W.mg_of X G a_u_check_bits, F_u_check_bits.kp, b_u_check_bits⟩
    have c_bits_of : CalX l.prog w K mg base 1 "_bits_of" _ := ⟨A_bits_of, fd_bits_of, _, ok_bits_of F_bits_of gN (PySem.W.mg_none_of X G z_tuple) (PySem.W.mg_none_of X G z_int), PySem.W.mg_of X G a_bits_of, F_bits_of.kp, b_bits_of⟩
    have c_read : CalX l.prog w K mg base 5 "read" _ := ⟨A_read, fd_read, _, ok_read F_read (PySem.W.mg_none_of X G z_int) c_check_setting c_end_of_mark c_check_sign c_u_check_bits c_bits_of c_check_telling, PySem.W.mg_of X G a_read, F_read.kp, b_read⟩
    have c_written : CalX l.prog w K mg base 3 "written" _ := ⟨A_written, fd_written, _, ok_written F_written gN (PySem.W.mg_none_of X G z_str) c_check_setting c_check_telling, PySem.W.mg_of X G a_written, F_written.kp, b_written⟩
    have c_l_due : CalX l.prog w K mg base 1 "_law_due" _ := ⟨A_l_due, fd_l_due, _, ok_due F_l_due (PySem.W.mg_none_of X G z_min) (PySem.W.mg_none_of X G z_len) (PySem.W.mg_none_of X G z_range) (PySem.W.mg_none_of X G z_tuple) (PySem.W.mg_none_of X G z_int), PySem.W.mg_of X G a_l_due, F_l_due.kp, b_l_due⟩
    exact ok_law lk_law hc_law TB lkT hcT hkT (PySem.W.mg_of X G a_l_told) bT TC (PySem.W.mg_of X G a_BitsError) (PySem.W.mg_of X G a_BadSetting) (PySem.W.mg_of X G a_BadMark) (PySem.W.mg_of X G a_BadBits) (PySem.W.mg_of X G a_Full) (PySem.W.mg_of X G a_BadEvent) (PySem.W.mg_of X G a_BadText) (PySem.W.mg_none_of X G z_isinstance) (PySem.W.mg_none_of X G z_ValueError) (PySem.W.mg_none_of X G z_range) (PySem.W.mg_none_of X G z_tuple) (PySem.W.mg_none_of X G z_int) (PySem.W.mg_none_of X G z_str) (PySem.W.mg_none_of X G z_min) (PySem.W.mg_none_of X G z_len) c_l_dice c_l_next c_l_setting c_l_like c_l_due c_written c_read
end Ak
local macro_rules | `(tactic| walk_at "fi") => `(tactic| (refine' ⟨_, L2.fun_mk ?l ?c ?k⟩; (case l => k_is); (case c => k_is); (case k => k_is)))
local macro_rules | `(tactic| walk_at "vals") => `(tactic| first | exact .nil | exact .cons (by first | rfl | exact ⟨_, rfl⟩) (by walk_at "vals"))
local macro_rules | `(tactic| walk_at "kl") => `(tactic| first | exact trivial | (refine ⟨⟨_, _, rfl, rfl⟩, ?_⟩; walk_at "kl"))
local macro_rules | `(tactic| walk_at "sqk") => `(tactic| (refine' Ak.sqT_of ?l ?c ?d ?z ?v; (case l => k_is); (case c => rfl); (case d => rfl); (case z => exact Nat.le_of_ble_eq_true rfl); (case v => walk_at "vals")))
open PySem PySem.W PyProof.Rows in
set_option maxRecDepth 100000 in
set_option maxHeartbeats 0 in
theorem PySem.Challenge.cw_ackbits_k10_written_and_read_holds : PySem.Challenge.rw_ackbits_k10_written_and_read.Holds := by
  w_on; o_law; k_head; (case hw => w_witness2)
  k_fill
  refine LamX.walk_ofTs (l := PySem.Challenge.rw_ackbits_k10_written_and_read) (n := 63) (k := 8) (x := "_law_script") (CX := fun w => L2.CX (PySem.Challenge.rw_ackbits_k10_written_and_read).prog w) rfl (by decide) rfl ⟨rfl, by decide, by decide⟩ (fun w h Y => PySem.W.km_in_of Y) ?F (fun _ _ _ _ _ z => Ak.cx_none z)
  case F =>
    intro w mg fa h Y KX G hmg
    refine' Ak.all_mk KX G hmg ?a_BadMark ?xq_BadMark ?xk_BadMark ?xs_BadMark ?xt_BadMark ?a_BadBits ?xq_BadBits ?xk_BadBits ?xs_BadBits ?xt_BadBits ?a_BadText ?xk_BadText ?xs_BadText ?xt_BadText ?rq_BadText ?sa_BadText ?ci_BadText ?ti_BadText ?ni_BadText ?ri_lk_BadText ?ri_hc_BadText ?ri_lc_BadText ?ri_v2_BadText ?ri_fl_BadText ?ri_tp ?ri_ce_BadText ?ri_dc_BadText ?ri_sb_BadText ?ri_op ?ri_su_BadText ?ri_sv_BadText ?z_super ?a_BadSetting ?a_BitsError ?a_Full ?a_BadEvent ?oh_BadSetting_0 ?oh_BadSetting_1 ?oh_BadSetting_2 ?oh_BadSetting_3 ?oh_BadSetting_4 ?oc_hn ?oc_ht ?om_BadSetting ?ok_BadSetting_0 ?ok_BadSetting_1 ?ok_BadSetting_2 ?ok_BadSetting_3 ?ok_BadSetting_4 ?ok_BadSetting_5 ?ox_BadSetting ?ov_BadSetting ?oh_BadMark_0 ?oh_BadMark_1 ?oh_BadMark_2 ?oh_BadMark_3 ?oh_BadMark_4 ?om_BadMark ?ok_BadMark_0 ?ok_BadMark_1 ?ok_BadMark_2 ?ok_BadMark_3 ?ok_BadMark_4 ?ok_BadMark_5 ?ox_BadMark ?ov_BadMark ?oh_BadBits_0 ?oh_BadBits_1 ?oh_BadBits_2 ?oh_BadBits_3 ?oh_BadBits_4 ?om_BadBits ?ok_BadBits_0 ?ok_BadBits_1 ?ok_BadBits_2 ?ok_BadBits_3 ?ok_BadBits_4 ?ok_BadBits_5 ?ox_BadBits ?ov_BadBits ?oh_Full_0 ?oh_Full_1 ?oh_Full_2 ?oh_Full_3 ?oh_Full_4 ?om_Full ?ok_Full_0 ?ok_Full_1 ?ok_Full_2 ?ok_Full_3 ?ok_Full_4 ?ok_Full_5 ?ox_Full ?ov_Full ?oh_BadEvent_0 ?oh_BadEvent_1 ?oh_BadEvent_2 ?oh_BadEvent_3 ?oh_BadEvent_4 ?om_BadEvent ?ok_BadEvent_0 ?ok_BadEvent_1 ?ok_BadEvent_2 ?ok_BadEvent_3 ?ok_BadEvent_4 ?ok_BadEvent_5 ?ox_BadEvent ?ov_BadEvent ?oh_BadText_0 ?oh_BadText_1 ?oh_BadText_2 ?oh_BadText_3 ?oh_BadText_4 ?om_BadText ?ok_BadText_0 ?ok_BadText_1 ?ok_BadText_2 ?ok_BadText_3 ?ok_BadText_4 ?ok_BadText_5 ?ox_BadText ?ov_BadText ?tc_s1 ?tc_n1 ?tc_s5 ?tc_n5 ?tc_s6 ?tc_n6 ?a_FIG ?a_NOB ?a_l_told ?lkT ?hcT ?hkT ?a_BOUNDS ?lkB ?klB ?nB1 ?nB2 ?nB3 ?nB4 ?nB5 ?nB6 ?sB1 ?sB2 ?sB3 ?sB4 ?sB5 ?sB6 ?F_l_like ?a_l_like ?z_isinstance ?z_bool ?z_str ?z_int ?z_dict ?z_tuple ?z_list ?z_len ?z_range ?F_l_next ?a_l_next ?F_l_dice ?a_l_dice ?F_l_setting ?z_max ?z_min ?a_l_setting ?F_check_number ?a_check_number ?F_check_setting ?a_check_setting ?F_check_mark ?a_check_mark ?F_check_bits ?a_check_bits ?F_check_telling ?a_check_telling ?F_check_sign ?a_check_sign ?F_end_of_mark ?a_end_of_mark ?F_u_check_bits ?a_u_check_bits ?F_bits_of ?a_bits_of ?F_read ?a_read ?F_written ?a_written ?F_l_due ?a_l_due ?a_law ?lk_law ?hc_law ?lk_code ?ht_law ?hh_law ?nt_law ?z_ValueError ?hT
    (case a_BadMark => k_is)
    (case a_BadBits => k_is)
    (case a_BadText => k_is)
    (case a_BadSetting => k_is)
    (case a_BitsError => k_is)
    (case a_Full => k_is)
    (case a_BadEvent => k_is)
    (case a_FIG => k_is)
    (case a_NOB => k_is)
    (case a_l_told => k_is)
    (case a_BOUNDS => k_is)
    (case a_l_like => k_is)
    (case a_l_next => k_is)
    (case a_l_dice => k_is)
    (case a_l_setting => k_is)
    (case a_check_number => k_is)
    (case a_check_setting => k_is)
    (case a_check_mark => k_is)
    (case a_check_bits => k_is)
    (case a_check_telling => k_is)
    (case a_check_sign => k_is)
    (case a_end_of_mark => k_is)
    (case a_u_check_bits => k_is)
    (case a_bits_of => k_is)
    (case a_read => k_is)
    (case a_written => k_is)
    (case a_l_due => k_is)
    (case a_law => k_is)
    (case ci_BadText => k_is)
    (case xq_BadMark => k_exc)
    (case xk_BadMark => k_is)
    (case xs_BadMark => k_is)
    (case xt_BadMark => k_is)
    (case xq_BadBits => k_exc)
    (case xk_BadBits => k_is)
    (case xs_BadBits => k_is)
    (case xt_BadBits => k_is)
    (case xk_BadText => k_is)
    (case xs_BadText => k_is)
    (case xt_BadText => k_is)
    (case rq_BadText => kernel_rfl)
    (case sa_BadText => k_is)
    (case ti_BadText => k_is)
    (case ni_BadText => k_is)
    (case ri_lk_BadText => k_is)
    (case ri_hc_BadText => k_is)
    (case ri_lc_BadText => k_is)
    (case ri_v2_BadText => rfl)
    (case ri_fl_BadText => kernel_rfl)
    (case ri_tp => kernel_rfl)
    (case ri_ce_BadText => k_is)
    (case ri_dc_BadText => kernel_rfl)
    (case ri_sb_BadText => k_is)
    (case ri_op => k_is)
    (case ri_su_BadText => kernel_rfl)
    (case ri_sv_BadText => k_is)
    (case z_super => k_is)
    (case oh_BadSetting_0 => k_is)
    (case oh_BadSetting_1 => k_is)
    (case oh_BadSetting_2 => k_is)
    (case oh_BadSetting_3 => k_is)
    (case oh_BadSetting_4 => k_is)
    (case oc_hn => k_is)
    (case oc_ht => k_is)
    (case om_BadSetting => k_is)
    (case ok_BadSetting_0 => kernel_rfl)
    (case ok_BadSetting_1 => kernel_rfl)
    (case ok_BadSetting_2 => kernel_rfl)
    (case ok_BadSetting_3 => kernel_rfl)
    (case ok_BadSetting_4 => kernel_rfl)
    (case ok_BadSetting_5 => kernel_rfl)
    (case ox_BadSetting => kernel_rfl)
    (case ov_BadSetting => kernel_rfl)
    (case oh_BadMark_0 => k_is)
    (case oh_BadMark_1 => k_is)
    (case oh_BadMark_2 => k_is)
    (case oh_BadMark_3 => k_is)
    (case oh_BadMark_4 => k_is)
    (case om_BadMark => k_is)
    (case ok_BadMark_0 => kernel_rfl)
    (case ok_BadMark_1 => kernel_rfl)
    (case ok_BadMark_2 => kernel_rfl)
    (case ok_BadMark_3 => kernel_rfl)
    (case ok_BadMark_4 => kernel_rfl)
    (case ok_BadMark_5 => kernel_rfl)
    (case ox_BadMark => kernel_rfl)
    (case ov_BadMark => kernel_rfl)
    (case oh_BadBits_0 => k_is)
    (case oh_BadBits_1 => k_is)
    (case oh_BadBits_2 => k_is)
    (case oh_BadBits_3 => k_is)
    (case oh_BadBits_4 => k_is)
    (case om_BadBits => k_is)
    (case ok_BadBits_0 => kernel_rfl)
    (case ok_BadBits_1 => kernel_rfl)
    (case ok_BadBits_2 => kernel_rfl)
    (case ok_BadBits_3 => kernel_rfl)
    (case ok_BadBits_4 => kernel_rfl)
    (case ok_BadBits_5 => kernel_rfl)
    (case ox_BadBits => kernel_rfl)
    (case ov_BadBits => kernel_rfl)
    (case oh_Full_0 => k_is)
    (case oh_Full_1 => k_is)
    (case oh_Full_2 => k_is)
    (case oh_Full_3 => k_is)
    (case oh_Full_4 => k_is)
    (case om_Full => k_is)
    (case ok_Full_0 => kernel_rfl)
    (case ok_Full_1 => kernel_rfl)
    (case ok_Full_2 => kernel_rfl)
    (case ok_Full_3 => kernel_rfl)
    (case ok_Full_4 => kernel_rfl)
    (case ok_Full_5 => kernel_rfl)
    (case ox_Full => kernel_rfl)
    (case ov_Full => kernel_rfl)
    (case oh_BadEvent_0 => k_is)
    (case oh_BadEvent_1 => k_is)
    (case oh_BadEvent_2 => k_is)
    (case oh_BadEvent_3 => k_is)
    (case oh_BadEvent_4 => k_is)
    (case om_BadEvent => k_is)
    (case ok_BadEvent_0 => kernel_rfl)
    (case ok_BadEvent_1 => kernel_rfl)
    (case ok_BadEvent_2 => kernel_rfl)
    (case ok_BadEvent_3 => kernel_rfl)
    (case ok_BadEvent_4 => kernel_rfl)
    (case ok_BadEvent_5 => kernel_rfl)
    (case ox_BadEvent => kernel_rfl)
    (case ov_BadEvent => kernel_rfl)
    (case oh_BadText_0 => k_is)
    (case oh_BadText_1 => k_is)
    (case oh_BadText_2 => k_is)
    (case oh_BadText_3 => k_is)
    (case oh_BadText_4 => k_is)
    (case om_BadText => k_is)
    (case ok_BadText_0 => kernel_rfl)
    (case ok_BadText_1 => kernel_rfl)
    (case ok_BadText_2 => kernel_rfl)
    (case ok_BadText_3 => kernel_rfl)
    (case ok_BadText_4 => kernel_rfl)
    (case ok_BadText_5 => kernel_rfl)
    (case ox_BadText => kernel_rfl)
    (case ov_BadText => kernel_rfl)
    (case tc_s1 => kernel_rfl)
    (case tc_n1 => k_is)
    (case tc_s5 => kernel_rfl)
    (case tc_n5 => k_is)
    (case tc_s6 => kernel_rfl)
    (case tc_n6 => k_is)
    (case lkT => k_is)
    (case hcT => k_is)
    (case hkT => k_is)
    (case lkB => k_is)
    (case klB => walk_at "kl")
    (case nB1 => k_is)
    (case nB2 => k_is)
    (case nB3 => k_is)
    (case nB4 => k_is)
    (case nB5 => k_is)
    (case nB6 => k_is)
    (case sB1 => walk_at "sqk")
    (case sB2 => walk_at "sqk")
    (case sB3 => walk_at "sqk")
    (case sB4 => walk_at "sqk")
    (case sB5 => walk_at "sqk")
    (case sB6 => walk_at "sqk")
    (case F_l_like => walk_at "fi")
    (case z_isinstance => k_is)
    (case z_bool => k_is)
    (case z_str => k_is)
    (case z_int => k_is)
    (case z_dict => k_is)
    (case z_tuple => k_is)
    (case z_list => k_is)
    (case z_len => k_is)
    (case z_range => k_is)
    (case F_l_next => walk_at "fi")
    (case F_l_dice => walk_at "fi")
    (case F_l_setting => walk_at "fi")
    (case z_max => k_is)
    (case z_min => k_is)
    (case F_check_number => walk_at "fi")
    (case F_check_setting => walk_at "fi")
    (case F_check_mark => walk_at "fi")
    (case F_check_bits => walk_at "fi")
    (case F_check_telling => walk_at "fi")
    (case F_check_sign => walk_at "fi")
    (case F_end_of_mark => walk_at "fi")
    (case F_u_check_bits => walk_at "fi")
    (case F_bits_of => walk_at "fi")
    (case F_read => walk_at "fi")
    (case F_written => walk_at "fi")
    (case F_l_due => walk_at "fi")
    (case lk_law => k_is)
    (case hc_law => k_is)
    (case lk_code => k_is)
    (case ht_law => rfl)
    (case hh_law => kernel_rfl)
    (case nt_law => kernel_rfl)
    (case z_ValueError => k_is)
    (case hT => exact PySem.W.km_tabs_of Y _ (by k_mem))
#print axioms PySem.Challenge.cw_ackbits_k10_written_and_read_holds
