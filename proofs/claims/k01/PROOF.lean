import PyProof.Rows.All
import Wide.All
import OpenK.AllK
import Wide.FinOn
import HandS.ForMost
import HandS.Exc
import HandS.WordsExc
import HandS.ExcOwn
import HandS.ExcIs
import HandS.ExcField
import HandS.TryOnly
import HandS.IsInst
import HandS.Conv
import HandS.Zip
import HandS.Codes
import HandS.Lambda
import HandS.EndTab
import HandS.Small
import HandS.SetFor
import HandS.SortInts
import HandS.HotCalls
import HandS.NestedK
import KE.GoesEnumKw
import KE.GoesMore
import HandS.SortKw
import HandS.More
import HandS.FStr
import HandS.TupAny
import HandS.ExcInit
import KE.KExcSuper
import KE.KExcIs
import KE.KDflt
import HandS.Text
import HandS.Flow
import KE.IntTextLaws
import PySem.Challenge.RW_ackbits_k01_what_is_none
set_option Elab.async false
set_option linter.all false
set_option maxRecDepth 100000
set_option maxHeartbeats 4000000
namespace Ak
open PySem PySem.Spec PyProof.Rows L2

/-! ### heaps: what is kept but for S -/
def Keep (S : List Addr) (H H' : Hp) : Prop := (∀ a o, a ∉ S → H a = some o → H' a = some o) ∧ ∀ a, H' a = none → H a = none
section
variable {S T : List Addr} {H H1 H2 : Hp} {a p : Addr} {o : HO} {K : PySem.W.Frag} {xs : List V}
theorem Keep.refl : Keep S H H := ⟨fun _ _ _ h => h, fun _ h => h⟩
theorem Keep.mono (h : ∀ b, b ∈ T → b ∈ S) (k : Keep T H H1) : Keep S H H1 := ⟨fun b u n e => k.1 b u (fun m => n (h b m)) e, k.2⟩
theorem Keep.trans (k : Keep S H H1) (l : Keep S H1 H2) : Keep S H H2 := ⟨fun b u n e => l.1 b u n (k.1 b u n e), fun b e => k.2 b (l.2 b e)⟩
/-- behind a call -/
theorem Keep.call (l : Keep T H1 H2) (h : ∀ b, b ∈ T → b ∈ S) (k : Keep S H H1) : Keep S H H2 := k.trans (l.mono h)
theorem Keep.new (k : Keep S H H1) (n : H1 p = none) : Keep S H (upd H1 p o) := ⟨fun b u m e => by
  have e1 := k.1 b u m e
  rw [upd_ne (ne_of_none e1 n)]
  exact e1, fun b e => by
  by_cases q : b = p
  · rw [q, upd_same] at e; cases e
  · rw [upd_ne q] at e; exact k.2 b e⟩
theorem Keep.set (k : Keep S H H1) (m : p ∈ S) : Keep S H (upd H1 p o) := ⟨fun b u n e => by
  have e1 := k.1 b u n e
  have q : b ≠ p := fun z => n (z ▸ m)
  rw [upd_ne q]
  exact e1, fun b e => by
  by_cases q : b = p
  · rw [q, upd_same] at e; cases e
  · rw [upd_ne q] at e; exact k.2 b e⟩
theorem Keep.new' (n : H1 p = none) (k : Keep S H H1) : Keep S H (upd H1 p o) := k.new n
theorem Keep.set' (m : p ∈ S) (k : Keep S H H1) : Keep S H (upd H1 p o) := k.set m
theorem Keep.at (k : Keep S H H1) (n : a ∉ S) (e : H a = some o) : H1 a = some o := k.1 a o n e
theorem Keep.free (k : Keep S H H1) (e : H1 a = none) : H a = none := k.2 a e
theorem Keep.seqL (k : Keep S H H1) (n : a ∉ S) (e : SqL K H a xs) : SqL K H1 a xs := by
  rcases e with e | e
  · rcases e with e | ⟨o, e⟩
    · exact Or.inl (Or.inl (k.1 _ _ n e))
    · exact Or.inl (Or.inr ⟨o, k.1 _ _ n e⟩)
  · exact Or.inr e
theorem Keep.seqT (k : Keep S H H1) (n : a ∉ S) (e : SqT K H a xs) : SqT K H1 a xs := by
  rcases e with e | e
  · rcases e with e | ⟨o, e⟩
    · exact Or.inl (Or.inl (k.1 _ _ n e))
    · exact Or.inl (Or.inr ⟨o, k.1 _ _ n e⟩)
  · exact Or.inr e
theorem nin_nil : a ∉ ([] : List Addr) := List.not_mem_nil
theorem nin_cons {b : Addr} (h : a ≠ b) (t : a ∉ S) : a ∉ b :: S := fun m => by
  rcases List.mem_cons.mp m with z | z
  · exact h z
  · exact t z
theorem ne_new {b : Addr} (h' : H b = none) (h : H a = some o) : a ≠ b := ne_of_none h h'
theorem sub_nil : ∀ b : Addr, b ∈ ([] : List Addr) → b ∈ S := fun _ m => absurd m List.not_mem_nil
theorem sub_cons {b : Addr} (h : b ∈ S) (t : ∀ c, c ∈ T → c ∈ S) : ∀ c, c ∈ b :: T → c ∈ S := fun c m => by
  rcases List.mem_cons.mp m with z | z
  · exact z ▸ h
  · exact t c z
theorem at_upd (h : a ≠ p) (e : H a = some o) {u : HO} : upd H p u a = some o := (upd_ne h).trans e
theorem at_new (n : H p = none) (e : H a = some o) {u : HO} : upd H p u a = some o := (upd_ne (ne_of_none e n)).trans e
theorem free_upd {u : HO} (e : upd H p u a = none) : H a = none := by
  by_cases q : a = p
  · rw [q, upd_same] at e; cases e
  · rw [upd_ne q] at e; exact e
theorem SqL.upd {u : HO} (h : SqL K H a xs) (n : H p = none) : SqL K (upd H p u) a xs := Keep.seqL (S := []) (Keep.refl.new n) nin_nil h
theorem SqT.upd {u : HO} (h : SqT K H a xs) (n : H p = none) : SqT K (upd H p u) a xs := Keep.seqT (S := []) (Keep.refl.new n) nin_nil h
end

/-! ### general operators -/
section
variable {X : Cx}
def rPlus (K : PySem.W.Frag) : R2 := fun x y H Q => rI0 (fun i j => .int (i + j)) x y H Q ∨ rCat x y H Q ∨ (∃ i j, x = .str i ∧ y = .str j ∧ i.length + j.length ≤ sizeLine ∧ Q (.str (i ++ j)) H) ∨ rCatT K x y H Q
theorem op_plus : OpR X (binaryOp .Add) (rPlus X.K) := OpR.or op_add (OpR.or op_cat (OpR.or op_add_str op_catT))
abbrev rMinus : R2 := rI0 fun i j => .int (i - j)
def rTimes : R2 := fun x y H Q => rI CMul (fun i j => .int (i * j)) x y H Q ∨ rRep x y H Q
theorem op_times : OpR X (binaryOp .Mult) rTimes := OpR.or op_mul op_rep
abbrev rMod : R2 := rI (fun _ j => 0 < j) fun i j => .int (i % j)
abbrev rDiv : R2 := rI CDiv fun i j => .int (i / j)
abbrev rPow : R2 := rI CPow fun i j => .int (i ^ j.toNat)
def rEqX (K : PySem.W.Frag) : R2 := fun x y H Q => rEq x y H Q ∨ rEqD K x y H Q
theorem op_eqX (hu : X.A.units + 64 < cLine) : OpR X (compareOp .Eq) (rEqX X.K) := OpR.or op_eq (op_eqD hu)
def rNeX (K : PySem.W.Frag) : R2 := fun x y H Q => rNe x y H Q ∨ rNeD K x y H Q
theorem op_neX (hu : X.A.units + 64 < cLine) : OpR X (compareOp .NotEq) (rNeX X.K) := OpR.or op_ne (op_neD hu)
abbrev rLt : R2 := rI0 fun i j => .bl (decide (i < j))
abbrev rLe : R2 := rI0 fun i j => .bl (decide (i ≤ j))
abbrev rGt : R2 := rI0 fun i j => .bl (decide (j < i))
abbrev rGe : R2 := rI0 fun i j => .bl (decide (j ≤ i))
def tTru (K : PySem.W.Frag) (ta : TE) : TT := fun σ H Q => ta σ H fun x H' => ∃ k, TruV K x H' k ∧ Q k H'
theorem pt_tru {a : Expr} {ta : TE} (ha : PE X a ta) (he : ∀ whole, isTrue a X.env whole = (do let v ← whole; standAt a.pos; holding [v] (truthy v)) := by intro _; rfl) : PT X a (tTru X.K ta) := pt_truth ha he
def rIsNon : R2 := fun x y H Q => y = .non ∧ Q (.bl (decide (x = .non))) H
def rNotNon : R2 := fun x y H Q => y = .non ∧ Q (.bl (!decide (x = .non))) H
theorem op_isNon : OpR X (compareOp .Is) rIsNon := op_isN
theorem op_notNon : OpR X (compareOp .IsNot) rNotNon := op_notN
def rInX (K : PySem.W.Frag) : R2 := fun x y H Q => rIn K false x y H Q ∨ ∃ (c : Nat) (z : Str), x = .str ⟨#[c]⟩ ∧ y = .str z ∧ Q (.bl (decide (c ∈ z.cps.toList))) H
theorem op_inX : OpR X (compareOp .In) (rInX X.K) := OpR.or op_in_seq op_in_sign
def rNinX (K : PySem.W.Frag) : R2 := fun x y H Q => rIn K true x y H Q ∨ ∃ (c : Nat) (z : Str), x = .str ⟨#[c]⟩ ∧ y = .str z ∧ Q (.bl (!decide (c ∈ z.cps.toList))) H
theorem op_ninX : OpR X (compareOp .NotIn) (rNinX X.K) := OpR.or op_notIn_seq op_notIn_sign
/-- len, max, min, int, tuple, list, isinstance -/
def rLenX (K : PySem.W.Frag) : List V → Hp → VK → Prop := fun xs H Q => ∃ x n, xs = [x] ∧ LenV K x H n ∧ Q (.int (n : Nat)) H
theorem cr_lenX : CallR X (.builtin "len") (rLenX X.K) := call_len
def rMaxX (K : PySem.W.Frag) : List V → Hp → VK → Prop := fun xs H Q => (∃ i j, xs = [.int i, .int j] ∧ Q (.int (if j > i then j else i)) H) ∨ rMax K xs H Q
theorem cr_maxX (hc : X.calm = true) : CallR X (.builtin "max") (rMaxX X.K) := CallR.or (call_max2 hc) (cr_max hc)
def rMinX (K : PySem.W.Frag) : List V → Hp → VK → Prop := fun xs H Q => (∃ i j, xs = [.int i, .int j] ∧ Q (.int (if j < i then j else i)) H) ∨ rMin K xs H Q
theorem cr_minX (hc : X.calm = true) : CallR X (.builtin "min") (rMinX X.K) := CallR.or (call_min2 hc) (cr_min hc)
def rIntX : List V → Hp → VK → Prop := fun xs H Q => (∃ i, xs = [.int i] ∧ Q (.int i) H) ∨ ∃ k, xs = [.bl k] ∧ Q (.int (if k then 1 else 0)) H
theorem cr_intX : CallR X (.type "int") rIntX := call_int1
def rTupX (K : PySem.W.Frag) : List V → Hp → VK → Prop := fun xs H Q => ∃ p ys, xs = [.ref p] ∧ ((SqL K H p ys ∧ ∀ l, H l = none → Q (.ref l) (upd H l (.tup ys))) ∨ (SqT K H p ys ∧ Q (.ref p) H))
theorem cr_tupX : CallR X (.type "tuple") (rTupX X.K) := call_tuple_of
def rLisX (K : PySem.W.Frag) : List V → Hp → VK → Prop := fun xs H Q => ∃ p ys, xs = [.ref p] ∧ (SqL K H p ys ∨ SqT K H p ys) ∧ ∀ l, H l = none → Q (.ref l) (upd H l (.lst ys))
theorem cr_lisX : CallR X (.type "list") (rLisX X.K) := call_list_of
end

/-! ### calls of defs of the text: what they let out goes to W -/
def tCallX (sp : Sp) (W : WX) (t : TA) : TE := fun σ H Q => t σ H fun vs H1 => sp vs H1 Q (WE W σ)
def tMethX (C : Addr) (m : Str) (sp : Sp) (W : WX) (ta : TE) (t : TA) : TE := fun σ H Q => ta σ H fun x H1 => ∃ a dx fs, x = .ref a ∧ H1 a = some (.ins C dx fs) ∧ fs.lookup m = none ∧ t σ H1 fun vs H2 => sp (x :: vs) H2 Q (WE W σ)
def tMakeX (C : Addr) (sp : Sp) (W : WX) (t : TA) : TE := fun σ H Q => t σ H fun vs H1 => ∀ x dx, H1 x = none → H1 dx = none → dx ≠ x →
  sp (.ref x :: vs) (upd (upd H1 dx (.own x)) x (.ins C dx [])) (fun v H2 => v = .non ∧ Q (.ref x) H2) (WE W σ)
structure CalX (P : Program) (w : World) (K : PySem.W.Frag) (mg : Str → Option Value) (base : Heap) (k : Nat) (x : Str) (sp : Sp) : Prop where
  ex : ∃ (f : Addr) (fd : FuncData) (ps : List Str), FnOk P w K mg base (L2.CX P w) k f fd ps sp ∧ mg x = some (.ref f) ∧ PySem.W.keepIn K (.ref f) = true ∧ Binds K fd ps []
structure MetX (P : Program) (w : World) (K : PySem.W.Frag) (mg : Str → Option Value) (base : Heap) (k : Nat) (C : Addr) (m : Str) (sp : Sp) : Prop where
  ex : ∃ (f : Addr) (fd : FuncData) (ps : List Str), Cls K C ∧ Meth K C m f ∧ FnOk P w K mg base (L2.CX P w) k f fd ps sp ∧ Binds K fd ps []
structure MakX (P : Program) (w : World) (K : PySem.W.Frag) (mg : Str → Option Value) (base : Heap) (k : Nat) (x : Str) (C : Addr) (sp : Sp) : Prop where
  ex : ∃ (f : Addr) (fd : FuncData) (ps : List Str), Mk K C f ∧ FnOk P w K mg base (L2.CX P w) k f fd ps sp ∧ mg x = some (.ref C) ∧ Binds K fd ps []
section
variable {X : Cx} {W : WX} {k j : Nat} {C : Addr} {x m : Str} {sp : Sp} {p pos apos : Pos} {e o : Expr} {es : List Expr} {ta : TE} {t : TA}
theorem pe_cx (c : CalX X.prog X.w X.K X.mg X.base k x sp) (hr : Room j X.A) (hk : k ≤ j) (hg : Gl X x) (tk : Takes X W) (ha : PA X (e :: es) t)
    (hdb : (x == ("__debug__" : Str)) = false := by decide) (he : starEach (e :: es) X.env = (false, eval e X.env) :: starEach es X.env := by rfl)
    (hpl : (backTo pos (starEach es X.env)).any (·.1) = false := by rfl) : PE X (.Call (.Name x p) (e :: es) [] pos) (tCallX sp W t) := by
  obtain ⟨f, fd, ps, F, hm, hkp, hb⟩ := c.ex
  exact pe_callS F (hr.mono hk) hg hm hkp hb (fun σ => passAt tk σ) ha hdb he hpl
theorem pe_cx0 (c : CalX X.prog X.w X.K X.mg X.base k x sp) (hr : Room j X.A) (hk : k ≤ j) (hg : Gl X x) (tk : Takes X W)
    (hdb : (x == ("__debug__" : Str)) = false := by decide) : PE X (.Call (.Name x p) [] [] pos) (tCallX sp W tNil) := by
  obtain ⟨f, fd, ps, F, hm, hkp, hb⟩ := c.ex
  refine ⟨fun pn s₀ σ₀ H₀ Q₀ I₀ q₀ => ?_⟩
  refine wpAny_Call_Name_kw (ld_glob I₀ hg hm ?_ hdb)
  exact PySem.W.callWith_K0 I₀.kIn hkp (run_fnS (us := []) F (hr.mono hk) hb (passAt tk σ₀) I₀ .nil q₀)
theorem pe_mx {pl : Sem Bool} (he : PE X o ta) (c : MetX X.prog X.w X.K X.mg X.base k C m sp) (hr : Room j X.A) (hk : k ≤ j) (tk : Takes X W) (ha : PA X (e :: es) t)
    (hst : starEach (e :: es) X.env = (false, eval e X.env) :: starEach es X.env := by rfl) (hpl : (backTo pos (starEach es X.env)).any (·.1) = false := by rfl)
    (ht : eval (.Call (.Attribute o m apos) (e :: es) [] pos) X.env = (do
      let ov ← eval o X.env
      standAt apos.atName
      let (f, first) ← holding [ov] (getMethod ov m pl)
      callWith pos f first (backTo pos (starEach (e :: es) X.env)) (backToKw pos (keywordEach [] X.env))) := by rfl) :
    PE X (.Call (.Attribute o m apos) (e :: es) [] pos) (tMethX C m sp W ta t) := by
  obtain ⟨f, fd, ps, c, hm, F, hb⟩ := c.ex
  refine ⟨fun pn s₀ σ₀ H₀ Q₀ I₀ q₀ => ?_⟩
  refine PySem.W.methodCall_KW (pl := pl) (thn (he.run pn s₀ σ₀ H₀ _ I₀ q₀) fun u₀ s₁ ⟨x₁, H₁, I₁, rx, a₀, dx₀, fs₀, ex, ea, l₀, q₁⟩ => ?_) ht
  subst ex
  obtain rfl : u₀ = Value.ref a₀ := rx
  refine getmeth_ok I₁ ea c hm l₀ ?_
  refine PySem.W.callWith_K (first := [.ref a₀]) (h₀ := X.base) I₁.ok.mod.kin hm.kp (thn (ha.run pos pn s₁ σ₀ H₁ _ I₁ q₁) fun us s₂ ⟨vs, H₂, I₂, r₂, q₂⟩ => ⟨I₂.kIn, ?_⟩) hst hpl
  exact run_fnS (us := .ref a₀ :: us) (vs := .ref a₀ :: vs) F (hr.mono hk) hb (passAt tk σ₀) I₂ (.cons rfl r₂) q₂
theorem pe_mx0 {pl : Sem Bool} (he : PE X o ta) (c : MetX X.prog X.w X.K X.mg X.base k C m sp) (hr : Room j X.A) (hk : k ≤ j) (tk : Takes X W)
    (ht : eval (.Call (.Attribute o m apos) [] [] pos) X.env = (do
      let ov ← eval o X.env
      standAt apos.atName
      let (f, first) ← holding [ov] (getMethod ov m pl)
      callWith pos f first (backTo pos (starEach [] X.env)) (backToKw pos (keywordEach [] X.env))) := by rfl) :
    PE X (.Call (.Attribute o m apos) [] [] pos) (tMethX C m sp W ta tNil) := by
  obtain ⟨f, fd, ps, c, hm, F, hb⟩ := c.ex
  refine ⟨fun pn s₀ σ₀ H₀ Q₀ I₀ q₀ => ?_⟩
  refine PySem.W.methodCall_KW (pl := pl) (thn (he.run pn s₀ σ₀ H₀ _ I₀ q₀) fun u₀ s₁ ⟨x₁, H₁, I₁, rx, a₀, dx₀, fs₀, ex, ea, l₀, q₁⟩ => ?_) ht
  subst ex
  obtain rfl : u₀ = Value.ref a₀ := rx
  refine getmeth_ok I₁ ea c hm l₀ ?_
  exact PySem.W.callWith_K0 (first := [.ref a₀]) I₁.kIn hm.kp (run_fnS (us := [.ref a₀]) (vs := [.ref a₀]) F (hr.mono hk) hb (passAt tk σ₀) I₁ (.cons rfl .nil) q₁)
theorem pe_kx (c : MakX X.prog X.w X.K X.mg X.base k x C sp) (hr : Room j X.A) (hk : k + 1 ≤ j) (hg : Gl X x) (tk : Takes X W) (ha : PA X (e :: es) t)
    (hdb : (x == ("__debug__" : Str)) = false := by decide) (he : starEach (e :: es) X.env = (false, eval e X.env) :: starEach es X.env := by rfl)
    (hpl : (backTo pos (starEach es X.env)).any (·.1) = false := by rfl) : PE X (.Call (.Name x p) (e :: es) [] pos) (tMakeX C sp W t) := by
  obtain ⟨f, fd, ps, M, F, hm, hb⟩ := c.ex
  refine ⟨fun pn s₀ σ₀ H₀ Q₀ I₀ q₀ => ?_⟩
  refine wpAny_Call_Name_kw (ld_glob I₀ hg hm ?_ hdb)
  refine PySem.W.callWith_K (h₀ := X.base) I₀.ok.mod.kin M.kp (thn (ha.run pos pn s₀ σ₀ H₀ _ I₀ q₀) fun us s₁ ⟨vs, H₁, I₁, r₁, q₁⟩ => ⟨I₁.kIn, ?_⟩) he hpl
  have hq := q₁ (s₁.heap.objs.size + 1) s₁.heap.objs.size (I₁.hok.fresh (Nat.le_succ _)) (I₁.hok.fresh (Nat.le_refl _)) (Nat.ne_of_lt (Nat.lt_succ_self _))
  have I₂ := Inv.made (C := C) I₁
  have r₂ : Vals (V.ref (s₁.heap.objs.size + 1) :: vs) (Value.ref (s₁.heap.objs.size + 1) :: us) := .cons rfl r₁
  have hl : (Value.ref (s₁.heap.objs.size + 1) :: us).length = ps.length := by rw [← r₂.length]; exact F.len _ _ _ _ hq
  have b := hb { s₁ with heap := (s₁.heap.push PySem.W.emptyDict).push (PySem.W.instObj C s₁.heap.objs.size) } (Value.ref (s₁.heap.objs.size + 1) :: us) I₂.kIn (by rw [List.append_nil]; exact hl)
  rw [List.append_nil] at b
  refine wpAny_call (make_map (f := f) I₁.kIn M.makes M.init (beq_iff_eq.mp M.fn) (codeAny_mono (F.run _ X.stack _ _ ⟨Value.ref (s₁.heap.objs.size + 1) :: us, []⟩ (Value.ref (s₁.heap.objs.size + 1) :: us) _ _ (WE W σ₀) ((hr.mono hk).make C us [])
    (I₂.env0.make C us []) b r₂ hq) fun r s' hq' => ?_))
  cases r with
  | error e => exact passAt tk σ₀ pn _ _ e s' I₂ hq'
  | ok fl =>
    cases fl with
    | ret u =>
      obtain ⟨v, H', I₃, rv, ev, q₃⟩ := I₂.after hq'
      subst ev
      exact ⟨rv, ⟨V.ref (s₁.heap.objs.size + 1), H', I₃, rfl, q₃⟩⟩
    | next => exact False.elim hq'
    | brk => exact False.elim hq'
    | cont => exact False.elim hq'
end

abbrev wOut (E : XK) : WX := fun cls d _ H => E cls d H

/-! ### readings, one step each -/
section
variable {K : PySem.W.Frag} {σ : L2.St} {H H1 : Hp} {Q : VK} {QT : Bool → Hp → Prop} {QA : List V → Hp → Prop} {D : Ends} {ta tb te tv : TE} {tt tu : TT} {t u : TS} {tr : TA} {g : TG} {gs : TGs} {r : R2} {v x y z : V} {i j : Int} {n : Nat} {a b p : Addr} {xs ys : List V} {f : Str} {W : WX} {sp : Sp}
theorem w_seq (h : t { D with nx := u D } σ H) : tSeq t u D σ H := h
theorem w_asg (h : te σ H fun x H1 => g x σ H1 D.nx) : tAsg te g D σ H := h
theorem w_name {R : L2.St → Hp → Prop} (h : R (σ.set n (some v)) H) : gName n v σ H R := h
theorem w_ret (h : te σ H D.rt) : tRet te D σ H := h
theorem w_retN (h : D.rt .non H) : tRetN D σ H := h
theorem w_drop (h : te σ H fun _ H1 => D.nx σ H1) : tDrop te D σ H := h
theorem w_next (h : D.nx σ H) : tNext D σ H := h
theorem w_brk (h : D.bk σ H) : tBreak D σ H := h
theorem w_cont (h : D.ct σ H) : tCont D σ H := h
theorem w_if (h : tt σ H fun b H1 => if b = true then t D σ H1 else u D σ H1) : tIfS tt t u D σ H := h
theorem w_ite {c : Prop} [Decidable c] {A B : Prop} (h1 : c → A) (h2 : ¬ c → B) : if decide c = true then A else B := by
  by_cases q : c
  · rw [if_pos (decide_eq_true q)]; exact h1 q
  · rw [if_neg (by rw [decide_eq_false q]; exact Bool.false_ne_true)]; exact h2 q
theorem w_iteN {c : Prop} [Decidable c] {A B : Prop} (h1 : ¬ c → A) (h2 : c → B) : if (!decide c) = true then A else B := by
  by_cases q : c
  · rw [if_neg (by rw [decide_eq_true q]; exact Bool.false_ne_true)]; exact h2 q
  · rw [if_pos (by rw [decide_eq_false q]; rfl)]; exact h1 q
theorem w_iteT {b : Bool} {A B : Prop} (e : b = true) (h : A) : if b = true then A else B := by rw [if_pos e]; exact h
theorem w_iteF {b : Bool} {A B : Prop} (e : b = false) (h : B) : if b = true then A else B := by rw [if_neg (by rw [e]; exact Bool.false_ne_true)]; exact h
theorem w_iteB {b : Bool} {A B : Prop} (h1 : b = true → A) (h2 : b = false → B) : if b = true then A else B := by cases b with | true => exact h1 rfl | false => exact h2 rfl
theorem w_var (e : σ[n]? = some (some v)) (h : Q v H) : tVar n σ H Q := ⟨v, e, h⟩
theorem w_c (h : Q v H) : tC v σ H Q := h
theorem w_op (h : ta σ H fun x H1 => tb σ H1 fun y H2 => r x y H2 Q) : tOp r ta tb σ H Q := h
theorem w_un {q : V → Hp → VK → Prop} (h : ta σ H fun x H1 => q x H1 Q) : tUn q ta σ H Q := h
theorem w_I0 {gi : Int → Int → V} (h : Q (gi i j) H) : rI0 gi (.int i) (.int j) H Q := ⟨i, j, rfl, rfl, h⟩
theorem w_I {C : Int → Int → Prop} {gi : Int → Int → V} (c : C i j) (h : Q (gi i j) H) : rI C gi (.int i) (.int j) H Q := ⟨i, j, rfl, rfl, c, h⟩
theorem w_U {gi : Int → V} (h : Q (gi i) H) : rU gi (.int i) H Q := ⟨i, rfl, h⟩
theorem w_plusI (h : Q (.int (i + j)) H) : rPlus K (.int i) (.int j) H Q := Or.inl ⟨i, j, rfl, rfl, h⟩
theorem w_plusL (ha : H a = some (.lst xs)) (hb : H b = some (.lst ys)) (hl : xs.length + ys.length ≤ sizeLine) (h : ∀ p, H p = none → Q (.ref p) (upd H p (.lst (xs ++ ys)))) : rPlus K (.ref a) (.ref b) H Q := Or.inr (Or.inl ⟨a, b, xs, ys, rfl, rfl, ha, hb, hl, h⟩)
theorem w_plusS {s z : Str} (hl : s.length + z.length ≤ sizeLine) (h : Q (.str (s ++ z)) H) : rPlus K (.str s) (.str z) H Q := Or.inr (Or.inr (Or.inl ⟨s, z, rfl, rfl, hl, h⟩))
theorem w_timesI (c : CMul i j) (h : Q (.int (i * j)) H) : rTimes (.int i) (.int j) H Q := Or.inl ⟨i, j, rfl, rfl, c, h⟩
theorem w_timesL (ha : H a = some (.lst xs)) (h1 : -(2 ^ 63) ≤ i) (h2 : i < 2 ^ 63) (hl : xs.length * i.toNat ≤ sizeLine) (h : ∀ p, H p = none → Q (.ref p) (upd H p (.lst (List.replicate i.toNat xs).flatten))) : rTimes (.ref a) (.int i) H Q := Or.inr ⟨a, i, xs, rfl, rfl, ha, h1, h2, hl, h⟩
theorem w_test (h : te σ H fun x H' => ∃ k, x = .bl k ∧ QT k H') : tTest te σ H QT := h
theorem w_tB (h : te σ H fun x H' => ∃ k, x = .bl k ∧ QT k H') : tB te σ H QT := h
theorem w_bl {k : Bool} {R : Bool → Prop} (h : R k) : ∃ k', V.bl k = .bl k' ∧ R k' := ⟨k, rfl, h⟩
theorem w_tru (h : te σ H fun x H' => ∃ k, TruV K x H' k ∧ QT k H') : tTru K te σ H QT := h
theorem w_truB {k : Bool} {R : Bool → Prop} (h : R k) : ∃ k', TruV K (.bl k) H k' ∧ R k' := ⟨k, rfl, h⟩
theorem w_truI {R : Bool → Prop} (h : R (i != 0)) : ∃ k', TruV K (.int i) H k' ∧ R k' := ⟨_, rfl, h⟩
theorem w_truL {R : Bool → Prop} (e : SqL K H a xs) (h : R (!xs.isEmpty)) : ∃ k', TruV K (.ref a) H k' ∧ R k' := ⟨_, Or.inl ⟨xs, e, rfl⟩, h⟩
theorem w_truT {R : Bool → Prop} (e : SqT K H a xs) (h : R (!xs.isEmpty)) : ∃ k', TruV K (.ref a) H k' ∧ R k' := ⟨_, Or.inr (Or.inl ⟨xs, e, rfl⟩), h⟩
theorem w_and (h : tt σ H fun c H1 => if c = true then tu σ H1 QT else QT false H1) : tAnd tt tu σ H QT := h
theorem w_or (h : tt σ H fun c H1 => if c = true then QT true H1 else tu σ H1 QT) : tOr tt tu σ H QT := h
theorem w_not (h : tt σ H fun c H1 => QT (!c) H1) : tNot tt σ H QT := h
theorem w_andV (h : ta σ H fun x H1 => ∃ c, x = .bl c ∧ if c = true then tb σ H1 Q else Q (.bl false) H1) : tAndV ta tb σ H Q := h
theorem w_orV (h : ta σ H fun x H1 => ∃ c, x = .bl c ∧ if c = true then Q (.bl true) H1 else tb σ H1 Q) : tOrV ta tb σ H Q := h
theorem w_notV (h : ta σ H fun x H1 => ∃ c, x = .bl c ∧ Q (.bl (!c)) H1) : tNotV ta σ H Q := h
theorem w_ifx (h : tt σ H fun c H1 => if c = true then ta σ H1 Q else tb σ H1 Q) : tIf tt ta tb σ H Q := h
theorem w_eq (s : scal x y = true) (h : Q (.bl (decide (x = y))) H) : rEqX K x y H Q := Or.inl ⟨s, h⟩
theorem w_ne (s : scal x y = true) (h : Q (.bl (!decide (x = y))) H) : rNeX K x y H Q := Or.inl ⟨s, h⟩
theorem w_eqI (h : Q (.bl (decide (i = j))) H) : rEqX K (.int i) (.int j) H Q := w_eq rfl (by
  have e : decide (V.int i = V.int j) = decide (i = j) := by
    by_cases q : i = j
    · subst q; rw [decide_eq_true rfl, decide_eq_true rfl]
    · rw [decide_eq_false q, decide_eq_false (fun z => q (V.int.inj z))]
  rw [e]; exact h)
theorem w_neI (h : Q (.bl (!decide (i = j))) H) : rNeX K (.int i) (.int j) H Q := w_ne rfl (by
  have e : decide (V.int i = V.int j) = decide (i = j) := by
    by_cases q : i = j
    · subst q; rw [decide_eq_true rfl, decide_eq_true rfl]
    · rw [decide_eq_false q, decide_eq_false (fun z => q (V.int.inj z))]
  rw [e]; exact h)
theorem w_eqS {s z : Str} (h : Q (.bl (decide (s = z))) H) : rEqX K (.str s) (.str z) H Q := w_eq rfl (by
  have e : decide (V.str s = V.str z) = decide (s = z) := by
    by_cases q : s = z
    · subst q; rw [decide_eq_true rfl, decide_eq_true rfl]
    · rw [decide_eq_false q, decide_eq_false (fun w => q (V.str.inj w))]
  rw [e]; exact h)
theorem w_neS {s z : Str} (h : Q (.bl (!decide (s = z))) H) : rNeX K (.str s) (.str z) H Q := w_ne rfl (by
  have e : decide (V.str s = V.str z) = decide (s = z) := by
    by_cases q : s = z
    · subst q; rw [decide_eq_true rfl, decide_eq_true rfl]
    · rw [decide_eq_false q, decide_eq_false (fun w => q (V.str.inj w))]
  rw [e]; exact h)
theorem w_eqB {s z : Bool} (h : Q (.bl (decide (s = z))) H) : rEqX K (.bl s) (.bl z) H Q := w_eq rfl (by
  have e : decide (V.bl s = V.bl z) = decide (s = z) := by cases s <;> cases z <;> rfl
  rw [e]; exact h)
theorem w_neB {s z : Bool} (h : Q (.bl (!decide (s = z))) H) : rNeX K (.bl s) (.bl z) H Q := w_ne rfl (by
  have e : decide (V.bl s = V.bl z) = decide (s = z) := by cases s <;> cases z <;> rfl
  rw [e]; exact h)
theorem w_eqD {d e : PyData} (hd : Dp K H x d) (he : Dp K H y e) (s1 : SeqAt.shaped d = true) (s2 : SeqAt.shaped e = true) (h : Q (.bl (PyData.eqv d e)) H) : rEqX K x y H Q := Or.inr ⟨d, e, hd, he, s1, s2, h⟩
theorem w_neD {d e : PyData} (hd : Dp K H x d) (he : Dp K H y e) (s1 : SeqAt.shaped d = true) (s2 : SeqAt.shaped e = true) (h : Q (.bl (!PyData.eqv d e)) H) : rNeX K x y H Q := Or.inr ⟨d, e, hd, he, s1, s2, h⟩
theorem w_isN (h : Q (.bl (decide (x = .non))) H) : rIsNon x .non H Q := ⟨rfl, h⟩
theorem w_notN (h : Q (.bl (!decide (x = .non))) H) : rNotNon x .non H Q := ⟨rfl, h⟩
theorem w_inL (e : SqL K H a xs) (fx : flatV x = true) (fa : xs.all flatV = true) (h : Q (.bl (inV x xs)) H) : rInX K x (.ref a) H Q := Or.inl ⟨a, xs, rfl, Or.inl e, fx, fa, h⟩
theorem w_inT (e : SqT K H a xs) (fx : flatV x = true) (fa : xs.all flatV = true) (h : Q (.bl (inV x xs)) H) : rInX K x (.ref a) H Q := Or.inl ⟨a, xs, rfl, Or.inr e, fx, fa, h⟩
theorem w_ninL (e : SqL K H a xs) (fx : flatV x = true) (fa : xs.all flatV = true) (h : Q (.bl (!inV x xs)) H) : rNinX K x (.ref a) H Q := Or.inl ⟨a, xs, rfl, Or.inl e, fx, fa, h⟩
theorem w_ninT (e : SqT K H a xs) (fx : flatV x = true) (fa : xs.all flatV = true) (h : Q (.bl (!inV x xs)) H) : rNinX K x (.ref a) H Q := Or.inl ⟨a, xs, rfl, Or.inr e, fx, fa, h⟩
theorem w_ixL (e : SqL K H a xs) (q : atI xs i = some v) (h : Q v H) : rIx K (.ref a) (.int i) H Q := Or.inl ⟨a, xs, i, v, rfl, rfl, e, q, h⟩
theorem w_ixT (e : SqT K H a xs) (q : atI xs i = some v) (h : Q v H) : rIx K (.ref a) (.int i) H Q := Or.inr (Or.inl ⟨a, xs, i, v, rfl, rfl, e, q, h⟩)
theorem w_nil (h : QA [] H) : tNil σ H QA := h
theorem w_cons (h : ta σ H fun x H1 => tr σ H1 fun xs H2 => QA (x :: xs) H2) : tCons ta tr σ H QA := h
theorem w_tup (h : tr σ H fun xs H1 => xs.length ≤ sizeLine ∧ ∀ p, H1 p = none → Q (.ref p) (upd H1 p (.tup xs))) : tTup tr σ H Q := h
theorem w_lst (h : tr σ H fun xs H1 => xs.length ≤ sizeLine ∧ ∀ p, H1 p = none → Q (.ref p) (upd H1 p (.lst xs))) : tLst tr σ H Q := h
theorem w_cb {q : List V → Hp → VK → Prop} (h : tr σ H fun vs H1 => q vs H1 Q) : tCB q tr σ H Q := h
theorem w_lenL (e : SqL K H a xs) (h : Q (.int xs.length) H) : rLenX K [.ref a] H Q := ⟨_, _, rfl, Or.inl ⟨xs, e, rfl⟩, h⟩
theorem w_lenT (e : SqT K H a xs) (h : Q (.int xs.length) H) : rLenX K [.ref a] H Q := ⟨_, _, rfl, Or.inr ⟨xs, e, rfl⟩, h⟩
theorem w_lenS {s : Str} (e : s.length ≤ sizeLine) (h : Q (.int (s.length : Nat)) H) : rLenX K [.str s] H Q := ⟨_, _, rfl, ⟨e, rfl⟩, h⟩
theorem w_max2 (h : Q (.int (max i j)) H) : rMaxX K [.int i, .int j] H Q := Or.inl ⟨i, j, rfl, by
  have e : (if j > i then j else i) = max i j := by rw [Int.max_def]; split <;> split <;> omega
  rw [e]; exact h⟩
theorem w_min2 (h : Q (.int (min i j)) H) : rMinX K [.int i, .int j] H Q := Or.inl ⟨i, j, rfl, by
  have e : (if j < i then j else i) = min i j := by rw [Int.min_def]; split <;> split <;> omega
  rw [e]; exact h⟩
theorem w_maxL {ns : List Int} (e : SqL K H a (ns.map V.int)) (q : 0 < ns.length) (h : ∀ m, m ∈ ns → (∀ y, y ∈ ns → y ≤ m) → Q (.int m) H) : rMaxX K [.ref a] H Q := Or.inr ⟨a, ns, rfl, e, q, h⟩
theorem w_minL {ns : List Int} (e : SqL K H a (ns.map V.int)) (q : 0 < ns.length) (h : ∀ m, m ∈ ns → (∀ y, y ∈ ns → m ≤ y) → Q (.int m) H) : rMinX K [.ref a] H Q := Or.inr ⟨a, ns, rfl, e, q, h⟩
theorem w_intI (h : Q (.int i) H) : rIntX [.int i] H Q := Or.inl ⟨i, rfl, h⟩
theorem w_intB {k : Bool} (h : Q (.int (if k then 1 else 0)) H) : rIntX [.bl k] H Q := Or.inr ⟨k, rfl, h⟩
theorem w_tupL (e : SqL K H a xs) (h : ∀ p, H p = none → Q (.ref p) (upd H p (.tup xs))) : rTupX K [.ref a] H Q := ⟨a, xs, rfl, Or.inl ⟨e, h⟩⟩
theorem w_tupT (e : SqT K H a xs) (h : Q (.ref a) H) : rTupX K [.ref a] H Q := ⟨a, xs, rfl, Or.inr ⟨e, h⟩⟩
theorem w_lisL (e : SqL K H a xs) (h : ∀ p, H p = none → Q (.ref p) (upd H p (.lst xs))) : rLisX K [.ref a] H Q := ⟨a, xs, rfl, Or.inl e, h⟩
theorem w_lisT (e : SqT K H a xs) (h : ∀ p, H p = none → Q (.ref p) (upd H p (.lst xs))) : rLisX K [.ref a] H Q := ⟨a, xs, rfl, Or.inr e, h⟩
theorem w_isi {c : V} {cu ty : Value} {k : Bool} (hc : ClsV c cu) (ht : TyX K H x ty) (hk : PySem.W.kitOne K ty cu = some k) (h : Q (.bl k) H) : rIsi K [x, c] H Q := ⟨x, c, ty, cu, k, rfl, hc, ht, hk, h⟩
def kFld (K : PySem.W.Frag) (f : Str) (x : V) (H1 : Hp) (Q : VK) : Prop := ∃ a C dx fs v, x = .ref a ∧ H1 a = some (.ins C dx fs) ∧ Cls K C ∧ NoAttr K C f ∧ fs.lookup f = some v ∧ Q v H1
theorem w_fldE (h : ta σ H fun x H1 => kFld K f x H1 Q) : tFld K ta f σ H Q := h
theorem w_fldK {C dx : Addr} {fs : List (Str × V)} (e : H a = some (.ins C dx fs)) (c : Cls K C) (nn : NoAttr K C f) (l : fs.lookup f = some v) (h : Q v H) : kFld K f (.ref a) H Q := ⟨a, C, dx, fs, v, rfl, e, c, nn, l, h⟩
def kSFld (K : PySem.W.Frag) (f : Str) (y : V) (x : V) (H2 : Hp) (R : Hp → Prop) : Prop := ∃ a C dx fs, x = .ref a ∧ H2 a = some (.ins C dx fs) ∧ Cls K C ∧ NoAttr K C f ∧ fs.length < 1000 ∧ R (upd H2 a (.ins C dx (putF f y fs)))
theorem w_sfld (h : tv σ H fun y H1 => ta σ H1 fun x H2 => kSFld K f y x H2 (D.nx σ)) : sFld K ta tv f D σ H := h
theorem w_sfldK {C dx : Addr} {fs : List (Str × V)} {R : Hp → Prop} (e : H a = some (.ins C dx fs)) (c : Cls K C) (nn : NoAttr K C f) (l : fs.length < 1000) (h : R (upd H a (.ins C dx (putF f y fs)))) : kSFld K f y (.ref a) H R := ⟨a, C, dx, fs, rfl, e, c, nn, l, h⟩
theorem w_call (h : tr σ H fun vs H1 => sp vs H1 Q (WE W σ)) : tCallX sp W tr σ H Q := h
def kMeth (C : Addr) (m : Str) (x : V) (H1 : Hp) (R : Prop) : Prop := ∃ a dx fs, x = .ref a ∧ H1 a = some (.ins C dx fs) ∧ fs.lookup m = none ∧ R
theorem w_meth {C : Addr} {m : Str} (h : ta σ H fun x H1 => kMeth C m x H1 (tr σ H1 fun vs H2 => sp (x :: vs) H2 Q (WE W σ))) : tMethX C m sp W ta tr σ H Q := h
theorem w_methK {C dx : Addr} {m : Str} {fs : List (Str × V)} {R : Prop} (e : H a = some (.ins C dx fs)) (l : fs.lookup m = none) (h : R) : kMeth C m (.ref a) H R := ⟨a, dx, fs, rfl, e, l, h⟩
theorem w_make {C : Addr} (h : tr σ H fun vs H1 => ∀ x dx, H1 x = none → H1 dx = none → dx ≠ x → sp (.ref x :: vs) (upd (upd H1 dx (.own x)) x (.ins C dx [])) (fun v H2 => v = .non ∧ Q (.ref x) H2) (WE W σ)) : tMakeX C sp W tr σ H Q := h
theorem w_gtup {R : L2.St → Hp → Prop} (e : SqT K H a xs) (l : xs.length = n) (h : gs xs σ H R) : gTup K n gs (.ref a) σ H R := ⟨a, xs, rfl, e, l, h⟩
theorem w_gnil {R : L2.St → Hp → Prop} (h : R σ H) : gNil [] σ H R := ⟨rfl, h⟩
theorem w_gcons {R : L2.St → Hp → Prop} (h : g v σ H fun σ' H' => gs xs σ' H' R) : gCons g gs (v :: xs) σ H R := ⟨v, xs, rfl, h⟩
theorem w_gsub {ts : TSet} {R : L2.St → Hp → Prop} (h : ta σ H fun o H1 => tb σ H1 fun i H2 => ts o i v H2 fun H3 => R σ H3) : gSub ta tb ts v σ H R := h
theorem w_setL {R : Hp → Prop} {m : Nat} (e : H a = some (.lst xs)) (q : ixN xs.length i = some m) (h : R (upd H a (.lst (xs.set m v)))) : rSetL (.ref a) (.int i) v H R := ⟨a, xs, i, m, rfl, rfl, e, q, h⟩
/-! dicts -/
def kDGet (x y : V) (H : Hp) (Q : VK) : Prop := ∃ a v, x = .ref a ∧ DGet H a y (some v) ∧ Q v H
theorem w_dget (h : ta σ H fun x H1 => tb σ H1 fun y H2 => kDGet x y H2 Q) : tDGet ta tb σ H Q := h
theorem w_dgetS {kvs : List (Key × V)} {s : Str} (e : H a = some (.dK kvs)) (q : valV kvs (Sum.inr s) = some v) (h : Q v H) : kDGet (.ref a) (.str s) H Q := ⟨a, v, rfl, q ▸ DGet.k (k := Sum.inr s) e, h⟩
theorem w_dgetI {kvs : List (Key × V)} (e : H a = some (.dK kvs)) (q : valV kvs (Sum.inl i) = some v) (h : Q v H) : kDGet (.ref a) (.int i) H Q := ⟨a, v, rfl, q ▸ DGet.k (k := Sum.inl i) e, h⟩
def kDPut (v x y : V) (H : Hp) (R : Hp → Prop) : Prop := ∃ a H4, x = .ref a ∧ DPut H a y v H4 ∧ R H4
theorem w_dput (h : tv σ H fun v H1 => ta σ H1 fun x H2 => tb σ H2 fun y H3 => kDPut v x y H3 (D.nx σ)) : sDPut ta tb tv D σ H := h
theorem w_dputS {R : Hp → Prop} {kvs : List (Key × V)} {s : Str} (e : H a = some (.dK kvs)) (l : kvs.length < sizeLine) (h : R (upd H a (.dK (putK kvs (Sum.inr s) v)))) : kDPut v (.ref a) (.str s) H R := ⟨a, _, rfl, DPut.k (k := Sum.inr s) e l, h⟩
theorem w_dputI {R : Hp → Prop} {kvs : List (Key × V)} (e : H a = some (.dK kvs)) (l : kvs.length < sizeLine) (h : R (upd H a (.dK (putK kvs (Sum.inl i) v)))) : kDPut v (.ref a) (.int i) H R := ⟨a, _, rfl, DPut.k (k := Sum.inl i) e l, h⟩
/-! methods of built-in values -/
theorem w_bm {T : String} {q : V → List V → Hp → VK → Prop} (h : ta σ H fun x H1 => tyV K T x H1 ∧ tr σ H1 fun xs H2 => q x xs H2 Q) : tBM K T q ta tr σ H Q := h
theorem w_bm0 {T : String} {q : V → List V → Hp → VK → Prop} (h : ta σ H fun x H1 => tyV K T x H1 ∧ q x [] H1 Q) : tBM0 K T q ta σ H Q := h
theorem w_app (e : H a = some (.lst xs)) (l : xs.length < sizeLine) (h : Q .non (upd H a (.lst (xs ++ [v])))) : rAppend (.ref a) [v] H Q := ⟨a, xs, v, rfl, rfl, e, l, h⟩
theorem w_clear (e : H a = some (.lst xs)) (h : Q .non (upd H a (.lst []))) : rClear (.ref a) [] H Q := ⟨a, xs, rfl, rfl, e, h⟩
theorem tyL (e : H a = some (.lst xs)) : tyV K "list" (.ref a) H := Or.inl ⟨rfl, xs, SqL.of e⟩
/-! loops -/
def kForL (K : PySem.W.Frag) (g : TG) (t : TS) (D : Ends) (σ : L2.St) (x : V) (H1 : Hp) : Prop := ∃ a, x = .ref a ∧ (∃ xs, SqL K H1 a xs) ∧ ∃ W : Nat → Nat → L2.St → Hp → Prop, (∃ m, W 0 m σ H1) ∧ ∀ i m σ H, W i m σ H →
      ((Itl K a).stop i H ∧ D.nx σ H) ∨ ((Itl K a).go i H ∧ ∃ N : L2.St → Hp → Prop, (∀ σ' H', N σ' H' → ∃ m', m' < m ∧ W (i + 1) m' σ' H') ∧ ∀ x H', (Itl K a).yld i H x H' → g x σ H' fun σ2 H2 => t { D with nx := N, ct := N, bk := D.nx } σ2 H2)
theorem w_forList (h : te σ H fun x H1 => kForL K g t D σ x H1) : tFor (iList K te) g t D σ H := h
theorem l_forList (e : SqL K H a xs) (Pv : Nat → L2.St → Hp → Prop) (h0 : Pv 0 σ H) (hl : ∀ i σ' H', i ≤ xs.length → Pv i σ' H' → SqL K H' a xs)
    (hs : ∀ i x σ' H', xs[i]? = some x → Pv i σ' H' → g x σ' H' fun σ2 H2 => t { D with nx := Pv (i + 1), ct := Pv (i + 1), bk := D.nx } σ2 H2) (hd : ∀ σ' H', Pv xs.length σ' H' → D.nx σ' H') : kForL K g t D σ (.ref a) H :=
  ⟨a, rfl, ⟨xs, e⟩, for_list Pv h0 hl hs hd⟩
def kForR1 (g : TG) (t : TS) (D : Ends) (σ : L2.St) (vs : List V) (H1 : Hp) : Prop := ∃ j : Int, vs = [.int j] ∧ -(2 ^ 62) ≤ j ∧ j < 2 ^ 62 ∧ ∃ W : Nat → Nat → L2.St → Hp → Prop, (∃ m, W 0 m σ H1) ∧ ∀ i m σ H, W i m σ H →
  ((Itr 0 j.toNat).stop i H ∧ D.nx σ H) ∨ ((Itr 0 j.toNat).go i H ∧ ∃ N : L2.St → Hp → Prop, (∀ σ' H', N σ' H' → ∃ m', m' < m ∧ W (i + 1) m' σ' H') ∧ ∀ x H', (Itr 0 j.toNat).yld i H x H' → g x σ H' fun σ2 H2 => t { D with nx := N, ct := N, bk := D.nx } σ2 H2)
theorem w_forR1 (h : tr σ H fun vs H1 => kForR1 g t D σ vs H1) : tFor (iRng1 tr) g t D σ H := h
theorem l_forR1 (lo : -(2 ^ 62) ≤ j) (hi : j < 2 ^ 62) (Pv : Nat → L2.St → Hp → Prop) (h0 : Pv 0 σ H)
    (hs : ∀ i σ' H', i < j.toNat → Pv i σ' H' → g (.int i) σ' H' fun σ2 H2 => t { D with nx := Pv (i + 1), ct := Pv (i + 1), bk := D.nx } σ2 H2) (hd : ∀ σ' H', Pv j.toNat σ' H' → D.nx σ' H') : kForR1 g t D σ [.int j] H :=
  ⟨j, rfl, lo, hi, for_range Pv h0 (fun i σ' H' hi q => by rw [Int.zero_add]; exact hs i σ' H' hi q) hd⟩
def kForR2 (g : TG) (t : TS) (D : Ends) (σ : L2.St) (vs : List V) (H1 : Hp) : Prop := ∃ i j : Int, vs = [.int i, .int j] ∧ (-(2 ^ 62) ≤ i ∧ i < 2 ^ 62 ∧ -(2 ^ 62) ≤ j ∧ j < 2 ^ 62) ∧ ∃ W : Nat → Nat → L2.St → Hp → Prop, (∃ m, W 0 m σ H1) ∧ ∀ k m σ H, W k m σ H →
  ((Itr i (j - i).toNat).stop k H ∧ D.nx σ H) ∨ ((Itr i (j - i).toNat).go k H ∧ ∃ N : L2.St → Hp → Prop, (∀ σ' H', N σ' H' → ∃ m', m' < m ∧ W (k + 1) m' σ' H') ∧ ∀ x H', (Itr i (j - i).toNat).yld k H x H' → g x σ H' fun σ2 H2 => t { D with nx := N, ct := N, bk := D.nx } σ2 H2)
theorem w_forR2 (h : tr σ H fun vs H1 => kForR2 g t D σ vs H1) : tFor (iRng2 tr) g t D σ H := h
theorem l_forR2 (b : -(2 ^ 62) ≤ i ∧ i < 2 ^ 62 ∧ -(2 ^ 62) ≤ j ∧ j < 2 ^ 62) (Pv : Nat → L2.St → Hp → Prop) (h0 : Pv 0 σ H)
    (hs : ∀ k σ' H', k < (j - i).toNat → Pv k σ' H' → g (.int (i + k)) σ' H' fun σ2 H2 => t { D with nx := Pv (k + 1), ct := Pv (k + 1), bk := D.nx } σ2 H2) (hd : ∀ σ' H', Pv (j - i).toNat σ' H' → D.nx σ' H') : kForR2 g t D σ [.int i, .int j] H :=
  ⟨i, j, rfl, b, for_range Pv h0 hs hd⟩
end
theorem sz_of {n : Nat} (h : Nat.ble n sizeLine = true) : n ≤ sizeLine := Nat.le_of_ble_eq_true h
theorem sz_lt {n : Nat} (h : Nat.ble (n + 1) sizeLine = true) : n < sizeLine := Nat.le_of_ble_eq_true h
theorem look_hd {k : Str} {v : V} {l : List (Str × V)} : List.lookup k ((k, v) :: l) = some v := by simp [List.lookup]
theorem look_tl {k j : Str} {v : V} {l : List (Str × V)} (h : (k == j) = false) : List.lookup k ((j, v) :: l) = List.lookup k l := by simp [List.lookup, h]
theorem look_nil {k : Str} : List.lookup k ([] : List (Str × V)) = none := rfl
theorem putF_hd {k : Str} {v x : V} {l : List (Str × V)} : putF k v ((k, x) :: l) = (k, v) :: l := by simp [putF]
theorem putF_tl {k j : Str} {v x : V} {l : List (Str × V)} (h : ¬ j = k) : putF k v ((j, x) :: l) = (j, x) :: putF k v l := by simp [putF, h]
theorem putF_nil {k : Str} {v : V} : putF k v [] = [(k, v)] := rfl
section
variable {κ : Type} [DecidableEq κ] {k j : κ} {v x : V} {l : List (κ × V)}
theorem val_hd : valV ((k, v) :: l) k = some v := by simp [valV]
theorem val_tl (h : ¬ j = k) : valV ((j, x) :: l) k = valV l k := by simp [valV, h]
theorem val_nil : valV ([] : List (κ × V)) k = none := rfl
end
/-! ### all but tables are as in H0 -/
abbrev Ext0 (H0 H : Hp) : Prop := LamX.ExtN H0 H
section
variable {K : PySem.W.Frag} {H0 H H1 : Hp} {a p : Addr} {xs : List V} {o : HO} {S : List Addr}
theorem Ext0.refl : Ext0 H H := LamX.ExtN.refl H
theorem Ext0.seqL (h : SqL K H0 a xs) (e : Ext0 H0 H) : SqL K H a xs := by
  rcases h with h | h
  · rcases h with h | ⟨o, h⟩
    · exact Or.inl (Or.inl (e _ _ h (fun _ z => by cases z)))
    · exact Or.inl (Or.inr ⟨o, e _ _ h (fun _ z => by cases z)⟩)
  · exact Or.inr h
theorem Ext0.seqT (h : SqT K H0 a xs) (e : Ext0 H0 H) : SqT K H a xs := by
  rcases h with h | h
  · rcases h with h | ⟨o, h⟩
    · exact Or.inl (Or.inl (e _ _ h (fun _ z => by cases z)))
    · exact Or.inl (Or.inr ⟨o, e _ _ h (fun _ z => by cases z)⟩)
  · exact Or.inr h
theorem Ext0.keep (e : Ext0 H0 H) (k : Keep S H H1) (n : ∀ b, b ∈ S → H0 b = none) : Ext0 H0 H1 := fun b o h nt =>
  k.1 b o (fun m => by rw [n b m] at h; cases h) (e b o h nt)
theorem Ext0.kept (k : Keep S H H1) (e : Ext0 H0 H) (n : ∀ b, b ∈ S → H0 b = none) : Ext0 H0 H1 := e.keep k n
theorem Ext0.set (e : Ext0 H0 H) (n : H0 p = none) : Ext0 H0 (upd H p o) := fun b u h nt => by
  rw [upd_ne (ne_of_none h n)]
  exact e b u h nt
theorem Ext0.new (e : Ext0 H0 H) (n : H p = none) : Ext0 H0 (upd H p o) := fun b u h nt => by
  rw [upd_ne (ne_of_none (e b u h nt) n)]
  exact e b u h nt
/-- fresh behind is fresh ahead, but for tables -/
theorem Ext0.at (e : Ext0 H0 H) (h : H0 a = some o) (nt : ∀ ps, o ≠ .tbl ps) : H a = some o := e a o h nt
theorem none_in {b : Addr} (h : ∀ c, c ∈ S → H0 c = none) (n : H0 b = none) : ∀ c, c ∈ b :: S → H0 c = none := fun c m => by
  rcases List.mem_cons.mp m with z | z
  · rw [z]; exact n
  · exact h c z
theorem none_nil : ∀ c, c ∈ ([] : List Addr) → H0 c = none := fun _ m => absurd m List.not_mem_nil
end
/-! ### the dice -/
structure Dice (K : PySem.W.Frag) (H0 H : Hp) (d : Addr) : Prop where
  at_ : ∃ (a : Addr) (ns : List Int) (i m r : Int), H d = some (.lst [.ref a, .int i, .int m, .int r]) ∧ SqL K H0 a (ns.map V.int) ∧ ns.length ≤ 63 ∧ 0 ≤ i
  new : H0 d = none
  ext : Ext0 H0 H
theorem Dice.keep {K : PySem.W.Frag} {H0 H H1 : Hp} {d : Addr} {S : List Addr} (x : Dice K H0 H d) (k : Keep S H H1) (nd : d ∉ S) (n : ∀ b, b ∈ S → H0 b = none) : Dice K H0 H1 d := by
  obtain ⟨⟨a, ns, i, m, r, h1, h2⟩, h3, h4⟩ := x
  exact ⟨⟨a, ns, i, m, r, k.1 _ _ nd h1, h2⟩, h3, h4.keep k n⟩
theorem Dice.lst {K : PySem.W.Frag} {H0 H : Hp} {d : Addr} (x : Dice K H0 H d) : ∃ xs, H d = some (.lst xs) := by
  obtain ⟨⟨a, ns, i, m, r, h1, h2⟩, h3, h4⟩ := x
  exact ⟨_, h1⟩
def spNext (K : PySem.W.Frag) : Sp := fun vs H Q _ => ∃ (H0 : Hp) (d : Addr) (n : Int), vs = [.ref d, .int n] ∧ 0 < n ∧ n < 1073741824 ∧ Dice K H0 H d ∧
  ∀ r H', 0 ≤ r → r < n → Dice K H0 H' d → Keep [d] H H' → Q (.int r) H'
def spDice (K : PySem.W.Frag) : Sp := fun vs H Q _ => ∃ (a : Addr) (ns : List Int), vs = [.ref a] ∧ SqL K H a (ns.map V.int) ∧ ns.length ≤ 63 ∧ ∀ d H', H d = none → Dice K H H' d → Keep [] H H' → Q (.ref d) H'
theorem next_go {K : PySem.W.Frag} {H0 H : Hp} {d : Addr} {n : Int} {Q : VK} {E : XK} (x : Dice K H0 H d) (h0 : 0 < n) (h1 : n < 1073741824) (h : ∀ r H' xs, 0 ≤ r → r < n → Dice K H0 H' d → H' d = some (.lst xs) → Keep [d] H H' → Q (.int r) H') : spNext K [.ref d, .int n] H Q E :=
  ⟨H0, d, n, rfl, h0, h1, x, fun r H' a b c k => by
    obtain ⟨xs, e⟩ := c.lst
    exact h r H' xs a b c e k⟩
theorem pickP {K : PySem.W.Frag} {H : Hp} {p : Addr} {i : Int} {xs : List V} {Q : VK} (Pr : Int → Prop) (e : SqL K H p xs) (i0 : 0 ≤ i) (i1 : i < xs.length) (hp : ∀ x, x ∈ xs → ∃ v, x = .int v ∧ Pr v) (h : ∀ v, Pr v → Q (.int v) H) : rIx K (.ref p) (.int i) H Q := by
  have hl : i.toNat < xs.length := by omega
  obtain ⟨v, ev, pv⟩ := hp _ (List.getElem_mem hl)
  have e2 : i = ((i.toNat : Nat) : Int) := by omega
  refine w_ixL e (v := .int v) ?_ (h v pv)
  rw [e2]
  refine atI_nat ?_
  rw [List.getElem?_eq_getElem hl, ev]
/-! ### settings -/
structure SetOk (m w l a : Int) : Prop where
  m0 : 2 ≤ m
  m1 : m ≤ 64
  w0 : 0 ≤ w
  w1 : w ≤ 16
  l0 : 0 ≤ l
  l1 : l ≤ 8
  a0 : 1 ≤ a
  a1 : a ≤ 16
def spSetting (K : PySem.W.Frag) : Sp := fun vs H Q _ => ∃ (H0 : Hp) (d : Addr), vs = [.ref d] ∧ Dice K H0 H d ∧
  ∀ p m w l a H', SetOk m w l a → H p = none → H' p = some (.tup [.int m, .int w, .int l, .int a]) → Dice K H0 H' d → Keep [d] H H' → Q (.ref p) H'
/-! ### _law_like: the same data -/
def Alike (K : PySem.W.Frag) (H : Hp) : Nat → V → V → Prop
  | 0, _, _ => False
  | n + 1, x, y => (∃ b, x = .bl b ∧ y = .bl b) ∨ (∃ i, x = .int i ∧ y = .int i) ∨ (∃ s, x = .str s ∧ y = .str s) ∨ (x = .non ∧ y = .non) ∨
      (∃ a b xs ys, x = .ref a ∧ y = .ref b ∧ SqT K H a xs ∧ SqT K H b ys ∧ xs.length = ys.length ∧ xs.length ≤ 16777216 ∧ ∀ (k : Nat) u v, xs[k]? = some u → ys[k]? = some v → Alike K H n u v) ∨
      (∃ a b xs ys, x = .ref a ∧ y = .ref b ∧ SqL K H a xs ∧ SqL K H b ys ∧ xs.length = ys.length ∧ xs.length ≤ 16777216 ∧ ∀ (k : Nat) u v, xs[k]? = some u → ys[k]? = some v → Alike K H n u v)
def spLike (K : PySem.W.Frag) (n : Nat) : Sp := fun vs H Q _ => ∃ x y, vs = [x, y] ∧ Alike K H n x y ∧ Q (.bl true) H
theorem like_go {K : PySem.W.Frag} {H : Hp} {n : Nat} {x y : V} {Q : VK} {E : XK} (a : Alike K H n x y) (h : Q (.bl true) H) : spLike K n [x, y] H Q E := ⟨x, y, rfl, a, h⟩
theorem tyT {K : PySem.W.Frag} {H : Hp} {a : Addr} {xs : List V} (h : SqT K H a xs) : TyX K H (.ref a) (.type "tuple") := by
  rcases h with (h | ⟨o, h⟩) | ⟨o, its, n, h, c, _⟩
  · exact .base (.tup h)
  · exact .fTuple h
  · exact .kTuple h c
theorem tyLs {K : PySem.W.Frag} {H : Hp} {a : Addr} {xs : List V} (h : SqL K H a xs) : TyX K H (.ref a) (.type "list") := by
  rcases h with (h | ⟨o, h⟩) | ⟨o, its, n, h, c, _⟩
  · exact .base (.lst h)
  · exact .base (.frz h)
  · exact .kList h c
theorem w_isiB {K : PySem.W.Frag} {H : Hp} {x : V} {t u : String} {k : Bool} {Q : VK} (ht : TyX K H x (.type t)) (hk : kitB t u = some k) (h : Q (.bl k) H) : rIsi K [x, .ty u] H Q := w_isi (.ty u) ht (kit_ty hk) h
/-! ### any sequence that is tracked -/
def seqOf : HO → Option (List V)
  | .lst xs => some xs
  | .tup xs => some xs
  | .frz _ (.lst xs) => some xs
  | .frz _ (.tup xs) => some xs
  | _ => none
section
variable {K : PySem.W.Frag} {H : Hp} {Q : VK} {a : Addr} {xs : List V} {o : HO} {i : Int} {v x : V}
theorem seqOf_sq (e : H a = some o) (q : seqOf o = some xs) : SqL K H a xs ∨ SqT K H a xs := by
  cases o with
  | lst ys => cases q; exact Or.inl (SqL.of e)
  | tup ys => cases q; exact Or.inr (SqT.of e)
  | frz ob u =>
    cases u with
    | lst ys => cases q; exact Or.inl (Or.inl (Or.inr ⟨ob, e⟩))
    | tup ys => cases q; exact Or.inr (Or.inl (Or.inr ⟨ob, e⟩))
    | _ => cases q
  | _ => cases q
theorem w_ixO (e : H a = some o) (q : seqOf o = some xs) (r : atI xs i = some v) (h : Q v H) : rIx K (.ref a) (.int i) H Q := by
  rcases seqOf_sq (K := K) e q with s | s
  · exact w_ixL s r h
  · exact w_ixT s r h
theorem w_ixO2 (r : atI xs i = some v) (e : H a = some o) (q : seqOf o = some xs) (h : Q v H) : rIx K (.ref a) (.int i) H Q := w_ixO e q r h
theorem w_ixL2 (r : atI xs i = some v) (e : SqL K H a xs) (h : Q v H) : rIx K (.ref a) (.int i) H Q := w_ixL e r h
theorem w_ixT2 (r : atI xs i = some v) (e : SqT K H a xs) (h : Q v H) : rIx K (.ref a) (.int i) H Q := w_ixT e r h
theorem w_lenO (e : H a = some o) (q : seqOf o = some xs) (h : Q (.int xs.length) H) : rLenX K [.ref a] H Q := by
  rcases seqOf_sq (K := K) e q with s | s
  · exact w_lenL s h
  · exact w_lenT s h
theorem w_gtupO {n : Nat} {gs : TGs} {σ : L2.St} {R : L2.St → Hp → Prop} (e : H a = some (.tup xs)) (l : xs.length = n) (h : gs xs σ H R) : gTup K n gs (.ref a) σ H R := w_gtup (SqT.of e) l h
theorem w_lisO (e : H a = some o) (q : seqOf o = some xs) (h : ∀ p, H p = none → Q (.ref p) (upd H p (.lst xs))) : rLisX K [.ref a] H Q := by
  rcases seqOf_sq (K := K) e q with s | s
  · exact w_lisL s h
  · exact w_lisT s h
theorem w_inO (e : H a = some o) (q : seqOf o = some xs) (fx : flatV x = true) (fa : xs.all flatV = true) (h : Q (.bl (inV x xs)) H) : rInX K x (.ref a) H Q := by
  rcases seqOf_sq (K := K) e q with s | s
  · exact w_inL s fx fa h
  · exact w_inT s fx fa h
theorem w_ninO (e : H a = some o) (q : seqOf o = some xs) (fx : flatV x = true) (fa : xs.all flatV = true) (h : Q (.bl (!inV x xs)) H) : rNinX K x (.ref a) H Q := by
  rcases seqOf_sq (K := K) e q with s | s
  · exact w_ninL s fx fa h
  · exact w_ninT s fx fa h
theorem chkL {H1 : Hp} {ys : List V} (_ : SqL K H1 a ys) (g : SqL K H a xs) : SqL K H a xs := g
theorem chkT {H1 : Hp} {ys : List V} (_ : SqT K H1 a ys) (g : SqT K H a xs) : SqT K H a xs := g
end
theorem fresh_of (S : List Addr) {H H1 : Hp} {p : Addr} (n : H1 p = none) (k : Keep S H H1) : H p = none := k.2 p n
theorem w_iT {A B : Prop} (h : A) : if true = true then A else B := by rw [if_pos rfl]; exact h
theorem w_iF {A B : Prop} (h : B) : if false = true then A else B := by rw [if_neg Bool.false_ne_true]; exact h
theorem w_nT {A B : Prop} (h : B) : if (!true) = true then A else B := by rw [if_neg (by decide)]; exact h
theorem w_nF {A B : Prop} (h : A) : if (!false) = true then A else B := by rw [if_pos (by decide)]; exact h
def tyOf : HO → Option String
  | .lst _ => some "list"
  | .tup _ => some "tuple"
  | .dK _ => some "dict"
  | .frz _ (.lst _) => some "list"
  | .frz _ (.tup _) => some "tuple"
  | _ => none
theorem tyO {K : PySem.W.Frag} {H : Hp} {a : Addr} {o : HO} {t : String} (e : H a = some o) (q : tyOf o = some t) : TyX K H (.ref a) (.type t) := by
  cases o with
  | lst ys => cases q; exact .base (.lst e)
  | tup ys => cases q; exact .base (.tup e)
  | dK ys => cases q; exact .base (.dK e)
  | frz ob u =>
    cases u with
    | lst ys => cases q; exact .base (.frz e)
    | tup ys => cases q; exact .fTuple e
    | _ => cases q
  | _ => cases q
theorem pe_ty {X : Cx} {x : Str} {T : String} {pos : Pos} (hg : Gl X x) (hm : X.mg x = none) (hv : bootBuiltins x = some (.type T)) (hn : x ≠ "__name__" := by decide) (hd : (x == ("__debug__" : Str)) = false := by decide) : PE X (.Name x pos) (tC (.ty T)) := pe_bltn (v := .ty T) hg hm hv rfl hn hd
section
variable {H : Hp} {Q : VK} {a : Addr} {i : Int} {b : Bool} {s : Str}
theorem w_isNN (h : Q (.bl true) H) : rIsNon .non .non H Q := ⟨rfl, h⟩
theorem w_isNR (h : Q (.bl false) H) : rIsNon (.ref a) .non H Q := ⟨rfl, h⟩
theorem w_isNI (h : Q (.bl false) H) : rIsNon (.int i) .non H Q := ⟨rfl, h⟩
theorem w_isNB (h : Q (.bl false) H) : rIsNon (.bl b) .non H Q := ⟨rfl, h⟩
theorem w_isNS (h : Q (.bl false) H) : rIsNon (.str s) .non H Q := ⟨rfl, h⟩
theorem w_ntNN (h : Q (.bl false) H) : rNotNon .non .non H Q := ⟨rfl, h⟩
theorem w_ntNR (h : Q (.bl true) H) : rNotNon (.ref a) .non H Q := ⟨rfl, h⟩
theorem w_ntNI (h : Q (.bl true) H) : rNotNon (.int i) .non H Q := ⟨rfl, h⟩
/-- two bools that are told -/
theorem w_neTT {K : PySem.W.Frag} (h : Q (.bl false) H) : rNeX K (.bl b) (.bl b) H Q := w_ne rfl (by rw [decide_eq_true rfl]; exact h)
end
/-! ### stores into an instance -/
theorem lt_of {n m : Nat} (h : Nat.blt n m = true) : n < m := by simpa using h
theorem w_sfldP {K : PySem.W.Frag} {H : Hp} {a C dx : Addr} {f : Str} {y : V} {fs fs' : List (Str × V)} {R : Hp → Prop} (e : H a = some (.ins C dx fs)) (c : Cls K C) (nn : NoAttr K C f) (l : fs.length < 1000) (pf : putF f y fs = fs') (h : R (upd H a (.ins C dx fs'))) : kSFld K f y (.ref a) H R :=
  w_sfldK e c nn l (by rw [pf]; exact h)
theorem Keep.own {S : List Addr} {H H1 : Hp} {p : Addr} {o : HO} (k : Keep S H H1) (n : H p = none) : Keep S H (upd H1 p o) := ⟨fun b u m e => by
  rw [upd_ne (ne_of_none e n)]
  exact k.1 b u m e, fun b e => by
  by_cases q : b = p
  · rw [q, upd_same] at e; cases e
  · rw [upd_ne q] at e; exact k.2 b e⟩
theorem Keep.own' {S : List Addr} {H H1 : Hp} {p : Addr} {o : HO} (n : H p = none) (k : Keep S H H1) : Keep S H (upd H1 p o) := k.own n
/-! ### list comprehensions: out i is what is made behind i items -/
def PvOf (H : Hp) (D : Addr) (out : Nat → List V) (i : Nat) (H' : Hp) : Prop := Keep [] H H' ∧ H' D = some (.lst (out i))
def kIn (H : Hp) (D : Addr) (out : Nat → List V) (i : Nat) (y : V) (H4 : Hp) : Prop := ∃ acc, H4 D = some (.lst acc) ∧ acc.length < sizeLine ∧ PvOf H D out (i + 1) (upd H4 D (.lst (acc ++ [y])))
section
variable {K : PySem.W.Frag} {σ : L2.St} {H H4 : Hp} {Q : VK} {D a : Addr} {out : Nat → List V} {i : Nat} {x y : V} {xs : List V} {g : TG} {tt : TT} {te tl : TE} {tr : TA} {vs : List Nat}
theorem kIn_go (n : H D = none) (e : H4 D = some (.lst (out i))) (k : Keep [] H H4) (l : (out i).length < sizeLine) (o : out (i + 1) = out i ++ [y]) : kIn H D out i y H4 :=
  ⟨out i, e, l, k.own n, by rw [upd_same, o]⟩
theorem kOut_go (e : H4 D = some (.lst (out i))) (k : Keep [] H H4) (o : out (i + 1) = out i) : PvOf H D out (i + 1) H4 := ⟨k, by rw [o]; exact e⟩
theorem w_yes {QT : Bool → Hp → Prop} (h : QT true H) : tYes σ H QT := h
/-- a turn -/
abbrev LcTurn (H : Hp) (g : TG) (tt : TT) (te : TE) (vs : List Nat) (σ : L2.St) (D : Addr) (out : Nat → List V) (i : Nat) (x : V) (H' : Hp) : Prop :=
  g x (wipe σ vs) H' fun σ2 H2 => wipe σ2 vs = wipe σ vs ∧ tt σ2 H2 fun b H3 => if b = true then te σ2 H3 fun y H4 => kIn H D out i y H4 else PvOf H D out (i + 1) H3
def kLcL (K : PySem.W.Frag) (g : TG) (tt : TT) (te : TE) (vs : List Nat) (σ : L2.St) (x : V) (H1 : Hp) (Q : VK) : Prop := ∃ a, x = .ref a ∧ (∃ xs, SqL K H1 a xs) ∧ ∀ D, H1 D = none → ∃ W : Nat → Nat → Hp → Prop, (∃ m, W 0 m (upd H1 D (.lst []))) ∧ ∀ i m H, W i m H →
  ((Itl K a).stop i H ∧ Q (.ref D) H) ∨ ((Itl K a).go i H ∧ ∃ Nx : Hp → Prop, (∀ H', Nx H' → ∃ m', m' < m ∧ W (i + 1) m' H') ∧ ∀ x H', (Itl K a).yld i H x H' → g x (wipe σ vs) H' fun σ2 H2 => wipe σ2 vs = wipe σ vs ∧ tt σ2 H2 fun b H3 =>
    if b = true then te σ2 H3 fun y H4 => ∃ acc, H4 D = some (.lst acc) ∧ acc.length < sizeLine ∧ Nx (upd H4 D (.lst (acc ++ [y]))) else Nx H3)
theorem w_lcL (h : tl σ H fun x H1 => kLcL K g tt te vs σ x H1 Q) : tLc (iList K tl) g tt te vs σ H Q := h
theorem l_lcL (e : SqL K H a xs) (out : Nat → List V) (o0 : out 0 = [])
    (hs : ∀ D i x H', H D = none → xs[i]? = some x → Keep [] H H' → H' D = some (.lst (out i)) → LcTurn H g tt te vs σ D out i x H') (hd : ∀ D H', H D = none → Keep [] H H' → H' D = some (.lst (out xs.length)) → Q (.ref D) H') : kLcL K g tt te vs σ (.ref a) H Q :=
  ⟨a, rfl, ⟨xs, e⟩, fun D hD => lc_list (xs := xs) (PvOf H D out) ⟨Keep.refl.own hD, by rw [upd_same, o0]⟩ (fun _ _ _ q => q.1.seqL nin_nil e) (fun i x H' hx q => hs D i x H' hD hx q.1 q.2) fun H' q => hd D H' hD q.1 q.2⟩
def kLcT (K : PySem.W.Frag) (g : TG) (tt : TT) (te : TE) (vs : List Nat) (σ : L2.St) (x : V) (H1 : Hp) (Q : VK) : Prop := ∃ a, x = .ref a ∧ (∃ xs, SqT K H1 a xs) ∧ ∀ D, H1 D = none → ∃ W : Nat → Nat → Hp → Prop, (∃ m, W 0 m (upd H1 D (.lst []))) ∧ ∀ i m H, W i m H →
  ((Itt K a).stop i H ∧ Q (.ref D) H) ∨ ((Itt K a).go i H ∧ ∃ Nx : Hp → Prop, (∀ H', Nx H' → ∃ m', m' < m ∧ W (i + 1) m' H') ∧ ∀ x H', (Itt K a).yld i H x H' → g x (wipe σ vs) H' fun σ2 H2 => wipe σ2 vs = wipe σ vs ∧ tt σ2 H2 fun b H3 =>
    if b = true then te σ2 H3 fun y H4 => ∃ acc, H4 D = some (.lst acc) ∧ acc.length < sizeLine ∧ Nx (upd H4 D (.lst (acc ++ [y]))) else Nx H3)
theorem w_lcT (h : tl σ H fun x H1 => kLcT K g tt te vs σ x H1 Q) : tLc (iTup K tl) g tt te vs σ H Q := h
theorem l_lcT (e : SqT K H a xs) (out : Nat → List V) (o0 : out 0 = [])
    (hs : ∀ D i x H', H D = none → xs[i]? = some x → Keep [] H H' → H' D = some (.lst (out i)) → LcTurn H g tt te vs σ D out i x H') (hd : ∀ D H', H D = none → Keep [] H H' → H' D = some (.lst (out xs.length)) → Q (.ref D) H') : kLcT K g tt te vs σ (.ref a) H Q :=
  ⟨a, rfl, ⟨xs, e⟩, fun D hD => lc_tup (xs := xs) (PvOf H D out) ⟨Keep.refl.own hD, by rw [upd_same, o0]⟩ (fun _ _ _ q => q.1.seqT nin_nil e) (fun i x H' hx q => hs D i x H' hD hx q.1 q.2) fun H' q => hd D H' hD q.1 q.2⟩
def LcR (lo : Int) (n : Nat) (g : TG) (tt : TT) (te : TE) (vs : List Nat) (σ : L2.St) (H1 : Hp) (Q : VK) : Prop := ∀ D, H1 D = none → ∃ W : Nat → Nat → Hp → Prop, (∃ m, W 0 m (upd H1 D (.lst []))) ∧ ∀ i m H, W i m H →
  ((Itr lo n).stop i H ∧ Q (.ref D) H) ∨ ((Itr lo n).go i H ∧ ∃ Nx : Hp → Prop, (∀ H', Nx H' → ∃ m', m' < m ∧ W (i + 1) m' H') ∧ ∀ x H', (Itr lo n).yld i H x H' → g x (wipe σ vs) H' fun σ2 H2 => wipe σ2 vs = wipe σ vs ∧ tt σ2 H2 fun b H3 =>
    if b = true then te σ2 H3 fun y H4 => ∃ acc, H4 D = some (.lst acc) ∧ acc.length < sizeLine ∧ Nx (upd H4 D (.lst (acc ++ [y]))) else Nx H3)
def kLcR1 (g : TG) (tt : TT) (te : TE) (vs : List Nat) (σ : L2.St) (ws : List V) (H1 : Hp) (Q : VK) : Prop := ∃ j : Int, ws = [.int j] ∧ -(2 ^ 62) ≤ j ∧ j < 2 ^ 62 ∧ LcR 0 j.toNat g tt te vs σ H1 Q
def kLcR2 (g : TG) (tt : TT) (te : TE) (vs : List Nat) (σ : L2.St) (ws : List V) (H1 : Hp) (Q : VK) : Prop := ∃ i j : Int, ws = [.int i, .int j] ∧ (-(2 ^ 62) ≤ i ∧ i < 2 ^ 62 ∧ -(2 ^ 62) ≤ j ∧ j < 2 ^ 62) ∧ LcR i (j - i).toNat g tt te vs σ H1 Q
theorem w_lcR1 (h : tr σ H fun ws H1 => kLcR1 g tt te vs σ ws H1 Q) : tLc (iRng1 tr) g tt te vs σ H Q := h
theorem w_lcR2 (h : tr σ H fun ws H1 => kLcR2 g tt te vs σ ws H1 Q) : tLc (iRng2 tr) g tt te vs σ H Q := h
theorem l_lcR {lo : Int} {n : Nat} (out : Nat → List V) (o0 : out 0 = [])
    (hs : ∀ D i H', H D = none → i < n → Keep [] H H' → H' D = some (.lst (out i)) → LcTurn H g tt te vs σ D out i (.int (lo + i)) H') (hd : ∀ D H', H D = none → Keep [] H H' → H' D = some (.lst (out n)) → Q (.ref D) H') : LcR lo n g tt te vs σ H Q :=
  fun D hD => lc_range (PvOf H D out) ⟨Keep.refl.own hD, by rw [upd_same, o0]⟩ (fun i H' hi q => hs D i H' hD hi q.1 q.2) fun H' q => hd D H' hD q.1 q.2
theorem l_lcR1 {j : Int} (b : -(2 ^ 62) ≤ j ∧ j < 2 ^ 62) (out : Nat → List V) (o0 : out 0 = [])
    (hs : ∀ D i H', H D = none → i < j.toNat → Keep [] H H' → H' D = some (.lst (out i)) → LcTurn H g tt te vs σ D out i (.int i) H') (hd : ∀ D H', H D = none → Keep [] H H' → H' D = some (.lst (out j.toNat)) → Q (.ref D) H') : kLcR1 g tt te vs σ [.int j] H Q :=
  ⟨j, rfl, b.1, b.2, l_lcR out o0 (fun D i H' a b c d => by rw [Int.zero_add]; exact hs D i H' a b c d) hd⟩
theorem l_lcR2 {k j : Int} (b : -(2 ^ 62) ≤ k ∧ k < 2 ^ 62 ∧ -(2 ^ 62) ≤ j ∧ j < 2 ^ 62) (out : Nat → List V) (o0 : out 0 = [])
    (hs : ∀ D i H', H D = none → i < (j - k).toNat → Keep [] H H' → H' D = some (.lst (out i)) → LcTurn H g tt te vs σ D out i (.int (k + i)) H') (hd : ∀ D H', H D = none → Keep [] H H' → H' D = some (.lst (out (j - k).toNat)) → Q (.ref D) H') : kLcR2 g tt te vs σ [.int k, .int j] H Q :=
  ⟨k, j, rfl, b, l_lcR out o0 hs hd⟩
end
/-! ### lists of ints -/
theorem flat_ints (ns : List Int) : (ns.map V.int).all flatV = true := by
  induction ns with
  | nil => rfl
  | cons n r ih => simpa [flatV] using ih
theorem inV_ints (i : Int) (ns : List Int) : inV (.int i) (ns.map V.int) = decide (i ∈ ns) := by
  induction ns with
  | nil => simp [inV]
  | cons n r ih =>
    unfold inV at ih ⊢
    rw [List.map_cons, List.any_cons, ih]
    by_cases e : n = i
    · subst e; simp [eqV]
    · have e2 : ¬ i = n := fun z => e z.symm
      simp [eqV, e, e2]
section
variable {K : PySem.W.Frag} {H : Hp} {Q : VK} {a : Addr} {i : Int} {ns : List Int}
theorem w_inI (e : H a = some (.lst (ns.map V.int))) (h : Q (.bl (decide (i ∈ ns))) H) : rInX K (.int i) (.ref a) H Q := w_inL (SqL.of e) rfl (flat_ints ns) (by rw [inV_ints]; exact h)
theorem w_ninI (e : H a = some (.lst (ns.map V.int))) (h : Q (.bl (!decide (i ∈ ns))) H) : rNinX K (.int i) (.ref a) H Q := w_ninL (SqL.of e) rfl (flat_ints ns) (by rw [inV_ints]; exact h)
theorem map_at {x : V} {k : Nat} (h : (ns.map V.int)[k]? = some x) : ∃ c, ns[k]? = some c ∧ x = .int c := by
  rw [List.getElem?_map] at h
  cases e : ns[k]? with
  | none => rw [e] at h; cases h
  | some c => rw [e] at h; exact ⟨c, rfl, (Option.some.inj h).symm⟩
end
/-! ### zip of two tuples -/
def kForZ (K : PySem.W.Frag) (g : TG) (t : TS) (D : Ends) (σ : L2.St) (vs : List V) (H1 : Hp) : Prop := ∃ a b xs ys, vs = [.ref a, .ref b] ∧ ((SqL K H1 a xs ∧ SqL K H1 b ys ∧ ∃ W : Nat → Nat → L2.St → Hp → Prop, (∃ m, W 0 m σ H1) ∧ ∀ i m σ H, W i m σ H →
      ((Itz K a b).stop i H ∧ D.nx σ H) ∨ ((Itz K a b).go i H ∧ ∃ N : L2.St → Hp → Prop, (∀ σ' H', N σ' H' → ∃ m', m' < m ∧ W (i + 1) m' σ' H') ∧ ∀ v H', (Itz K a b).yld i H v H' → g v σ H' fun σ2 H2 => t { D with nx := N, ct := N, bk := D.nx } σ2 H2)) ∨
    (SqT K H1 a xs ∧ SqT K H1 b ys ∧ ∃ W : Nat → Nat → L2.St → Hp → Prop, (∃ m, W 0 m σ H1) ∧ ∀ i m σ H, W i m σ H →
      ((RZ.ItzT K a b).stop i H ∧ D.nx σ H) ∨ ((RZ.ItzT K a b).go i H ∧ ∃ N : L2.St → Hp → Prop, (∀ σ' H', N σ' H' → ∃ m', m' < m ∧ W (i + 1) m' σ' H') ∧ ∀ v H', (RZ.ItzT K a b).yld i H v H' → g v σ H' fun σ2 H2 => t { D with nx := N, ct := N, bk := D.nx } σ2 H2)))
section
variable {K : PySem.W.Frag} {σ : L2.St} {H : Hp} {a b : Addr} {xs ys : List V} {g : TG} {t : TS} {D : Ends} {tr : TA}
theorem w_forZ (h : tr σ H fun vs H1 => kForZ K g t D σ vs H1) : tFor (RZ.iZipA K tr) g t D σ H := h
theorem l_forZT (ea : SqT K H a xs) (eb : SqT K H b ys) (hl : xs.length = ys.length) (Pv : Nat → L2.St → Hp → Prop) (h0 : Pv 0 σ H) (hq : ∀ i σ' H', Pv i σ' H' → SqT K H' a xs ∧ SqT K H' b ys)
    (hs : ∀ (i : Nat) (x y : V) (T : Addr) (σ' : L2.St) (H' : Hp), xs[i]? = some x → ys[i]? = some y → Pv i σ' H' → H' T = none → g (.ref T) σ' (upd H' T (.tup [x, y])) fun σ2 H2 => t { D with nx := Pv (i + 1), ct := Pv (i + 1), bk := D.nx } σ2 H2)
    (hd : ∀ σ' H', Pv xs.length σ' H' → D.nx σ' H') : kForZ K g t D σ [.ref a, .ref b] H := ⟨a, b, xs, ys, rfl, Or.inr ⟨ea, eb, RZ.for_zipT hl Pv h0 hq hs hd⟩⟩
end
section
variable {α β : Type} {l : List α} {i : Nat} {c : α} {p : α → Bool} {f : α → β}
theorem take_at (h : l[i]? = some c) : l.take (i + 1) = l.take i ++ [c] := by rw [List.take_succ, h]; rfl
theorem filt_yes (h : l[i]? = some c) (q : p c = true) : ((l.take (i + 1)).filter p).map f = ((l.take i).filter p).map f ++ [f c] := by rw [take_at h, List.filter_append, List.map_append, List.filter_cons, if_pos q]; rfl
theorem filt_no (h : l[i]? = some c) (q : ¬ p c = true) : ((l.take (i + 1)).filter p).map f = ((l.take i).filter p).map f := by
  rw [take_at h, List.filter_append, List.map_append, List.filter_cons, if_neg q]
  simp
theorem filt_len : (((l.take i).filter p).map f).length ≤ l.length := by
  rw [List.length_map]
  exact Nat.le_trans (List.length_filter_le _ _) (by rw [List.length_take]; exact Nat.min_le_right _ _)
theorem map_succ (h : l[i]? = some c) : (l.take (i + 1)).map f = (l.take i).map f ++ [f c] := by rw [take_at h, List.map_append]; rfl
theorem range_succ {g : Nat → β} : (List.range (i + 1)).map g = (List.range i).map g ++ [g i] := by rw [List.range_succ, List.map_append]; rfl
theorem range_len {g : Nat → β} : ((List.range i).map g).length = i := by rw [List.length_map, List.length_range]
end
/-! ### the rules, the written part named -/
section
variable {X : Cx} {K : PySem.W.Frag} {a e o l value tg : Expr} {ta tv tl to : TE} {tr : TA} {f : Str} {pos pos' p tpos : Pos} {es elts : List Expr} {k kk n : Nat} {t : TGs}
theorem op_plusK (h : X.K = K) : OpR X (binaryOp .Add) (rPlus K) := h ▸ op_plus
theorem op_eqK (h : X.K = K) (hu : X.A.units + 64 < cLine) : OpR X (compareOp .Eq) (rEqX K) := h ▸ op_eqX hu
theorem op_neK (h : X.K = K) (hu : X.A.units + 64 < cLine) : OpR X (compareOp .NotEq) (rNeX K) := h ▸ op_neX hu
theorem op_inK (h : X.K = K) : OpR X (compareOp .In) (rInX K) := h ▸ op_inX
theorem op_ninK (h : X.K = K) : OpR X (compareOp .NotIn) (rNinX K) := h ▸ op_ninX
theorem cr_lenK (h : X.K = K) : CallR X (.builtin "len") (rLenX K) := h ▸ cr_lenX
theorem cr_maxK (h : X.K = K) (hc : X.calm = true) : CallR X (.builtin "max") (rMaxX K) := h ▸ cr_maxX hc
theorem cr_minK (h : X.K = K) (hc : X.calm = true) : CallR X (.builtin "min") (rMinX K) := h ▸ cr_minX hc
theorem cr_tupK (h : X.K = K) : CallR X (.type "tuple") (rTupX K) := h ▸ cr_tupX
theorem cr_lisK (h : X.K = K) : CallR X (.type "list") (rLisX K) := h ▸ cr_lisX
theorem cr_isiK (h : X.K = K) : CallR X (.builtin "isinstance") (rIsi K) := h ▸ call_isi
theorem ix_K (h : X.K = K) : IxR X (rIx K) := h ▸ ix_seq
theorem pe_fldK (h : X.K = K) (he : PE X e ta) (hb : attributeBase e f X.env (eval e X.env) = eval e X.env) : PE X (.Attribute e f pos) (tFld K ta f) := h ▸ pe_fld he hb
theorem ps_fldK (h : X.K = K) (ha : PE X o ta) (hv : PE X value tv) (hs : swapsWith value (some (.Attribute o f pos')) pos.line X.env = pure false) : PS X (.Assign [.Attribute o f pos'] value pos) (sFld K ta tv f) := h ▸ ps_fld ha hv hs
theorem pt_truK (h : X.K = K) (ha : PE X a ta) (he : ∀ whole, isTrue a X.env whole = (do let v ← whole; standAt a.pos; holding [v] (truthy v)) := by intro _; rfl) : PT X a (tTru K ta) := h ▸ pt_tru ha he
theorem pi_listK (h : X.K = K) (hl : PE X l tl) : PI X tg l (iList K tl) := h ▸ pi_list hl
theorem pi_tupK (h : X.K = K) (hl : PE X l tl) : PI X tg l (iTup K tl) := h ▸ pi_tup hl
theorem pi_zipK {e2 : Expr} (h : X.K = K) (hg : Gl X "zip") (hm : X.mg "zip" = none) (ha : PA X [e, e2] tr)
    (hs : starEach [e, e2] X.env = (false, eval e X.env) :: starEach [e2] X.env := by rfl) (hpl : (backTo pos (starEach [e2] X.env)).any (·.1) = false := by rfl) :
    PI X (.Tuple elts kk tpos) (.Call (.Name "zip" p) [e, e2] [] pos) (RZ.iZipA K tr) := h ▸ RZ.pi_zipA hg hm ha hs hpl
theorem pg_tupK (h : X.K = K) (hc : X.calm = true) (hg : PGs X es t) (hn : (assignEach es X.env).length = n := by rfl) (hst : (assignEach es X.env).findIdx? (·.1) = none := by rfl) : PG X (.Tuple es k pos) (gTup K n t) := h ▸ pg_tup hc hg hn hst
theorem pe_bm0K {T id : String} {name : Str} {apos cpos : Pos} {r : V → List V → Hp → VK → Prop} (h : X.K = K) (pa : PlainAttrs T) (slot : Slot T name id) (hty : typeOf (.builtin id) = pure (.type "method_descriptor")) (hm : MtR X id r) (ho : PE X o to)
    (hbase : attributeBase o name X.env (eval o X.env) = eval o X.env := by rfl) (hline : (apos.endLine == cpos.line) = true := by rfl) : PE X (.Call (.Attribute o name apos) [] [] cpos) (tBM0 K T r to) := h ▸ pe_bm0 pa slot hty hm ho hbase hline
theorem pe_bmK {T id : String} {name : Str} {apos cpos : Pos} {r : V → List V → Hp → VK → Prop} (h : X.K = K) (pa : PlainAttrs T) (slot : Slot T name id) (hty : typeOf (.builtin id) = pure (.type "method_descriptor")) (hm : MtR X id r) (ho : PE X o to) (ha : PA X (e :: es) tr)
    (hbase : attributeBase o name X.env (eval o X.env) = eval o X.env := by rfl)
    (hfew : ((backTo cpos (starEach (e :: es) X.env)).all (fun x => !x.1) && (backToKw cpos (keywordEach [] X.env)).all (fun x => x.1.isSome)
      && decide ((e :: es).length + ([] : List Keyword).length + (if ([] : List Keyword).isEmpty then 0 else 1) < 30)) = true := by rfl)
    (hline : (apos.endLine == cpos.line) = true := by rfl) (hs : starEach (e :: es) X.env = (false, eval e X.env) :: starEach es X.env := by rfl) (hplain : (backTo cpos (starEach es X.env)).any (·.1) = false := by rfl) :
    PE X (.Call (.Attribute o name apos) (e :: es) [] cpos) (tBM K T r to tr) := h ▸ pe_bm pa slot hty hm ho ha hbase hfew hline hs hplain
end
/-! ### while -/
def kTurn (W : Nat → L2.St → Hp → Prop) (tb : TS) (D : Ends) (m : Nat) (σ : L2.St) (H1 : Hp) : Prop := ∃ N : L2.St → Hp → Prop, (∀ σ' H', N σ' H' → ∃ m', m' < m ∧ W m' σ' H') ∧ tb { D with nx := N, ct := N, bk := D.nx } σ H1
theorem w_turn {W : Nat → L2.St → Hp → Prop} {tb : TS} {D : Ends} {m : Nat} {σ : L2.St} {H1 : Hp} (h : tb { D with nx := fun σ2 H2 => ∃ m', m' < m ∧ W m' σ2 H2, ct := fun σ2 H2 => ∃ m', m' < m ∧ W m' σ2 H2, bk := D.nx } σ H1) : kTurn W tb D m σ H1 := ⟨_, fun _ _ q => q, h⟩
theorem l_while {c : TT} {tb : TS} {D : Ends} {σ : L2.St} {H : Hp} (W : Nat → L2.St → Hp → Prop) (m0 : Nat) (h0 : W m0 σ H)
    (hs : ∀ m σ' H', W m σ' H' → c σ' H' fun b H1 => if b = true then kTurn W tb D m σ' H1 else D.nx σ' H1) : tWhile c tb D σ H := ⟨W, ⟨m0, h0⟩, hs⟩
/-! ### count of flat items -/
theorem countP_eqU {x : V} : ∀ {xs : List V} {us : List Value}, Vals xs us → xs.all flatV = true → us.countP (eqU x) = xs.countP fun y => eqV y x
  | _, _, .nil, _ => rfl
  | _, _, .cons r t, f => by
    rw [List.all_cons, Bool.and_eq_true] at f
    rw [List.countP_cons, List.countP_cons, countP_eqU t f.2, eqU_of r f.1]
def rCntX (K : PySem.W.Frag) : V → List V → Hp → VK → Prop := fun x xs H Q => ∃ (p : Addr) (ys : List V) (y : V), x = .ref p ∧ xs = [y] ∧ SqL K H p ys ∧ flatV y = true ∧ ys.all flatV = true ∧ Q (.int ((ys.countP fun z => eqV z y : Nat) : Int)) H
theorem mt_countX {X : Cx} : MtR X "list.count" (rCntX X.K) := by
  intro pn s₀ σ₀ H₀ x₀ xs₀ v₀ us₀ Q₀ I₀ rx rxs hq
  obtain ⟨p, ys, y, rfl, rfl, hs, fy, fa, q⟩ := hq
  cases rx
  obtain ⟨u, rfl, ru⟩ := rxs.one
  obtain ⟨its, rv, ⟨⟨cls, dd, data, sl⟩, n, ho, hc, hdn, hd⟩, hlen⟩ := I₀.list hs
  simp only at hc hd
  subst hc hd
  refine call_meets PySem.F.slot_list_count ⟨_, ho, rfl⟩ PySem.F.entry_list_count (PySem.F.args_list_count_2 _ _)
    (SeqAt.list_countAt p its.toArray n dd sl u (eqU y)) ⟨ho, fun z hz => mem_eqAt ru fy rv fa z (by simpa using hz), ?_⟩
  have ec : its.toArray.toList.countP (eqU y) = ys.countP fun z => eqV z y := countP_eqU rv fa
  refine ⟨.int ((ys.countP fun z => eqV z y : Nat) : Int), H₀, I₀.tok _, ⟨s₀.toks, ?_⟩, q⟩
  show Value.int ((its.toArray.toList.countP (eqU y) : Nat) : Int) s₀.toks = Value.int ((ys.countP fun z => eqV z y : Nat) : Int) s₀.toks
  rw [ec]
theorem mt_countK {X : Cx} {K : PySem.W.Frag} (h : X.K = K) : MtR X "list.count" (rCntX K) := h ▸ mt_countX
theorem mt_indexK {X : Cx} {K : PySem.W.Frag} (h : X.K = K) : MtR X "list.index" (rIndex K) := h ▸ mt_index
/-! ### an exception that is caught -/
theorem pe_never {X : Cx} {e : Expr} : PE X e (fun _ _ _ => False) := ⟨fun _ _ _ _ _ _ h => False.elim h⟩
def rIsE2 (K : PySem.W.Frag) (cls : Value) (d : Option Addr) (a : Addr) : List V → Hp → VK → Prop := fun xs H Q => ∃ D, cls = .ref D ∧ d = none ∧ ExcC K D ∧ rIsE K D a xs H Q
theorem call_isE2 {X : Cx} {K : PySem.W.Frag} {a : Addr} {cls : Value} {d : Option Addr} {oe : Obj} {pn : List (Addr × Obj)} (h : X.K = K) (hz : Zc cls d oe) (hf : ∃ vs, oe.data = .fields vs) : CallR (X.suite a ((a, oe) :: pn)) (.builtin "isinstance") (rIsE2 K cls d a) := by
  subst h
  intro pins s σ H xs us Q I r q
  obtain ⟨D, rfl, rfl, C, q⟩ := q
  exact call_isE C hz hf pins s σ H xs us Q I r q
theorem takesLen {X : Cx} {W : WX} (tk : Takes X W) : Takes X (fun cls d σ H => σ.length = X.N.length → W cls d σ H) := fun u s' x => by
  obtain ⟨a, B, sI, pins, σ, H, cls, d, e1, I, r1, r2, r3, r4, r5, r6, q⟩ := x
  exact tk u s' ⟨a, B, sI, pins, σ, H, cls, d, e1, I, r1, r2, r3, r4, r5, r6, q I.len⟩
/-! ### displays of dicts -/
theorem w_pairs0 {σ : L2.St} {H : Hp} {R : List (V × V) → Hp → Prop} (h : R [] H) : tPairs [] σ H R := h
theorem w_pairs {tk tv : TE} {r : List (TE × TE)} {σ : L2.St} {H : Hp} {R : List (V × V) → Hp → Prop} (h : tk σ H fun k H1 => tv σ H1 fun v H2 => tPairs r σ H2 fun ps H3 => R ((k, v) :: ps) H3) : tPairs ((tk, tv) :: r) σ H R := h
def kDisp (p : Addr) (ps : List (V × V)) (H2 : Hp) (Q : VK) : Prop := H2 p = some (.dK []) ∧ ∃ kvs : List (Key × V), ps = kvs.map (fun kv => (kV kv.1, kv.2)) ∧ kvs.length ≤ 15 ∧ Q (.ref p) (upd H2 p (.dK (mergeK [] kvs)))
theorem w_disp {trs : List (TE × TE)} {σ : L2.St} {H : Hp} {Q : VK} (h : ∀ p, H p = none → tPairs trs σ (upd H p (.dK [])) fun ps H2 => kDisp p ps H2 Q) : tDisp trs σ H Q := h
theorem l_disp {p : Addr} {H2 : Hp} {Q : VK} (kvs : List (Key × V)) (e : H2 p = some (.dK [])) (l : kvs.length ≤ 15) (m : mergeK [] kvs = kvs) (h : Q (.ref p) (upd H2 p (.dK kvs))) : kDisp p (kvs.map (fun kv => (kV kv.1, kv.2))) H2 Q :=
  ⟨e, kvs, rfl, l, by rw [m]; exact h⟩
theorem putK_new {kvs : List (Key × V)} {k : Key} {v : V} (h : k ∉ kvs.map (·.1)) : putK kvs k v = kvs ++ [(k, v)] := by
  unfold putK
  rw [if_neg]
  intro z
  rw [List.any_eq_true] at z
  obtain ⟨x, hx, e⟩ := z
  exact h (List.mem_map.mpr ⟨x, hx, of_decide_eq_true e⟩)
theorem merge_nd : ∀ (more kvs : List (Key × V)), ((kvs ++ more).map (·.1)).Nodup → mergeK kvs more = kvs ++ more
  | [], kvs, _ => by rw [List.append_nil]; rfl
  | (k, v) :: r, kvs, h => by
    have hk : k ∉ kvs.map (·.1) := fun m => by
      rw [List.map_append, List.map_cons, List.nodup_append] at h
      exact h.2.2 k m k List.mem_cons_self rfl
    show mergeK (putK kvs k v) r = _
    rw [putK_new hk, merge_nd r (kvs ++ [(k, v)]) (by rw [List.append_assoc]; exact h), List.append_assoc]
    rfl
theorem merge_ok (kvs : List (Key × V)) (h : (kvs.map (·.1)).Nodup) : mergeK [] kvs = kvs := merge_nd kvs [] h
theorem put_hd {κ : Type} [DecidableEq κ] {k : κ} {v x : V} {l : List (κ × V)} (h : k ∉ l.map (·.1)) : putK ((k, x) :: l) k v = (k, v) :: l := by
  unfold putK
  rw [if_pos (by rw [List.any_cons]; simp)]
  rw [List.map_cons, if_pos rfl]
  congr 1
  have e : ∀ y, y ∈ l → (if y.1 = k then (y.1, v) else y) = y := fun y hy => if_neg fun z => h (List.mem_map.mpr ⟨y, hy, z⟩)
  rw [List.map_congr_left e, List.map_id']
theorem put_tl {κ : Type} [DecidableEq κ] {k j : κ} {v x : V} {l : List (κ × V)} (h : ¬ j = k) : putK ((j, x) :: l) k v = (j, x) :: putK l k v := by
  unfold putK
  rw [List.any_cons, decide_eq_false h, Bool.false_or, List.map_cons, if_neg h]
  split <;> rfl
theorem w_dputP {H : Hp} {a : Addr} {v : V} {R : Hp → Prop} {kvs kvs' : List (Key × V)} {s : Str} (e : H a = some (.dK kvs)) (l : kvs.length < sizeLine) (p : putK kvs (Sum.inr s) v = kvs') (h : R (upd H a (.dK kvs'))) : kDPut v (.ref a) (.str s) H R := w_dputS e l (by rw [p]; exact h)
/-- == of scalars alone -/
theorem w_eq0S {s z : Str} {H : Hp} {Q : VK} (h : Q (.bl (decide (s = z))) H) : rEq (.str s) (.str z) H Q := ⟨rfl, by
  have e : decide (V.str s = V.str z) = decide (s = z) := by
    by_cases q : s = z
    · subst q; rw [decide_eq_true rfl, decide_eq_true rfl]
    · rw [decide_eq_false q, decide_eq_false (fun w => q (V.str.inj w))]
  rw [e]; exact h⟩
theorem w_ne0I {i j : Int} {H : Hp} {Q : VK} (h : Q (.bl (!decide (i = j))) H) : rNe (.int i) (.int j) H Q := ⟨rfl, by
  have e : decide (V.int i = V.int j) = decide (i = j) := by
    by_cases q : i = j
    · subst q; rw [decide_eq_true rfl, decide_eq_true rfl]
    · rw [decide_eq_false q, decide_eq_false (fun z => q (V.int.inj z))]
  rw [e]; exact h⟩
section
variable {κ : Type} {k j : κ} {x : V} {l : List (κ × V)}
theorem nk_nil : k ∉ ([] : List (κ × V)).map (·.1) := List.not_mem_nil
theorem nk_cons (h : ¬ k = j) (t : k ∉ l.map (·.1)) : k ∉ ((j, x) :: l).map (·.1) := fun m => by
  rw [List.map_cons] at m
  rcases List.mem_cons.mp m with z | z
  · exact h z
  · exact t z
theorem nd_nil : (([] : List (κ × V)).map (·.1)).Nodup := List.nodup_nil
theorem nd_cons (h : j ∉ l.map (·.1)) (t : (l.map (·.1)).Nodup) : (((j, x) :: l).map (·.1)).Nodup := by
  rw [List.map_cons]
  exact List.nodup_cons.mpr ⟨h, t⟩
end
theorem pe_cls {X : Cx} {x : Str} {C : Addr} {pos : Pos} (hg : Gl X x) (hm : X.mg x = some (.ref C)) (hd : (x == ("__debug__" : Str)) = false := by decide) : PE X (.Name x pos) (tC (.ref C)) := pe_glob (v := .ref C) hg hm rfl hd
section
variable {K : PySem.W.Frag} {H : Hp} {Q : VK} {a : Addr} {ys : List V} {y z : V} {cls : Value} {d : Option Addr}
theorem w_cnt {n : Nat} (e : H a = some (.lst ys)) (fy : flatV y = true) (fa : ys.all flatV = true) (hn : (ys.countP fun z => eqV z y) = n) (h : Q (.int (n : Nat)) H) : rCntX K (.ref a) [y] H Q := ⟨a, ys, y, rfl, rfl, SqL.of e, fy, fa, by rw [hn]; exact h⟩
theorem w_idx (j : Nat) (e : H a = some (.lst ys)) (fy : flatV y = true) (fa : ys.all flatV = true) (hz : ys[j]? = some z) (hy : eqV z y = true) (ha : ∀ (m : Nat) (z' : V), m < j → ys[m]? = some z' → eqV z' y = false) (h : Q (.int (j : Nat)) H) : rIndex K (.ref a) [y] H Q :=
  ⟨a, ys, y, j, z, rfl, rfl, SqL.of e, fy, fa, hz, hy, ha, h⟩
theorem w_isE {D C : Addr} {k : Bool} (hc : cls = .ref D) (hd : d = none) (x : ExcC K D) (hk : PySem.W.kitOne K (.ref D) (.ref C) = some k) (h : Q (.bl k) H) : rIsE2 K cls d a [.ref a, .ref C] H Q := ⟨D, hc, hd, x, .ref C, .ref C, k, rfl, fun _ r => r, hk, h⟩
theorem w_isET {D : Addr} {T : String} {k : Bool} (hc : cls = .ref D) (hd : d = none) (x : ExcC K D) (hk : PySem.W.kitOne K (.ref D) (.type T) = some k) (h : Q (.bl k) H) : rIsE2 K cls d a [.ref a, .ty T] H Q := ⟨D, hc, hd, x, .ty T, .type T, k, rfl, fun _ r => r, hk, h⟩
end
/-- what the text knows of an error class of its own (of six), without an __init__: which of the six it is -/
structure OneBad (K : PySem.W.Frag) (C0 C1 C2 C3 C4 C5 C6 D : Addr) (b1 b2 b3 b4 b5 b6 : Bool) : Prop where
  m : PySem.W.exmOne K (.ref D) (.ref C0) = some true
  x : ExcC K D
  k1 : PySem.W.kitOne K (.ref D) (.ref C1) = some b1
  k2 : PySem.W.kitOne K (.ref D) (.ref C2) = some b2
  k3 : PySem.W.kitOne K (.ref D) (.ref C3) = some b3
  k4 : PySem.W.kitOne K (.ref D) (.ref C4) = some b4
  k5 : PySem.W.kitOne K (.ref D) (.ref C5) = some b5
  k6 : PySem.W.kitOne K (.ref D) (.ref C6) = some b6
  kv : PySem.W.kitOne K (.ref D) (.type "ValueError") = some true
/-- told: what is returned, or the word of the refusal -/
def TTold2 (tab : Value → Str → Prop) : (XK → Hp → VK → Prop) → Hp → VK → Prop := fun tl H Q =>
  tl (fun cls d H' => d = none ∧ ∃ wd, tab cls wd ∧ ∀ p H2, H' p = none → Keep [] H' H2 → H2 p = some (.tup [.str wd]) → Q (.ref p) H2) H Q
theorem w_idxI {K : PySem.W.Frag} {H : Hp} {Q : VK} {a : Addr} {ys : List V} {y z : V} (j : Nat) (jj : Int) (ej : ((j : Nat) : Int) = jj) (e : H a = some (.lst ys)) (fy : flatV y = true) (fa : ys.all flatV = true) (hz : ys[j]? = some z) (hy : eqV z y = true)
    (ha : ∀ (m : Nat) (z' : V), m < j → ys[m]? = some z' → eqV z' y = false) (h : Q (.int jj) H) : rIndex K (.ref a) [y] H Q := w_idx j e fy fa hz hy ha (by rw [ej]; exact h)
/-- no True ahead of the j-th -/
theorem bl_ahead (bs : List Bool) (j : Nat) (h : (bs.take j).all (fun b => !b) = true) : ∀ (m : Nat) (z' : V), m < j → (bs.map V.bl)[m]? = some z' → eqV z' (.bl true) = false := fun m z' hm hz => by
  rw [List.getElem?_map] at hz
  cases e : bs[m]? with
  | none => rw [e] at hz; cases hz
  | some b =>
    rw [e] at hz
    cases hz
    have hb : b ∈ bs.take j := by
      rw [List.mem_iff_getElem?]
      exact ⟨m, by rw [List.getElem?_take, if_pos hm, e]⟩
    have := List.all_eq_true.mp h b hb
    cases b with
    | true => cases this
    | false => rfl
/-- a tuple of the written part -/
theorem sqT_of {K : PySem.W.Frag} {a : Addr} {xs : List V} {o : Obj} {its : Array Value} {n : Nat} (l : K.lookup a = some o) (c : o.cls = .type "tuple") (d : o.data = .seq its n) (z : its.size ≤ sizeLine) (v : Vals xs its.toList) : ∀ H, SqT K H a xs := fun _ => Or.inr ⟨o, its, n, l, c, d, z, v⟩
theorem cx_none {P : Program} {w : World} {H : Hp} {s : Shared} {e : Value} {s' : Shared} (h : L2.CX P w [] H s (fun _ _ _ => False) e s') : False := by
  obtain ⟨_, _, _, _, _, _, _, _, _, _, _, _, z⟩ := h
  exact z
end Ak
namespace Ak
open PySem PySem.Spec PyProof.Rows L2
/-! ### a built-in class called with keywords -/
theorem callWith_typeK {M : Model} {A : Around} {Eb : Value → Shared → Prop} {s : Shared} {env : Env} {pos : Pos} {T : String} {e : Expr} {rest : List Expr} {kws : List Keyword} {Q : Value → Shared → Prop}
    (h : wpAny M A (spliced (backTo pos (starEach (e :: rest) env))) (fun us s1 => wpAny M A (evalAll ((backToKw pos (keywordEach kws env)).map (·.2)))
      (fun ws s2 => wpAny M A (call (.type T) us (((backToKw pos (keywordEach kws env)).filterMap (·.1)).zip ws)) Q Eb s2) Eb s1) Eb s)
    (he : backTo pos (starEach (e :: rest) env) = (false, eval e env) :: backTo pos (starEach rest env) := by rfl) (hp : (backTo pos (starEach (e :: rest) env)).any (·.1) = false := by rfl)
    (ha : (backToKw pos (keywordEach kws env)).all (·.1.isSome) = true := by rfl) (hn : (backToKw pos (keywordEach kws env)).any (·.1.isNone) = false := by rfl) :
    wpAny M A (callWith pos (.type T) [] (backTo pos (starEach (e :: rest) env)) (backToKw pos (keywordEach kws env))) Q Eb s := by
  unfold callWith
  rw [he] at h
  have h2 := evalArgs_kwB (f := .type T) (Q := fun a s1 => wpAny M A (call (.type T) a.pos a.kw) Q Eb s1) ha h
  rw [← he] at h2
  refine wpAny_bind (wpAny_holding (wpAny_mono h2 (fun a s1 h1 => wpAny_bind (wpAny_standAt ?_)) fun _ _ z => z))
  simp only [hp, hn, Bool.or_false]
  refine wpAny_bind (wpAny_pure ?_)
  exact wpAny_bind (wpAny_mono h1 (fun r s2 hr => wpAny_bind (wpAny_holding (wpAny_point (wpAny_pure hr)))) fun _ _ z => z)
/-! ### enumerate(a tuple, start=c) -/
def IteT (K : PySem.W.Frag) (a : Addr) (c : Int) : It :=
  ⟨fun i H => ∃ (xs : List V) (x : V), SqT K H a xs ∧ xs[i]? = some x, fun i H v H' => ∃ T x, v = .ref T ∧ H T = none ∧ H' = upd H T (.tup [.int (c + (i : Int)), x]) ∧ ∀ xs, SqT K H a xs → xs[i]? = some x, fun i H => ∃ xs : List V, SqT K H a xs ∧ xs.length = i⟩
theorem turn_enumT {P : Program} {w : World} {K : PySem.W.Frag} {elts : List Expr} {kk : Nat} {tpos : Pos} (a e it : Addr) (c : Int) :
    Turn P w K (.Tuple elts kk tpos) (IteT K a c) [e, it] e (fun i h => (∃ old, IsEnum h e it (c + (i : Int)) old) ∧ h.IsTupleIter it a i ∧ e ≠ it) where
  mem := by simp
  obj := fun i h st b hb => by
    obtain ⟨⟨old, he⟩, ⟨o, ho, hc, hd⟩, _⟩ := st
    have e' : b = e ∨ b = it := by simpa using hb
    rcases e' with rfl | rfl
    · exact ⟨_, he, fun v q => nomatch q⟩
    · exact ⟨o, ho, fun v q => by rw [hd] at q; cases q⟩
  keep := fun i h h' st k => by
    obtain ⟨⟨old, he⟩, hi, hne⟩ := st
    exact ⟨⟨old, k e (by simp) _ he⟩, hi.at fun o q => k it (by simp) o q, hne⟩
  item := by
    intro X hP hw hK hc i pins s σ H E I hf st hg
    subst hP hw hK
    obtain ⟨⟨old, he⟩, hit, hne⟩ := st
    obtain ⟨xs, x, hq, hx⟩ := hg
    obtain ⟨its, rv, p, hz⟩ := I.tuple hq
    obtain ⟨u, hu, ru⟩ := rv.get hx
    have hel : e < s.heap.objs.size := Heap.lt_size he
    have hil : it < s.heap.objs.size := by obtain ⟨_, q, _⟩ := hit; exact Heap.lt_size q
    obtain ⟨ot, hot, hoc, n, hod⟩ := id p
    have hai : a ≠ it := fun z => by
      obtain ⟨o2, q2, q3, q4⟩ := hit
      rw [z, q2] at hot
      cases hot
      rw [q4] at hod
      cases hod
    have hea : e ≠ a := fun z => by
      rw [← z, show s.heap.get? e = _ from he] at hot
      cases hot
      cases hod
    have hi : i < its.toArray.size := by
      rw [List.size_toArray]
      exact (List.getElem?_eq_some_iff.mp hu).1
    refine wpAny_pyNext_enum_itemC (Draws.tuple (A := X.A.in1) (I.ok.hd hc) it a hai its.toArray) he ⟨hit, p⟩ hi hne (by simp [hne, hea]) fun u' h' tk hP ho hit' hT hsz hk => ?_
    obtain rfl : u' = u := by
      have hP' : its.toArray[i]? = some u' := hP
      rw [List.getElem?_toArray, hu] at hP'
      exact (Option.some.inj hP').symm
    refine ⟨_, rfl, wpAny_letOwnedTupleGo_enum (s := { s with heap := h', toks := tk + 1 }) ho fun h'' he' sb => ?_⟩
    have hT2 : h''.get? s.heap.objs.size = some { cls := .type "tuple", data := .seq #[.int (c + (i : Int)) tk, u'] } := (sb.2 _ (Nat.ne_of_gt hel)).trans hT
    have made : ObjOk X.prog X.w (upd H s.heap.objs.size (.tup [.int (c + (i : Int)), x])) h'' s.heap.objs.size (.tup [.int (c + (i : Int)), x]) :=
      ⟨by show 2 ≤ sizeLine; decide, [.int (c + (i : Int)) tk, u'], .cons ⟨_, rfl⟩ (.cons ru .nil), ⟨_, hT2, rfl, _, rfl⟩⟩
    have I1 : Inv X pins σ (upd H s.heap.objs.size (.tup [.int (c + (i : Int)), x])) { s with heap := h'', toks := tk + 1 } :=
      I.turnedNew (ch := [e, it]) (fun b ob hb q => (sb.2 b (fun z => hb (by simp [z]))).trans (hk b ob (fun z => hb (by simp [z])) (fun z => hb (by simp [z])) q)) hf (Nat.le_refl _) made
    refine ⟨.ref s.heap.objs.size, _, I1, rfl, ⟨_, x, rfl, I.hok.fresh (Nat.le_refl _), rfl, fun ys hy => by rw [I.tuple_inj hy hq]; exact hx⟩, ⟨⟨u', ?_⟩, hit'.1.at fun o q => (sb.2 it (Ne.symm hne)).trans q, hne⟩, fun b hb => ?_⟩
    · have e1 : c + ((i + 1 : Nat) : Int) = c + (i : Int) + 1 := by omega
      rw [e1]
      exact he'
    · have hlt : b < s.heap.objs.size := by
        have e' : b = e ∨ b = it := by simpa using hb
        rcases e' with rfl | rfl
        · exact hel
        · exact hil
      rw [upd_ne (Nat.ne_of_lt hlt)]
      exact (hf b hb).1
  done := by
    intro X hP hw hK hc i pins s σ H E I hf st hg
    subst hP hw hK
    obtain ⟨⟨old, he⟩, hit, hne⟩ := st
    obtain ⟨xs, hq, hx⟩ := hg
    obtain ⟨its, rv, p, hz⟩ := I.tuple hq
    obtain ⟨f0, f1, f2, f3, f4, f5⟩ := hf it (by simp)
    obtain ⟨ot, hot, hoc, n, hod⟩ := id p
    have hai : a ≠ it := fun z => by
      obtain ⟨o2, q2, q3, q4⟩ := hit
      rw [z, q2] at hot
      cases hot
      rw [q4] at hod
      cases hod
    have hi : i = its.toArray.size := by
      rw [List.size_toArray, ← rv.length]
      exact hx.symm
    rw [hi] at hit
    exact wpAny_pyNext_enum_endD (Draws.tuple (A := X.A.in1) (I.ok.hd hc) it a hai its.toArray) he ⟨hit, p⟩ fun h' eb => ⟨rfl, I.turned (t' := s.toks) (fun b o hb q => eb b o hb q) f0 f1 f3 f4 f5⟩
  self := fun A i s Q E st h => by
    obtain ⟨⟨_, he⟩, _⟩ := st
    exact wpAny_pyIter_enum he h
def iEnumTS (K : PySem.W.Frag) (ta tk : TA) : TI := fun σ H R => ta σ H fun vs H1 => tk σ H1 fun ks H2 => ∃ a xs c, vs = [.ref a] ∧ ks = [.int c] ∧ -(2 ^ 63) ≤ c ∧ c < 2 ^ 63 ∧ SqT K H2 a xs ∧ R (IteT K a c) H2
theorem pi_enumTS {X : Cx} {K : PySem.W.Frag} {e ke : Expr} {ta tk : TA} {p pos tpos kp : Pos} {elts : List Expr} {kk : Nat} (hX : X.K = K) (hg : Gl X "enumerate") (hm : X.mg "enumerate" = none) (ha : PA X [e] ta) (hk : PK X [⟨some "start", ke, kp⟩] tk)
    (he : backTo pos (starEach [e] X.env) = (false, eval e X.env) :: backTo pos (starEach [] X.env) := by rfl) (hs : (backTo pos (starEach [e] X.env)).any (·.1) = false := by rfl) :
    PI X (.Tuple elts kk tpos) (.Call (.Name "enumerate" p) [e] [⟨some "start", ke, kp⟩] pos) (iEnumTS K ta tk) := by
  subst hX
  refine ⟨fun pins s σ H R I h => ?_⟩
  refine wpAny_Call_Name_kw (ld_blt I hg hm PyProof.Rows.boot_enumerate (callWith_typeK (thn (ha.run pos pins s σ H _ I h) fun us s1 ⟨vs, H1, I1, r1, q1⟩ => thn (hk.run pos pins s1 σ H1 _ I1 q1) fun ws s2 ⟨ks, H2, I2, r2, q2⟩ => ?_) he hs))
  obtain ⟨a, xs, c, rfl, rfl, c0, c1, hq, q⟩ := q2
  obtain rfl := Vals.ref1 r1
  obtain ⟨w1, rfl, t, rfl⟩ := vals1 r2
  obtain ⟨its, rv, p', hz⟩ := I2.tuple hq
  show wpAny _ _ (call (.type "enumerate") [.ref a] [(Str.ofString "start", .int c t)]) _ _ s2
  refine enum_begins_start (begins_tuple a its.toArray) p' c0 c1 fun h' hen hit hsz hkp => wpAny_pyIter_enum hen ?_
  have I3 : Inv X pins σ H2 { s2 with heap := h' } := I2.kept (t' := s2.toks) hkp
  refine ⟨s2.heap.objs.size + 1, [s2.heap.objs.size + 1, s2.heap.objs.size], _, _, H2, rfl, I3, turn_enumT a (s2.heap.objs.size + 1) s2.heap.objs.size c, ⟨⟨.none, by rw [show c + ((0 : Nat) : Int) = c by omega]; exact hen⟩, ⟨_, hit, rfl, rfl⟩, Nat.succ_ne_self _⟩, fun b hb => ?_, q⟩
  have e' : b = s2.heap.objs.size + 1 ∨ b = s2.heap.objs.size := by simpa using hb
  have hle : s2.heap.objs.size ≤ b := by
    rcases e' with rfl | rfl
    · exact Nat.le_add_right _ _
    · exact Nat.le_refl _
  exact I2.fpOk hle (I2.hok.fresh hle)
end Ak
namespace Ak
open PySem PySem.Spec PyProof.Rows L2
/-! ### sorted ints -/
def srt (ns : List Int) : List Int := ns.mergeSort fun a b => decide (a ≤ b)
theorem srt_perm (ns : List Int) : (srt ns).Perm ns := List.mergeSort_perm _ _
theorem srt_le (ns : List Int) : (srt ns).Pairwise (· ≤ ·) := by
  have h := List.pairwise_mergeSort (le := fun (a b : Int) => decide (a ≤ b)) (fun a b c h1 h2 => by
    rw [decide_eq_true_eq] at h1 h2 ⊢
    omega) (fun a b => by
    rw [Bool.or_eq_true, decide_eq_true_eq, decide_eq_true_eq]
    omega) ns
  exact h.imp fun h1 => of_decide_eq_true h1
theorem srt_eq {ns ms : List Int} (p : ms.Perm ns) (s : ms.Pairwise (· ≤ ·)) : ms = srt ns :=
  List.Perm.eq_of_pairwise (le := fun (a b : Int) => a ≤ b) (fun a b _ _ h1 h2 => Int.le_antisymm h1 h2) s (srt_le ns) (p.trans (srt_perm ns).symm)
theorem srt_of {ns : List Int} (s : ns.Pairwise (· ≤ ·)) : srt ns = ns := (srt_eq (List.Perm.refl ns) s).symm
theorem srt_congr {ns ms : List Int} (p : ms.Perm ns) : srt ms = srt ns := srt_eq ((srt_perm ms).trans p) (srt_le ms)
theorem srt_mem {ns : List Int} {x : Int} : x ∈ srt ns ↔ x ∈ ns := (srt_perm ns).mem_iff
theorem srt_len {ns : List Int} : (srt ns).length = ns.length := (srt_perm ns).length_eq
theorem srt_filter {ns : List Int} (q : Int → Bool) : (srt ns).filter q = srt (ns.filter q) := srt_eq ((srt_perm ns).filter q) ((srt_le ns).filter q)
theorem srt_nodup {ns : List Int} (h : ns.Nodup) : (srt ns).Nodup := (srt_perm ns).nodup_iff.mpr h
/-- sorted: of a list of ints, of a dict's int keys, of any length -/
def rSortDI : List V → Hp → VK → Prop := fun xs H Q => ∃ (a : Addr) (kvs : List (Key × V)) (ks : List Int), xs = [.ref a] ∧ H a = some (.dK kvs) ∧ kvs.map (·.1) = ks.map Sum.inl ∧ ∀ (ys : List Int) (p : Addr), ys.Perm ks → ys.Pairwise (· ≤ ·) → H p = none → Q (.ref p) (upd H p (.lst (ys.map V.int)))
theorem cr_sortDI {X : Cx} (hcalm : X.calm = true) : CallR X (.builtin "sorted") rSortDI := by
  intro pins s σ H xs us Q I r q
  obtain ⟨a, kvs, ks, rfl, hd, hks, q⟩ := q
  obtain rfl := Vals.ref1 r
  obtain ⟨z, lo, vs, rel, dd⟩ := dk_rd I.hok (Or.inl hd)
  obtain ⟨ep, hat⟩ := dd.dictAt
  have hkeys : vs.map (·.1) = ks.map Sum.inl := rel.keys.symm.trans hks
  have hl : vs.length = ks.length := by
    have e := congrArg List.length hkeys
    rwa [List.length_map, List.length_map] at e
  have hz : vs.length ≤ sizeLine := by
    have e := congrArg List.length hks
    rw [List.length_map, List.length_map] at e
    omega
  refine Calls.call_function_entry PyProof.Rows.kind_sorted PyProof.Rows.plain_sorted PyProof.Rows.entry_sorted (PyProof.Rows.args_sorted1 _) ?_
  unfold Builtin.«sorted»
  refine wpAny_bind (m := checkCount "sorted" 1 1 _) (wpAny_pure ?_)
  refine wpAny_bind (PySem.W.kdu_collect (A := X.A.in1) (PySem.W.kdl_dict (knd := mixKind X.prog X.w) (kvs := vs) (ep := ep) lo) (I.ok.hd hcalm) hat hz fun h1 tk acc hk hacc => ?_)
  have hal : acc.toList.length = ks.length := by rw [Array.length_toList, hacc.1, hl]
  have hS : IntsAre acc.toList ks := ints_each hal fun j v e => by
    obtain ⟨k, x, e1, e2⟩ := hacc.2 j v (by rw [← Array.getElem?_toList]; exact e)
    have e3 : (vs.map (·.1))[j]? = some k := by rw [List.getElem?_map, e1]; rfl
    rw [hkeys, List.getElem?_map] at e3
    cases e4 : ks[j]? with
    | none => rw [e4] at e3; cases e3
    | some y =>
      rw [e4] at e3
      obtain rfl : Sum.inl y = k := Option.some.inj e3
      rcases keyIs_shape (show keyIs (Sum.inl y) v = true from e2) with ⟨i, t, ek, ev⟩ | ⟨z, t, ek, ev⟩
      · cases ek
        exact ⟨y, t, rfl, ev⟩
      · cases ek
  have I1 : Inv X pins σ H { s with heap := h1, toks := tk } := I.kept hk
  have hal2 : acc.toList.length ≤ sizeLine := by rw [hal, ← hl]; exact hz
  refine wpAny_bind (wpAny_newList ?_ hal2)
  have hoL : (h1.push (seqObj "list" acc.toList.toArray 0)).get? h1.objs.size = some (seqObj "list" acc.toList.toArray 0) := Heap.get?_push_size _ rfl
  show wpAny _ _ _ _ _ { s with heap := h1.push (seqObj "list" acc.toList.toArray 0), toks := tk }
  refine wpAny_bind (wpAny_holding (wpAny_call_entry PyProof.Rows.slot_list_sort ⟨_, hoL, rfl⟩ PyProof.Rows.entry_list_sort
    (SrtO.list_sort_ord (s := { s with heap := h1.push (seqObj "list" acc.toList.toArray 0), toks := tk }) SrtO.swo_int hoL hal2 (fun h2 => SrtO.ints_sortable hS h2) fun out g1 g2 => ⟨_, rfl, ?_⟩) (PyProof.Rows.args_list_sort _)))
  obtain ⟨k1, k2, k3⟩ := SrtO.ints_out hS g1 g2
  obtain ⟨e', he'⟩ := PyProof.Rows.sortedHeap_at (vs := acc.toList) (out := out.toArray) hoL
  have hlen : ((out.map SrtO.iv).map V.int).length ≤ sizeLine := by
    rw [List.length_map, k2.length_eq, ← hl]
    exact hz
  refine wpAny_pure ⟨_, rfl, .ref h1.objs.size, upd H h1.objs.size (.lst ((out.map SrtO.iv).map V.int)), I1.laid (t' := tk) (fun b u e => ?_) (Nat.le_refl _)
    (show ObjOk X.prog X.w _ _ _ (.lst ((out.map SrtO.iv).map V.int)) from ⟨hlen, out, e', vals_of_ints k1, he'⟩), rfl, q _ _ k2 k3 (I1.hok.fresh (Nat.le_refl _))⟩
  have hb : b < h1.objs.size := Heap.lt_size e
  rw [PyProof.Rows.sortedHeap_old (Nat.ne_of_lt hb) (by rw [size_push']; exact Nat.lt_succ_of_lt hb)]
  exact Heap.get?_push_of_some _ e
def rSortX (K : PySem.W.Frag) : List V → Hp → VK → Prop := fun xs H Q => rSortedI K xs H Q ∨ rSortDI xs H Q
theorem cr_sortK {X : Cx} {K : PySem.W.Frag} (h : X.K = K) (hc : X.calm = true) : CallR X (.builtin "sorted") (rSortX K) := by
  subst h
  exact CallR.or cr_sortedI (cr_sortDI hc)
/-! ### dicts whose keys are ints, each True -/
def sureD (ks : List Int) : List (Key × V) := ks.map fun k => (Sum.inl k, V.bl true)
section
variable {K : PySem.W.Frag} {H : Hp} {Q : VK} {a : Addr} {ns ks : List Int} {k : Int} {R : Hp → Prop}
theorem w_sortL (e : SqL K H a (ns.map V.int)) (h : ∀ p, H p = none → Q (.ref p) (upd H p (.lst ((srt ns).map V.int)))) : rSortX K [.ref a] H Q := Or.inl ⟨a, ns, rfl, e, fun ys p hp hs n => by rw [srt_eq hp hs]; exact h p n⟩
theorem w_sortO (e : H a = some (.lst (ns.map V.int))) (h : ∀ p, H p = none → Q (.ref p) (upd H p (.lst ((srt ns).map V.int)))) : rSortX K [.ref a] H Q := w_sortL (SqL.of e) h
theorem sureD_keys : (sureD ks).map (·.1) = ks.map Sum.inl := by unfold sureD; rw [List.map_map]; rfl
theorem w_sortD (e : H a = some (.dK (sureD ks))) (h : ∀ p, H p = none → Q (.ref p) (upd H p (.lst ((srt ks).map V.int)))) : rSortX K [.ref a] H Q := Or.inr ⟨a, _, ks, rfl, e, sureD_keys, fun ys p hp hs n => by rw [srt_eq hp hs]; exact h p n⟩
theorem val_sure : (valV (sureD ks) (Sum.inl k)).isSome = decide (k ∈ ks) := by
  unfold sureD
  induction ks with
  | nil => rfl
  | cons j r ih =>
    rw [List.map_cons]
    by_cases e : j = k
    · subst e
      rw [val_hd, decide_eq_true List.mem_cons_self]
      rfl
    · rw [val_tl (fun z => e (Sum.inl.inj z)), ih]
      by_cases m : k ∈ r
      · rw [decide_eq_true m, decide_eq_true (List.mem_cons_of_mem _ m)]
      · rw [decide_eq_false m, decide_eq_false (fun z => (List.mem_cons.mp z).elim (fun z => e z.symm) m)]
theorem sure_put (n : k ∉ ks) : putK (sureD ks) (Sum.inl k) (.bl true) = sureD (ks ++ [k]) := by
  rw [putK_new]
  · unfold sureD
    rw [List.map_append]
    rfl
  · rw [sureD_keys]
    intro m
    obtain ⟨j, hj, e⟩ := List.mem_map.mp m
    exact n (Sum.inl.inj e ▸ hj)
def kDNot (y x : V) (H : Hp) (Q : VK) : Prop := ∃ a o, x = .ref a ∧ DGet H a y o ∧ Q (.bl (!o.isSome)) H
theorem w_dnot {ty td : TE} {σ : L2.St} (h : ty σ H fun y H1 => td σ H1 fun x H2 => kDNot y x H2 Q) : tDNotIn ty td σ H Q := h
theorem w_dnotS (e : H a = some (.dK (sureD ks))) (h : Q (.bl (!decide (k ∈ ks))) H) : kDNot (.int k) (.ref a) H Q := ⟨a, _, rfl, DGet.k (k := Sum.inl k) e, by rw [val_sure]; exact h⟩
theorem sureD_len : (sureD ks).length = ks.length := by unfold sureD; rw [List.length_map]
theorem w_dputN (e : H a = some (.dK (sureD ks))) (n : k ∉ ks) (l : ks.length < sizeLine) (h : R (upd H a (.dK (sureD (ks ++ [k]))))) : kDPut (.bl true) (.ref a) (.int k) H R := w_dputI e (by rw [sureD_len]; exact l) (by rw [sure_put n]; exact h)
end
/-! ### o.f += e -/
section
variable {K : PySem.W.Frag} {σ : L2.St} {H : Hp} {D : Ends} {ta tv : TE} {rd : V → V → Hp → VK → Prop} {f : Str} {x v : V} {a C dx : Addr} {fs : List (Str × V)} {i j : Int} {Q : VK}
def kFA (K : PySem.W.Frag) (f : Str) (tv : TE) (rd : V → V → Hp → VK → Prop) (D : Ends) (σ : L2.St) (x : V) (H1 : Hp) : Prop := ∃ a C dx fs v, x = .ref a ∧ H1 a = some (.ins C dx fs) ∧ Cls K C ∧ NoAttr K C f ∧ fs.lookup f = some v ∧
  tv σ H1 fun y H2 => rd v y H2 fun z H3 => ∃ dx' fs', H3 a = some (.ins C dx' fs') ∧ fs'.length < 1000 ∧ D.nx σ (upd H3 a (.ins C dx' (putF f z fs')))
def kFS (f : Str) (a C : Addr) (D : Ends) (σ : L2.St) (z : V) (H3 : Hp) : Prop := ∃ dx' fs', H3 a = some (.ins C dx' fs') ∧ fs'.length < 1000 ∧ D.nx σ (upd H3 a (.ins C dx' (putF f z fs')))
theorem w_fldaug (h : ta σ H fun x H1 => kFA K f tv rd D σ x H1) : sFldAug K ta tv rd f D σ H := h
theorem w_fa (e : H a = some (.ins C dx fs)) (c : Cls K C) (nn : NoAttr K C f) (l : fs.lookup f = some v) (h : tv σ H fun y H2 => rd v y H2 fun z H3 => kFS f a C D σ z H3) : kFA K f tv rd D σ (.ref a) H := ⟨a, C, dx, fs, v, rfl, e, c, nn, l, h⟩
theorem w_fs {z : V} {fs' : List (Str × V)} (e : H a = some (.ins C dx fs)) (l : fs.length < 1000) (p : putF f z fs = fs') (h : D.nx σ (upd H a (.ins C dx fs'))) : kFS f a C D σ z H := ⟨dx, fs, e, l, by rw [p]; exact h⟩
theorem w_addI (h : Q (.int (i + j)) H) : rAdd (.int i) (.int j) H Q := ⟨i, j, rfl, rfl, h⟩
theorem w_subI (h : Q (.int (i - j)) H) : rSub (.int i) (.int j) H Q := ⟨i, j, rfl, rfl, h⟩
end
/-! ### comprehensions over enumerate(a tuple, start=c) -/
section
variable {K : PySem.W.Frag} {σ : L2.St} {H : Hp} {Q : VK} {a : Addr} {xs : List V} {g : TG} {tt : TT} {te : TE} {ta tk : TA} {vs : List Nat} {c : Int}
def kLcE (K : PySem.W.Frag) (g : TG) (tt : TT) (te : TE) (vs : List Nat) (σ : L2.St) (ws ks : List V) (H1 : Hp) (Q : VK) : Prop := ∃ a xs c, ws = [.ref a] ∧ ks = [.int c] ∧ -(2 ^ 63) ≤ c ∧ c < 2 ^ 63 ∧ SqT K H1 a xs ∧ ∀ D, H1 D = none → ∃ W : Nat → Nat → Hp → Prop, (∃ m, W 0 m (upd H1 D (.lst []))) ∧ ∀ i m H, W i m H →
  ((IteT K a c).stop i H ∧ Q (.ref D) H) ∨ ((IteT K a c).go i H ∧ ∃ Nx : Hp → Prop, (∀ H', Nx H' → ∃ m', m' < m ∧ W (i + 1) m' H') ∧ ∀ x H', (IteT K a c).yld i H x H' → g x (wipe σ vs) H' fun σ2 H2 => wipe σ2 vs = wipe σ vs ∧ tt σ2 H2 fun b H3 =>
    if b = true then te σ2 H3 fun y H4 => ∃ acc, H4 D = some (.lst acc) ∧ acc.length < sizeLine ∧ Nx (upd H4 D (.lst (acc ++ [y]))) else Nx H3)
theorem w_lcE (h : ta σ H fun ws H1 => tk σ H1 fun ks H2 => kLcE K g tt te vs σ ws ks H2 Q) : tLc (iEnumTS K ta tk) g tt te vs σ H Q := h
theorem l_lcE (e : SqT K H a xs) (c0 : -(2 ^ 63) ≤ c) (c1 : c < 2 ^ 63) (out : Nat → List V) (o0 : out 0 = [])
    (hs : ∀ D i x T H', H D = none → xs[i]? = some x → Keep [] H H' → H' D = some (.lst (out i)) → H' T = none → LcTurn H g tt te vs σ D out i (.ref T) (upd H' T (.tup [.int (c + (i : Int)), x])))
    (hd : ∀ D H', H D = none → Keep [] H H' → H' D = some (.lst (out xs.length)) → Q (.ref D) H') : kLcE K g tt te vs σ [.ref a] [.int c] H Q := by
  refine ⟨a, xs, c, rfl, rfl, c0, c1, e, fun D hD => ⟨fun i m H' => PvOf H D out i H' ∧ m + i = xs.length, ⟨xs.length, ⟨Keep.refl.own hD, by rw [upd_same, o0]⟩, rfl⟩, fun i m H' ⟨pv, hm⟩ => ?_⟩⟩
  have eH : SqT K H' a xs := pv.1.seqT nin_nil e
  by_cases hi : i < xs.length
  · refine Or.inr ⟨⟨xs, xs[i], eH, List.getElem?_eq_getElem hi⟩, PvOf H D out (i + 1), fun H2 q => ⟨m - 1, by omega, q, by omega⟩, fun x H2 hy => ?_⟩
    obtain ⟨T, y, rfl, nT, rfl, hx⟩ := hy
    exact hs D i y T H' hD (hx xs eH) pv.1 pv.2 nT
  · obtain rfl : i = xs.length := by omega
    exact Or.inl ⟨⟨xs, eH, rfl⟩, hd D H' hD pv.1 pv.2⟩
end
/-! for over a tuple -/
section
variable {K : PySem.W.Frag} {σ : L2.St} {H : Hp} {a : Addr} {xs : List V} {g : TG} {t : TS} {D : Ends} {te : TE} {Q : VK} {i : Int}
def kForT (K : PySem.W.Frag) (g : TG) (t : TS) (D : Ends) (σ : L2.St) (x : V) (H1 : Hp) : Prop := ∃ a, x = .ref a ∧ (∃ xs, SqT K H1 a xs) ∧ ∃ W : Nat → Nat → L2.St → Hp → Prop, (∃ m, W 0 m σ H1) ∧ ∀ i m σ H, W i m σ H →
      ((Itt K a).stop i H ∧ D.nx σ H) ∨ ((Itt K a).go i H ∧ ∃ N : L2.St → Hp → Prop, (∀ σ' H', N σ' H' → ∃ m', m' < m ∧ W (i + 1) m' σ' H') ∧ ∀ x H', (Itt K a).yld i H x H' → g x σ H' fun σ2 H2 => t { D with nx := N, ct := N, bk := D.nx } σ2 H2)
theorem w_forTup (h : te σ H fun x H1 => kForT K g t D σ x H1) : tFor (iTup K te) g t D σ H := h
theorem l_forTup (e : SqT K H a xs) (Pv : Nat → L2.St → Hp → Prop) (h0 : Pv 0 σ H) (hl : ∀ i σ' H', i ≤ xs.length → Pv i σ' H' → SqT K H' a xs)
    (hs : ∀ i x σ' H', xs[i]? = some x → Pv i σ' H' → g x σ' H' fun σ2 H2 => t { D with nx := Pv (i + 1), ct := Pv (i + 1), bk := D.nx } σ2 H2) (hd : ∀ σ' H', Pv xs.length σ' H' → D.nx σ' H') : kForT K g t D σ (.ref a) H :=
  ⟨a, rfl, ⟨xs, e⟩, for_tup Pv h0 hl hs hd⟩
end
theorem w_dnewK {σ : L2.St} {H : Hp} {Q : VK} (h : ∀ p, H p = none → Q (.ref p) (upd H p (.dK []))) : tDNewK σ H Q := h
end Ak
namespace Ak
open PySem PySem.Spec PyProof.Rows L2
/-! ### slices -/
def rSlX (K : PySem.W.Frag) : V → Option Int → Option Int → Hp → VK → Prop := fun x lo hi H Q => rSlL K x lo hi H Q ∨ rSlS x lo hi H Q
theorem sl_K {X : Cx} {K : PySem.W.Frag} (h : X.K = K) : SlR X (rSlX K) := by
  subst h
  intro pins s σ H x v vl vu lo hi sl Q I rx h1 h2 h3 q
  rcases q with q | q
  · exact sl_list pins s σ H x v vl vu lo hi sl Q I rx h1 h2 h3 q
  · exact sl_str pins s σ H x v vl vu lo hi sl Q I rx h1 h2 h3 q
section
variable {K : PySem.W.Frag} {σ : L2.St} {H : Hp} {Q : VK} {te : TE} {tl th : TO} {r : V → Option Int → Option Int → Hp → VK → Prop} {R : Option Int → Hp → Prop} {i j : Int} {a : Addr} {xs ys : List V} {S : Hp → Prop}
theorem w_slice (h : te σ H fun x H1 => tl σ H1 fun l H2 => th σ H2 fun u H3 => r x l u H3 Q) : tSl r te tl th σ H Q := h
theorem w_noP (h : R none H) : tNoPart σ H R := h
theorem w_part (h : te σ H fun x H1 => ∃ i, x = .int i ∧ R (some i) H1) : tPart te σ H R := h
theorem w_isI {R : Int → Prop} (h : R i) : ∃ j, V.int i = .int j ∧ R j := ⟨i, rfl, h⟩
theorem cut_take (h : 0 ≤ i) : cutV xs none (some i) = xs.take i.toNat := by
  unfold cutV HT.sIx
  simp only [List.drop_zero, Nat.sub_zero]
  rw [if_neg (by omega)]
  by_cases q : i.toNat ≤ xs.length
  · rw [Nat.min_eq_left q]
  · rw [Nat.min_eq_right (by omega), List.take_length, List.take_of_length_le (by omega)]
theorem cut_drop (h : 0 ≤ i) : cutV xs (some i) none = xs.drop i.toNat := by
  unfold cutV HT.sIx
  simp only []
  rw [if_neg (by omega)]
  by_cases q : i.toNat ≤ xs.length
  · rw [Nat.min_eq_left q, List.take_of_length_le (by rw [List.length_drop]; omega)]
  · rw [Nat.min_eq_right (by omega), List.drop_length, List.drop_of_length_le (by omega), List.take_nil]
theorem w_slTake (e : SqL K H a xs) (i0 : 0 ≤ i) (h : ∀ p, H p = none → Q (.ref p) (upd H p (.lst (xs.take i.toNat)))) : rSlX K (.ref a) none (some i) H Q := Or.inl ⟨a, xs, rfl, e, by rw [cut_take i0]; exact h⟩
theorem w_slDrop (e : SqL K H a xs) (i0 : 0 ≤ i) (h : ∀ p, H p = none → Q (.ref p) (upd H p (.lst (xs.drop i.toNat)))) : rSlX K (.ref a) (some i) none H Q := Or.inl ⟨a, xs, rfl, e, by rw [cut_drop i0]; exact h⟩
/-! ### extend -/
theorem w_ext {b : Addr} (e : H a = some (.lst xs)) (e2 : H b = some (.lst ys)) (l : xs.length + ys.length ≤ sizeLine) (h : Q .non (upd H a (.lst (xs ++ ys)))) : rExtend (.ref a) [.ref b] H Q := ⟨a, b, xs, ys, rfl, rfl, e, e2, l, h⟩
end
/-! ### dicts of int keys, each with a value by a function -/
def dOf (ks : List Int) (f : Int → V) : List (Key × V) := ks.map fun k => (Sum.inl k, f k)
section
variable {K : PySem.W.Frag} {H : Hp} {Q : VK} {a : Addr} {ns ks : List Int} {k : Int} {R : Hp → Prop} {f g : Int → V} {v x : V} {σ : L2.St} {D : Ends} {td ty : TE}
theorem dOf_keys : (dOf ks f).map (·.1) = ks.map Sum.inl := by unfold dOf; rw [List.map_map]; rfl
theorem dOf_len : (dOf ks f).length = ks.length := by unfold dOf; rw [List.length_map]
theorem dOf_congr (h : ∀ k, k ∈ ks → f k = g k) : dOf ks f = dOf ks g := by
  unfold dOf
  exact List.map_congr_left fun k hk => by rw [h k hk]
theorem val_dOf (h : k ∈ ks) : valV (dOf ks f) (Sum.inl k) = some (f k) := by
  unfold dOf
  induction ks with
  | nil => exact absurd h List.not_mem_nil
  | cons j r ih =>
    rw [List.map_cons]
    by_cases e : j = k
    · subst e
      exact val_hd
    · rw [val_tl (fun z => e (Sum.inl.inj z))]
      exact ih ((List.mem_cons.mp h).elim (fun z => absurd z.symm e) id)
theorem val_dOfN (h : k ∉ ks) : valV (dOf ks f) (Sum.inl k) = none := by
  unfold dOf
  induction ks with
  | nil => rfl
  | cons j r ih =>
    rw [List.map_cons, val_tl (fun z => h (by rw [Sum.inl.inj z]; exact List.mem_cons_self))]
    exact ih fun m => h (List.mem_cons_of_mem _ m)
theorem val_dOfS : (valV (dOf ks f) (Sum.inl k)).isSome = decide (k ∈ ks) := by
  by_cases h : k ∈ ks
  · rw [val_dOf h, decide_eq_true h]; rfl
  · rw [val_dOfN h, decide_eq_false h]; rfl
theorem put_dOf (h : k ∈ ks) : putK (dOf ks f) (Sum.inl k) v = dOf ks fun q => if q = k then v else f q := by
  unfold putK
  have e : ((dOf ks f).any fun kv => decide (kv.1 = Sum.inl k)) = true := by
    rw [List.any_eq_true]
    exact ⟨(Sum.inl k, f k), List.mem_map.mpr ⟨k, h, rfl⟩, decide_eq_true rfl⟩
  rw [if_pos e]
  unfold dOf
  rw [List.map_map]
  refine List.map_congr_left fun q _ => ?_
  show (if (Sum.inl q : Key) = Sum.inl k then ((Sum.inl q : Key), v) else (Sum.inl q, f q)) = (Sum.inl q, if q = k then v else f q)
  by_cases z : q = k
  · subst z; rw [if_pos rfl, if_pos rfl]
  · rw [if_neg (fun y => z (Sum.inl.inj y)), if_neg z]
theorem put_dOfN (h : k ∉ ks) : putK (dOf ks f) (Sum.inl k) v = dOf ks f ++ [(Sum.inl k, v)] := putK_new (by
  rw [dOf_keys]
  intro m
  obtain ⟨j, hj, e⟩ := List.mem_map.mp m
  exact h (Sum.inl.inj e ▸ hj))
theorem dOf_app : dOf (ns ++ ks) f = dOf ns f ++ dOf ks f := by unfold dOf; rw [List.map_append]
theorem drop_dOf : dropK (dOf ks f) (Sum.inl k) = dOf (ks.filter fun q => !decide (q = k)) f := by
  unfold dropK dOf
  rw [List.filter_map]
  congr 1
  refine List.filter_congr fun q _ => ?_
  show decide ((Sum.inl q : Key) ≠ Sum.inl k) = !decide (q = k)
  by_cases z : q = k
  · subst z; simp
  · simp [z]
theorem w_dgetO (e : H a = some (.dK (dOf ks f))) (h : k ∈ ks) (q : Q (f k) H) : kDGet (.ref a) (.int k) H Q := w_dgetI e (val_dOf h) q
theorem w_dputO (e : H a = some (.dK (dOf ks f))) (l : ks.length < sizeLine) (h : k ∈ ks) (q : R (upd H a (.dK (dOf ks fun q => if q = k then v else f q)))) : kDPut v (.ref a) (.int k) H R := w_dputI e (by rw [dOf_len]; exact l) (by rw [put_dOf h]; exact q)
theorem w_dputON (e : H a = some (.dK (dOf ks f))) (l : ks.length < sizeLine) (h : k ∉ ks) (hf : ∀ q, q ∈ ks → g q = f q) (hv : g k = v) (q : R (upd H a (.dK (dOf (ks ++ [k]) g)))) : kDPut v (.ref a) (.int k) H R :=
  w_dputI e (by rw [dOf_len]; exact l) (by
    rw [put_dOfN h]
    rw [dOf_app, dOf_congr hf, show dOf [k] g = [(Sum.inl k, v)] by unfold dOf; rw [← hv]; rfl] at q
    exact q)
def kDIn (y x : V) (H : Hp) (Q : VK) : Prop := ∃ a o, x = .ref a ∧ DGet H a y o ∧ Q (.bl o.isSome) H
theorem w_din (h : ty σ H fun y H1 => td σ H1 fun x H2 => kDIn y x H2 Q) : tDIn ty td σ H Q := h
theorem w_dinO (e : H a = some (.dK (dOf ks f))) (h : Q (.bl (decide (k ∈ ks))) H) : kDIn (.int k) (.ref a) H Q := ⟨a, _, rfl, DGet.k (k := Sum.inl k) e, by rw [val_dOfS]; exact h⟩
def kDDel (x y : V) (H : Hp) (R : Hp → Prop) : Prop := ∃ a kvs k, x = .ref a ∧ H a = some (.dK kvs) ∧ y = kV k ∧ (valV kvs k).isSome = true ∧ R (upd H a (.dK (dropK kvs k)))
theorem w_ddel (h : td σ H fun x H1 => ty σ H1 fun y H2 => kDDel x y H2 (D.nx σ)) : sDDel td ty D σ H := h
theorem w_ddelO (e : H a = some (.dK (dOf ks f))) (h : k ∈ ks) (q : R (upd H a (.dK (dOf (ks.filter fun q => !decide (q = k)) f)))) : kDDel (.ref a) (.int k) H R :=
  ⟨a, _, Sum.inl k, rfl, e, rfl, by rw [val_dOfS, decide_eq_true h], by rw [drop_dOf]; exact q⟩
theorem w_sortO2 (e : H a = some (.dK (dOf ks f))) (h : ∀ p, H p = none → Q (.ref p) (upd H p (.lst ((srt ks).map V.int)))) : rSortX K [.ref a] H Q := Or.inr ⟨a, _, ks, rfl, e, dOf_keys, fun ys p hp hs n => by rw [srt_eq hp hs]; exact h p n⟩
end
/-! ### the ints 0 .. n - 1 -/
def upTo (n : Nat) : List Int := (List.range n).map fun k : Nat => ((k : Nat) : Int)
theorem upTo_mem {n : Nat} {x : Int} : x ∈ upTo n ↔ 0 ≤ x ∧ x < n := by
  unfold upTo
  rw [List.mem_map]
  constructor
  · rintro ⟨k, hk, rfl⟩
    have := List.mem_range.mp hk
    omega
  · rintro ⟨h0, h1⟩
    exact ⟨x.toNat, List.mem_range.mpr (by omega), by omega⟩
theorem upTo_succ (n : Nat) : upTo (n + 1) = upTo n ++ [(n : Int)] := by unfold upTo; rw [List.range_succ, List.map_append]; rfl
theorem upTo_len (n : Nat) : (upTo n).length = n := by unfold upTo; rw [List.length_map, List.length_range]
theorem upTo_lt (n : Nat) : (upTo n).Pairwise (· < ·) := by
  unfold upTo
  rw [List.pairwise_map]
  exact List.pairwise_lt_range.imp fun h => Int.ofNat_lt.mpr h
theorem upTo_srt {n : Nat} {p : Int → Bool} : srt ((upTo n).filter p) = (upTo n).filter p := srt_of (((upTo_lt n).filter p).imp fun h => by omega)
/-- a list of ints that are told, in a list or a tuple -/
theorem w_inIT {K : PySem.W.Frag} {H : Hp} {Q : VK} {a : Addr} {i : Int} {ns : List Int} (e : SqT K H a (ns.map V.int)) (h : Q (.bl (decide (i ∈ ns))) H) : rInX K (.int i) (.ref a) H Q := w_inT e rfl (flat_ints ns) (by rw [inV_ints]; exact h)
/-! ### lists of ints that are the same -/
theorem dp_ints {K : PySem.W.Frag} {H : Hp} : ∀ {ns : List Int}, DpAll K H (ns.map V.int) (ns.map PyData.int)
  | [] => .nil
  | n :: r => .cons (.int n) dp_ints
theorem eqvAll_ints : ∀ ns : List Int, PyData.eqvAll (ns.map PyData.int) (ns.map PyData.int) = true
  | [] => by simp [PyData.eqvAll]
  | n :: r => by simp [PyData.eqvAll, PyData.eqv, eqvAll_ints r]
theorem eqv_ints (ns : List Int) : PyData.eqv (.list (ns.map PyData.int)) (.list (ns.map PyData.int)) = true := by
  simp [PyData.eqv, eqvAll_ints]
theorem depthAll_ints : ∀ ns : List Int, PyData.depthAll (ns.map PyData.int) ≤ 1
  | [] => by simp [PyData.depthAll]
  | n :: r => by
    have := depthAll_ints r
    simp [PyData.depthAll, PyData.depth]; omega
theorem layAll_ints : ∀ ns : List Int, PyData.canLayAll0 (ns.map PyData.int) = true
  | [] => by simp [PyData.canLayAll0]
  | n :: r => by simp [PyData.canLayAll0, PyData.canLay0, layAll_ints r]
theorem shaped_ints (ns : List Int) : SeqAt.shaped (.list (ns.map PyData.int)) = true := by
  unfold SeqAt.shaped
  simp [PyData.canLay0, PyData.depth, layAll_ints]
  have := depthAll_ints ns
  omega
theorem w_neLI {K : PySem.W.Frag} {H : Hp} {Q : VK} {a b : Addr} {ns : List Int} (ha : SqL K H a (ns.map V.int)) (hb : SqL K H b (ns.map V.int)) (h : Q (.bl false) H) : rNeX K (.ref a) (.ref b) H Q :=
  w_neD (Dp.lst ha dp_ints) (Dp.lst hb dp_ints) (shaped_ints ns) (shaped_ints ns) (by rw [eqv_ints]; exact h)
theorem atI_last {α : Type} {xs : List α} {x : α} (h : xs[xs.length - 1]? = some x) : atI xs (-1) = some x := by
  have hl : 0 < xs.length := by
    have := (List.getElem?_eq_some_iff.mp h).1
    omega
  unfold atI ixN
  rw [if_neg (by omega), if_pos (by omega)]
  show xs[_]? = some x
  rw [← h]
  congr 1
  omega
theorem eqv_intsE : ∀ ns : List Int, PyData.eqv (.list (ns.map PyData.int)) (.list []) = decide (ns = [])
  | [] => by simp [PyData.eqv, PyData.eqvAll]
  | n :: r => by simp [PyData.eqv, PyData.eqvAll]
theorem w_neE {K : PySem.W.Frag} {H : Hp} {Q : VK} {a b : Addr} {ns : List Int} (ha : SqL K H a (ns.map V.int)) (hb : SqL K H b []) (h : Q (.bl (!decide (ns = []))) H) : rNeX K (.ref a) (.ref b) H Q :=
  w_neD (Dp.lst ha dp_ints) (Dp.lst hb .nil) (shaped_ints ns) (shaped_ints []) (by rw [eqv_intsE]; exact h)
theorem w_eqE {K : PySem.W.Frag} {H : Hp} {Q : VK} {a b : Addr} {ns : List Int} (ha : SqL K H a (ns.map V.int)) (hb : SqL K H b []) (h : Q (.bl (decide (ns = []))) H) : rEqX K (.ref a) (.ref b) H Q :=
  w_eqD (Dp.lst ha dp_ints) (Dp.lst hb .nil) (shaped_ints ns) (shaped_ints []) (by rw [eqv_intsE]; exact h)
theorem w_chain {r r' : R2} {ta tb tc : TE} {σ : L2.St} {H : Hp} {Q : VK} (h : ta σ H fun x H1 => tb σ H1 fun y H2 => r x y H2 fun z H3 => ∃ k, z = V.bl k ∧ if k = true then tc σ H3 fun w' H4 => r' y w' H4 Q else Q (V.bl false) H3) : tChain r r' ta tb tc σ H Q := h
theorem w_par {i j : Nat} {ta : TA} {D : Ends} {σ : L2.St} {H : Hp} (h : ta σ H fun vs H1 => ∃ v w, vs = [v, w] ∧ D.nx ((List.set σ i (some v)).set j (some w)) H1) : tPar i j ta D σ H := h
theorem w_par2 {x y : V} {R : V → V → Prop} (h : R x y) : ∃ v w, [x, y] = [v, w] ∧ R v w := ⟨x, y, rfl, h⟩
def pdA : V → PyData
  | .str s => .str s
  | .int i => .int i
  | .bl b => .bool b
  | _ => .none
def atomV : V → Bool
  | .str s => PyData.strOk s
  | .int _ => true
  | _ => false
theorem dp_atom {K : PySem.W.Frag} {H : Hp} {x : V} (h : atomV x = true) : Dp K H x (pdA x) := by
  cases x with
  | str s => exact .str s
  | int i => exact .int i
  | _ => cases h
theorem dp_atoms {K : PySem.W.Frag} {H : Hp} : ∀ {xs : List V}, xs.all atomV = true → DpAll K H xs (xs.map pdA)
  | [], _ => .nil
  | x :: r, h => by
    rw [List.all_cons, Bool.and_eq_true] at h
    exact .cons (dp_atom h.1) (dp_atoms h.2)
theorem eqv_atom {x y : V} (hx : atomV x = true) (hy : atomV y = true) : PyData.eqv (pdA x) (pdA y) = decide (x = y) := by
  cases x <;> cases y <;> first | (cases hx; done) | (cases hy; done) | skip
  all_goals simp [pdA, PyData.eqv]
  all_goals first | rfl | (rw [Bool.eq_iff_iff]; simp)
theorem eqvAll_atoms : ∀ {xs ys : List V}, xs.all atomV = true → ys.all atomV = true → PyData.eqvAll (xs.map pdA) (ys.map pdA) = decide (xs = ys)
  | [], [], _, _ => by simp [PyData.eqvAll]
  | [], _ :: _, _, _ => by simp [PyData.eqvAll]
  | _ :: _, [], _, _ => by simp [PyData.eqvAll]
  | x :: r, y :: q, hx, hy => by
    rw [List.all_cons, Bool.and_eq_true] at hx hy
    simp [PyData.eqvAll, eqv_atom hx.1 hy.1, eqvAll_atoms hx.2 hy.2]
theorem depthAll_atoms : ∀ {xs : List V}, xs.all atomV = true → PyData.depthAll (xs.map pdA) ≤ 1
  | [], _ => by simp [PyData.depthAll]
  | x :: r, h => by
    rw [List.all_cons, Bool.and_eq_true] at h
    have := depthAll_atoms h.2
    have : PyData.depth (pdA x) ≤ 1 := by
      cases x <;> first | (cases h.1; done) | skip
      all_goals simp [pdA, PyData.depth]
    simp [PyData.depthAll]
    omega
theorem layAll_atoms : ∀ {xs : List V}, xs.all atomV = true → PyData.canLayAll0 (xs.map pdA) = true
  | [], _ => by simp [PyData.canLayAll0]
  | x :: r, h => by
    rw [List.all_cons, Bool.and_eq_true] at h
    have : PyData.canLay0 (pdA x) = true := by
      cases x <;> first | (cases h.1; done) | skip
      all_goals first | (simp [pdA, PyData.canLay0]; done) | (simpa [pdA, PyData.canLay0, atomV] using h.1)
    simp [PyData.canLayAll0, this, layAll_atoms h.2]
theorem shaped_atoms {xs : List V} (h : xs.all atomV = true) : SeqAt.shaped (.tuple (xs.map pdA)) = true := by
  unfold SeqAt.shaped
  simp [PyData.canLay0, PyData.depth, layAll_atoms h]
  have := depthAll_atoms h
  omega
theorem w_eqT {K : PySem.W.Frag} {H : Hp} {Q : VK} {a b : Addr} {xs ys : List V} (ha : SqT K H a xs) (hb : SqT K H b ys) (hx : xs.all atomV = true) (hy : ys.all atomV = true) (h : Q (.bl (decide (xs = ys))) H) : rEqX K (.ref a) (.ref b) H Q :=
  w_eqD (Dp.tup ha (dp_atoms hx)) (Dp.tup hb (dp_atoms hy)) (shaped_atoms hx) (shaped_atoms hy) (by
    have e : PyData.eqv (.tuple (xs.map pdA)) (.tuple (ys.map pdA)) = decide (xs = ys) := by simp [PyData.eqv, eqvAll_atoms hx hy]
    rw [e]; exact h)
theorem w_neT {K : PySem.W.Frag} {H : Hp} {Q : VK} {a b : Addr} {xs ys : List V} (ha : SqT K H a xs) (hb : SqT K H b ys) (hx : xs.all atomV = true) (hy : ys.all atomV = true) (h : Q (.bl (!decide (xs = ys))) H) : rNeX K (.ref a) (.ref b) H Q :=
  w_neD (Dp.tup ha (dp_atoms hx)) (Dp.tup hb (dp_atoms hy)) (shaped_atoms hx) (shaped_atoms hy) (by
    have e : PyData.eqv (.tuple (xs.map pdA)) (.tuple (ys.map pdA)) = decide (xs = ys) := by simp [PyData.eqv, eqvAll_atoms hx hy]
    rw [e]; exact h)
/-! ### for .. in enumerate(a list) -/
section
variable {K : PySem.W.Frag} {σ : L2.St} {H : Hp} {a : Addr} {xs : List V} {g : TG} {t : TS} {D : Ends} {ta : TA}
def kForEn (K : PySem.W.Frag) (g : TG) (t : TS) (D : Ends) (σ : L2.St) (vs : List V) (H1 : Hp) : Prop := ∃ a xs, vs = [V.ref a] ∧ SqL K H1 a xs ∧ ∃ W : Nat → Nat → L2.St → Hp → Prop, (∃ m, W 0 m σ H1) ∧ ∀ i m σ H, W i m σ H →
      ((Ite K a).stop i H ∧ D.nx σ H) ∨ ((Ite K a).go i H ∧ ∃ N : L2.St → Hp → Prop, (∀ σ' H', N σ' H' → ∃ m', m' < m ∧ W (i + 1) m' σ' H') ∧ ∀ x H', (Ite K a).yld i H x H' → g x σ H' fun σ2 H2 => t { D with nx := N, ct := N, bk := D.nx } σ2 H2)
theorem w_forEn (h : ta σ H fun vs H1 => kForEn K g t D σ vs H1) : tFor (iEnum K ta) g t D σ H := h
theorem l_forEn (e : SqL K H a xs) (Pv : Nat → L2.St → Hp → Prop) (h0 : Pv 0 σ H) (hl : ∀ i σ' H', Pv i σ' H' → SqL K H' a xs)
    (hs : ∀ i x T σ' H', xs[i]? = some x → Pv i σ' H' → H' T = none → g (.ref T) σ' (upd H' T (.tup [.int (i : Nat), x])) fun σ2 H2 => t { D with nx := Pv (i + 1), ct := Pv (i + 1), bk := D.nx } σ2 H2) (hd : ∀ σ' H', Pv xs.length σ' H' → D.nx σ' H') : kForEn K g t D σ [.ref a] H := by
  refine ⟨a, xs, rfl, e, fun i m σ' H' => Pv i σ' H' ∧ m + i = xs.length, ⟨xs.length, h0, rfl⟩, fun i m σ' H' ⟨pv, hm⟩ => ?_⟩
  have eH := hl i σ' H' pv
  by_cases hi : i < xs.length
  · refine Or.inr ⟨⟨xs, xs[i], eH, List.getElem?_eq_getElem hi⟩, Pv (i + 1), fun σ2 H2 q => ⟨m - 1, by omega, q, by omega⟩, fun x H2 hy => ?_⟩
    obtain ⟨T, y, rfl, nT, rfl, hx⟩ := hy
    exact hs i y T σ' H' (hx xs eH) pv nT
  · obtain rfl : i = xs.length := by omega
    exact Or.inl ⟨⟨xs, eH, Nat.le_refl _⟩, hd _ _ pv⟩
end
theorem pe_gint {X : Cx} {x : Str} {i : Int} {t : Tok} {pos : Pos} (hg : Gl X x) (hm : X.mg x = some (.int i t)) (hd : (x == ("__debug__" : Str)) = false := by decide) : PE X (.Name x pos) (tC (.int i)) := pe_glob (v := .int i) hg hm ⟨_, rfl⟩ hd
end Ak
local macro_rules | `(tactic| walk_at "as") => `(tactic| with_reducible assumption)
local macro_rules | `(tactic| walk_at "lkl") => `(tactic| first
  | walk_at "as"
  | with_reducible exact L2.upd_same
  | ((with_reducible show L2.upd _ _ _ _ = _); exact Ak.at_new (by walk_at "as") (by walk_at "lkl")))
local macro_rules | `(tactic| walk_at "nel") => `(tactic| first
  | walk_at "as"
  | exact Ne.symm (by walk_at "as")
  | exact Ne.symm (Ak.ne_new (by walk_at "as") (by walk_at "lkl"))
  | exact Ak.ne_new (by walk_at "as") (by walk_at "lkl")
  | exact L2.ne_of (by walk_at "as") (by walk_at "as") (by intro z; cases z))
local macro_rules | `(tactic| walk_at "ninl") => `(tactic| first | with_reducible exact Ak.nin_nil | walk_at "as" | ((with_reducible show ¬ (_ ∈ _ :: _)); exact Ak.nin_cons (by walk_at "nel") (by walk_at "ninl")))
local macro_rules | `(tactic| walk_at "lk") => `(tactic| first
  | walk_at "as"
  | with_reducible exact L2.upd_same
  | ((with_reducible show L2.upd _ _ _ _ = _); first | exact Ak.at_new (by walk_at "as") (by walk_at "lk") | exact Ak.at_upd (by walk_at "nel") (by walk_at "lk"))
  | exact Ak.Keep.at (by walk_at "as") (by walk_at "ninl") (by walk_at "lk"))
local macro_rules | `(tactic| walk_at "ne") => `(tactic| first
  | walk_at "nel"
  | exact Ne.symm (Ak.ne_new (by walk_at "as") (by walk_at "lk"))
  | exact Ak.ne_new (by walk_at "as") (by walk_at "lk"))
local macro_rules | `(tactic| walk_at "nin") => `(tactic| first | with_reducible exact Ak.nin_nil | walk_at "as" | ((with_reducible show ¬ (_ ∈ _ :: _)); exact Ak.nin_cons (by walk_at "ne") (by walk_at "nin")))
local macro_rules | `(tactic| walk_at "mem") => `(tactic| ((with_reducible show _ ∈ _ :: _); first | with_reducible exact List.mem_cons_self | exact List.mem_cons_of_mem _ (by walk_at "mem")))
local macro_rules | `(tactic| walk_at "sub") => `(tactic| first | with_reducible exact fun _ m => m | with_reducible exact Ak.sub_nil | ((with_reducible show ∀ b, b ∈ _ :: _ → _); exact Ak.sub_cons (by walk_at "mem") (by walk_at "sub")))
local macro_rules | `(tactic| walk_at "kp") => `(tactic| first
  | with_reducible exact Ak.Keep.refl
  | walk_at "as"
  | ((with_reducible show Ak.Keep _ _ (L2.upd _ _ _)); first | exact Ak.Keep.new' (by walk_at "as") (by walk_at "kp") | exact Ak.Keep.set' (by walk_at "mem") (by walk_at "kp") | exact Ak.Keep.own' (by walk_at "as") (by walk_at "kp"))
  | exact Ak.Keep.call (by walk_at "as") (by walk_at "sub") (by walk_at "kp"))
local macro_rules | `(tactic| walk_at "sqd") => `(tactic| first
  | walk_at "as"
  | ((with_reducible show L2.SqL _ (L2.upd _ _ _) _ _); exact Ak.SqL.upd (by walk_at "sqd") (by walk_at "as"))
  | ((with_reducible show L2.SqL _ _ _ _); exact Ak.Keep.seqL (by walk_at "as") (by walk_at "nin") (by walk_at "sqd"))
  | ((with_reducible show L2.SqT _ (L2.upd _ _ _) _ _); exact Ak.SqT.upd (by walk_at "sqd") (by walk_at "as"))
  | ((with_reducible show L2.SqT _ _ _ _); exact Ak.Keep.seqT (by walk_at "as") (by walk_at "nin") (by walk_at "sqd")))
local macro_rules | `(tactic| walk_at "sqh") => `(tactic| first
  | walk_at "as"
  | ((with_reducible show L2.SqL _ _ _ _); first | exact Ak.Ext0.seqL (by walk_at "as") (by walk_at "xt") | exact Ak.chkL (by walk_at "as") (by walk_at "sqd"))
  | ((with_reducible show L2.SqT _ _ _ _); first | exact Ak.Ext0.seqT (by walk_at "as") (by walk_at "xt") | exact Ak.chkT (by walk_at "as") (by walk_at "sqd")))
local macro_rules | `(tactic| walk_at "sq") => `(tactic| first
  | walk_at "sqh"
  | ((with_reducible show L2.SqL _ _ _ _); exact L2.SqL.of (by walk_at "lk"))
  | ((with_reducible show L2.SqT _ _ _ _); exact L2.SqT.of (by walk_at "lk")))
local macro_rules | `(tactic| walk_at "xt") => `(tactic| first
  | walk_at "as"
  | with_reducible exact Ak.Ext0.refl
  | ((with_reducible show LamX.ExtN _ (L2.upd _ _ _)); first | exact Ak.Ext0.set (by walk_at "xt") (by walk_at "as") | exact Ak.Ext0.new (by walk_at "xt") (by walk_at "as"))
  | exact Ak.Ext0.kept (by walk_at "as") (by walk_at "xt") (by walk_at "n0"))
local macro_rules | `(tactic| walk_at "n0") => `(tactic| first | exact Ak.none_nil | exact Ak.none_in (by walk_at "n0") (by walk_at "as"))
local macro_rules | `(tactic| walk_at "sz") => `(tactic| first | walk_at "as" | exact Ak.sz_of rfl | exact Ak.sz_lt rfl | (rw [PySem.sizeLine_eq]; omega) | (simp only [List.length_append, List.length_cons, List.length_nil, List.length_map, PySem.sizeLine_eq]; omega))
local macro_rules | `(tactic| walk_at "ix") => `(tactic| first | walk_at "as" | ((with_reducible show L2.atI _ (OfNat.ofNat _) = _); exact rfl))
local macro_rules | `(tactic| walk_at "fl") => `(tactic| first | walk_at "as" | with_reducible exact Ak.look_hd | with_reducible exact Ak.look_nil | ((with_reducible show List.lookup _ (_ :: _) = _); exact Eq.trans (Ak.look_tl (by decide +kernel)) (by walk_at "fl")))
local macro_rules | `(tactic| walk_at "dv") => `(tactic| first | walk_at "as" | with_reducible exact Ak.val_hd | with_reducible exact Ak.val_nil | ((with_reducible show L2.valV (_ :: _) _ = _); exact Eq.trans (Ak.val_tl (by decide +kernel)) (by walk_at "dv")))
local macro_rules | `(tactic| walk_at "s") => `(tactic| first
  | with_reducible refine Ak.w_seq ?_
  | with_reducible refine Ak.w_asg ?_
  | with_reducible refine Ak.w_name ?_
  | with_reducible refine Ak.w_op ?_
  | ((with_reducible show L2.tVar _ _ _ _); refine Ak.w_var (by exact rfl) ?_)
  | with_reducible refine Ak.w_c ?_
  | with_reducible refine Ak.w_plusI ?_
  | with_reducible refine Ak.w_I0 ?_
  | with_reducible refine Ak.w_fldE ?_
  | with_reducible refine Ak.w_if ?_
  | with_reducible refine Ak.w_iT ?_
  | with_reducible refine Ak.w_iF ?_
  | with_reducible refine Ak.w_nT ?_
  | with_reducible refine Ak.w_nF ?_
  | with_reducible refine Ak.w_test ?_
  | with_reducible refine Ak.w_eqI ?_
  | with_reducible refine Ak.w_neI ?_
  | with_reducible refine Ak.w_eqS ?_
  | with_reducible refine Ak.w_neS ?_
  | with_reducible refine Ak.w_neTT ?_
  | with_reducible refine Ak.w_eqB ?_
  | with_reducible refine Ak.w_neB ?_
  | with_reducible refine Ak.w_isNN ?_
  | with_reducible refine Ak.w_isNR ?_
  | with_reducible refine Ak.w_isNI ?_
  | with_reducible refine Ak.w_isNB ?_
  | with_reducible refine Ak.w_isNS ?_
  | with_reducible refine Ak.w_ntNN ?_
  | with_reducible refine Ak.w_ntNR ?_
  | with_reducible refine Ak.w_ntNI ?_
  | with_reducible refine Ak.w_isN ?_
  | with_reducible refine Ak.w_notN ?_
  | with_reducible refine Ak.w_bl ?_
  | with_reducible refine Ak.w_tru ?_
  | with_reducible refine Ak.w_truB ?_
  | with_reducible refine Ak.w_truI ?_
  | with_reducible refine Ak.w_tB ?_
  | with_reducible refine Ak.w_cons ?_
  | with_reducible refine Ak.w_nil ?_
  | with_reducible refine Ak.w_call ?_
  | with_reducible refine Ak.w_meth ?_
  | with_reducible refine Ak.w_cb ?_
  | with_reducible refine Ak.w_ret ?_
  | with_reducible refine Ak.w_retN ?_
  | with_reducible refine Ak.w_drop ?_
  | with_reducible refine Ak.w_next ?_
  | with_reducible refine Ak.w_cont ?_
  | with_reducible refine Ak.w_brk ?_
  | with_reducible refine Ak.w_and ?_
  | with_reducible refine Ak.w_or ?_
  | with_reducible refine Ak.w_not ?_
  | with_reducible refine Ak.w_andV ?_
  | with_reducible refine Ak.w_orV ?_
  | with_reducible refine Ak.w_notV ?_
  | with_reducible refine Ak.w_ifx ?_
  | with_reducible refine Ak.w_max2 ?_
  | with_reducible refine Ak.w_min2 ?_
  | with_reducible refine Ak.w_intI ?_
  | with_reducible refine Ak.w_intB ?_
  | with_reducible refine Ak.w_un ?_
  | with_reducible refine Ak.w_U ?_
  | with_reducible refine Ak.w_dget ?_
  | with_reducible refine Ak.w_dput ?_
  | with_reducible refine Ak.w_sfld ?_
  | with_reducible refine Ak.w_bm ?_
  | with_reducible refine Ak.w_bm0 ?_
  | with_reducible refine Ak.w_tup ?_
  | with_reducible refine Ak.w_lst ?_
  | with_reducible refine Ak.w_make ?_
  | with_reducible refine Ak.w_gnil ?_
  | with_reducible refine Ak.w_gcons ?_
  | with_reducible refine Ak.w_gsub ?_
  | with_reducible refine Ak.w_forList ?_
  | with_reducible refine Ak.w_forR1 ?_
  | with_reducible refine Ak.w_forR2 ?_
  | with_reducible refine Ak.w_forZ ?_
  | with_reducible refine Ak.w_lcL ?_
  | with_reducible refine Ak.w_lcT ?_
  | with_reducible refine Ak.w_lcR1 ?_
  | with_reducible refine Ak.w_lcR2 ?_
  | with_reducible refine Ak.w_yes ?_
  | with_reducible refine Ak.w_turn ?_
  | with_reducible refine Ak.w_pairs0 ?_
  | with_reducible refine Ak.w_pairs ?_
  | with_reducible refine Ak.w_eq0S ?_
  | with_reducible refine Ak.w_ne0I ?_
  | with_reducible refine Ak.w_disp fun _ _ => ?_
  | ((with_reducible show L2.wipe _ _ = L2.wipe _ _ ∧ _); refine ⟨by exact rfl, ?_⟩)
  | ((with_reducible show Ak.kFld _ _ _ _ _); refine Ak.w_fldK (by walk_at "lk") (by walk_at "as") (by walk_at "as") (by walk_at "fl") ?_)
  | ((with_reducible show Ak.kMeth _ _ _ _ _); refine Ak.w_methK (by walk_at "lk") (by walk_at "fl") ?_)
  | ((with_reducible show Ak.rPlus _ (L2.V.ref _) (L2.V.ref _) _ _); refine Ak.w_plusL (by walk_at "lk") (by walk_at "lk") (by walk_at "sz") fun _ _ => ?_)
  | ((with_reducible show Ak.rTimes (L2.V.int _) (L2.V.int _) _ _); refine Ak.w_timesI (by first | exact Or.inl (by omega) | exact Or.inr (by omega)) ?_)
  | ((with_reducible show L2.rI _ _ _ _ _ _); refine Ak.w_I (by walk_at "ci") ?_)
  | ((with_reducible show L2.rIx _ _ (L2.V.int (OfNat.ofNat _)) _ _); first | refine Ak.w_ixO (by walk_at "lk") (by exact rfl) (by exact rfl) ?_ | refine Ak.w_ixL (by walk_at "sqh") (by exact rfl) ?_ | refine Ak.w_ixT (by walk_at "sqh") (by exact rfl) ?_)
  | ((with_reducible show L2.rIx _ _ (L2.V.int _) _ _); first | refine Ak.w_ixL (by walk_at "sqh") (by walk_at "as") ?_ | refine Ak.w_ixT (by walk_at "sqh") (by walk_at "as") ?_ | refine Ak.w_ixO (by walk_at "lk") (by exact rfl) (by walk_at "as") ?_)
  | ((with_reducible show Ak.rLenX _ [L2.V.ref _] _ _); first | refine Ak.w_lenL (by walk_at "sqh") ?_ | refine Ak.w_lenT (by walk_at "sqh") ?_ | refine Ak.w_lenO (by walk_at "lk") (by exact rfl) ?_)
  | ((with_reducible show Ak.rTupX _ [L2.V.ref _] _ _); refine Ak.w_tupL (by walk_at "sq") fun _ _ => ?_)
  | ((with_reducible show L2.rSetL (L2.V.ref _) (L2.V.int _) _ _ _); (with_reducible show L2.rSetL (L2.V.ref _) (L2.V.int (OfNat.ofNat _)) _ _ _); refine Ak.w_setL (by walk_at "lk") (by exact rfl) ?_)
  | ((with_reducible show Ak.kDGet _ (L2.V.str _) _ _); refine Ak.w_dgetS (by walk_at "lk") (by walk_at "dv") ?_)
  | ((with_reducible show L2.rAppend _ _ _ _); refine Ak.w_app (by walk_at "lk") (by walk_at "sz") ?_)
  | ((with_reducible show L2.gTup _ _ _ _ _ _ _); first | refine Ak.w_gtup (by walk_at "sqh") (by exact rfl) ?_ | refine Ak.w_gtupO (by walk_at "lk") (by exact rfl) ?_)
  | ((with_reducible show L2.tyV _ _ _ _ ∧ _); refine ⟨Ak.tyL (by walk_at "lk"), ?_⟩)
  | ((with_reducible show _ ≤ PySem.sizeLine ∧ ∀ _, _); refine ⟨by walk_at "sz", fun _ _ => ?_⟩))
local macro_rules | `(tactic| walk_at "ty") => `(tactic| first | with_reducible exact L2.TyX.base (.int _) | with_reducible exact L2.TyX.base (.bl _) | with_reducible exact L2.TyX.base (.str _) | with_reducible exact L2.TyX.base .non | exact Ak.tyT (by walk_at "sqh") | exact Ak.tyLs (by walk_at "sqh") | exact Ak.tyO (by walk_at "lk") (by exact rfl))
local macro_rules | `(tactic| walk_at "s") => `(tactic| ((with_reducible show L2.rIsi _ [_, L2.V.ty _] _ _); first | refine Ak.w_isiB (k := true) (by walk_at "ty") (by decide +kernel) ?_ | refine Ak.w_isiB (k := false) (by walk_at "ty") (by decide +kernel) ?_))
local macro_rules | `(tactic| walk_at "pf") => `(tactic| first | with_reducible exact Ak.putF_hd | with_reducible exact Ak.putF_nil | ((with_reducible show L2.putF _ _ (_ :: _) = _); exact Eq.trans (Ak.putF_tl (by decide +kernel)) (congrArg (List.cons _) (by walk_at "pf"))))
local macro_rules | `(tactic| walk_at "s") => `(tactic| ((with_reducible show Ak.kSFld _ _ _ _ _ _); refine Ak.w_sfldP (by walk_at "lk") (by walk_at "as") (by walk_at "as") (Ak.lt_of rfl) (by walk_at "pf") ?_))
local macro_rules | `(tactic| walk_at "s") => `(tactic| ((with_reducible show Ak.rInX _ (L2.V.int _) (L2.V.ref _) _ _); refine Ak.w_inI (by walk_at "lk") ?_))
local macro_rules | `(tactic| walk_at "s") => `(tactic| ((with_reducible show Ak.rNinX _ (L2.V.int _) (L2.V.ref _) _ _); refine Ak.w_ninI (by walk_at "lk") ?_))
local macro_rules | `(tactic| walk_at "nk") => `(tactic| first | exact Ak.nk_nil | exact Ak.nk_cons (by decide +kernel) (by walk_at "nk"))
local macro_rules | `(tactic| walk_at "nd") => `(tactic| first | exact Ak.nd_nil | exact Ak.nd_cons (by walk_at "nk") (by walk_at "nd"))
local macro_rules | `(tactic| walk_at "dp") => `(tactic| ((with_reducible show L2.putK (_ :: _) _ _ = _); first | exact Ak.put_hd (by walk_at "nk") | exact Eq.trans (Ak.put_tl (by decide +kernel)) (congrArg (List.cons _) (by walk_at "dp"))))
local macro_rules | `(tactic| walk_at "s") => `(tactic| ((with_reducible show Ak.kDPut _ (L2.V.ref _) (L2.V.str _) _ _); refine Ak.w_dputP (by walk_at "lk") (Ak.sz_lt rfl) (by walk_at "dp") ?_))
local macro_rules | `(tactic| walk_at "s") => `(tactic| ((with_reducible show Ak.rIsE2 _ _ _ _ _ _ _); first | refine Ak.w_isE (by exact rfl) (by exact rfl) (by walk_at "as") (by walk_at "as") ?_ | refine Ak.w_isET (by exact rfl) (by exact rfl) (by walk_at "as") (by walk_at "as") ?_))
local macro_rules | `(tactic| walk_at "s") => `(tactic| ((with_reducible show Ak.rCntX _ _ _ _ _); refine Ak.w_cnt (by walk_at "lk") (by exact rfl) (by exact rfl) (by exact rfl) ?_))
local macro_rules | `(tactic| walk_at "s") => `(tactic| first
  | with_reducible refine Ak.w_fldaug ?_
  | with_reducible refine Ak.w_addI ?_
  | with_reducible refine Ak.w_dnot ?_
  | with_reducible refine Ak.w_lcE ?_
  | ((with_reducible show L2.rClear (L2.V.ref _) _ _ _); refine Ak.w_clear (by walk_at "lk") ?_)
  | with_reducible refine Ak.w_dnewK fun _ _ => ?_
  | with_reducible refine Ak.w_forTup ?_
  | ((with_reducible show Ak.kFA _ _ _ _ _ _ _ _); refine Ak.w_fa (by walk_at "lk") (by walk_at "as") (by walk_at "as") (by walk_at "fl") ?_)
  | ((with_reducible show Ak.kFS _ _ _ _ _ _ _); refine Ak.w_fs (by walk_at "lk") (Ak.lt_of rfl) (by walk_at "pf") ?_)
  | ((with_reducible show Ak.kDNot (L2.V.int _) (L2.V.ref _) _ _); refine Ak.w_dnotS (by walk_at "lk") ?_)
  | ((with_reducible show Ak.rSortX _ [L2.V.ref _] _ _); first | refine Ak.w_sortO (by walk_at "lk") fun _ _ => ?_ | refine Ak.w_sortD (by walk_at "lk") fun _ _ => ?_))
local macro_rules | `(tactic| walk_at "ci") => `(tactic| first | decide | omega | (constructor <;> first | decide | omega) | exact ⟨by decide, by decide, by decide⟩)
local macro_rules | `(tactic| walk_at "dc") => `(tactic| first | walk_at "as" | exact Ak.Dice.keep (S := []) (by walk_at "as") (by walk_at "kp") Ak.nin_nil Ak.none_nil)
local macro_rules | `(tactic| walk_at "s") => `(tactic| ((with_reducible show Ak.spNext _ _ _ _ _); refine Ak.next_go (by walk_at "dc") (by omega) (by omega) fun _ _ _ _ _ _ _ _ => ?_))
local macro_rules | `(tactic| walk_at "pk") => `(tactic| (intro x hx; (repeat (rcases List.mem_cons.mp hx with rfl | hx; · exact ⟨_, rfl, by omega⟩)); exact absurd hx List.not_mem_nil))
local macro_rules | `(tactic| walk_at "rd") => `(tactic| repeat (walk_at "s"))
local macro_rules | `(tactic| walk_at "lv") => `(tactic| first | decide | omega)
local macro_rules | `(tactic| walk_at "s") => `(tactic| first
  | with_reducible refine Ak.w_slice ?_
  | with_reducible refine Ak.w_forEn ?_
  | with_reducible refine Ak.w_par ?_
  | with_reducible refine Ak.w_par2 ?_
  | with_reducible refine Ak.w_chain ?_
  | with_reducible refine Ak.w_noP ?_
  | with_reducible refine Ak.w_part ?_
  | with_reducible refine Ak.w_isI ?_
  | with_reducible refine Ak.w_din ?_
  | with_reducible refine Ak.w_ddel ?_
  | ((with_reducible show L2.rExtend (L2.V.ref _) [L2.V.ref _] _ _); refine Ak.w_ext (by walk_at "lk") (by walk_at "lk") (by walk_at "sz") ?_)
  | ((with_reducible show Ak.kDGet _ (L2.V.int _) _ _); refine Ak.w_dgetO (by walk_at "lk") (by walk_at "as") ?_)
  | ((with_reducible show Ak.kDIn (L2.V.int _) (L2.V.ref _) _ _); refine Ak.w_dinO (by walk_at "lk") ?_)
  | ((with_reducible show Ak.rSortX _ [L2.V.ref _] _ _); refine Ak.w_sortO2 (by walk_at "lk") fun _ _ => ?_))
namespace Ak
open PySem PySem.Spec PyProof.Rows L2
def top (i : Nat) : Stmt := PySem.Challenge.pw_ackbits_k01_what_is_none.main.body.getD i (.Pass ⟨0, 0, 0, 0⟩)
abbrev s_l_next : Stmt := top 41
abbrev N_l_next : List Str := ["_law_dice_here", "_law_many", "_law_found", "_law_cell"]
theorem sc_l_next : FnScope N_l_next ["_law_dice_here", "_law_many"] (defScope s_l_next) := ⟨rfl, rfl, rfl, by decide +kernel, rfl, by decide +kernel, by decide +kernel⟩
abbrev s_l_dice : Stmt := top 40
abbrev N_l_dice : List Str := ["_law_script", "_law_mixed", "_law_cell"]
theorem sc_l_dice : FnScope N_l_dice ["_law_script"] (defScope s_l_dice) := ⟨rfl, rfl, rfl, by decide +kernel, rfl, by decide +kernel, by decide +kernel⟩
abbrev s_l_setting : Stmt := top 43
abbrev N_l_setting : List Str := ["_law_d", "_law_late", "_law_ahead", "_law_wide", "_law_marks"]
theorem sc_l_setting : FnScope N_l_setting ["_law_d"] (defScope s_l_setting) := ⟨rfl, rfl, rfl, by decide +kernel, rfl, by decide +kernel, by decide +kernel⟩
abbrev s_l_like : Stmt := top 42
abbrev N_l_like : List Str := ["_law_found", "_law_due", "_law_key", "_law_k"]
theorem sc_l_like : FnScope N_l_like ["_law_found", "_law_due"] (defScope s_l_like) := ⟨rfl, rfl, rfl, by decide +kernel, rfl, by decide +kernel, by decide +kernel⟩
abbrev s_l_told : Stmt := top 45
abbrev N_l_told : List Str := ["_law_work", "e", "_law_kinds", "_law_words", "_law_word"]
theorem sc_l_told : FnScope N_l_told ["_law_work"] (defScope s_l_told) := ⟨rfl, rfl, rfl, by decide +kernel, rfl, by decide +kernel, by decide +kernel⟩
abbrev s_check_mark : Stmt := top 13
abbrev N_check_mark : List Str := ["mark", "marks"]
theorem sc_check_mark : FnScope N_check_mark ["mark", "marks"] (defScope s_check_mark) := ⟨rfl, rfl, rfl, by decide +kernel, rfl, by decide +kernel, by decide +kernel⟩
abbrev s_check_number : Stmt := top 11
abbrev N_check_number : List Str := ["word", "number", "least", "most"]
theorem sc_check_number : FnScope N_check_number ["word", "number"] (defScope s_check_number) := ⟨rfl, rfl, rfl, by decide +kernel, rfl, by decide +kernel, by decide +kernel⟩
abbrev s_check_setting : Stmt := top 12
abbrev N_check_setting : List Str := ["setting", "marks", "wide", "late", "ahead"]
theorem sc_check_setting : FnScope N_check_setting ["setting"] (defScope s_check_setting) := ⟨rfl, rfl, rfl, by decide +kernel, rfl, by decide +kernel, by decide +kernel⟩
abbrev s_check_bits : Stmt := top 14
abbrev N_check_bits : List Str := ["bits", "wide", "bit"]
theorem sc_check_bits : FnScope N_check_bits ["bits", "wide"] (defScope s_check_bits) := ⟨rfl, rfl, rfl, by decide +kernel, rfl, by decide +kernel, by decide +kernel⟩
abbrev s_check_telling : Stmt := top 15
abbrev N_check_telling : List Str := ["told", "marks", "wide", "mark", "bits"]
theorem sc_check_telling : FnScope N_check_telling ["told", "marks", "wide"] (defScope s_check_telling) := ⟨rfl, rfl, rfl, by decide +kernel, rfl, by decide +kernel, by decide +kernel⟩
abbrev s_Ear___init : Stmt := inClass (top 19) 0
abbrev N_Ear___init : List Str := ["self", "setting", "marks", "wide", "late", "_"]
theorem sc_Ear___init : FnScope N_Ear___init ["self", "setting"] (defScope s_Ear___init) := ⟨rfl, rfl, rfl, by decide +kernel, rfl, by decide +kernel, by decide +kernel⟩
abbrev s_Ear_come : Stmt := inClass (top 19) 1
abbrev N_Ear_come : List Str := ["self", "mark", "number", "word"]
theorem sc_Ear_come : FnScope N_Ear_come ["self", "mark"] (defScope s_Ear_come) := ⟨rfl, rfl, rfl, by decide +kernel, rfl, by decide +kernel, by decide +kernel⟩
abbrev s_Ear_tell : Stmt := inClass (top 19) 2
abbrev N_Ear_tell : List Str := ["self"]
theorem sc_Ear_tell : FnScope N_Ear_tell ["self"] (defScope s_Ear_tell) := ⟨rfl, rfl, rfl, by decide +kernel, rfl, by decide +kernel, by decide +kernel⟩
abbrev s_Ear_last : Stmt := inClass (top 19) 3
abbrev N_Ear_last : List Str := ["self"]
theorem sc_Ear_last : FnScope N_Ear_last ["self"] (defScope s_Ear_last) := ⟨rfl, rfl, rfl, by decide +kernel, rfl, by decide +kernel, by decide +kernel⟩
abbrev s_Mouth___init : Stmt := inClass (top 17) 0
abbrev N_Mouth___init : List Str := ["self", "setting", "marks", "wide", "_", "ahead"]
theorem sc_Mouth___init : FnScope N_Mouth___init ["self", "setting"] (defScope s_Mouth___init) := ⟨rfl, rfl, rfl, by decide +kernel, rfl, by decide +kernel, by decide +kernel⟩
abbrev s_Mouth_send : Stmt := inClass (top 17) 1
abbrev N_Mouth_send : List Str := ["self"]
theorem sc_Mouth_send : FnScope N_Mouth_send ["self"] (defScope s_Mouth_send) := ⟨rfl, rfl, rfl, by decide +kernel, rfl, by decide +kernel, by decide +kernel⟩
abbrev s_Mouth_is_full : Stmt := inClass (top 17) 2
abbrev N_Mouth_is_full : List Str := ["self"]
theorem sc_Mouth_is_full : FnScope N_Mouth_is_full ["self"] (defScope s_Mouth_is_full) := ⟨rfl, rfl, rfl, by decide +kernel, rfl, by decide +kernel, by decide +kernel⟩
abbrev s_Mouth_hear : Stmt := inClass (top 17) 3
abbrev N_Mouth_hear : List Str := ["self", "told", "numbers", "found", "number", "fresh"]
theorem sc_Mouth_hear : FnScope N_Mouth_hear ["self", "told"] (defScope s_Mouth_hear) := ⟨rfl, rfl, rfl, by decide +kernel, rfl, by decide +kernel, by decide +kernel⟩
abbrev s_Mouth_sure : Stmt := inClass (top 17) 4
abbrev N_Mouth_sure : List Str := ["self"]
theorem sc_Mouth_sure : FnScope N_Mouth_sure ["self"] (defScope s_Mouth_sure) := ⟨rfl, rfl, rfl, by decide +kernel, rfl, by decide +kernel, by decide +kernel⟩
abbrev s_Mouth_last : Stmt := inClass (top 17) 5
abbrev N_Mouth_last : List Str := ["self"]
theorem sc_Mouth_last : FnScope N_Mouth_last ["self"] (defScope s_Mouth_last) := ⟨rfl, rfl, rfl, by decide +kernel, rfl, by decide +kernel, by decide +kernel⟩
abbrev s_Load___init : Stmt := inClass (top 21) 0
abbrev N_Load___init : List Str := ["self", "room", "wait"]
theorem sc_Load___init : FnScope N_Load___init ["self", "room", "wait"] (defScope s_Load___init) := ⟨rfl, rfl, rfl, by decide +kernel, rfl, by decide +kernel, by decide +kernel⟩
abbrev s_World___init : Stmt := inClass (top 34) 0
abbrev N_World___init : List Str := ["self", "setting"]
theorem sc_World___init : FnScope N_World___init ["self", "setting"] (defScope s_World___init) := ⟨rfl, rfl, rfl, by decide +kernel, rfl, by decide +kernel, by decide +kernel⟩
abbrev s_played : Stmt := top 35
abbrev N_played : List Str := ["setting", "events", "world", "told", "wrong", "number", "event", "answer", "is_wrong"]
theorem sc_played : FnScope N_played ["setting", "events"] (defScope s_played) := ⟨rfl, rfl, rfl, by decide +kernel, rfl, by decide +kernel, by decide +kernel⟩
abbrev s_judged : Stmt := top 36
abbrev N_judged : List Str := ["setting", "marks", "_", "late", "ahead"]
theorem sc_judged : FnScope N_judged ["setting"] (defScope s_judged) := ⟨rfl, rfl, rfl, by decide +kernel, rfl, by decide +kernel, by decide +kernel⟩
abbrev s_fewest : Stmt := top 37
abbrev N_fewest : List Str := ["late", "ahead", "marks"]
theorem sc_fewest : FnScope N_fewest ["late", "ahead"] (defScope s_fewest) := ⟨rfl, rfl, rfl, by decide +kernel, rfl, by decide +kernel, by decide +kernel⟩
abbrev s_written : Stmt := top 25
abbrev N_written : List Str := ["setting", "told", "mark", "bits", "signs", "bit"]
theorem sc_written : FnScope N_written ["setting", "told"] (defScope s_written) := ⟨rfl, rfl, rfl, by decide +kernel, rfl, by decide +kernel, by decide +kernel⟩
abbrev s_read : Stmt := top 26
abbrev N_read : List Str := ["setting", "text", "blank", "told"]
theorem sc_read : FnScope N_read ["setting", "text"] (defScope s_read) := ⟨rfl, rfl, rfl, by decide +kernel, rfl, by decide +kernel, by decide +kernel⟩
abbrev s_l_bad : Stmt := top 46
abbrev N_l_bad : List Str := ["_law_d", "_law_setting_here", "_law_far", "_law_at", "_law_least", "_law_most", "_law_odd", "_law_behind"]
theorem sc_l_bad : FnScope N_l_bad ["_law_d", "_law_setting_here"] (defScope s_l_bad) := ⟨rfl, rfl, rfl, by decide +kernel, rfl, by decide +kernel, by decide +kernel⟩
abbrev s_l_bounds : Stmt := top 47
abbrev N_l_bounds : List Str := ["_law_setting_here"]
theorem sc_l_bounds : FnScope N_l_bounds [] (defScope s_l_bounds) := ⟨rfl, rfl, rfl, by decide +kernel, rfl, by decide +kernel, by decide +kernel⟩
abbrev s_l_bits : Stmt := top 48
abbrev N_l_bits : List Str := ["_law_d", "_law_setting_here", "_law_wide", "_law_at", "_law_bits_here", "_law_k", "_law_odd", "_law_some", "_law_found"]
theorem sc_l_bits : FnScope N_l_bits ["_law_d", "_law_setting_here"] (defScope s_l_bits) := ⟨rfl, rfl, rfl, by decide +kernel, rfl, by decide +kernel, by decide +kernel⟩
abbrev s_law : Stmt := top 49
abbrev N_law : List Str := ["_law_script", "_law_d", "_law_turn", "_law_setting_here", "_law_bad_here", "_law_word", "_law_works", "_law_work", "_law_far", "_law_odd", "_law_more", "_law_mark", "_law_bits_here", "_law_ear", "_law_mouth"]
theorem sc_law : FnScope N_law ["_law_script"] (defScope s_law) := ⟨rfl, rfl, rfl, by decide +kernel, rfl, by decide +kernel, by decide +kernel⟩
end Ak
namespace Ak
open PySem PySem.Spec PyProof.Rows L2
def spCheckMark : Sp := fun vs H Q _ => ∃ k m, vs = [.int k, .int m] ∧ 0 ≤ k ∧ k < m ∧ Q .non H
/-- what is raised as a class of one's own, without __init__ -/
structure RaiseC (K : PySem.W.Frag) (mg : Str → Option Value) (x : Str) (C : Addr) : Prop where
  q : PySem.W.excIn K C [.type "ValueError", .type "Exception", .type "BaseException", .type "object"] "ValueError.__new__" = true
  g : mg x = some (.ref C)
  k : PySem.W.keepIn K (.ref C) = true
  s : PySem.W.subIn K (.ref C) (.type "BaseException") = some true
  t : PySem.W.typeIn K (.ref C) = some (.type "type")
theorem RaiseC.r {X : Cx} {x : Str} {C : Addr} (R : RaiseC X.K X.mg x C) : Raises X (.ref C) := raises_own R.s R.t
/-- the bounds of each number, by its word -/
inductive BoundOf : Str → Int → Int → Prop
  | marks : BoundOf "marks" 2 64
  | wide : BoundOf "wide" 0 16
  | late : BoundOf "late" 0 8
  | ahead : BoundOf "ahead" 1 16
  | room : BoundOf "room" 1 8
  | wait : BoundOf "wait" 1 20
structure BoundsT (K : PySem.W.Frag) (w : World) (mg : Str → Option Value) (b : Addr) : Prop where
  g : mg "BOUNDS" = some (.ref b)
  get : ∀ wd lo hi, BoundOf wd lo hi → ∃ t, KDct K w b wd (.ref t) ∧ ∀ H, SqT K H t [.int lo, .int hi]
theorem bounds_mk {K : PySem.W.Frag} {w : World} {mg : Str → Option Value} {b t1 t2 t3 t4 t5 t6 : Addr} {es : Array DictEntry} {n : Nat} (g : mg "BOUNDS" = some (.ref b))
    (lk : K.lookup b = some { cls := .type "dict", data := .dict es n }) (kl : PySem.W.KeysLit w.params es.toList)
    (n1 : PySem.W.nsIn K b "marks" = some (some (.ref t1))) (n2 : PySem.W.nsIn K b "wide" = some (some (.ref t2))) (n3 : PySem.W.nsIn K b "late" = some (some (.ref t3)))
    (n4 : PySem.W.nsIn K b "ahead" = some (some (.ref t4))) (n5 : PySem.W.nsIn K b "room" = some (some (.ref t5))) (n6 : PySem.W.nsIn K b "wait" = some (some (.ref t6)))
    (s1 : ∀ H, SqT K H t1 [.int 2, .int 64]) (s2 : ∀ H, SqT K H t2 [.int 0, .int 16]) (s3 : ∀ H, SqT K H t3 [.int 0, .int 8])
    (s4 : ∀ H, SqT K H t4 [.int 1, .int 16]) (s5 : ∀ H, SqT K H t5 [.int 1, .int 8]) (s6 : ∀ H, SqT K H t6 [.int 1, .int 20]) : BoundsT K w mg b :=
  ⟨g, fun wd lo hi h => by
    cases h with
    | marks => exact ⟨t1, ⟨es, n, _, lk, kl, n1, rfl⟩, s1⟩
    | wide => exact ⟨t2, ⟨es, n, _, lk, kl, n2, rfl⟩, s2⟩
    | late => exact ⟨t3, ⟨es, n, _, lk, kl, n3, rfl⟩, s3⟩
    | ahead => exact ⟨t4, ⟨es, n, _, lk, kl, n4, rfl⟩, s4⟩
    | room => exact ⟨t5, ⟨es, n, _, lk, kl, n5, rfl⟩, s5⟩
    | wait => exact ⟨t6, ⟨es, n, _, lk, kl, n6, rfl⟩, s6⟩⟩
theorem ix_kd {X : Cx} {K : PySem.W.Frag} {w : World} (h : X.K = K) (hw : X.w = w) : IxR X (rIxD K w) := by
  subst h hw
  exact ix_kdict
def spCheckNumber : Sp := fun vs H Q _ => ∃ wd n lo hi, vs = [.str wd, .int n] ∧ BoundOf wd lo hi ∧ lo ≤ n ∧ n ≤ hi ∧ Q .non H
def spCheckSetting (K : PySem.W.Frag) : Sp := fun vs H Q _ => ∃ q m w l a, vs = [.ref q] ∧ SqT K H q [.int m, .int w, .int l, .int a] ∧ SetOk m w l a ∧ ∀ H', Keep [] H H' → Q .non H'
end Ak

namespace Ak
open PySem PySem.Spec PyProof.Rows L2
/-! ### the ear -/
structure EarT (K : PySem.W.Frag) (C : Addr) : Prop where
  cl : Cls K C
  n1 : NoAttr K C "_marks"
  n2 : NoAttr K C "_wide"
  n3 : NoAttr K C "_late"
  n4 : NoAttr K C "_greatest"
  n5 : NoAttr K C "_came"
abbrev earF (m w l g : Int) (c : Addr) : List (Str × V) := [("_marks", .int m), ("_wide", .int w), ("_late", .int l), ("_greatest", .int g), ("_came", .ref c)]
/-- an ear stands at p -/
def EarAt (C : Addr) (H : Hp) (p c : Addr) (m w l g : Int) (cs : List Int) : Prop := ∃ dx, H p = some (.ins C dx (earF m w l g c)) ∧ H c = some (.lst (cs.map V.int))
theorem EarAt.keep {C : Addr} {S : List Addr} {H H' : Hp} {p c : Addr} {m w l g : Int} {cs : List Int} (x : EarAt C H p c m w l g cs) (k : Keep S H H') (np : p ∉ S) (nc : c ∉ S) : EarAt C H' p c m w l g cs := by
  obtain ⟨dx, h1, h2⟩ := x
  exact ⟨dx, k.1 _ _ np h1, k.1 _ _ nc h2⟩
theorem EarAt.ne {C : Addr} {H : Hp} {p c : Addr} {m w l g : Int} {cs : List Int} (x : EarAt C H p c m w l g cs) : p ≠ c := by
  obtain ⟨dx, h1, h2⟩ := x
  exact ne_of h1 h2 (by intro z; cases z)
/-- what is kept where n has come -/
def keptOf (w g : Int) (cs : List Int) (n : Int) : List Int := (cs ++ [n]).filter fun k => decide (max g n - w ≤ k)
def wordOf (w g : Int) (cs : List Int) (n : Int) : Str := if n < g - w then "old" else if n ∈ cs then "again" else "new"
def numOf (m l g k : Int) : Int := max 0 (g - l) + (k - max 0 (g - l)) % m
def spOldest (C : Addr) : Sp := fun vs H Q _ => ∃ p c m w l g cs, vs = [.ref p] ∧ EarAt C H p c m w l g cs ∧ Q (.int (g - w)) H
def spNumberOf (C : Addr) : Sp := fun vs H Q _ => ∃ p c k m w l g cs, vs = [.ref p, .int k] ∧ EarAt C H p c m w l g cs ∧ 0 < m ∧ Q (.int (numOf m l g k)) H
def spWordOf (C : Addr) : Sp := fun vs H Q _ => ∃ p c n m w l g cs, vs = [.ref p, .int n] ∧ EarAt C H p c m w l g cs ∧ Q (.str (wordOf w g cs n)) H
def spKeep (C : Addr) : Sp := fun vs H Q _ => ∃ p c n m w l g cs, vs = [.ref p, .int n] ∧ EarAt C H p c m w l g cs ∧ cs.length < 1000000 ∧ ∀ c' H', EarAt C H' p c' m w l (max g n) (keptOf w g cs n) → H c' = none → Keep [p] H H' → Q .non H'
def spLast (C : Addr) : Sp := fun vs H Q _ => ∃ p c m w l g cs, vs = [.ref p] ∧ EarAt C H p c m w l g cs ∧ Q (.int g) H
def bitsOf (w g : Int) (cs : List Int) : List V := (List.range w.toNat).map fun (k : Nat) => V.int (if g - (1 + (k : Int)) ∈ cs then 1 else 0)
def spBits (C : Addr) : Sp := fun vs H Q _ => ∃ p c m w l g cs, vs = [.ref p] ∧ EarAt C H p c m w l g cs ∧ 0 ≤ w ∧ w ≤ 16 ∧ ∀ q H', H q = none → H' q = some (.tup (bitsOf w g cs)) → Keep [] H H' → Q (.ref q) H'
def spTell (C CB : Addr) : Sp := fun vs H Q E => ∃ p c m w l g cs, vs = [.ref p] ∧ EarAt C H p c m w l g cs ∧ 0 < m ∧ 0 ≤ w ∧ w ≤ 16 ∧ (g < 0 → E (.ref CB) none H) ∧
  (0 ≤ g → ∀ q b H', H q = none → H b = none → H' q = some (.tup [.int (g % m), .ref b]) → H' b = some (.tup (bitsOf w g cs)) → Keep [] H H' → Q (.ref q) H')
def spCome (C : Addr) : Sp := fun vs H Q _ => ∃ p c k m w l g cs, vs = [.ref p, .int k] ∧ EarAt C H p c m w l g cs ∧ 0 ≤ k ∧ k < m ∧ cs.length < 1000000 ∧
  ∀ q H' n word g' cs' c', n = numOf m l g k → word = wordOf w g cs n → (g', cs') = (if word = "new" then (max g n, keptOf w g cs n) else (g, cs)) → H q = none → H' q = some (.tup [.int n, .str word]) → EarAt C H' p c' m w l g' cs' → c' = c ∨ H c' = none → Keep [p] H H' → Q (.ref q) H'
def spEarInit (K : PySem.W.Frag) (C : Addr) : Sp := fun vs H Q _ => ∃ p q m w l a dx, vs = [.ref p, .ref q] ∧ SqT K H q [.int m, .int w, .int l, .int a] ∧ SetOk m w l a ∧ H p = some (.ins C dx []) ∧
  ∀ c H', EarAt C H' p c m w l (-1) [] → H c = none → Keep [p] H H' → Q .non H'
end Ak

namespace Ak
open PySem PySem.Spec PyProof.Rows L2
/-! ### the mouth -/
structure MouthT (K : PySem.W.Frag) (C : Addr) : Prop where
  cl : Cls K C
  n1 : NoAttr K C "_marks"
  n2 : NoAttr K C "_wide"
  n3 : NoAttr K C "_ahead"
  n4 : NoAttr K C "_last"
  n5 : NoAttr K C "_greatest"
  n6 : NoAttr K C "_sure"
abbrev mouthF (m w a l g : Int) (c : Addr) : List (Str × V) := [("_marks", .int m), ("_wide", .int w), ("_ahead", .int a), ("_last", .int l), ("_greatest", .int g), ("_sure", .ref c)]
/-- a mouth stands at p, its dict at c -/
def MouthAt (C : Addr) (H : Hp) (p c : Addr) (m w a l g : Int) (ks : List Int) : Prop := ∃ dx, H p = some (.ins C dx (mouthF m w a l g c)) ∧ H c = some (.dK (sureD ks))
theorem MouthAt.keep {C : Addr} {S : List Addr} {H H' : Hp} {p c : Addr} {m w a l g : Int} {ks : List Int} (x : MouthAt C H p c m w a l g ks) (k : Keep S H H') (np : p ∉ S) (nc : c ∉ S) : MouthAt C H' p c m w a l g ks := by
  obtain ⟨dx, h1, h2⟩ := x
  exact ⟨dx, k.1 _ _ np h1, k.1 _ _ nc h2⟩
theorem MouthAt.ne {C : Addr} {H : Hp} {p c : Addr} {m w a l g : Int} {ks : List Int} (x : MouthAt C H p c m w a l g ks) : p ≠ c := by
  obtain ⟨dx, h1, h2⟩ := x
  exact ne_of h1 h2 (by intro z; cases z)
def newestOf (m l k : Int) : Int := l - (l - k) % m
/-- what the first i bits tell of -/
def othersOf (n : Int) (bs : List Int) (i : Nat) : List Int := ((List.range i).filter fun j => decide (bs[j]? = some 1)).map fun (j : Nat) => n - (1 + (j : Int))
def allOf (n : Int) (bs : List Int) : List Int := n :: othersOf n bs bs.length
theorem others_yes {n : Int} {bs : List Int} {i : Nat} (h : bs[i]? = some 1) : othersOf n bs (i + 1) = othersOf n bs i ++ [n - (1 + (i : Int))] := by
  unfold othersOf
  rw [List.range_succ, List.filter_append, List.map_append, List.filter_cons, if_pos (decide_eq_true h)]
  rfl
theorem others_no {n : Int} {bs : List Int} {i : Nat} (h : ¬ bs[i]? = some 1) : othersOf n bs (i + 1) = othersOf n bs i := by
  unfold othersOf
  rw [List.range_succ, List.filter_append, List.map_append, List.filter_cons, if_neg (by rw [decide_eq_false h]; exact Bool.false_ne_true)]
  simp
theorem others_len {n : Int} {bs : List Int} {i : Nat} : (othersOf n bs i).length ≤ i := by
  unfold othersOf
  rw [List.length_map]
  exact Nat.le_trans (List.length_filter_le _ _) (by rw [List.length_range]; exact Nat.le_refl _)
theorem others_lt {n x : Int} {bs : List Int} {i : Nat} (h : x ∈ othersOf n bs i) : x < n := by
  obtain ⟨j, _, rfl⟩ := List.mem_map.mp h
  omega
theorem others_nd {n : Int} {bs : List Int} {i : Nat} : (othersOf n bs i).Nodup := by
  unfold othersOf
  refine List.pairwise_map.mpr ((List.nodup_range.filter _).imp fun {a b} h e => h ?_)
  omega
theorem all_nd {n : Int} {bs : List Int} : (allOf n bs).Nodup := List.nodup_cons.mpr ⟨fun m => by have := others_lt m; omega, others_nd⟩
theorem all_le {n x : Int} {bs : List Int} (h : x ∈ allOf n bs) : x ≤ n := by
  rcases List.mem_cons.mp h with rfl | h
  · exact Int.le_refl _
  · exact Int.le_of_lt (others_lt h)
theorem all_len {n : Int} {bs : List Int} : (allOf n bs).length ≤ bs.length + 1 := Nat.succ_le_succ others_len
/-- the least and the greatest of what is sorted -/
theorem srt_first {ns : List Int} (h : ns ≠ []) : ∃ x, atI ((srt ns).map V.int) 0 = some (.int x) ∧ x ∈ ns ∧ ∀ y, y ∈ ns → x ≤ y := by
  have hl : 0 < (srt ns).length := by rw [srt_len]; exact List.length_pos_iff.mpr h
  refine ⟨(srt ns)[0], atI_nat ?_, srt_mem.mp (List.getElem_mem hl), fun y hy => ?_⟩
  · rw [List.getElem?_map, List.getElem?_eq_getElem hl]
    rfl
  · obtain ⟨i, hi, rfl⟩ := List.mem_iff_getElem.mp (srt_mem.mpr hy)
    rcases Nat.eq_zero_or_pos i with rfl | z
    · exact Int.le_refl _
    · exact List.pairwise_iff_getElem.mp (srt_le ns) 0 i hl hi z
theorem srt_last {ns : List Int} (h : ns ≠ []) : ∃ x, atI ((srt ns).map V.int) (-1) = some (.int x) ∧ x ∈ ns ∧ ∀ y, y ∈ ns → y ≤ x := by
  have hl : 0 < (srt ns).length := by rw [srt_len]; exact List.length_pos_iff.mpr h
  refine ⟨(srt ns)[(srt ns).length - 1], atI_last ?_, srt_mem.mp (List.getElem_mem _), fun y hy => ?_⟩
  · rw [List.length_map, List.getElem?_map, List.getElem?_eq_getElem (by omega)]
    rfl
  · obtain ⟨i, hi, rfl⟩ := List.mem_iff_getElem.mp (srt_mem.mpr hy)
    rcases Nat.lt_or_ge i ((srt ns).length - 1) with z | z
    · exact List.pairwise_iff_getElem.mp (srt_le ns) i _ hi (by omega) z
    · have e : i = (srt ns).length - 1 := by omega
      subst e
      exact Int.le_refl _
def Bits (bs : List Int) : Prop := ∀ x, x ∈ bs → x = 0 ∨ x = 1
def spCheckBits (K : PySem.W.Frag) : Sp := fun vs H Q _ => ∃ b bs w, vs = [.ref b, .int w] ∧ SqT K H b (bs.map V.int) ∧ (bs.length : Int) = w ∧ Bits bs ∧ bs.length ≤ 16 ∧ ∀ H', Keep [] H H' → Q .non H'
def spCheckTelling (K : PySem.W.Frag) : Sp := fun vs H Q _ => ∃ q b k bs m w, vs = [.ref q, .int m, .int w] ∧ SqT K H q [.int k, .ref b] ∧ SqT K H b (bs.map V.int) ∧ 0 ≤ k ∧ k < m ∧ (bs.length : Int) = w ∧ Bits bs ∧ bs.length ≤ 16 ∧ ∀ H', Keep [] H H' → Q .non H'
def spMouthInit (K : PySem.W.Frag) (C : Addr) : Sp := fun vs H Q _ => ∃ p q m w l a dx, vs = [.ref p, .ref q] ∧ SqT K H q [.int m, .int w, .int l, .int a] ∧ SetOk m w l a ∧ H p = some (.ins C dx []) ∧
  ∀ c H', MouthAt C H' p c m w a (-1) (-1) [] → H c = none → Keep [p] H H' → Q .non H'
def spIsFull (C : Addr) : Sp := fun vs H Q _ => ∃ p c m w a l g ks, vs = [.ref p] ∧ MouthAt C H p c m w a l g ks ∧ Q (.bl (decide (g + a < l + 1))) H
def spMLast (C : Addr) : Sp := fun vs H Q _ => ∃ p c m w a l g ks, vs = [.ref p] ∧ MouthAt C H p c m w a l g ks ∧ Q (.int l) H
def spSure (C : Addr) : Sp := fun vs H Q _ => ∃ p c m w a l g ks, vs = [.ref p] ∧ MouthAt C H p c m w a l g ks ∧ ∀ f H', H f = none → H' f = some (.lst ((srt ks).map V.int)) → Keep [] H H' → Q (.ref f) H'
def spSend (C CF : Addr) : Sp := fun vs H Q E => ∃ p c m w a l g ks, vs = [.ref p] ∧ MouthAt C H p c m w a l g ks ∧ 0 < m ∧ -1 ≤ l ∧ l < 1000000 ∧ (g + a < l + 1 → E (.ref CF) none H) ∧
  (¬ g + a < l + 1 → ∀ t H', H t = none → H' t = some (.tup [.int (l + 1), .int ((l + 1) % m)]) → MouthAt C H' p c m w a (l + 1) g ks → Keep [p] H H' → Q (.ref t) H')
def spNumbers (K : PySem.W.Frag) (C : Addr) : Sp := fun vs H Q _ => ∃ p c q b m w a l g ks k bs, vs = [.ref p, .ref q] ∧ MouthAt C H p c m w a l g ks ∧ SqT K H q [.int k, .ref b] ∧ SqT K H b (bs.map V.int) ∧ 0 < m ∧ bs.length ≤ 16 ∧
  ∀ f H', H f = none → H' f = some (.lst ((srt (allOf (newestOf m l k) bs)).map V.int)) → Keep [] H H' → Q (.ref f) H'
def foundOf (n : Int) (bs ks : List Int) : List Int := (srt (allOf n bs)).filter fun x => !decide (x ∈ ks)
def spHear (K : PySem.W.Frag) (C CB : Addr) : Sp := fun vs H Q E => ∃ p c q b m w a l g ks k bs, vs = [.ref p, .ref q] ∧ MouthAt C H p c m w a l g ks ∧ SqT K H q [.int k, .ref b] ∧ SqT K H b (bs.map V.int) ∧ 0 ≤ k ∧ k < m ∧ (bs.length : Int) = w ∧ Bits bs ∧ bs.length ≤ 16 ∧ ks.length < 1000000 ∧
  ((∃ x, x ∈ allOf (newestOf m l k) bs ∧ x < 0) → ∀ H', Keep [] H H' → E (.ref CB) none H') ∧
  ((∀ x, x ∈ allOf (newestOf m l k) bs → 0 ≤ x) → ∀ f H', H f = none → H' f = some (.lst ((foundOf (newestOf m l k) bs ks).map V.int)) → MouthAt C H' p c m w a l (max g (newestOf m l k)) (ks ++ foundOf (newestOf m l k) bs ks) → Keep [p, c] H H' → Q (.ref f) H')
end Ak

namespace Ak
open PySem PySem.Spec PyProof.Rows L2
def Bits01 (bs : List Int) : Prop := ∀ x, x ∈ bs → x = 0 ∨ x = 1
def MarkOk (k m : Int) : Prop := 0 ≤ k ∧ k < m
def BitsOk (bs : List Int) (w : Int) : Prop := (bs.length : Int) = w ∧ Bits01 bs
def spMarkX (C2 : Addr) : Sp := fun vs H Q E => ∃ k m : Int, vs = [.int k, .int m] ∧ k.natAbs < 2 ^ 59 ∧ (MarkOk k m → Q .non H) ∧ (¬ MarkOk k m → E (.ref C2) none H)
def spBitsX (K : PySem.W.Frag) (C3 : Addr) : Sp := fun vs H Q E => ∃ b bs, ∃ w : Int, vs = [.ref b, .int w] ∧ SqT K H b (bs.map V.int) ∧ bs.length ≤ 100 ∧ w.natAbs < 2 ^ 59 ∧ (∀ x : Int, x ∈ bs → x.natAbs < 2 ^ 59) ∧ (BitsOk bs w → ∀ H', Keep [] H H' → Q .non H') ∧ (¬ BitsOk bs w → ∀ H', Keep [] H H' → E (.ref C3) none H')
def spTellX (K : PySem.W.Frag) (C2 C3 : Addr) : Sp := fun vs H Q E => ∃ q b bs, ∃ k m w : Int, vs = [.ref q, .int m, .int w] ∧ SqT K H q [.int k, .ref b] ∧ SqT K H b (bs.map V.int) ∧ bs.length ≤ 100 ∧ w.natAbs < 2 ^ 59 ∧ k.natAbs < 2 ^ 59 ∧ (∀ x : Int, x ∈ bs → x.natAbs < 2 ^ 59) ∧
  (¬ MarkOk k m → E (.ref C2) none H) ∧ (MarkOk k m → ¬ BitsOk bs w → ∀ H', Keep [] H H' → E (.ref C3) none H') ∧ (MarkOk k m → BitsOk bs w → ∀ H', Keep [] H H' → Q .non H')
end Ak

namespace Ak
open PySem PySem.Spec PyProof.Rows L2
section
variable {P : Program} {w : World} {K : PySem.W.Frag} {mg : Str → Option Value} {base : Heap}
theorem ok_next {f : Addr} {fd : FuncData} (F : L2.Fun K "_law_next" "_law_next" s_l_next f fd) (g_len : mg "len" = none) : FnOk P w K mg base (L2.CX P w) 1 f fd ["_law_dice_here", "_law_many"] (spNext K) := by
  refine Fun.okX F sc_l_next (fun vs H Q E h => ?_) (fun cdv A outer s H vs Q E hr h => ?_)
  · obtain ⟨_, _, _, rfl, _⟩ := h
    rfl
  · obtain ⟨H0, d, n, rfl, n0, n1, ⟨⟨a, ns, i, m, r, hd, ha, hl, i0⟩, dn, dx⟩, k⟩ := h
    refine ⟨_, (pss_cons (ps_if (pt_cmpR op_gt (pe_ix (Ak.ix_K (K := K) (by rfl)) (pv 0) pe_int (by intro _ _; rfl)) pe_int (nomark _))
      (pss_cons (ps_set (i := 2) sc_l_next.nd rfl (Or.inl rfl) (pe_op op_mod (pe_ix (Ak.ix_K (K := K) (by rfl)) (pv 0) pe_int (by intro _ _; rfl)) (pv 1)))
      (pss_cons (ps_asg (pe_op op_fdiv (pe_ix (Ak.ix_K (K := K) (by rfl)) (pv 0) pe_int (by intro _ _; rfl)) (pv 1)) (pg_sub (pv 0) pe_int set_list))
      (pss_one (ps_ret (pv 2)))))
      pss_nil)
      (pss_cons (ps_asg (pe_op (Ak.op_plusK (K := K) (by rfl)) (pe_ix (Ak.ix_K (K := K) (by rfl)) (pv 0) pe_int (by intro _ _; rfl)) pe_int) (pg_sub (pv 0) pe_int set_list))
      (pss_cons (ps_if (pt_cmpR op_le (pe_ix (Ak.ix_K (K := K) (by rfl)) (pv 0) pe_int (by intro _ _; rfl)) (pe_callB (Ak.cr_lenK (K := K) (by rfl)) (by rfl) g_len (by decide +kernel) (pa_cons (pe_ix (Ak.ix_K (K := K) (by rfl)) (pv 0) pe_int (by intro _ _; rfl)) pa_nil)) (nomark _))
      (pss_cons (ps_set (i := 3) sc_l_next.nd rfl (Or.inl rfl) (pe_ix (Ak.ix_K (K := K) (by rfl)) (pe_ix (Ak.ix_K (K := K) (by rfl)) (pv 0) pe_int (by intro _ _; rfl)) (pe_op op_sub (pe_ix (Ak.ix_K (K := K) (by rfl)) (pv 0) pe_int (by intro _ _; rfl)) pe_int) (by intro _ _; rfl)))
      (pss_cons (ps_asg (pe_ifExp (pt_cmpR op_ge (pv 3) (pe_op op_pow pe_int pe_int) (nomark _)) (pe_op op_fdiv (pv 3) (pv 1)) pe_int) (pg_sub (pv 0) pe_int set_list))
      (pss_one (ps_ret (pe_op op_mod (pv 3) (pv 1))))))
      pss_nil)
      (pss_cons (ps_asg (pe_op op_mod (pe_op Ak.op_times (pe_ix (Ak.ix_K (K := K) (by rfl)) (pv 0) pe_int (by intro _ _; rfl)) pe_int) pe_int) (pg_sub (pv 0) pe_int set_list))
      (pss_one (ps_ret (pe_op op_mod (pe_op op_fdiv (pe_ix (Ak.ix_K (K := K) (by rfl)) (pv 0) pe_int (by intro _ _; rfl)) pe_int) (pv 1)))))))), ?_⟩
    have e0 : L2.start N_l_next [V.ref d, V.int n] = [some (V.ref d), some (V.int n), none, none] := rfl
    rw [e0]
    try dsimp only [cxOf]
    walk_at "rd"
    have fin : ∀ (x y z u : Int), 0 ≤ y → 0 ≤ x → x < n → Q (.int x) (upd H d (.lst [.ref a, .int y, .int z, .int u])) := fun x y z u y0 x0 x1 =>
      k _ _ x0 x1 ⟨⟨a, ns, y, z, u, upd_same, ha, hl, y0⟩, dn, dx.keep (S := [d]) (by walk_at "kp") (fun b hb => by
        rw [List.mem_singleton.mp hb]
        exact dn)⟩ (by walk_at "kp")
    refine Ak.w_ite (fun h0 => ?_) (fun h0 => ?_)
    · walk_at "rd"
      exact fin _ _ _ _ i0 (Int.emod_nonneg _ (by omega)) (Int.emod_lt_of_pos _ n0)
    · walk_at "rd"
      refine Ak.w_ite (fun h1 => ?_) (fun h1 => ?_)
      · walk_at "rd"
        rw [List.length_map] at h1
        obtain ⟨c, hc⟩ : ∃ c, atI (ns.map V.int) (i + 1 - 1) = some (V.int c) := by
          have e : i + 1 - 1 = ((i.toNat : Nat) : Int) := by omega
          rw [e]
          refine ⟨ns[i.toNat]'(by omega), atI_nat ?_⟩
          rw [List.getElem?_map, List.getElem?_eq_getElem (by omega)]
          rfl
        walk_at "rd"
        refine Ak.w_ite (fun h2 => ?_) (fun h2 => ?_)
        all_goals
          walk_at "rd"
          rw [upd_upd]
          exact fin _ _ _ _ (by omega) (Int.emod_nonneg _ (by omega)) (Int.emod_lt_of_pos _ n0)
      · walk_at "rd"
        rw [upd_upd]
        exact fin _ _ _ _ (by omega) (Int.emod_nonneg _ (by omega)) (Int.emod_lt_of_pos _ n0)
theorem ok_dice {f : Addr} {fd : FuncData} (F : L2.Fun K "_law_dice" "_law_dice" s_l_dice f fd) (g_len : mg "len" = none) (g_int : mg "int" = none) : FnOk P w K mg base (L2.CX P w) 1 f fd ["_law_script"] (spDice K) := by
  refine Fun.okX F sc_l_dice (fun vs H Q E h => ?_) (fun cdv A outer s H vs Q E hr h => ?_)
  · obtain ⟨_, _, rfl, _⟩ := h
    rfl
  · obtain ⟨a, ns, rfl, ha, hl, k⟩ := h
    refine ⟨_, (pss_cons (ps_set (i := 1) sc_l_dice.nd rfl (Or.inl rfl) pe_int)
      (pss_cons (ps_for (passes_of rfl) rfl (Ak.pi_listK (K := K) (by rfl) (pv 0)) (pg_name (i := 2) sc_l_dice.nd rfl (Or.inl rfl))
      (pss_one (ps_set (i := 1) sc_l_dice.nd rfl (Or.inl rfl) (pe_op op_mod (pe_op (Ak.op_plusK (K := K) (by rfl)) (pe_op (Ak.op_plusK (K := K) (by rfl)) (pe_op Ak.op_times (pv 1) pe_int) (pe_op Ak.op_times (pe_op op_mod (pv 2) pe_int) pe_int)) pe_int) pe_int))))
      (pss_one (ps_ret (pe_lst (pa_cons (pv 0) (pa_cons pe_int (pa_cons (pe_op Ak.op_times (pv 1) (pe_callTy Ak.cr_intX (by rfl) g_int (by decide +kernel) (pa_cons (pe_cmpR op_gt (pe_callB (Ak.cr_lenK (K := K) (by rfl)) (by rfl) g_len (by decide +kernel) (pa_cons (pv 0) pa_nil)) pe_int (nomark _)) pa_nil))) (pa_cons pe_int pa_nil))))))))), ?_⟩
    have e0 : L2.start N_l_dice [V.ref a] = [some (V.ref a), none, none] := rfl
    rw [e0]
    try dsimp only [cxOf]
    walk_at "rd"
    refine Ak.l_forList ha (fun _ σ H' => ∃ m v, σ = [some (.ref a), some (.int m), v] ∧ H' = H) ⟨0, none, rfl, rfl⟩ (fun i σ' H' _ q => by obtain ⟨_, _, _, rfl⟩ := q; exact ha) (fun i x σ' H' hx q => ?_) (fun σ' H' q => ?_)
    · obtain ⟨m, v, rfl, rfl⟩ := q
      obtain ⟨c, rfl⟩ : ∃ c, x = V.int c := by
        rw [List.getElem?_map] at hx
        cases e : ns[i]? with
        | none => rw [e] at hx; cases hx
        | some c => rw [e] at hx; exact ⟨c, (Option.some.inj hx).symm⟩
      walk_at "rd"
      exact ⟨_, _, rfl, rfl⟩
    · obtain ⟨m, v, rfl, rfl⟩ := q
      walk_at "rd"
      exact k _ _ (by walk_at "as") ⟨⟨a, ns, 0, _, 0, upd_same, ha, hl, Int.le_refl 0⟩, by walk_at "as", by walk_at "xt"⟩ (by walk_at "kp")
end
end Ak

namespace Ak
open PySem PySem.Spec PyProof.Rows L2
section
variable {P : Program} {w : World} {K : PySem.W.Frag} {mg : Str → Option Value} {base : Heap}
theorem ok_setting {f : Addr} {fd : FuncData} (F : L2.Fun K "_law_setting" "_law_setting" s_l_setting f fd) (g_max : mg "max" = none) (g_min : mg "min" = none) (c_l_next : CalX P w K mg base 1 "_law_next" (spNext K)) : FnOk P w K mg base (L2.CX P w) 2 f fd ["_law_d"] (spSetting K) := by
  refine Fun.okX F sc_l_setting (fun vs H Q E h => ?_) (fun cdv A outer s H vs Q E hr h => ?_)
  · obtain ⟨_, _, rfl, _⟩ := h
    rfl
  · obtain ⟨H0, d, rfl, hd, k⟩ := h
    refine ⟨_, (pss_cons (ps_set (i := 1) sc_l_setting.nd rfl (Or.inl rfl) (pe_ix (Ak.ix_K (K := K) (by rfl)) (pe_lst (pa_cons (Ak.pe_cx c_l_next hr (by walk_at "lv") (by rfl) (takes_of rfl rfl rfl rfl) (pa_cons (pv 0) (pa_cons pe_int pa_nil))) (pa_cons (Ak.pe_cx c_l_next hr (by walk_at "lv") (by rfl) (takes_of rfl rfl rfl rfl) (pa_cons (pv 0) (pa_cons pe_int pa_nil))) pa_nil))) (Ak.pe_cx c_l_next hr (by walk_at "lv") (by rfl) (takes_of rfl rfl rfl rfl) (pa_cons (pv 0) (pa_cons pe_int pa_nil))) (by intro _ _; rfl)))
      (pss_cons (ps_set (i := 2) sc_l_setting.nd rfl (Or.inl rfl) (pe_op (Ak.op_plusK (K := K) (by rfl)) pe_int (pe_ix (Ak.ix_K (K := K) (by rfl)) (pe_lst (pa_cons (Ak.pe_cx c_l_next hr (by walk_at "lv") (by rfl) (takes_of rfl rfl rfl rfl) (pa_cons (pv 0) (pa_cons pe_int pa_nil))) (pa_cons (Ak.pe_cx c_l_next hr (by walk_at "lv") (by rfl) (takes_of rfl rfl rfl rfl) (pa_cons (pv 0) (pa_cons pe_int pa_nil))) pa_nil))) (Ak.pe_cx c_l_next hr (by walk_at "lv") (by rfl) (takes_of rfl rfl rfl rfl) (pa_cons (pv 0) (pa_cons pe_int pa_nil))) (by intro _ _; rfl))))
      (pss_cons (ps_set (i := 3) sc_l_setting.nd rfl (Or.inl rfl) (pe_ix (Ak.ix_K (K := K) (by rfl)) (pe_lst (pa_cons (Ak.pe_cx c_l_next hr (by walk_at "lv") (by rfl) (takes_of rfl rfl rfl rfl) (pa_cons (pv 0) (pa_cons pe_int pa_nil))) (pa_cons (Ak.pe_cx c_l_next hr (by walk_at "lv") (by rfl) (takes_of rfl rfl rfl rfl) (pa_cons (pv 0) (pa_cons pe_int pa_nil))) pa_nil))) (Ak.pe_cx c_l_next hr (by walk_at "lv") (by rfl) (takes_of rfl rfl rfl rfl) (pa_cons (pv 0) (pa_cons pe_int pa_nil))) (by intro _ _; rfl)))
      (pss_cons (ps_set (i := 4) sc_l_setting.nd rfl (Or.inl rfl) (pe_op (Ak.op_plusK (K := K) (by rfl)) (pe_op (Ak.op_plusK (K := K) (by rfl)) (pv 1) (pv 2)) (pe_ix (Ak.ix_K (K := K) (by rfl)) (pe_lst (pa_cons pe_int (pa_cons pe_int (pa_cons pe_int (pa_cons pe_int (pa_cons (pe_op op_sub (Ak.pe_cx c_l_next hr (by walk_at "lv") (by rfl) (takes_of rfl rfl rfl rfl) (pa_cons (pv 0) (pa_cons pe_int pa_nil))) pe_int) pa_nil)))))) (Ak.pe_cx c_l_next hr (by walk_at "lv") (by rfl) (takes_of rfl rfl rfl rfl) (pa_cons (pv 0) (pa_cons pe_int pa_nil))) (by intro _ _; rfl))))
      (pss_cons (ps_set (i := 4) sc_l_setting.nd rfl (Or.inl rfl) (pe_ix (Ak.ix_K (K := K) (by rfl)) (pe_lst (pa_cons (pv 4) (pa_cons (pe_op (Ak.op_plusK (K := K) (by rfl)) pe_int (Ak.pe_cx c_l_next hr (by walk_at "lv") (by rfl) (takes_of rfl rfl rfl rfl) (pa_cons (pv 0) (pa_cons pe_int pa_nil)))) (pa_cons pe_int pa_nil)))) (pe_callB (Ak.cr_maxK (K := K) (by rfl) rfl) (by rfl) g_max (by decide +kernel) (pa_cons pe_int (pa_cons (pe_op op_sub (Ak.pe_cx c_l_next hr (by walk_at "lv") (by rfl) (takes_of rfl rfl rfl rfl) (pa_cons (pv 0) (pa_cons pe_int pa_nil))) pe_int) pa_nil))) (by intro _ _; rfl)))
      (pss_one (ps_ret (pe_tup (pa_cons (pe_callB (Ak.cr_minK (K := K) (by rfl) rfl) (by rfl) g_min (by decide +kernel) (pa_cons pe_int (pa_cons (pe_callB (Ak.cr_maxK (K := K) (by rfl) rfl) (by rfl) g_max (by decide +kernel) (pa_cons pe_int (pa_cons (pv 4) pa_nil))) pa_nil))) (pa_cons (pv 3) (pa_cons (pv 1) (pa_cons (pv 2) pa_nil)))))))))))), ?_⟩
    have e0 : L2.start N_l_setting [V.ref d] = [some (V.ref d), none, none, none, none] := rfl
    rw [e0]
    try dsimp only [cxOf]
    walk_at "rd"
    refine Ak.pickP (fun v => 0 ≤ v ∧ v ≤ 8) (by walk_at "sq") (by omega) (by show _ < (2 : Int); omega) (by walk_at "pk") (fun late hlate => ?_)
    walk_at "rd"
    refine Ak.pickP (fun v => 0 ≤ v ∧ v ≤ 15) (by walk_at "sq") (by omega) (by show _ < (2 : Int); omega) (by walk_at "pk") (fun ah hah => ?_)
    walk_at "rd"
    refine Ak.pickP (fun v => 0 ≤ v ∧ v ≤ 16) (by walk_at "sq") (by omega) (by show _ < (2 : Int); omega) (by walk_at "pk") (fun wide hwide => ?_)
    walk_at "rd"
    refine Ak.pickP (fun v => True) (by walk_at "sq") (by omega) (by show _ < (5 : Int); omega) (by
      intro x hx
      (repeat (rcases List.mem_cons.mp hx with rfl | hx; · exact ⟨_, rfl, trivial⟩))
      exact absurd hx List.not_mem_nil) (fun mk _ => ?_)
    walk_at "rd"
    refine Ak.pickP (fun v => True) (by walk_at "sq") (by omega) (by show _ < (3 : Int); omega) (by
      intro x hx
      (repeat (rcases List.mem_cons.mp hx with rfl | hx; · exact ⟨_, rfl, trivial⟩))
      exact absurd hx List.not_mem_nil) (fun mk2 _ => ?_)
    walk_at "rd"
    exact k _ _ _ _ _ _ ⟨by omega, by omega, by omega, by omega, by omega, by omega, by omega, by omega⟩ (Ak.fresh_of [d] (by walk_at "as") (by walk_at "kp")) upd_same (by walk_at "dc") (by walk_at "kp")
end
end Ak

namespace Ak
open PySem PySem.Spec PyProof.Rows L2
section
variable {P : Program} {w : World} {K : PySem.W.Frag} {mg : Str → Option Value} {base : Heap}
theorem like_step {n : Nat} {f : Addr} {fd : FuncData} (F : L2.Fun K "_law_like" "_law_like" s_l_like f fd) (g_isinstance : mg "isinstance" = none) (g_bool : mg "bool" = none) (g_str : mg "str" = none) (g_int : mg "int" = none) (g_dict : mg "dict" = none) (g_tuple : mg "tuple" = none) (g_list : mg "list" = none)
    (g_len : mg "len" = none) (g_range : mg "range" = none) (c_l_like : CalX P w K mg base (n + 1) "_law_like" (spLike K n)) : FnOk P w K mg base (L2.CX P w) (n + 2) f fd ["_law_found", "_law_due"] (spLike K (n + 1)) := by
  refine Fun.okX F sc_l_like (fun vs H Q E h => ?_) (fun cdv A outer s H vs Q E hr h => ?_)
  · obtain ⟨_, _, rfl, _⟩ := h
    rfl
  · obtain ⟨x, y, rfl, al, k⟩ := h
    refine ⟨_, (pss_cons (ps_if (Ak.pt_truK (K := K) (by rfl) (pe_callB (Ak.cr_isiK (K := K) (by rfl)) (by rfl) g_isinstance (by decide +kernel) (pa_cons (pv 1) (pa_cons (Ak.pe_ty (T := "bool") (by rfl) g_bool (by decide +kernel)) pa_nil))))
      (pss_one (ps_ret (pe_and (pe_callB (Ak.cr_isiK (K := K) (by rfl)) (by rfl) g_isinstance (by decide +kernel) (pa_cons (pv 0) (pa_cons (Ak.pe_ty (T := "bool") (by rfl) g_bool (by decide +kernel)) pa_nil))) (pe_one (pe_cmpR (Ak.op_eqK (K := K) (by rfl) hr.units) (pv 0) (pv 1) (nomark _))))))
      pss_nil)
      (pss_cons (ps_if (Ak.pt_truK (K := K) (by rfl) (pe_callB (Ak.cr_isiK (K := K) (by rfl)) (by rfl) g_isinstance (by decide +kernel) (pa_cons (pv 1) (pa_cons (Ak.pe_ty (T := "str") (by rfl) g_str (by decide +kernel)) pa_nil))))
      (pss_one (ps_ret (pe_and (pe_callB (Ak.cr_isiK (K := K) (by rfl)) (by rfl) g_isinstance (by decide +kernel) (pa_cons (pv 0) (pa_cons (Ak.pe_ty (T := "str") (by rfl) g_str (by decide +kernel)) pa_nil))) (pe_one (pe_cmpR (Ak.op_eqK (K := K) (by rfl) hr.units) (pv 0) (pv 1) (nomark _))))))
      pss_nil)
      (pss_cons (ps_if (Ak.pt_truK (K := K) (by rfl) (pe_callB (Ak.cr_isiK (K := K) (by rfl)) (by rfl) g_isinstance (by decide +kernel) (pa_cons (pv 1) (pa_cons (Ak.pe_ty (T := "int") (by rfl) g_int (by decide +kernel)) pa_nil))))
      (pss_one (ps_ret (pe_and (pe_callB (Ak.cr_isiK (K := K) (by rfl)) (by rfl) g_isinstance (by decide +kernel) (pa_cons (pv 0) (pa_cons (Ak.pe_ty (T := "int") (by rfl) g_int (by decide +kernel)) pa_nil))) (pe_and (pe_not (pe_callB (Ak.cr_isiK (K := K) (by rfl)) (by rfl) g_isinstance (by decide +kernel) (pa_cons (pv 0) (pa_cons (Ak.pe_ty (T := "bool") (by rfl) g_bool (by decide +kernel)) pa_nil)))) (pe_one (pe_cmpR (Ak.op_eqK (K := K) (by rfl) hr.units) (pv 0) (pv 1) (nomark _)))))))
      pss_nil)
      (pss_cons (ps_if (pt_cmpR Ak.op_isNon (pv 1) pe_non (nomark _))
      (pss_one (ps_ret (pe_cmpR Ak.op_isNon (pv 0) pe_non (nomark _))))
      pss_nil)
      (pss_cons (ps_if (Ak.pt_truK (K := K) (by rfl) (pe_callB (Ak.cr_isiK (K := K) (by rfl)) (by rfl) g_isinstance (by decide +kernel) (pa_cons (pv 1) (pa_cons (Ak.pe_ty (T := "dict") (by rfl) g_dict (by decide +kernel)) pa_nil))))
      (pss_cons ps_never
      (pss_one ps_never))
      pss_nil)
      (pss_cons (ps_if (PW.pt (pw_or (pt_cmpR (Ak.op_neK (K := K) (by rfl) hr.units) (pe_callB (Ak.cr_isiK (K := K) (by rfl)) (by rfl) g_isinstance (by decide +kernel) (pa_cons (pv 1) (pa_cons (Ak.pe_ty (T := "tuple") (by rfl) g_tuple (by decide +kernel)) pa_nil))) (pe_callB (Ak.cr_isiK (K := K) (by rfl)) (by rfl) g_isinstance (by decide +kernel) (pa_cons (pv 0) (pa_cons (Ak.pe_ty (T := "tuple") (by rfl) g_tuple (by decide +kernel)) pa_nil))) (nomark _)) (pw_or1 (pt_cmpR (Ak.op_neK (K := K) (by rfl) hr.units) (pe_callB (Ak.cr_isiK (K := K) (by rfl)) (by rfl) g_isinstance (by decide +kernel) (pa_cons (pv 1) (pa_cons (Ak.pe_ty (T := "list") (by rfl) g_list (by decide +kernel)) pa_nil))) (pe_callB (Ak.cr_isiK (K := K) (by rfl)) (by rfl) g_isinstance (by decide +kernel) (pa_cons (pv 0) (pa_cons (Ak.pe_ty (T := "list") (by rfl) g_list (by decide +kernel)) pa_nil))) (nomark _)))))
      (pss_one (ps_ret pe_bl))
      pss_nil)
      (pss_cons (ps_if (pt_cmpR (Ak.op_neK (K := K) (by rfl) hr.units) (pe_callB (Ak.cr_lenK (K := K) (by rfl)) (by rfl) g_len (by decide +kernel) (pa_cons (pv 0) pa_nil)) (pe_callB (Ak.cr_lenK (K := K) (by rfl)) (by rfl) g_len (by decide +kernel) (pa_cons (pv 1) pa_nil)) (nomark _))
      (pss_one (ps_ret pe_bl))
      pss_nil)
      (pss_cons (ps_for (passes_of rfl) rfl (pi_range1 (by rfl) g_range (pa_cons (pe_callB (Ak.cr_lenK (K := K) (by rfl)) (by rfl) g_len (by decide +kernel) (pa_cons (pv 1) pa_nil)) pa_nil)) (pg_name (i := 3) sc_l_like.nd rfl (Or.inl rfl))
      (pss_one (ps_if (pt_not (Ak.pt_truK (K := K) (by rfl) (Ak.pe_cx c_l_like hr (by walk_at "lv") (by rfl) (takes_of rfl rfl rfl rfl) (pa_cons (pe_ix (Ak.ix_K (K := K) (by rfl)) (pv 0) (pv 3) (by intro _ _; rfl)) (pa_cons (pe_ix (Ak.ix_K (K := K) (by rfl)) (pv 1) (pv 3) (by intro _ _; rfl)) pa_nil)))))
      (pss_one (ps_ret pe_bl))
      pss_nil)))
      (pss_one (ps_ret pe_bl)))))))))), ?_⟩
    have e0 : L2.start N_l_like [x, y] = [some (x), some (y), none, none] := rfl
    rw [e0]
    try dsimp only [cxOf]
    rcases al with ⟨b, rfl, rfl⟩ | ⟨b, rfl, rfl⟩ | ⟨b, rfl, rfl⟩ | ⟨rfl, rfl⟩ | ⟨a, b, xs, ys, rfl, rfl, hx, hy, hl, hz, hk⟩ | ⟨a, b, xs, ys, rfl, rfl, hx, hy, hl, hz, hk⟩
    · walk_at "rd"
      rw [decide_eq_true rfl]
      exact k
    · walk_at "rd"
      rw [decide_eq_true rfl]
      exact k
    · walk_at "rd"
      rw [decide_eq_true rfl]
      exact k
    · walk_at "rd"
      exact k
    all_goals
      walk_at "rd"
      refine Ak.w_iteN (fun z => absurd (by rw [hl]) z) (fun _ => ?_)
      walk_at "rd"
      refine Ak.l_forR1 (by omega) (by omega) (fun _ σ H' => (∃ v, σ = [some (.ref a), some (.ref b), none, v]) ∧ H' = H) ⟨⟨none, rfl⟩, rfl⟩ (fun i σ' H' hi q => ?_) (fun σ' H' q => ?_)
      · obtain ⟨⟨v, rfl⟩, rfl⟩ := q
        have i1 : i < ys.length := by omega
        have i2 : i < xs.length := by omega
        have q1 : atI xs (i : Int) = some (xs[i]'i2) := atI_nat (List.getElem?_eq_getElem i2)
        have q2 : atI ys (i : Int) = some (ys[i]'i1) := atI_nat (List.getElem?_eq_getElem i1)
        walk_at "rd"
        refine Ak.like_go (hk i _ _ (List.getElem?_eq_getElem i2) (List.getElem?_eq_getElem i1)) ?_
        walk_at "rd"
        exact ⟨⟨_, rfl⟩, rfl⟩
      · obtain ⟨⟨v, rfl⟩, rfl⟩ := q
        walk_at "rd"
        exact k
theorem ok_like {f : Addr} {fd : FuncData} (F : L2.Fun K "_law_like" "_law_like" s_l_like f fd) (g_isinstance : mg "isinstance" = none) (g_bool : mg "bool" = none) (g_str : mg "str" = none) (g_int : mg "int" = none) (g_dict : mg "dict" = none) (g_tuple : mg "tuple" = none) (g_list : mg "list" = none)
    (g_len : mg "len" = none) (g_range : mg "range" = none) (gf : mg "_law_like" = some (.ref f)) (b : Binds K fd ["_law_found", "_law_due"] []) : ∀ n, CalX P w K mg base (n + 1) "_law_like" (spLike K n)
  | 0 => ⟨f, fd, ["_law_found", "_law_due"], ⟨fun _ _ _ _ ⟨_, _, _, al, _⟩ => al.elim, fun _ _ _ _ _ _ _ _ _ _ _ _ _ ⟨_, _, _, al, _⟩ => al.elim⟩, gf, F.kp, b⟩
  | n + 1 => ⟨f, fd, ["_law_found", "_law_due"], like_step F g_isinstance g_bool g_str g_int g_dict g_tuple g_list g_len g_range (ok_like F g_isinstance g_bool g_str g_int g_dict g_tuple g_list g_len g_range gf b n), gf, F.kp, b⟩
end
end Ak

namespace Ak
open PySem PySem.Spec PyProof.Rows L2
theorem log2_small {n : Nat} (h : n < 1152921504606846976) : n.log2 < 60 := by
  rcases Nat.eq_zero_or_pos n with rfl | z
  · decide
  · exact (Nat.log2_lt (by omega)).mpr h
theorem dec_len {i : Int} (h2 : i.natAbs < 2 ^ 59) : (Str.ofString (toString i)).length ≤ 100 := by
  have e := int_text_length_le (a := i) (k := 60) (by decide) (log2_small (by omega))
  rw [PySem.ofString_length]
  omega
section
variable {σ : L2.St} {H : Hp} {ts : List TE} {acc c : Str} {Q : Str → Hp → Prop} {te : TE} {i : Int} {R : VK}
theorem j_nil (h : Q acc H) : tJs [] acc σ H Q := h
theorem j_c (hl : acc.length + c.length ≤ 2000) (h : tJs ts (acc ++ c) σ H Q) : tJs (tC (.str c) :: ts) acc σ H Q := ⟨c, rfl, by rw [Str.length_append, sizeLine_eq]; omega, h⟩
def kJ (acc : Str) (ts : List TE) (σ : L2.St) (Q : Str → Hp → Prop) (x : V) (H1 : Hp) : Prop := ∃ y : Str, x = .str y ∧ (acc ++ y).length ≤ sizeLine ∧ tJs ts (acc ++ y) σ H1 Q
theorem j_t (h : te σ H fun x H1 => kJ acc ts σ Q x H1) : tJs (te :: ts) acc σ H Q := h
theorem k_J {y : Str} (hl : acc.length + y.length ≤ 2000) (h : tJs ts (acc ++ y) σ H Q) : kJ acc ts σ Q (.str y) H := ⟨y, rfl, by rw [Str.length_append, sizeLine_eq]; omega, h⟩
def kF (R : VK) (x : V) (H1 : Hp) : Prop := (∃ y : Str, x = .str y ∧ y.length ≤ sizeLine ∧ R (.str y) H1) ∨ ∃ i : Int, x = .int i ∧ i.natAbs.log2 < 1920 ∧ R (.str (toString i)) H1
theorem w_fmtK (h : te σ H fun x H1 => kF R x H1) : tFmt te σ H R := h
theorem k_Fi (hb : i.natAbs < 2 ^ 59) (h : R (.str (Str.ofString (toString i))) H) : kF R (.int i) H := Or.inr ⟨i, rfl, by have := log2_small (n := i.natAbs) (by omega); omega, h⟩
theorem k_Fs {y : Str} (hl : y.length ≤ 2000) (h : R (.str y) H) : kF R (.str y) H := Or.inl ⟨y, rfl, by rw [sizeLine_eq]; omega, h⟩
end
section
variable {P : Program} {w : World} {K : PySem.W.Frag} {mg : Str → Option Value} {base : Heap} {C2 C3 : Addr}
theorem ok_markX {f : Addr} {fd : FuncData} (F : L2.Fun K "check_mark" "check_mark" s_check_mark f fd) (x_BadMark : RaiseC K mg "BadMark" C2) : FnOk P w K mg base (L2.CX P w) 1 f fd ["mark", "marks"] (spMarkX C2) := by
  refine Fun.okX F sc_check_mark (fun vs H Q E h => ?_) (fun cdv A outer s H vs Q E hr h => ?_)
  · obtain ⟨_, _, rfl, _⟩ := h
    rfl
  · obtain ⟨k, m, rfl, hk, kg, kb⟩ := h
    refine ⟨_, (pss_one (ps_if (PW.pt (pw_or (pt_cmpR op_lt (pv 0) pe_int (nomark _)) (pw_or1 (pt_cmpR op_ge (pv 0) (pv 1) (nomark _)))))
      (pss_one (ps_raise rfl (takes_of rfl rfl rfl rfl) (pmk_ownA PySem.F.excBase_ValueError x_BadMark.q x_BadMark.g x_BadMark.k x_BadMark.r rfl (pa_cons (pe_joined (.cons pe_str (.cons (pe_fmt (pv 0)) .nil))) pa_nil))))
      pss_nil)), ?_⟩
    have e0 : L2.start N_check_mark [V.int k, V.int m] = [some (V.int k), some (V.int m)] := rfl
    rw [e0]
    try dsimp only [cxOf]
    walk_at "rd"
    have dl := dec_len hk
    have raise1 : ∀ R : Str → Hp → Prop, (∀ out, R out H) → tJs [tC (.str "there is no mark "), tFmt (tVar 0)] Str.empty [some (.int k), some (.int m)] H R := fun R hR => by
      refine j_c (by decide +kernel) ?_
      refine j_t (w_fmtK ?_)
      refine Ak.w_var (by exact rfl) ?_
      refine k_Fi hk ?_
      refine k_J ?_ (j_nil (hR _))
      have : (Str.empty ++ Str.ofString "there is no mark ").length ≤ 100 := by decide +kernel
      omega
    refine Ak.w_ite (fun z => ?_) (fun z => ?_)
    · walk_at "rd"
      refine raise1 _ fun out => ?_
      exact ⟨by show 1 ≤ sizeLine; decide, kb fun h => by have := h.1; omega⟩
    · walk_at "rd"
      refine Ak.w_ite (fun z2 => ?_) (fun z2 => ?_)
      · walk_at "rd"
        refine raise1 _ fun out => ?_
        exact ⟨by show 1 ≤ sizeLine; decide, kb fun h => by have := h.2; omega⟩
      · walk_at "rd"
        exact kg ⟨by omega, by omega⟩
theorem ok_bitsX {f : Addr} {fd : FuncData} (F : L2.Fun K "check_bits" "check_bits" s_check_bits f fd) (g_len : mg "len" = none) (x_BadBits : RaiseC K mg "BadBits" C3) : FnOk P w K mg base (L2.CX P w) 1 f fd ["bits", "wide"] (spBitsX K C3) := by
  refine Fun.okX F sc_check_bits (fun vs H Q E h => ?_) (fun cdv A outer s H vs Q E hr h => ?_)
  · obtain ⟨_, _, _, rfl, _⟩ := h
    rfl
  · obtain ⟨b, bs, wi, rfl, hb, hl, hw, hx, kg, kb⟩ := h
    refine ⟨_, (pss_cons (ps_if (pt_cmpR (Ak.op_neK (K := K) (by rfl) hr.units) (pe_callB (Ak.cr_lenK (K := K) (by rfl)) (by rfl) g_len (by decide +kernel) (pa_cons (pv 0) pa_nil)) (pv 1) (nomark _))
      (pss_one (ps_raise rfl (takes_of rfl rfl rfl rfl) (pmk_ownA PySem.F.excBase_ValueError x_BadBits.q x_BadBits.g x_BadBits.k x_BadBits.r rfl (pa_cons (pe_joined (.cons (pe_fmt (pe_callB (Ak.cr_lenK (K := K) (by rfl)) (by rfl) g_len (by decide +kernel) (pa_cons (pv 0) pa_nil))) (.cons pe_str (.cons (pe_fmt (pv 1)) .nil)))) pa_nil))))
      pss_nil)
      (pss_one (ps_for (passes_of rfl) rfl (Ak.pi_tupK (K := K) (by rfl) (pv 0)) (pg_name (i := 2) sc_check_bits.nd rfl (Or.inl rfl))
      (pss_one (ps_if (pt_cmpR (Ak.op_ninK (K := K) (by rfl)) (pv 2) (pe_tup (pa_cons pe_int (pa_cons pe_int pa_nil))) (by rfl))
      (pss_one (ps_raise rfl (takes_of rfl rfl rfl rfl) (pmk_ownA PySem.F.excBase_ValueError x_BadBits.q x_BadBits.g x_BadBits.k x_BadBits.r rfl (pa_cons (pe_joined (.cons (pe_fmt (pv 2)) (.cons pe_str .nil))) pa_nil))))
      pss_nil))))), ?_⟩
    have e0 : L2.start N_check_bits [V.ref b, V.int wi] = [some (V.ref b), some (V.int wi), none] := rfl
    rw [e0]
    try dsimp only [cxOf]
    have lm : (bs.map V.int).length = bs.length := List.length_map _
    walk_at "rd"
    refine Ak.w_iteN (fun z => ?_) (fun z => ?_)
    · rw [lm] at z
      walk_at "rd"
      refine j_t (w_fmtK ?_)
      walk_at "rd"
      rw [lm]
      have d1 := dec_len (i := (bs.length : Int)) (by omega)
      have d2 := dec_len hw
      have d3 : (Str.ofString " bits instead of ").length ≤ 100 := by decide +kernel
      have d0 : Str.empty.length = 0 := rfl
      refine k_Fi (by omega) (k_J (by omega) ?_)
      refine j_c (by rw [Str.length_append]; omega) ?_
      refine j_t (w_fmtK ?_)
      walk_at "rd"
      refine k_Fi hw (k_J (by rw [Str.length_append, Str.length_append]; omega) (j_nil ?_))
      exact ⟨by show 1 ≤ sizeLine; decide, kb (fun h => z h.1) _ Keep.refl⟩
    · rw [lm] at z
      walk_at "rd"
      refine l_forTup hb (fun i σ' H' => ∃ v, σ' = [some (.ref b), some (.int wi), v] ∧ Keep [] H H' ∧ ∀ x, x ∈ bs.take i → x = 0 ∨ x = 1) ⟨none, rfl, Keep.refl, fun x hx => absurd hx (by simp)⟩ (fun i σ' H' _ pv => by obtain ⟨_, _, pv, _⟩ := pv; exact pv.seqT nin_nil hb) (fun i x σ' H' hx' pv => ?_) (fun σ' H' pv => ?_)
      · obtain ⟨v, rfl, hk, hall⟩ := pv
        obtain ⟨y, hy, rfl⟩ := map_at hx'
        walk_at "rd"
        rename_i t nt
        have k1 : Keep [] H (upd H' t (.tup [.int 0, .int 1])) := hk.new nt
        refine w_ninO upd_same rfl rfl rfl ?_
        have e01 : inV (.int y) [V.int 0, V.int 1] = decide (y ∈ [(0 : Int), 1]) := inV_ints y [0, 1]
        rw [e01]
        walk_at "rd"
        refine Ak.w_iteN (fun z2 => ?_) (fun z2 => ?_)
        · walk_at "rd"
          refine j_t (w_fmtK ?_)
          walk_at "rd"
          have d1 := dec_len (hx y (List.mem_of_getElem? hy))
          have d0 : Str.empty.length = 0 := rfl
          have d3 : (Str.ofString " is no bit").length ≤ 100 := by decide +kernel
          refine k_Fi (hx y (List.mem_of_getElem? hy)) (k_J (by omega) ?_)
          refine j_c (by rw [Str.length_append]; omega) (j_nil ?_)
          exact ⟨by show 1 ≤ sizeLine; decide, kb (fun h => z2 (by
            have := h.2 y (List.mem_of_getElem? hy)
            simpa using this)) _ k1⟩
        · walk_at "rd"
          refine ⟨_, rfl, k1, fun x hx2 => ?_⟩
          rw [take_at hy] at hx2
          rcases List.mem_append.mp hx2 with h | h
          · exact hall x h
          · rw [List.mem_singleton.mp h]
            simpa using z2
      · obtain ⟨v, rfl, hk, hall⟩ := pv
        rw [lm, List.take_length] at hall
        walk_at "rd"
        exact kg ⟨z, hall⟩ _ hk
theorem ok_tellX {f : Addr} {fd : FuncData} (F : L2.Fun K "check_telling" "check_telling" s_check_telling f fd) (c_check_mark : CalX P w K mg base 1 "check_mark" (spMarkX C2)) (c_check_bits : CalX P w K mg base 1 "check_bits" (spBitsX K C3)) : FnOk P w K mg base (L2.CX P w) 2 f fd ["told", "marks", "wide"] (spTellX K C2 C3) := by
  refine Fun.okX F sc_check_telling (fun vs H Q E h => ?_) (fun cdv A outer s H vs Q E hr h => ?_)
  · obtain ⟨_, _, _, _, _, _, rfl, _⟩ := h
    rfl
  · obtain ⟨q, b, bs, k, m, wi, rfl, hq, hb, hl, hw, hk, hx, k1, k2, k3⟩ := h
    refine ⟨_, (pss_cons (ps_asg (pv 0) (Ak.pg_tupK (K := K) (n := 2) (by rfl) rfl (pgs_cons (pg_name (i := 3) sc_check_telling.nd rfl (Or.inl rfl)) (pgs_cons (pg_name (i := 4) sc_check_telling.nd rfl (Or.inl rfl)) pgs_nil))))
      (pss_cons (ps_expr (Ak.pe_cx c_check_mark hr (by walk_at "lv") (by rfl) (takes_of rfl rfl rfl rfl) (pa_cons (pv 3) (pa_cons (pv 1) pa_nil))))
      (pss_one (ps_expr (Ak.pe_cx c_check_bits hr (by walk_at "lv") (by rfl) (takes_of rfl rfl rfl rfl) (pa_cons (pv 4) (pa_cons (pv 2) pa_nil))))))), ?_⟩
    have e0 : L2.start N_check_telling [V.ref q, V.int m, V.int wi] = [some (V.ref q), some (V.int m), some (V.int wi), none, none] := rfl
    rw [e0]
    try dsimp only [cxOf]
    walk_at "rd"
    refine ⟨k, m, rfl, hk, fun ok => ?_, fun no => k1 no⟩
    walk_at "rd"
    refine ⟨b, bs, wi, rfl, hb, hl, hw, hx, fun ok2 H' k' => ?_, fun no H' k' => k2 ok no H' k'⟩
    walk_at "rd"
    exact k3 ok ok2 H' k'
end
end Ak

namespace Ak
open PySem PySem.Spec PyProof.Rows L2
/-! ### super().__init__(x) in the __init__ of an own error over an own class over ValueError -/
section
open PySem.W
variable {prog : Program} {w : World} {A : Around} {E : Value → Shared → Prop} {hh : Heap} {g : Array GenState} {d : Drawn} {tk : Nat} {os : OsState} {B i newId : String} {bmB : List Value}
theorem sup_run {nm q : Str} {C N u x t : Addr} {bs bm : List Value} {hdct : Bool} {sn : List Str} {sub : List Value} {ab : Bool} {col : Option Bool} {dd dv : Option Addr} {k0 k1 k2 k3 k5 : Option Value} {c2 : Value} {rest : List Value} {Q : Value → Shared → Prop} (FB : ExcBaseFacts B newId i bmB)
    (hC : hh.get? C = some (excClassObj nm q C N bs bm hdct sn sub ab col dd k0 k1 k2 k3 k5 newId)) (he : hh.get? x = some (excObj C t dv c2)) (hu : hh.get? u = some (kxs_mw i x)) (hz : rest.length ≤ sizeLine)
    (h : ∀ h', (∀ b o, b ≠ x → hh.get? b = some o → h'.get? b = some o) → h'.get? x = some (excObj C hh.objs.size dv c2) → Q .none ⟨h', g, d, tk, os⟩) : wpAny (model prog w) A (call (.ref u) rest) Q E ⟨hh, g, d, tk, os⟩ := by
  refine wpAny_call (codeAny_of_tree ?_)
  show wpAny _ A.in1 (callAny (.ref u) ⟨rest, []⟩) _ _ _
  simp only [callAny]
  refine wpAny_bind (wpAny_load hu ?_)
  simp only [kxs_mw, show (Value.type "method-wrapper" == Value.type "method" || Value.type "method-wrapper" == Value.type "builtin_function_or_method" || Value.type "method-wrapper" == Value.type "method-wrapper") = true by decide, if_true]
  refine KFB.if_so (by decide) ?_
  refine wpAny_bind (check_bound_init FB.toExcCallFacts hC he rfl ?_)
  refine wpAny_bind (wpAny_pure (wpAny_pure ?_))
  refine ⟨plainId_quiet FB.init.plain _, codeAny_builtin FB.initEntry ?_⟩
  exact exc_init_tree (cls := .ref C) (t0 := t) (dv := dv) (c2 := c2) (c3 := .none) (b4 := .bool false) he hz fun h' k e _ => h h' k e
end
/-- what the written part says of the __init__ at f of the error at C -/
structure SupF (P : Program) (K : PySem.W.Frag) (mg : Str → Option Value) (C f cc cda : Addr) (fd : FuncData) (slf : Str) (of cx : Value) (od cd : Option Addr) (osl csl : Array (Option Value)) (vs : Array Value) (file : Str) (tf : Tok) (cl : Value) (cld : Option Addr) (cls : Array (Option Value)) : Prop where
  lk : K.lookup f = some ⟨of, od, .func fd, osl⟩
  arg : ∃ ar, (fd.params.posonlyargs ++ fd.params.args).head? = some ar ∧ ar.arg = slf
  lc : K.lookup cda = some ⟨cx, cd, .fields vs, csl⟩
  vs2 : vs[2]? = some (.str file tf)
  fl : ((P.main.file : Str) == file) = true
  tp : (P.main.scope.names.lookup ("super" : Str)).isSome = false
  ce : K.lookup cc = some ⟨cl, cld, .cell (some (.ref C)), cls⟩
  dc : (PySem.W.clsIn K C).isSome = true
  sb : PySem.W.mroIn K C (.ref C) = some true
  nm : mg "super" = none
  op : PySem.W.nsIn K cStatics "thirdparty.any" = some none
  su : PySem.W.ks_superIn K C C "__init__" = some (some (.builtin "ValueError.__init__"))
  sv : PySem.W.subIn K (.ref C) (.type "ValueError") = some true
section
variable {X : Cx} {pins : List (Addr × Obj)} {σ : L2.St} {H : Hp} {s : Shared} {a C f cc cda : Addr} {fd : FuncData} {slf : Str} {of cx : Value} {od cd : Option Addr} {osl csl : Array (Option Value)} {vs : Array Value} {file : Str} {tf : Tok} {cl : Value} {cld : Option Addr} {cls : Array (Option Value)}
theorem sup_eval {body : List Stmt} {e : Expr} {es : List Expr} {p0 p1 p2 pos : Pos} {pl : Sem Bool} {t : TA} {R : Hp → Prop} (S : SupF X.prog X.K X.mg C f cc cda fd slf of cx od cd osl csl vs file tf cl cld cls) (T : OexC X.K C) (I : Inv X pins σ H s) (ea : H a = some (exo a C none))
    (hself : σ[0]? = some (some (.ref a))) (hN : X.N[0]? = some slf) (hks : X.env.scope.names.lookup ("super" : Str) = some .globalImplicit) (hkc : X.env.scope.names.lookup ("__class__" : Str) = some .free) (hka : X.env.scope.names.lookup slf = some .local)
    (hfu : X.env.func = some f) (hco : X.env.code = .ref cda) (hcl : X.env.cells.lookup ("__class__" : Str) = some cc) (ha : PA X (e :: es) t)
    (hq : t σ H fun vs H1 => vs.length ≤ 1000 ∧ H1 a = some (exo a C none) ∧ R H1)
    (hmc : eval (.Call (.Attribute (.Call (.Name "super" p0) [] [] p1) "__init__" p2) (e :: es) [] pos) X.env = (do
      let ov ← attributeBase (.Call (.Name "super" p0) [] [] p1) "__init__" X.env (eval (.Call (.Name "super" p0) [] [] p1) X.env)
      standAt p2.atName
      let (f, first) ← holding [ov] (getMethod ov "__init__" pl)
      callWith pos f first (backTo pos (starEach (e :: es) X.env)) []))
    (he : starEach (e :: es) X.env = (false, eval e X.env) :: starEach es X.env) (hpl : (backTo pos (starEach es X.env)).any (·.1) = false) :
    PySem.wpAt (model X.prog X.w) X.A (.func body X.env) (eval (.Call (.Attribute (.Call (.Name "super" p0) [] [] p1) "__init__" p2) (e :: es) [] pos) X.env) (fun _ s' => ∃ H', Inv X pins σ H' s' ∧ R H') X.xe s := by
  obtain ⟨nm, q, N, bs, bm, sn, sub, ab, col, dd, k0, k1, k2, k3, k5, hC, hbm⟩ := T.cls
  have X0 := I.kIn
  obtain ⟨t1, ho⟩ := exo_at I.hok ea
  obtain ⟨ar, har, harg⟩ := S.arg
  obtain ⟨m, hns, hloc⟩ := I.loc
  obtain ⟨u0, ru0, hlk⟩ := hloc 0 slf _ hN hself (.inl hka)
  obtain rfl : u0 = Value.ref a := ru0
  have hma : m slf = some (.ref a) := by
    rcases hlk with ⟨_, h⟩ | ⟨h, _⟩
    · exact h
    · exfalso
      have hk : X.env.kindOf slf = some .local := hka
      rcases h with h | h <;> (rw [hk] at h; cases h)
  obtain ⟨cdC, hcd⟩ := Option.isSome_iff_exists.mp S.dc
  obtain ⟨oD, hD1, hD2⟩ : ∃ oD, s.heap.get? C = some oD ∧ oD.data = .cls cdC := by
    unfold PySem.W.clsIn at hcd
    split at hcd
    · rename_i c d cd' sl hoC
      cases hcd
      exact ⟨_, X0 _ _ hoC, rfl⟩
    · cases hcd
  refine PySem.ks_wpAt_MethodCall ?_ hmc
  refine PySem.ks_wpAt_super_base hks hkc (by decide) hfu (X0 _ _ S.lk) rfl har hco (X0 _ _ S.lc) rfl S.vs2 S.fl S.tp ?_
  obtain ⟨mb, hb1, hb2⟩ := I.ok.mod.blt
  refine PySem.W.ks_loadName_global I.ok.kind hks (Calls.loadGlobal_builtin (by rw [I.ok.glob]; exact I.ok.mod.glob.keeps I.bk) S.nm (by rw [I.ok.blt]; exact hb1.keeps I.bk) ((hb2 "super" (by decide)).trans (by first | rfl | kernel_rfl)) ⟨rfl, ?_⟩)
  refine wpAny_loadName_free I.ok.kind hkc hcl ⟨_, X0 _ _ S.ce, rfl⟩ ?_
  rw [harg]
  refine wpAny_loadName_local I.ok.kind hka hns hma ?_
  obtain ⟨hp, g, d, tk, os⟩ := s
  refine PySem.ks_wpAny_isType_cls hD1 hD2 ⟨rfl, ?_⟩
  refine PySem.ks_wpAny_call_super hD1 hD2 ho rfl (fun c z => by cases z) (PySem.W.looks_mroIn X0 S.sb) (fun h1 e1 kk1 => ?_)
  have I1 : Inv X pins σ H ⟨h1, g, d, tk, os⟩ := I.kept (s := ⟨hp, g, d, tk, os⟩) (t' := tk) kk1
  have ho1 := kk1 _ _ ho
  have inst : PySem.W.InstAt h1 a { cls := .ref C, dict := none, data := .fields #[.ref t1, .none, .none, .none, .bool false, .none] } C none := ⟨ho1, rfl, rfl, trivial⟩
  have hsu := S.su
  unfold PySem.W.ks_superIn at hsu
  rw [hcd, Option.bind_some] at hsu
  have hI : PySem.W.Looks (model X.prog X.w) h1 (isInstance (.ref a) (.type "ValueError")) true := inst.type.andThen (PySem.W.looks_subIn I1.kIn S.sv)
  refine PySem.W.kxs_getMethod PySem.W.kxs_ValueError e1 (PySem.W.looks_opaque I1.kIn S.op) (l₀ := cdC.mro) (fun A Q E s k q => wpAny_bind ((PySem.W.looks_clsIn I1.kIn hcd) A _ E s k (wpAny_pure q))) rfl I1.kIn hsu hI (PySem.W.ks_ne I1.kIn inst hcd) (by decide) ?_
  have hu : (h1.push (PySem.W.kxs_mw "ValueError.__init__" a)).get? h1.objs.size = some (PySem.W.kxs_mw "ValueError.__init__" a) := Heap.get?_push_at rfl rfl
  have I2 : Inv X pins σ H ⟨h1.push (PySem.W.kxs_mw "ValueError.__init__" a), g, d, tk + 1, os⟩ := I1.kept (s := ⟨h1, g, d, tk, os⟩) (t' := tk + 1) (fun b o z => Heap.get?_push_of_some _ z)
  have I3 := I2.pinned (fp := [h1.objs.size]) (fun b hb => by rw [List.mem_singleton.mp hb]; exact I1.fpOk (Nat.le_refl _) (I1.hok.fresh (Nat.le_refl _))) (fun b hb => by rw [List.mem_singleton.mp hb]; exact ⟨_, hu, fun v z => by cases z⟩)
  rw [he]
  refine PySem.W.kxs_callWith (i := "ValueError.__init__") (x := a) (by show (false || (backTo pos (starEach es X.env)).any (·.1)) = false; rw [hpl]; rfl) ?_
  refine Calls.evalArgs_plain ?_
  have har2 := ha.run pos _ _ σ H _ I3 hq
  rw [he] at har2
  refine thn har2 fun us s1 ⟨ws, H1, I4, r1, hl, ea1, hR⟩ => ?_
  have hpin := I4.pin (h1.objs.size, PySem.W.kxs_mw "ValueError.__init__" a) (List.mem_append_right _ (List.mem_append_right _ (by
    unfold pinsAt
    rw [List.filterMap_cons, show (Heap.get? (Shared.heap ⟨h1.push (PySem.W.kxs_mw "ValueError.__init__" a), g, d, tk + 1, os⟩) h1.objs.size) = _ from hu]
    exact List.mem_cons_self)))
  refine ⟨hpin.1, ?_⟩
  obtain ⟨t2, ho2⟩ := exo_at I4.hok ea1
  obtain ⟨hp1, g1, d1, tk1, os1⟩ := s1
  have hlen : us.length ≤ sizeLine := by
    rw [← r1.length, sizeLine_eq]
    omega
  show wpAny _ _ (call (.ref h1.objs.size) us) _ _ _
  refine sup_run PySem.F.excBase_ValueError (I4.kIn _ _ hC) ho2 hpin.1 hlen (fun h' k hx => ?_)
  have J := I4.unpinned.write (s := ⟨hp1, g1, d1, tk1, os1⟩) (t' := tk1) (x := a) (e := a) (o := exo a C none) (by rw [ea1]; exact True.intro) (.inl rfl) k ⟨_, hx⟩ (exo_ok hx)
  have eu : upd H1 a (exo a C none) = H1 := by
    funext b
    by_cases hb : b = a
    · rw [hb, upd_same, ea1]
    · rw [upd_ne hb]
  rw [eu] at J
  exact ⟨H1, J, hR⟩
end
/-- an own error is made: self.fld = v, nothing else is told -/
def spSup (K : PySem.W.Frag) (C : Addr) (fld : Str) : Sp := fun vs H Q _ => ∃ (a : Addr) (v : V), vs = [.ref a, v] ∧ ((∃ i, v = .int i ∧ i.natAbs < 2 ^ 59) ∨ ∃ z : Str, v = .str z ∧ z.length ≤ 100) ∧ OexC K C ∧ H a = some (exo a C none) ∧
  ∀ dx, H dx = none → dx ≠ a → Q .non (upd (upd H dx (exd dx [(fld, v)])) a (exo a C (some dx)))
abbrev supD (qual : Str) (st : Stmt) (cc cda : Addr) (kV doc pm ct : Value) (an : Option Addr) : FuncData := PySem.W.fnX "__init__" qual (defArgs st) (defBody st) (defScope st) [("__class__", cc)] .none kV doc pm an (.ref cda) ct
abbrev supN (qual : Str) (st : Stmt) (cc cda : Addr) : NdefX.NF := ⟨"__init__", qual, defArgs st, defBody st, defScope st, [("__class__", cc)], cda⟩
theorem sup_fn {P : Program} {w : World} {K : PySem.W.Frag} {mg : Str → Option Value} {base : Heap} {k : Nat} {C f cc cda : Addr} {st : Stmt} {qual prm fld : Str} {kV doc pm ct : Value} {an : Option Addr} {of cx : Value} {od cd : Option Addr} {osl csl : Array (Option Value)} {vs : Array Value} {file : Str} {tf : Tok} {cl : Value} {cld : Option Addr} {cls : Array (Option Value)}
    {arg : Expr} {p0 p1 p2 p3 p4 p5 p6 p7 p8 : Pos} {t : TA}
    (S : SupF P K mg C f cc cda (supD qual st cc cda kV doc pm ct an) "self" of cx od cd osl csl vs file tf cl cld cls) (hcd : PySem.W.codeIn K (.ref cda) qual = true)
    (NS : NdefX.NScope ["self", prm, "__class__"] ["self", prm] ["__class__"] (defScope st)) (hks : (defScope st).names.lookup ("super" : Str) = some .globalImplicit)
    (hbody : defBody st = [.Expr (.Call (.Attribute (.Call (.Name "super" p0) [] [] p1) "__init__" p2) [arg] [] p3) p4, .Assign [.Attribute (.Name "self" p5) fld p6] (.Name prm p7) p8])
    (hno : PySem.W.findIn K (.ref C) fld = some none)
    (hmc : ∀ env : Env, eval (.Call (.Attribute (.Call (.Name "super" p0) [] [] p1) "__init__" p2) [arg] [] p3) env = (do
      let ov ← attributeBase (.Call (.Name "super" p0) [] [] p1) "__init__" env (eval (.Call (.Name "super" p0) [] [] p1) env)
      standAt p2.atName
      let (f, first) ← holding [ov] (getMethod ov "__init__" (pure false))
      callWith p3 f first (backTo p3 (starEach [arg] env)) []))
    (hse : ∀ env : Env, starEach [arg] env = (false, eval arg env) :: starEach [] env)
    (hsw : ∀ env : Env, swapsWith (.Call (.Attribute (.Call (.Name "super" p0) [] [] p1) "__init__" p2) [arg] [] p3) none p4.line env = pure false)
    (hprm : (prm == ("__debug__" : Str)) = false) (hprm2 : (prm == ("__classdict__" : Str)) = false)
    (ha : ∀ (A : Around) (outer : List Env) (s : Shared) (H : Hp) (E : XK), Room k (A.deeper (NdefX.envF (supN qual st cc cda) f s.heap.objs.size)) → PA (NdefX.ncx (L2.CX P w) P w K mg base ["self", prm, "__class__"] (supN qual st cc cda) f A outer s H E) [arg] t)
    (hta : ∀ (a : Addr) (v : V) (H : Hp) (Q : List V → Hp → Prop), ((∃ i, v = .int i ∧ i.natAbs < 2 ^ 59) ∨ ∃ z : Str, v = .str z ∧ z.length ≤ 100) → (∀ z : Str, Q [.str z] H) → t [some (.ref a), some v, some (.ref C)] H Q) :
    FnOk P w K mg base (L2.CX P w) (k + 1) f (supD qual st cc cda kV doc pm ct an) ["self", prm] (spSup K C fld) := by
  refine ⟨fun vs H Q E h => ?_, fun A outer s H args us vs Q E hr e0 hb r hsp => ?_⟩
  · obtain ⟨a, v, rfl, _⟩ := h
    rfl
  · obtain ⟨a, v, rfl, hv, T, ea, hq⟩ := hsp
    have KX : K.In s.heap := e0.mod.kin.keeps fun b o e => (e0.bs b o e).1
    have lim : s.heap.NoLimit := e0.mod.nolimit.keeps fun b o e => (e0.bs b o e).1
    refine PySem.ks_codeAny_call_defAt (fd := supD qual st cc cda kV doc pm ct an) (body := defBody st) hr.depth (KX _ _ S.lk) rfl lim (PySem.W.codeRec_of KX hcd) rfl hb NS.nocell (fun ⟨n, _⟩ hy => NS.par n (List.of_mem_zip hy).1) (fun h1 hns kp => ?_) NS.co NS.gen NS.kind
    have hcc : s.heap.get? cc = some ⟨cl, cld, .cell (some (.ref C)), cls⟩ ∧ H cc = none := e0.bs _ _ (e0.mod.kin _ _ S.ce)
    have CA : NdefX.CellsAt [("__class__", cc)] ["__class__"] [some (.ref C)] s.heap H := by
      refine ⟨rfl, fun y c e => ?_, fun x y c e1 e2 => ?_, fun i y e => ?_⟩
      · have e' : c = cc ∧ y = "__class__" := by
          by_cases z : y = "__class__"
          · subst z
            exact ⟨(by simpa using e.symm), rfl⟩
          · exfalso
            have : (y == ("__class__" : Str)) = false := by simpa using z
            simp [List.lookup, this] at e
        rw [e'.1]
        exact ⟨hcc.2, _, _, hcc.1, rfl⟩
      · have key : ∀ {y : Str}, List.lookup y [(("__class__" : Str), cc)] = some c → y = "__class__" := fun {y} e => by
          by_cases z : y = "__class__"
          · exact z
          · exfalso
            have : (y == ("__class__" : Str)) = false := by simpa using z
            simp [List.lookup, this] at e
        rw [key e1, key e2]
      · match i, e with
        | 0, e =>
          cases e
          exact ⟨cc, by simp, fun v hv => by cases hv; exact ⟨.ref C, rfl, _, hcc.1, rfl⟩⟩
        | i + 1, e => cases e
    have I : Inv (NdefX.ncx (L2.CX P w) P w K mg base ["self", prm, "__class__"] (supN qual st cc cda) f A outer s H E) [] (NdefX.startF ["self", prm, "__class__"] [.ref a, v] [some (.ref C)]) H { s with heap := h1, toks := s.toks + ((["self", prm] : List Str).zip us).length } :=
      NdefX.inv_startN (F := supN qual st cc cda) NS hr.hd e0 rfl r CA hns kp
    have est : NdefX.startF ["self", prm, "__class__"] [.ref a, v] [some (.ref C)] = [some (.ref a), some v, some (.ref C)] := rfl
    rw [est] at I
    have hpar := NS.par
    have hself : (defScope st).names.lookup ("self" : Str) = some .local := hpar _ List.mem_cons_self
    have hprmL : (defScope st).names.lookup prm = some .local := hpar _ (List.mem_cons_of_mem _ List.mem_cons_self)
    have hcls : (defScope st).names.lookup ("__class__" : Str) = some .free := NS.frk _ List.mem_cons_self
    have hpa := ha A outer s H E (hr.deeper _)
    have hcel : List.lookup ("__class__" : Str) [(("__class__" : Str), cc)] = some cc := by simp [List.lookup]
    rw [hbody]
    refine PySem.ks_wpAt_execs_cons (PySem.ks_wpAt_Expr_any (PySem.ks_wpAt_mono (sup_eval (R := fun H1 => H1 = H) S T I ea rfl rfl hks hcls hself rfl rfl hcel hpa (hta a v H _ hv fun z => ⟨by simp, ea, rfl⟩) (hmc _) (hse _) rfl) (fun v' s' hs' => ?_) (fun e s' z => z)) (by unfold interactive; rw [show (callEnv (supD qual st cc cda kV doc pm ct an) s.heap.objs.size f).scope.kind = .function from NS.kind]; rfl) (hsw _))
    obtain ⟨H', I', rfl⟩ := hs'
    refine PySem.wpAt_of_wpAny ?_
    have hp0 : PE (NdefX.ncx (L2.CX P w) P w K mg base ["self", prm, "__class__"] (supN qual st cc cda) f A outer s H' E) (.Name "self" p5) (tVar 0) := pv 0 rfl (.inl hself)
    have hp1 : PE (NdefX.ncx (L2.CX P w) P w K mg base ["self", prm, "__class__"] (supN qual st cc cda) f A outer s H' E) (.Name prm p7) (tVar 1) := pv 1 rfl (.inl hprmL) hprm hprm2
    have ps := pss_one (ps_ost (f := fld) (p' := p6) (pos := p8) hp0 hp1)
    refine wpAny_mono (ps.run [] s' _ H' { nx := fun _ H1 => Q .non H1, rt := Q } I' ?_) (fun fl s'' hs => ?_) fun e s'' hs => hs
    · refine ⟨v, rfl, .ref a, rfl, a, C, rfl, T, hno, Or.inl ⟨ea, hq⟩⟩
    · have fin : ∀ {σ' : L2.St} {H'' : Hp} {v : V} {u : Value}, Inv (NdefX.ncx (L2.CX P w) P w K mg base ["self", prm, "__class__"] (supN qual st cc cda) f A outer s H' E) [] σ' H'' s'' → L2.RelV v u → Q v H'' → CE outer P w H' s Q u s'' :=
        fun {σ' H'' v u} J rv q => ⟨v, H'', J.os, J.bare, J.base, J.hok, rv, q⟩
      cases fl with
      | ret u =>
        obtain ⟨v, σ', H'', J, rv, q⟩ := hs
        exact fin J rv q
      | next =>
        obtain ⟨σ', H'', J, q⟩ := hs
        exact fin (v := V.non) (u := Value.none) J rfl q
      | brk =>
        obtain ⟨_, _, _, q⟩ := hs
        exact False.elim q
      | cont =>
        obtain ⟨_, _, _, q⟩ := hs
        exact False.elim q
/-! ### raise C(v) -/
/-- what an error may bear -/
def BearsV (v : V) : Prop := (∃ i, v = .int i ∧ i.natAbs < 2 ^ 59) ∨ ∃ z : Str, v = .str z ∧ z.length ≤ 100
structure RaiO (P : Program) (w : World) (K : PySem.W.Frag) (mg : Str → Option Value) (base : Heap) (k : Nat) (x : Str) (C : Addr) (fld : Str) : Prop where
  ex : ∃ (fI : Addr) (fd : FuncData) (ps : List Str), PySem.W.findIn K (.ref C) "__init__" = some (some (.ref fI)) ∧ PySem.W.typeIn K (.ref fI) = some (.type "function") ∧ FnOk P w K mg base (L2.CX P w) k fI fd ps (spSup K C fld) ∧ Binds K fd ps []
  T : OexC K C
  g : mg x = some (.ref C)
theorem pmk_o {X : Cx} {K : PySem.W.Frag} {k j : Nat} {x : Str} {C : Addr} {fld : Str} {p pos : Pos} {e : Expr} {t : TA} (hK : X.K = K) (c : RaiO X.prog X.w X.K X.mg X.base k x C fld) (hr : Room j X.A) (hk : k + 1 ≤ j) (hg : Gl X x) (ha : PA X [e] t)
    (hdb : (x == ("__debug__" : Str)) = false := by decide) (he : starEach [e] X.env = (false, eval e X.env) :: starEach [] X.env := by rfl) : PMk X (.Call (.Name x p) [e] [] pos) (tMkO C (spSup K C fld) [] t) := by
  subst hK
  obtain ⟨fI, fd, ps, iC, tI, F1, hb⟩ := c.ex
  exact pmk_oex (CX := L2.CX X.prog X.w) (p := p) (pos := pos) c.T iC tI F1 (hr.mono hk) hb (dvs := []) (ds := []) .nil (fun _ _ _ _ _ _ _ h => by
    obtain ⟨_, _, _, _, _, _, _, _, _, _, _, _, z⟩ := h
    exact z.elim) hg c.g ha hdb he rfl
def kMkO (K : PySem.W.Frag) (C : Addr) (fld : Str) (vs : List V) (H1 : Hp) (Q : XK) : Prop := vs.length ≤ 1000 ∧ ∀ a, H1 a = none → spSup K C fld (.ref a :: (vs ++ [])) (upd H1 a (exo a C none))
  (fun v H2 => v = .non ∧ ∃ (d : Addr) (fs : List (Str × V)), H2 a = some (exo a C (some d)) ∧ H2 d = some (exd d fs) ∧ H1 d = none ∧ Q (.ref C) (some d) (upd (del H2 a) d (.xd fs))) (fun _ _ _ => False)
theorem w_mkO {K : PySem.W.Frag} {C : Addr} {fld : Str} {t : TA} {σ : L2.St} {H : Hp} {Q : XK} (h : t σ H fun vs H1 => kMkO K C fld vs H1 Q) : tMkO C (spSup K C fld) [] t σ H Q := h
theorem l_mkO {K : PySem.W.Frag} {C : Addr} {fld : Str} {v : V} {H : Hp} {Q : XK} (hv : BearsV v) (T : OexC K C) (h : ∀ d, H d = none → Q (.ref C) (some d) (upd H d (.xd [(fld, v)]))) : kMkO K C fld [v] H Q :=
  ⟨by simp, fun a ha => ⟨a, v, rfl, hv, T, upd_same, fun dx ndx ne => ⟨rfl, dx, [(fld, v)], upd_same, by rw [upd_ne ne]; exact upd_same, (by rw [upd_ne ne] at ndx; exact ndx), by
    have nH : H dx = none := by rw [upd_ne ne] at ndx; exact ndx
    have e : upd (del (upd (upd (upd H a (exo a C none)) dx (exd dx [(fld, v)])) a (exo a C (some dx))) a) dx (.xd [(fld, v)]) = upd H dx (.xd [(fld, v)]) := by
      funext b
      by_cases hb : b = dx
      · rw [hb, upd_same, upd_same]
      · rw [upd_ne hb, upd_ne hb]
        by_cases hba : b = a
        · rw [hba, del_same, ha]
        · rw [del_ne hba, upd_ne hba, upd_ne hb, upd_ne hba]
    rw [e]
    exact h dx nH⟩⟩⟩
end Ak

namespace Ak
open PySem PySem.Spec PyProof.Rows L2
/-! ### the law's world: dice, a list of tuples, what each of them stands for -/
/-- not a list of ints -/
def NoInts (H : Hp) (b : Addr) : Prop := ∀ ns : List Int, H b ≠ some (.lst (ns.map V.int))
theorem NoInts.dice {K : PySem.W.Frag} {H0 H : Hp} {d : Addr} (x : Dice K H0 H d) : NoInts H d := by
  obtain ⟨⟨a, ns, i, m, r, h1, h2⟩, h3, h4⟩ := x
  intro ms e
  rw [h1] at e
  cases ms with
  | nil => cases e
  | cons n t => cases e
/-- no list, no tuple, no table, no code object -/
structure Solid (o : HO) : Prop where
  l : ∀ xs, o ≠ .lst xs
  t : ∀ xs, o ≠ .tup xs
  b : ∀ ps, o ≠ .tbl ps
  x : ∀ φ, o ≠ .ext φ
theorem Solid.ins {C dx : Addr} {fs : List (Str × V)} : Solid (.ins C dx fs) := ⟨fun _ z => (by cases z), fun _ z => (by cases z), fun _ z => (by cases z), fun _ z => (by cases z)⟩
theorem Solid.dK {kvs : List (Key × V)} : Solid (.dK kvs) := ⟨fun _ z => (by cases z), fun _ z => (by cases z), fun _ z => (by cases z), fun _ z => (by cases z)⟩
theorem NoInts.solid {H : Hp} {b : Addr} {o : HO} (h : H b = some o) (s : Solid o) : NoInts H b := fun ns e => s.l _ (Option.some.inj (h.symm.trans e))
theorem Dice.ext' {K : PySem.W.Frag} {H0 H H' : Hp} {d : Addr} (x : Dice K H0 H d) (e : Ext0 H H') : Dice K H0 H' d := by
  obtain ⟨⟨a, ns, i, m, r, h1, h2⟩, h3, h4⟩ := x
  exact ⟨⟨a, ns, i, m, r, e _ _ h1 (fun _ z => by cases z), h2⟩, h3, h4.trans e⟩
theorem Keep.ext {H H' : Hp} (k : Keep [] H H') : Ext0 H H' := fun b o h _ => k.1 b o nin_nil h
/-- neither a table nor a code object -/
def Plain (H : Hp) (b : Addr) : Prop := ∃ o, H b = some o ∧ (∀ ps, o ≠ .tbl ps) ∧ ∀ φ, o ≠ .ext φ
theorem Plain.lst {H : Hp} {b : Addr} {xs : List V} (h : H b = some (.lst xs)) : Plain H b := ⟨_, h, fun _ z => (by cases z), fun _ z => (by cases z)⟩
theorem Plain.solid {H : Hp} {b : Addr} {o : HO} (h : H b = some o) (s : Solid o) : Plain H b := ⟨o, h, s.b, s.x⟩
theorem Tabs.keep {T : List (Addr × Str)} {S : List Addr} {H H' : Hp} (t : LamX.Tabs T H) (k : Keep S H H') (n : ∀ b, b ∈ S → Plain H b) : LamX.Tabs T H' := by
  intro x hx
  obtain ⟨ps, h1, h2, h3⟩ := t x hx
  refine ⟨ps, k.1 _ _ (fun m => ?_) h1, h2, fun pos cv hcv => ?_⟩
  · obtain ⟨o, e, ne, _⟩ := n _ m
    rw [h1] at e
    exact ne ps (Option.some.inj e).symm
  · obtain ⟨c, e1, e2⟩ := h3 pos cv hcv
    refine ⟨c, e1, k.1 _ _ (fun m => ?_) e2⟩
    obtain ⟨o, e, _, ne⟩ := n _ m
    rw [e2] at e
    exact ne _ (Option.some.inj e).symm
theorem plain0 {H : Hp} : ∀ c, c ∈ ([] : List Addr) → Plain H c := fun _ m => absurd m List.not_mem_nil
theorem plain1 {H : Hp} {b : Addr} (h : Plain H b) : ∀ c, c ∈ [b] → Plain H c := fun c m => by rw [List.mem_singleton.mp m]; exact h
theorem Tabs.one {P : Addr} {q : Str} {H : Hp} (h : LamX.TabS H P q) : LamX.Tabs [(P, q)] H := fun p hp => by rw [List.mem_singleton.mp hp]; exact h
/-- behind a call that changed what is new alone -/
theorem Keep.fresh {S T : List Addr} {H H1 H2 : Hp} (l : Keep T H1 H2) (h : ∀ b, b ∈ T → H b = none) (k : Keep S H H1) : Keep S H H2 :=
  ⟨fun b u n e => l.1 b u (fun m => by rw [h b m] at e; cases e) (k.1 b u n e), fun b e => k.2 b (l.2 b e)⟩
theorem Keep.old {S : List Addr} {H0 H H' : Hp} (old : ∀ b, H b = none → H0 b = none) (k : Keep S H H') : ∀ b, H' b = none → H0 b = none := fun b e => old b (k.2 b e)
/-- all but S and the tables stay -/
def KeepX (S : List Addr) (H H' : Hp) : Prop := ∀ a o, a ∉ S → H a = some o → (∀ ps, o ≠ .tbl ps) → H' a = some o
theorem Keep.x {S : List Addr} {H H' : Hp} (k : Keep S H H') : KeepX S H H' := fun a o n h _ => k.1 a o n h
theorem KeepX.ext {H H' : Hp} (e : Ext0 H H') : KeepX [] H H' := fun a o _ h n => e a o h n
theorem KeepX.trans {S : List Addr} {H H1 H2 : Hp} (a : KeepX S H H1) (b : KeepX S H1 H2) : KeepX S H H2 := fun c o n h t => b c o n (a c o n h t) t
theorem KeepX.mono {S T : List Addr} {H H1 : Hp} (a : KeepX T H H1) (h : ∀ b, b ∈ T → b ∈ S) : KeepX S H H1 := fun c o n => a c o fun m => n (h c m)
theorem KeepX.mono0 {S : List Addr} {H H1 : Hp} (a : KeepX [] H H1) : KeepX S H H1 := a.mono sub_nil
theorem KeepX.fresh {S T : List Addr} {H H1 H2 : Hp} (l : KeepX T H1 H2) (h : ∀ b, b ∈ T → b ∈ S ∨ H b = none) (k : KeepX S H H1) : KeepX S H H2 := fun a o n e t => l a o (fun m => by
  rcases h a m with z | z
  · exact n z
  · rw [e] at z; cases z) (k a o n e t) t
theorem KeepX.fresh' {S T : List Addr} {H H1 H2 : Hp} (l : KeepX T H1 H2) (h : ∀ b, b ∈ T → b ∈ S ∨ ∀ o, H b = some o → ¬ ∀ ps, o ≠ .tbl ps) (k : KeepX S H H1) : KeepX S H H2 := fun a o n e t => l a o (fun m => by
  rcases h a m with z | z
  · exact n z
  · exact z o e t) (k a o n e t) t
theorem Dice.keepX {K : PySem.W.Frag} {H0 H H1 : Hp} {d : Addr} {S : List Addr} (x : Dice K H0 H d) (k : KeepX S H H1) (nd : d ∉ S) (n : ∀ b, b ∈ S → H0 b = none) : Dice K H0 H1 d := by
  obtain ⟨⟨a, ns, i, m, r, h1, h2⟩, h3, h4⟩ := x
  exact ⟨⟨a, ns, i, m, r, k _ _ nd h1 (fun _ z => by cases z), h2⟩, h3, fun b o h t => k b o (fun m => by rw [n b m] at h; cases h) (h4 b o h t) t⟩
theorem Dice.own {K : PySem.W.Frag} {H0 H1 H2 : Hp} {d D : Addr} {o : HO} (x : Dice K H0 H1 d) (y : Dice K H0 H2 d) (n : H1 D = none) (ne : d ≠ D) : Dice K H0 (upd H2 D o) d := by
  obtain ⟨⟨a, ns, i, m, r, h1, h2⟩, h3, h4⟩ := y
  exact ⟨⟨a, ns, i, m, r, (upd_ne ne).trans h1, h2⟩, h3, fun b u h t => by
    rw [upd_ne (fun z => by
      have := x.ext b u h t
      rw [z, n] at this
      cases this)]
    exact h4 b u h t⟩
/-- what follows an if, said once -/
theorem cut_if {c : Bool} {t u : TS} {D : Ends} {σ : L2.St} {H : Hp} (N : L2.St → Hp → Prop) (a : ∀ σ' H', N σ' H' → D.nx σ' H') (b : (∀ σ' H', N σ' H' → D.nx σ' H') → if c = true then t D σ H else u D σ H) : if c = true then t D σ H else u D σ H := b a
/-- the same, what follows kept closed -/
theorem cut_ifO {c : Bool} {t u : TS} {D : Ends} {σ : L2.St} {H : Hp} (N : L2.St → Hp → Prop) (a : ∀ σ' H', N σ' H' → D.nx σ' H') (b : ∀ R : L2.St → Hp → Prop, (∀ σ' H', N σ' H' → R σ' H') → if c = true then t { D with nx := R } σ H else u { D with nx := R } σ H) : if c = true then t D σ H else u D σ H := b D.nx a
theorem cut_isi {K : PySem.W.Frag} {vf c : V} {t u : TS} {D : Ends} {σ : L2.St} {H : Hp} (N : L2.St → Hp → Prop) (a : ∀ σ' H', N σ' H' → D.nx σ' H') (b : ∀ R : L2.St → Hp → Prop, (∀ σ' H', N σ' H' → R σ' H') → rIsi K [vf, c] H fun x H' => ∃ k, TruV K x H' k ∧ if k = true then t { D with nx := R } σ H' else u { D with nx := R } σ H') : rIsi K [vf, c] H fun x H' => ∃ k, TruV K x H' k ∧ if k = true then t D σ H' else u D σ H' := b D.nx a
theorem cut_seq {t u : TS} {D : Ends} {σ : L2.St} {H : Hp} (N : L2.St → Hp → Prop) (a : ∀ σ' H', N σ' H' → u D σ' H') (b : ∀ R : L2.St → Hp → Prop, (∀ σ' H', N σ' H' → R σ' H') → t { D with nx := R } σ H) : tSeq t u D σ H := b (u D) a
/-! alike -/
section
variable {K : PySem.W.Frag} {H : Hp} {n : Nat} {p q : Addr}
theorem al_int {i : Int} : Alike K H (n + 1) (.int i) (.int i) := Or.inr (Or.inl ⟨i, rfl, rfl⟩)
theorem al_bl {b : Bool} : Alike K H (n + 1) (.bl b) (.bl b) := Or.inl ⟨b, rfl, rfl⟩
theorem al_str {s : Str} : Alike K H (n + 1) (.str s) (.str s) := Or.inr (Or.inr (Or.inl ⟨s, rfl, rfl⟩))
theorem al_non : Alike K H (n + 1) .non .non := Or.inr (Or.inr (Or.inr (Or.inl ⟨rfl, rfl⟩)))
inductive AlL (K : PySem.W.Frag) (H : Hp) (n : Nat) : List V → List V → Prop
  | nil : AlL K H n [] []
  | cons {x y : V} {xs ys : List V} (h : Alike K H n x y) (t : AlL K H n xs ys) : AlL K H n (x :: xs) (y :: ys)
theorem AlL.len {xs ys : List V} (h : AlL K H n xs ys) : xs.length = ys.length := by
  induction h with
  | nil => rfl
  | cons _ _ ih => rw [List.length_cons, List.length_cons, ih]
theorem AlL.at {xs ys : List V} (h : AlL K H n xs ys) : ∀ (k : Nat) u v, xs[k]? = some u → ys[k]? = some v → Alike K H n u v := by
  induction h with
  | nil => intro k u v a _; simp at a
  | cons h t ih =>
    intro k u v a b
    match k, a, b with
    | 0, a, b => cases a; cases b; exact h
    | k + 1, a, b => exact ih k u v (by simpa using a) (by simpa using b)
theorem al_tup {xs ys : List V} (hx : H p = some (.tup xs)) (hy : H q = some (.tup ys)) (h : AlL K H n xs ys) (hl : xs.length ≤ 16777216) : Alike K H (n + 1) (.ref p) (.ref q) :=
  Or.inr (Or.inr (Or.inr (Or.inr (Or.inl ⟨p, q, _, _, rfl, rfl, SqT.of hx, SqT.of hy, h.len, hl, h.at⟩))))
theorem al_lst {xs ys : List V} (hx : H p = some (.lst xs)) (hy : H q = some (.lst ys)) (h : AlL K H n xs ys) (hl : xs.length ≤ 16777216) : Alike K H (n + 1) (.ref p) (.ref q) :=
  Or.inr (Or.inr (Or.inr (Or.inr (Or.inr ⟨p, q, _, _, rfl, rfl, SqL.of hx, SqL.of hy, h.len, hl, h.at⟩))))
theorem AlL.same {xs : List V} (h : ∀ x, x ∈ xs → Alike K H n x x) : AlL K H n xs xs := by
  induction xs with
  | nil => exact .nil
  | cons x r ih => exact .cons (h x List.mem_cons_self) (ih fun y hy => h y (List.mem_cons_of_mem _ hy))
theorem AlL.ints {ns : List Int} : AlL K H (n + 1) (ns.map V.int) (ns.map V.int) := AlL.same fun x hx => by
  obtain ⟨i, _, rfl⟩ := List.mem_map.mp hx
  exact al_int
end
def Fr (H0 : Hp) (a : Addr) : Prop := ∀ o, H0 a = some o → ∃ ps, o = .tbl ps
theorem Fr.of {H0 H : Hp} {a : Addr} (e : Ext0 H0 H) (n : H a = none) : Fr H0 a := fun o h => by
  by_cases q : ∃ ps, o = .tbl ps
  · exact q
  · have := e a o h fun ps z => q ⟨ps, z⟩
    rw [n] at this
    cases this
theorem Dice.keepF {K : PySem.W.Frag} {H0 H H1 : Hp} {d : Addr} {S : List Addr} (x : Dice K H0 H d) (k : KeepX S H H1) (nd : d ∉ S) (n : ∀ b, b ∈ S → Fr H0 b) : Dice K H0 H1 d := by
  obtain ⟨⟨a, ns, i, m, r, h1, h2⟩, h3, h4⟩ := x
  exact ⟨⟨a, ns, i, m, r, k _ _ nd h1 (fun _ z => by cases z), h2⟩, h3, fun b o h t => k b o (fun m => by
    obtain ⟨ps, z⟩ := n b m o h
    exact t ps z) (h4 b o h t) t⟩
end Ak

namespace Ak
open PySem PySem.Spec PyProof.Rows L2
/-! ### isinstance of a caught error that carries fields -/
structure ExcD (K : PySem.W.Frag) (D : Addr) : Prop where
  c : ExcC K D
  k : (PySem.W.clsIn K D).isSome = true
def rIsE3 (K : PySem.W.Frag) (cls : Value) (d : Option Addr) (a : Addr) : List V → Hp → VK → Prop := fun xs H Q => ∃ D dd fs, cls = .ref D ∧ d = some dd ∧ H dd = some (.xd fs) ∧ ExcD K D ∧ rIsE K D a xs H Q
theorem call_isE3 {X : Cx} {K : PySem.W.Frag} {a : Addr} {cls : Value} {d : Option Addr} {oe : Obj} {pn : List (Addr × Obj)} (h : X.K = K) (hz : Zc cls d oe) (hf : ∃ vs, oe.data = .fields vs) : CallR (X.suite a ((a, oe) :: pn)) (.builtin "isinstance") (rIsE3 K cls d a) := by
  subst h
  intro pins s σ H xs us Q I r q
  obtain ⟨D, dd, fs, rfl, rfl, hdd, C, c, cv, b, rfl, hcv, hk, q⟩ := q
  obtain ⟨u1, u2, rfl, r1, r2⟩ : ∃ u1 u2, us = [u1, u2] ∧ RelV (.ref a) u1 ∧ RelV c u2 := by
    cases r with
    | cons r1 rr => cases rr with
      | cons r2 rn => cases rn with
        | nil => exact ⟨_, _, rfl, r1, r2⟩
  obtain rfl : u1 = Value.ref a := r1
  obtain rfl := hcv _ r2
  obtain ⟨hget, _⟩ := I.pin (a, oe) (List.mem_append.mpr (Or.inl List.mem_cons_self))
  have hx := I.hok dd _ hdd
  obtain ⟨odd, hodd⟩ : ∃ o, s.heap.get? dd = some o := by
    simp only [ObjOk] at hx
    obtain ⟨mA, hn, _⟩ := hx
    obtain ⟨o, _, _, ho, _⟩ := hn
    exact ⟨o, ho⟩
  obtain ⟨oc, od, oda, osl⟩ := oe
  obtain ⟨h1, h2⟩ := hz
  obtain ⟨vs, hv⟩ := hf
  simp only at h1 h2 hv hget
  subst h1 h2 hv
  have J : PySem.W.InstAt s.heap a ⟨.ref D, some dd, .fields vs, osl⟩ D (some odd) := ⟨hget, rfl, rfl, hodd⟩
  exact PySem.W.kia_one (PySem.W.kitx_exc C.k C.c.hg C.c.hk C.c.hs C.c.ha C.c.hn C.c.ht C.c.hm) I.kIn J hk (fun z => nomatch z) fun tk => ⟨.bl b, H, I.kept fun x x_1 z => z, rfl, q⟩
def rIsE4 (K : PySem.W.Frag) (cls : Value) (d : Option Addr) (a : Addr) : List V → Hp → VK → Prop := fun xs H Q => rIsE2 K cls d a xs H Q ∨ rIsE3 K cls d a xs H Q
theorem call_isE4 {X : Cx} {K : PySem.W.Frag} {a : Addr} {cls : Value} {d : Option Addr} {oe : Obj} {pn : List (Addr × Obj)} (h : X.K = K) (hz : Zc cls d oe) (hf : ∃ vs, oe.data = .fields vs) : CallR (X.suite a ((a, oe) :: pn)) (.builtin "isinstance") (rIsE4 K cls d a) :=
  CallR.or (call_isE2 h hz hf) (call_isE3 h hz hf)
section
variable {K : PySem.W.Frag} {H : Hp} {Q : VK} {a : Addr} {cls : Value} {d : Option Addr} {D C dd : Addr} {k : Bool} {fs : List (Str × V)} {T : String}
theorem w_isE4 (x : ExcC K D) (hk : PySem.W.kitOne K (.ref D) (.ref C) = some k) (h : Q (.bl k) H) : rIsE4 K (.ref D) none a [.ref a, .ref C] H Q := Or.inl (w_isE rfl rfl x hk h)
theorem w_isE4T (x : ExcC K D) (hk : PySem.W.kitOne K (.ref D) (.type T) = some k) (h : Q (.bl k) H) : rIsE4 K (.ref D) none a [.ref a, .ty T] H Q := Or.inl (w_isET rfl rfl x hk h)
theorem w_isE4d (x : ExcD K D) (e : H dd = some (.xd fs)) (hk : PySem.W.kitOne K (.ref D) (.ref C) = some k) (h : Q (.bl k) H) : rIsE4 K (.ref D) (some dd) a [.ref a, .ref C] H Q := Or.inr ⟨D, dd, fs, rfl, rfl, e, x, .ref C, .ref C, k, rfl, fun _ r => r, hk, h⟩
theorem w_isE4dT (x : ExcD K D) (e : H dd = some (.xd fs)) (hk : PySem.W.kitOne K (.ref D) (.type T) = some k) (h : Q (.bl k) H) : rIsE4 K (.ref D) (some dd) a [.ref a, .ty T] H Q := Or.inr ⟨D, dd, fs, rfl, rfl, e, x, .ty T, .type T, k, rfl, fun _ r => r, hk, h⟩
end
theorem w_xf {a : Addr} {cls : Value} {d : Option Addr} {C : Addr} {f : Str} {te : TE} {σ : L2.St} {H : Hp} {Q : VK} (h : te σ H fun x H1 => x = .ref a ∧ cls = .ref C ∧ ∃ (dd : Addr) (fs : List (Str × V)) (v : V), d = some dd ∧ H1 dd = some (.xd fs) ∧ fs.lookup f = some v ∧ Q v H1) : tXf a cls d C f te σ H Q := h
local macro_rules | `(tactic| walk_at "s") => `(tactic| ((with_reducible show Ak.rIsE4 _ _ _ _ _ _ _); first | refine Ak.w_isE4 (by walk_at "as") (by walk_at "as") ?_ | refine Ak.w_isE4T (by walk_at "as") (by walk_at "as") ?_ | refine Ak.w_isE4d (by walk_at "as") (by walk_at "lk") (by walk_at "as") ?_ | refine Ak.w_isE4dT (by walk_at "as") (by walk_at "lk") (by walk_at "as") ?_))
/-- what the text knows of its errors -/
structure ToldC (K : PySem.W.Frag) (C0 C1 C2 C3 C4 C5 C6 : Addr) : Prop where
  o1 : OneBad K C0 C1 C2 C3 C4 C5 C6 C1 true false false false false false
  o2 : OneBad K C0 C1 C2 C3 C4 C5 C6 C2 false true false false false false
  o3 : OneBad K C0 C1 C2 C3 C4 C5 C6 C3 false false true false false false
  o4 : OneBad K C0 C1 C2 C3 C4 C5 C6 C4 false false false true false false
  o5 : OneBad K C0 C1 C2 C3 C4 C5 C6 C5 false false false false true false
  o6 : OneBad K C0 C1 C2 C3 C4 C5 C6 C6 false false false false false true
  s1 : (PySem.W.clsIn K C1).isSome = true
  n1 : PySem.W.findIn K (.ref C1) "word" = some none
  s5 : (PySem.W.clsIn K C5).isSome = true
  n5 : PySem.W.findIn K (.ref C5) "number" = some none
  s6 : (PySem.W.clsIn K C6).isSome = true
  n6 : PySem.W.findIn K (.ref C6) "place" = some none
theorem ToldC.x1 {K : PySem.W.Frag} {C0 C1 C2 C3 C4 C5 C6 : Addr} (t : ToldC K C0 C1 C2 C3 C4 C5 C6) : XfC K C1 := ⟨t.o1.x.hg, t.o1.x.hk, t.o1.x.hs, t.o1.x.hd⟩
theorem ToldC.x5 {K : PySem.W.Frag} {C0 C1 C2 C3 C4 C5 C6 : Addr} (t : ToldC K C0 C1 C2 C3 C4 C5 C6) : XfC K C5 := ⟨t.o5.x.hg, t.o5.x.hk, t.o5.x.hs, t.o5.x.hd⟩
theorem ToldC.x6 {K : PySem.W.Frag} {C0 C1 C2 C3 C4 C5 C6 : Addr} (t : ToldC K C0 C1 C2 C3 C4 C5 C6) : XfC K C6 := ⟨t.o6.x.hg, t.o6.x.hk, t.o6.x.hs, t.o6.x.hd⟩
/-- what is told of a refusal -/
inductive ToldW (C1 C2 C3 C4 C5 C6 : Addr) (H : Hp) : Value → Option Addr → List V → Prop
  | setting {dd : Addr} {fs : List (Str × V)} {v : V} (h : H dd = some (.xd fs)) (l : fs.lookup ("word" : Str) = some v) : ToldW C1 C2 C3 C4 C5 C6 H (.ref C1) (some dd) [.str "setting", v]
  | mark : ToldW C1 C2 C3 C4 C5 C6 H (.ref C2) none [.str "mark"]
  | bits : ToldW C1 C2 C3 C4 C5 C6 H (.ref C3) none [.str "bits"]
  | full : ToldW C1 C2 C3 C4 C5 C6 H (.ref C4) none [.str "full"]
  | event {dd : Addr} {fs : List (Str × V)} {v : V} (h : H dd = some (.xd fs)) (l : fs.lookup ("number" : Str) = some v) : ToldW C1 C2 C3 C4 C5 C6 H (.ref C5) (some dd) [.str "event", v]
  | text {dd : Addr} {fs : List (Str × V)} {v : V} (h : H dd = some (.xd fs)) (l : fs.lookup ("place" : Str) = some v) : ToldW C1 C2 C3 C4 C5 C6 H (.ref C6) (some dd) [.str "text", v]
def TTold3 (C1 C2 C3 C4 C5 C6 : Addr) : (XK → Hp → VK → Prop) → Hp → VK → Prop := fun tl H Q =>
  tl (fun cls d H' => ∃ out, ToldW C1 C2 C3 C4 C5 C6 H' cls d out ∧ ∀ p H2, H' p = none → Keep [] H' H2 → H2 p = some (.tup out) → Q (.ref p) H2) H Q
theorem told_gives3 {X : Cx} {g C0 C1 C2 C3 C4 C5 C6 : Addr} {cdg : Value} {q : Str} (TC : ToldC X.K C0 C1 C2 C3 C4 C5 C6) (g_BitsError : X.mg "BitsError" = some (.ref C0)) (g_BadSetting : X.mg "BadSetting" = some (.ref C1)) (g_BadMark : X.mg "BadMark" = some (.ref C2))
    (g_BadBits : X.mg "BadBits" = some (.ref C3)) (g_Full : X.mg "Full" = some (.ref C4)) (g_BadEvent : X.mg "BadEvent" = some (.ref C5)) (g_BadText : X.mg "BadText" = some (.ref C6)) (g_isinstance : X.mg "isinstance" = none) (g_ValueError : X.mg "ValueError" = none) :
    LamX.GivesTo X N_l_told "_law_told" (defScope s_l_told) g cdg (defBody s_l_told) "_law_work" q (TTold3 C1 C2 C3 C4 C5 C6) := by
  intro f c' s H Q tl act hc h
  refine ⟨_, pss_one (ps_try_as (X := (cxOf C8.CX0 X.prog X.w X.K X.mg X.base N_l_told "_law_told" (defScope s_l_told) g cdg X.A X.stack s H C8.E0).nox) (i := 1) (c := .ref C0)
      (tb := fun W D σ H => ∃ Ech : XK, (∀ cls d σ' H', σ'.length = 5 → Ech cls d H' → W cls d σ' H') ∧ σ[0]? = some (some (.ref f)) ∧ H c' = some (LamX.CodeO c' q) ∧ tl Ech H D.rt)
      rfl rfl sc_l_told.nd rfl rfl ⟨by rfl, by decide, .inl g_BitsError⟩ takes0 (fun W pn xe tk _ => ?_) (fun a oe cls d pn hz hf => (pss_cons (ps_set (i := 2) sc_l_told.nd rfl (Or.inl rfl) (pe_lst (pa_cons (pe_callB (Ak.call_isE4 (K := X.K) (by rfl) hz hf) (by rfl) g_isinstance (by decide +kernel) (pa_cons (pv 1) (pa_cons (Ak.pe_cls (by rfl) g_BadSetting) pa_nil))) (pa_cons (pe_callB (Ak.call_isE4 (K := X.K) (by rfl) hz hf) (by rfl) g_isinstance (by decide +kernel) (pa_cons (pv 1) (pa_cons (Ak.pe_cls (by rfl) g_BadMark) pa_nil))) (pa_cons (pe_callB (Ak.call_isE4 (K := X.K) (by rfl) hz hf) (by rfl) g_isinstance (by decide +kernel) (pa_cons (pv 1) (pa_cons (Ak.pe_cls (by rfl) g_BadBits) pa_nil))) (pa_cons (pe_callB (Ak.call_isE4 (K := X.K) (by rfl) hz hf) (by rfl) g_isinstance (by decide +kernel) (pa_cons (pv 1) (pa_cons (Ak.pe_cls (by rfl) g_Full) pa_nil))) pa_nil))))))
      (pss_cons (ps_set (i := 2) sc_l_told.nd rfl (Or.inl rfl) (pe_op (Ak.op_plusK (K := X.K) (by rfl)) (pv 2) (pe_lst (pa_cons (pe_callB (Ak.call_isE4 (K := X.K) (by rfl) hz hf) (by rfl) g_isinstance (by decide +kernel) (pa_cons (pv 1) (pa_cons (Ak.pe_cls (by rfl) g_BadEvent) pa_nil))) (pa_cons (pe_callB (Ak.call_isE4 (K := X.K) (by rfl) hz hf) (by rfl) g_isinstance (by decide +kernel) (pa_cons (pv 1) (pa_cons (Ak.pe_cls (by rfl) g_BadText) pa_nil))) pa_nil)))))
      (pss_cons (ps_set (i := 3) sc_l_told.nd rfl (Or.inl rfl) (pe_lst (pa_cons pe_str (pa_cons pe_str (pa_cons pe_str (pa_cons pe_str (pa_cons pe_str (pa_cons pe_str pa_nil))))))))
      (pss_cons (ps_if (PW.pt (pw_or (pt_cmpR op_ne (Ak.pe_bmK (K := X.K) (by rfl) PySem.F.plainAttrs_list PySem.F.slot_list_count PySem.F.type_list_count (Ak.mt_countK (K := X.K) (by rfl)) (pv 2) (pa_cons pe_bl pa_nil)) pe_int (nomark _)) (pw_or1 (pt_not (Ak.pt_truK (K := X.K) (by rfl) (pe_callB (Ak.call_isE4 (K := X.K) (by rfl) hz hf) (by rfl) g_isinstance (by decide +kernel) (pa_cons (pv 1) (pa_cons (Ak.pe_ty (T := "ValueError") (by rfl) g_ValueError (by decide +kernel)) pa_nil))))))))
      (pss_one (ps_ret (pe_tup (pa_cons pe_str pa_nil))))
      pss_nil)
      (pss_cons (ps_set (i := 4) sc_l_told.nd rfl (Or.inl rfl) (pe_ix (Ak.ix_K (K := X.K) (by rfl)) (pv 3) (Ak.pe_bmK (K := X.K) (by rfl) PySem.F.plainAttrs_list PySem.F.slot_list_index PySem.F.type_list_index (Ak.mt_indexK (K := X.K) (by rfl)) (pv 2) (pa_cons pe_bl pa_nil)) (by intro _ _; rfl)))
      (pss_cons (ps_if (pt_cmpR op_eq (pv 4) pe_str (nomark _))
      (pss_one (ps_ret (pe_tup (pa_cons (pv 4) (pa_cons (L2.pe_xf TC.x1 TC.n1 hz hf (pv 1)) pa_nil)))))
      pss_nil)
      (pss_cons (ps_if (pt_cmpR op_eq (pv 4) pe_str (nomark _))
      (pss_one (ps_ret (pe_tup (pa_cons (pv 4) (pa_cons (L2.pe_xf TC.x5 TC.n5 hz hf (pv 1)) pa_nil)))))
      pss_nil)
      (pss_one (ps_ret (pe_ifExp (pt_cmpR op_eq (pv 4) pe_str (nomark _)) (pe_tup (pa_cons (pv 4) (pa_cons (L2.pe_xf TC.x6 TC.n6 hz hf (pv 1)) pa_nil))) (pe_tup (pa_cons (pv 4) pa_nil)))))))))))))), ?_⟩
  · refine ⟨fun pins s' σ H' D I h' => ?_⟩
    obtain ⟨Ech, hW, h1, h2, h3⟩ := h'
    exact (pss_one (ps_ret (act _ pn xe Ech _ _ (takesLen tk) (fun cls d σ' H' e l => hW cls d σ' H' l e)))).run pins s' σ H' D I ⟨h1, h2, h3⟩
  · refine ⟨_, fun cls d σ' H' hl he => ?_, rfl, hc, h⟩
    obtain ⟨out, to, k⟩ := he
    obtain ⟨v0, v1, v2, v3, v4, rfl⟩ : ∃ v0 v1 v2 v3 v4, σ' = [v0, v1, v2, v3, v4] := by
      match σ', hl with
      | [v0, v1, v2, v3, v4], _ => exact ⟨v0, v1, v2, v3, v4, rfl⟩
    obtain ⟨o1, o2, o3, o4, o5, o6, s1, n1, s5, n5, s6, n6⟩ := TC
    cases to with
    | setting h l =>
      obtain ⟨m, x, k1, k2, k3, k4, k5, k6, kv⟩ := o1
      have xd : ExcD X.K C1 := ⟨x, s1⟩
      refine ⟨true, m, fun _ a ha => ?_, fun z => nomatch z⟩
      walk_at "rd"
      refine Ak.w_iteN (fun z => absurd rfl z) (fun _ => ?_)
      walk_at "rd"
      refine Ak.w_idxI 0 0 rfl (by walk_at "lk") (by rfl) (by rfl) (by rfl) (by rfl) (by exact bl_ahead [true, false, false, false, false, false] 0 rfl) ?_
      walk_at "rd"
      refine Ak.w_ite (fun _ => ?_) (fun z => absurd rfl z)
      walk_at "rd"
      refine Ak.w_xf ?_
      walk_at "rd"
      refine ⟨rfl, rfl, _, _, _, rfl, (by walk_at "lk"), l, ?_⟩
      walk_at "rd"
      refine k _ _ ?_ ?_ upd_same
      · exact fresh_of [] (by walk_at "as") (by walk_at "kp")
      · walk_at "kp"
    | mark =>
      obtain ⟨m, x, k1, k2, k3, k4, k5, k6, kv⟩ := o2
      refine ⟨true, m, fun _ a ha => ?_, fun z => nomatch z⟩
      walk_at "rd"
      refine Ak.w_iteN (fun z => absurd rfl z) (fun _ => ?_)
      walk_at "rd"
      refine Ak.w_idxI 1 1 rfl (by walk_at "lk") (by rfl) (by rfl) (by rfl) (by rfl) (by exact bl_ahead [false, true, false, false, false, false] 1 rfl) ?_
      walk_at "rd"
      refine Ak.w_ite (fun z => absurd z (by decide +kernel)) (fun _ => ?_)
      walk_at "rd"
      refine Ak.w_ite (fun z => absurd z (by decide +kernel)) (fun _ => ?_)
      walk_at "rd"
      refine Ak.w_ite (fun z => absurd z (by decide +kernel)) (fun _ => ?_)
      walk_at "rd"
      refine k _ _ ?_ ?_ upd_same
      · exact fresh_of [] (by walk_at "as") (by walk_at "kp")
      · walk_at "kp"
    | bits =>
      obtain ⟨m, x, k1, k2, k3, k4, k5, k6, kv⟩ := o3
      refine ⟨true, m, fun _ a ha => ?_, fun z => nomatch z⟩
      walk_at "rd"
      refine Ak.w_iteN (fun z => absurd rfl z) (fun _ => ?_)
      walk_at "rd"
      refine Ak.w_idxI 2 2 rfl (by walk_at "lk") (by rfl) (by rfl) (by rfl) (by rfl) (by exact bl_ahead [false, false, true, false, false, false] 2 rfl) ?_
      walk_at "rd"
      refine Ak.w_ite (fun z => absurd z (by decide +kernel)) (fun _ => ?_)
      walk_at "rd"
      refine Ak.w_ite (fun z => absurd z (by decide +kernel)) (fun _ => ?_)
      walk_at "rd"
      refine Ak.w_ite (fun z => absurd z (by decide +kernel)) (fun _ => ?_)
      walk_at "rd"
      refine k _ _ ?_ ?_ upd_same
      · exact fresh_of [] (by walk_at "as") (by walk_at "kp")
      · walk_at "kp"
    | full =>
      obtain ⟨m, x, k1, k2, k3, k4, k5, k6, kv⟩ := o4
      refine ⟨true, m, fun _ a ha => ?_, fun z => nomatch z⟩
      walk_at "rd"
      refine Ak.w_iteN (fun z => absurd rfl z) (fun _ => ?_)
      walk_at "rd"
      refine Ak.w_idxI 3 3 rfl (by walk_at "lk") (by rfl) (by rfl) (by rfl) (by rfl) (by exact bl_ahead [false, false, false, true, false, false] 3 rfl) ?_
      walk_at "rd"
      refine Ak.w_ite (fun z => absurd z (by decide +kernel)) (fun _ => ?_)
      walk_at "rd"
      refine Ak.w_ite (fun z => absurd z (by decide +kernel)) (fun _ => ?_)
      walk_at "rd"
      refine Ak.w_ite (fun z => absurd z (by decide +kernel)) (fun _ => ?_)
      walk_at "rd"
      refine k _ _ ?_ ?_ upd_same
      · exact fresh_of [] (by walk_at "as") (by walk_at "kp")
      · walk_at "kp"
    | event h l =>
      obtain ⟨m, x, k1, k2, k3, k4, k5, k6, kv⟩ := o5
      have xd : ExcD X.K C5 := ⟨x, s5⟩
      refine ⟨true, m, fun _ a ha => ?_, fun z => nomatch z⟩
      walk_at "rd"
      refine Ak.w_iteN (fun z => absurd rfl z) (fun _ => ?_)
      walk_at "rd"
      refine Ak.w_idxI 4 4 rfl (by walk_at "lk") (by rfl) (by rfl) (by rfl) (by rfl) (by exact bl_ahead [false, false, false, false, true, false] 4 rfl) ?_
      walk_at "rd"
      refine Ak.w_ite (fun z => absurd z (by decide +kernel)) (fun _ => ?_)
      walk_at "rd"
      refine Ak.w_ite (fun _ => ?_) (fun z => absurd rfl z)
      walk_at "rd"
      refine Ak.w_xf ?_
      walk_at "rd"
      refine ⟨rfl, rfl, _, _, _, rfl, (by walk_at "lk"), l, ?_⟩
      walk_at "rd"
      refine k _ _ ?_ ?_ upd_same
      · exact fresh_of [] (by walk_at "as") (by walk_at "kp")
      · walk_at "kp"
    | text h l =>
      obtain ⟨m, x, k1, k2, k3, k4, k5, k6, kv⟩ := o6
      have xd : ExcD X.K C6 := ⟨x, s6⟩
      refine ⟨true, m, fun _ a ha => ?_, fun z => nomatch z⟩
      walk_at "rd"
      refine Ak.w_iteN (fun z => absurd rfl z) (fun _ => ?_)
      walk_at "rd"
      refine Ak.w_idxI 5 5 rfl (by walk_at "lk") (by rfl) (by rfl) (by rfl) (by rfl) (by exact bl_ahead [false, false, false, false, false, true] 5 rfl) ?_
      walk_at "rd"
      refine Ak.w_ite (fun z => absurd z (by decide +kernel)) (fun _ => ?_)
      walk_at "rd"
      refine Ak.w_ite (fun z => absurd z (by decide +kernel)) (fun _ => ?_)
      walk_at "rd"
      refine Ak.w_ite (fun _ => ?_) (fun z => absurd rfl z)
      walk_at "rd"
      refine Ak.w_xf ?_
      walk_at "rd"
      refine ⟨rfl, rfl, _, _, _, rfl, (by walk_at "lk"), l, ?_⟩
      walk_at "rd"
      refine k _ _ ?_ ?_ upd_same
      · exact fresh_of [] (by walk_at "as") (by walk_at "kp")
      · walk_at "kp"
end Ak

namespace Ak
open PySem PySem.Spec PyProof.Rows L2 LamX
/-! ### lambdas as values: made, kept in a list, called by a def -/
/-- a lambda's words; ps: its parameters, each with a default -/
structure LF where
  params : Arguments
  body : Expr
  scope : Scope
  ps : List Str
def LamO (f : Addr) (q : Str) (F : LF) (cl : List (Str × Addr)) (dV : Value) (c' : Addr) : HO := .ext fun h => ∃ (doc pm ctv : Value), h.get? f = some ({ cls := .type "function", data := .func (PySem.W.kdv_fn "<lambda>" q F.params (.expr F.body) F.scope cl dV doc pm (.ref c') ctv) } : Obj)
theorem lamO_ne {f : Addr} {q : Str} {F : LF} {cl : List (Str × Addr)} {dV : Value} {c' : Addr} (ps : Array Value) : LamO f q F cl dV c' ≠ .tbl ps := fun z => by
  unfold LamO at z
  cases z
theorem lamO_at {P : Program} {w : World} {H : Hp} {h : Heap} {f : Addr} {q : Str} {F : LF} {cl : List (Str × Addr)} {dV : Value} {c' : Addr} (hok : HOk P w H h) (e : H f = some (LamO f q F cl dV c')) : ∃ (doc pm ctv : Value), h.get? f = some ({ cls := .type "function", data := .func (PySem.W.kdv_fn "<lambda>" q F.params (.expr F.body) F.scope cl dV doc pm (.ref c') ctv) } : Obj) := by
  obtain ⟨z, _, _⟩ := hok f _ e
  exact z
section
variable {X : Cx} {pins : List (Addr × Obj)} {σ : L2.St} {H HZ : Hp} {s s1 : Shared}
theorem inv_lam {F : LF} {q : Str} {cl : List (Str × Addr)} {dV : Value} {c' : Addr} {o : Obj} {t' : Nat} {doc pm ctv : Value} (I : Inv X pins σ H s) (ho : o = { cls := .type "function", data := .func (PySem.W.kdv_fn "<lambda>" q F.params (.expr F.body) F.scope cl dV doc pm (.ref c') ctv) }) :
    Inv X pins σ (upd H s.heap.objs.size (LamO s.heap.objs.size q F cl dV c')) { s with heap := s.heap.push o, toks := t' } := by
  subst ho
  refine I.laid (a := s.heap.objs.size) (fun b u e => Heap.get?_push_of_some _ e) (Nat.le_refl _) ?_
  have e : (s.heap.push ({ cls := .type "function", data := .func (PySem.W.kdv_fn "<lambda>" q F.params (.expr F.body) F.scope cl dV doc pm (.ref c') ctv) } : Obj)).get? s.heap.objs.size = some ({ cls := .type "function", data := .func (PySem.W.kdv_fn "<lambda>" q F.params (.expr F.body) F.scope cl dV doc pm (.ref c') ctv) } : Obj) := Heap.get?_push_size _ rfl
  exact ⟨⟨doc, pm, ctv, e⟩, ⟨_, e⟩, fun h1 h2 ⟨d, p, t, z⟩ st => ⟨d, p, t, st _ z⟩⟩
/-- the lambda's object is made: its code object is new, or found in the table -/
theorem lam_val {T : List (Addr × Str)} {c P : Addr} {F : LF} {pos : Pos} {dV : Value} {E : Value → Shared → Prop} {Q : Value → Shared → Prop} (I : Inv X pins σ H s) (TB : TabB X.base X.mg c P) (hcode : X.env.code = .ref c)
    (hm : (P, X.env.qual ++ "<lambda>") ∈ T) (hu : ∀ p ∈ T, p.1 = P → p.2 = X.env.qual ++ "<lambda>") (hT : Tabs T H) (hfree : ∀ y ∈ F.scope.names, y.2 = .free → ∃ c, X.env.cells.lookup y.1 = some c)
    (h : ∀ (f c' : Addr) (H1 : Hp) (s' : Shared), Inv X pins σ H1 s' → ExtN H H1 → (∀ b, H1 b = none → H b = none) → Tabs T H1 → H f = none → H1 f = some (LamO f (X.env.qual ++ "<lambda>") F (cloFrom X.env.cells F.scope.names []) dV c') → H1 c' = some (CodeO c' (X.env.qual ++ "<lambda>")) → Q (.ref f) s') :
    wpAny (model X.prog X.w) X.A (makeTail "<lambda>" (X.env.qual ++ "<lambda>") F.params (.expr F.body) F.scope X.env dV .none none pos pos.line) Q E s := by
  obtain ⟨ps, hP, ht, ha⟩ := hT _ hm
  have bP : s.heap.BuiltinsAt X.mg P := TB.bm.keeps I.bk
  have hP' : s.heap.get? P = some { cls := .none, data := .fields ps } := I.hok P _ hP
  cases hc : codeAmong pos ps.toList with
  | none =>
    refine PySem.W.kdv_makeTail (mg := X.mg) (c := c) (P := P) (ps := ps) (closure_ok hfree) I.ok.glob (I.mod.glob.keeps I.bk) hcode (TB.code.keeps I.bk) hP' ht hc TB.gP bP fun c' ctv doc h' tk hx hge hlt hrec htb => ?_
    obtain ⟨c2, oc, vs, t, e2, hoc, hd, hv⟩ := hrec
    cases e2
    have nC : H c' = none := I.hok.fresh hge
    have I1 := inv_table (t' := tk) (more := #[rawInt pos.line, rawInt pos.col, .ref c']) (h' := h') I hP (fun b o hb e => hx b o hb e) htb hge ⟨oc, vs, t, hoc, hd, hv⟩
    have hE : ExtN H (upd (upd H P (.tbl (ps ++ #[rawInt pos.line, rawInt pos.col, .ref c']))) c' (CodeO c' (X.env.qual ++ "<lambda>"))) := fun b o e n => by
      rw [upd_ne (ne_of_none e nC), upd_ne (fun z => n ps (Option.some.inj (e.symm.trans (by rw [z]; exact hP))))]
      exact e
    have eL : (ps ++ #[rawInt pos.line, rawInt pos.col, .ref c']).toList = ps.toList ++ [rawInt pos.line, rawInt pos.col, .ref c'] := by simp
    have T1 : Tabs T (upd (upd H P (.tbl (ps ++ #[rawInt pos.line, rawInt pos.col, .ref c']))) c' (CodeO c' (X.env.qual ++ "<lambda>"))) := fun p hp => by
      by_cases hb : p.1 = P
      · rw [hu p hp hb, hb]
        refine ⟨_, by rw [upd_ne (ne_of_none hP nC), upd_same], by rw [eL]; exact PySem.TriplesOk_snoc _ _ _ _ ht, fun p' cv hcv => ?_⟩
        rw [eL] at hcv
        rcases among_app _ ht hcv with z | z
        · obtain ⟨c0, e1, e2⟩ := ha p' cv z
          exact ⟨c0, e1, hE _ _ e2 codeO_ne⟩
        · exact ⟨c', z, upd_same⟩
      · obtain ⟨ps', a1, a2, a3⟩ := hT p hp
        refine ⟨ps', by rw [upd_ne (ne_of_none a1 nC), upd_ne hb]; exact a1, a2, fun p' cv hcv => ?_⟩
        obtain ⟨c0, e1, e2⟩ := a3 p' cv hcv
        exact ⟨c0, e1, hE _ _ e2 codeO_ne⟩
    have nF := I1.hok.fresh (Nat.le_refl _)
    have I2 := inv_lam (F := F) (q := X.env.qual ++ "<lambda>") (cl := cloFrom X.env.cells F.scope.names []) (dV := dV) (c' := c') (t' := tk) (doc := doc) (pm := (X.mg "__name__").getD .none) (ctv := ctv) I1 rfl
    refine h h'.objs.size c' _ _ I2 (fun b o e n => ?_) (fun b e => NdefX.upd_none (NdefX.upd_none (NdefX.upd_none e))) (T1.ext fun b o e => ?_) (I.hok.fresh (Nat.le_trans hge (Nat.le_of_lt hlt))) upd_same ?_
    · have e1 := hE b o e n
      exact (upd_ne (ne_of_none e1 nF)).trans e1
    · exact (upd_ne (ne_of_none e nF)).trans e
    · exact (upd_ne (Nat.ne_of_lt hlt)).trans upd_same
  | some cv =>
    obtain ⟨c', e, hco⟩ := ha pos cv hc
    subst e
    refine PySem.W.kdv_makeTailHit (mg := X.mg) (c := c) (P := P) (ps := ps) (closure_ok hfree) I.ok.glob (I.mod.glob.keeps I.bk) hcode (TB.code.keeps I.bk) hP' ht hc bP fun ctv doc h' tk hx hsz => ?_
    have I1 : Inv X pins σ H { s with heap := h', toks := tk } := I.kept hx
    have nF : H h'.objs.size = none := I1.hok.fresh (Nat.le_refl _)
    have I2 := inv_lam (F := F) (q := X.env.qual ++ "<lambda>") (cl := cloFrom X.env.cells F.scope.names []) (dV := dV) (c' := c') (t' := tk) (doc := doc) (pm := (X.mg "__name__").getD .none) (ctv := ctv) I1 rfl
    refine h h'.objs.size c' _ _ I2 (fun b o e n => ?_) (fun b e => NdefX.upd_none e) (hT.ext fun b o e => ?_) nF upd_same ?_
    · exact (upd_ne (ne_of_none e nF)).trans e
    · exact (upd_ne (ne_of_none e nF)).trans e
    · exact (upd_ne (ne_of_none hco nF)).trans hco
end
/-- lambda: body, as a value -/
def tLamV (T : List (Addr × Str)) (q : Str) (F : LF) (cl : List (Str × Addr)) : TE := fun σ H Q => Tabs T H ∧ ∀ (f c' : Addr) (H1 : Hp), ExtN H H1 → (∀ b, H1 b = none → H b = none) → Tabs T H1 → H f = none → H1 f = some (LamO f q F cl .none c') → H1 c' = some (CodeO c' q) → Q (.ref f) H1
theorem pe_lamv {X : Cx} {T : List (Addr × Str)} {c P : Addr} {params : Arguments} {body : Expr} {scope : Scope} {pos : Pos} (TB : TabB X.base X.mg c P) (hcode : X.env.code = .ref c) (hm : (P, X.env.qual ++ "<lambda>") ∈ T) (hu : ∀ p ∈ T, p.1 = P → p.2 = X.env.qual ++ "<lambda>")
    (hfree : X.Ok → ∀ y ∈ scope.names, y.2 = .free → ∃ c, X.env.cells.lookup y.1 = some c) (hdef : defaultsOf params X.env = ([], [])) : PE X (.Lambda params body scope pos) (tLamV T (X.env.qual ++ "<lambda>") ⟨params, body, scope, []⟩ (cloFrom X.env.cells scope.names [])) := by
  refine ⟨fun pins s σ H Q I h => ?_⟩
  obtain ⟨hT, h⟩ := h
  refine PySem.W.kla_eval hdef ?_
  rw [makeFunction_eq]
  simp only [List.zip_nil_right, List.filterMap_nil, List.isEmpty_nil, if_true, pure_bind]
  exact lam_val (F := ⟨params, body, scope, []⟩) I TB hcode hm hu hT (hfree I.ok) fun f c' H1 s' I1 e1 e2 t1 nf hf hc => ⟨.ref f, H1, I1, rfl, h f c' H1 e1 e2 t1 nf hf hc⟩
end Ak

namespace Ak
open PySem PySem.Spec PyProof.Rows L2 LamX
/-! ### lambdas as values, called -/
/-- a lambda whose parameters are no names of the def that makes it -/
structure LamT (N : List Str) (sc : Scope) (F : LF) : Prop where
  kind : F.scope.kind = .function
  co : F.scope.isCoroutine = false
  gen : F.scope.isGenerator = false
  own : ∀ y ∈ F.scope.names, y.2 ≠ .cell
  loc : ∀ y ∈ F.scope.names, y.2 = .local → y.1 ∉ N
  par : ∀ x ∈ F.ps, F.scope.names.lookup x = some .local
  free : ∀ y ∈ F.scope.names, y.2 = .free → sc.names.lookup y.1 = some .cell ∨ sc.names.lookup y.1 = some .free
def lamTB (N : List Str) (sc : Scope) (F : LF) : Bool :=
  decide (F.scope.kind = .function) && !F.scope.isCoroutine && !F.scope.isGenerator && (F.scope.names.all fun y => !decide (y.2 = .cell) && (!decide (y.2 = .local) || !decide (y.1 ∈ N)) && (!decide (y.2 = .free) || decide (sc.names.lookup y.1 = some .cell) || decide (sc.names.lookup y.1 = some .free))) && F.ps.all fun x => decide (F.scope.names.lookup x = some .local)
theorem lamT_by {N : List Str} {sc : Scope} {F : LF} (h : lamTB N sc F = true) : LamT N sc F := by
  unfold lamTB at h
  simp only [Bool.and_eq_true, Bool.or_eq_true, Bool.not_eq_true', decide_eq_true_eq, decide_eq_false_iff_not, List.all_eq_true] at h
  obtain ⟨⟨⟨⟨h1, h2⟩, h3⟩, h4⟩, h5⟩ := h
  refine ⟨h1, h2, h3, fun y hy => (h4 y hy).1.1, fun y hy e => ?_, h5, fun y hy e => ?_⟩
  · exact (h4 y hy).1.2.elim (fun z => absurd e z) id
  · rcases (h4 y hy).2 with (z | z) | z
    · exact absurd e z
    · exact .inl z
    · exact .inr z
theorem LamT.has {X : Cx} {F : LF} (L : LamT X.N X.env.scope F) (ok : X.Ok) : ∀ y ∈ F.scope.names, y.2 = .free → ∃ c, X.env.cells.lookup y.1 = some c := fun y hy e => by
  rcases L.free y hy e with k | k
  · exact ok.has _ (.inl k)
  · exact ok.has _ (.inr k)
section
variable {X : Cx} {pins : List (Addr × Obj)} {σ : L2.St} {H HZ : Hp} {s s1 : Shared}
theorem lam_startT {A : Around} {outer : List Env} {E : XK} {F : LF} {f c' : Addr} {h₁ : Heap} {tk : Nat} {bs : List (Str × Value)} (I : Inv X pins σ H s) (L : LamT X.N X.env.scope F) (e0 : Env0 X.prog X.w X.K X.mg X.base A outer s1 HZ) (hd : A.handled = none)
    (un : Un (frs X.stack) [] H HZ s.heap s1.heap) (hns : h₁.Ns s1.heap.objs.size fun y => bs.reverse.lookup y) (kp : ∀ b o, s1.heap.get? b = some o → h₁.get? b = some o) :
    Inv (lamCx X A outer s1 HZ E F.scope f c') [] σ HZ { s1 with heap := h₁, toks := tk } := by
  have hfree := L.has I.ok
  have cm : ∀ {y c}, (cloFrom X.env.cells F.scope.names []).lookup y = some c → X.env.cells.lookup y = some c := fun {y c} e => by
    rcases cloFrom_mem (PySem.mem_of_lookup e) with hm | ⟨h1, h2⟩
    · cases hm
    · obtain ⟨c1, hc⟩ := hfree _ h1 rfl
      have hc : X.env.cells.lookup y = some c1 := hc
      have e2 : c = c1 := by
        rw [h2, hc] <;> rfl
      rw [e2]
      exact hc
  have look : ∀ {y}, F.scope.names.lookup y = some .free → ∃ c, (cloFrom X.env.cells F.scope.names []).lookup y = some c := fun {y} hl => by
    have hy : (y, NameKind.free) ∈ F.scope.names := PySem.mem_of_lookup hl
    exact mem_lookup (cloFrom_has (cells := X.env.cells) (acc := []) hy)
  have cellK : ∀ {c : Addr} {v : Option Value}, H c = none → s.heap.IsCell c v → h₁.IsCell c v := fun {c v} n ⟨o, ho, hd⟩ => by
    obtain ⟨sl, q⟩ := un.any ho n (by simp)
    exact ⟨_, kp _ _ q, hd⟩
  have noA : ∀ b : Addr, b ∉ (lamCx X A outer s1 HZ E F.scope f c').ex := fun b z => absurd (show b ∈ ([] : List Addr) from z) (by simp)
  refine ⟨⟨e0.mod, L.kind, rfl, rfl, Nat.le_refl _, fun y z c e1 e2 => I.ok.inj y z c (cm e1) (cm e2), fun y hy => ?_, fun y c z _ => ?_, fun _ => hd, Around.frames_deeper e0.frames, .inr ⟨rfl, rfl⟩, fun b z => absurd z (noA b), e0.bs, e0.bsz, fun b _ _ => noA b,
      fun b z => absurd z (noA b), e0.funs, e0.frf⟩,
    rfl, e0.bare, Un.kept kp, ⟨_, hns, fun i y v e1 e2 e3 => ?_⟩, fun y c e => ?_, e0.hok.fresh (Nat.le_refl _), fun y c e => ?_, fun q hq => absurd (show q ∈ ([] : List (Addr × Obj)) ++ [] from hq) (by simp), e0.hok.kept kp, I.len⟩
  · have hy : F.scope.names.lookup y = some .cell ∨ F.scope.names.lookup y = some .free := hy
    rcases hy with hy | hy
    · exact absurd rfl (L.own _ (PySem.mem_of_lookup hy))
    · exact look hy
  · have z : false = true := z
    cases z
  · have e3 : Vis F.scope y := e3
    rcases e3 with k | k | k
    · exact absurd (List.mem_of_getElem? (show X.N[i]? = some y from e1)) (L.loc _ (PySem.mem_of_lookup k) rfl)
    · exact absurd rfl (L.own _ (PySem.mem_of_lookup k))
    · obtain ⟨m, hn, hl⟩ := I.loc
      have hvis : Vis X.env.scope y := (L.free _ (PySem.mem_of_lookup k) rfl).elim (fun k => .inr (.inl k)) (fun k => .inr (.inr k))
      obtain ⟨w', r, q⟩ := hl i y v e1 e2 hvis
      obtain ⟨c2, h2⟩ := look k
      refine ⟨w', r, .inr ⟨.inr k, c2, h2, ?_⟩⟩
      have c1 := cm h2
      rcases q with ⟨k', _⟩ | ⟨_, c3, e', z⟩
      · have k' : X.env.scope.names.lookup y = some .local := k'
        rcases L.free _ (PySem.mem_of_lookup k) rfl with k2 | k2 <;> rw [show X.env.scope.names.lookup y = _ from k2] at k' <;> cases k'
      · rw [c1] at e'
        cases e'
        exact cellK (I.freeC y _ c1) z
  · obtain ⟨w', z⟩ := I.cell y c (cm e)
    exact ⟨w', cellK (I.freeC y c (cm e)) z⟩
  · obtain ⟨v, o, ho, hd⟩ := I.cell y c (cm e)
    exact un.free c o ho (I.freeC y c (cm e)) (by simp)
/-- what the defaults' tuple must be -/
def DfAt (H : Hp) (F : LF) (dV : Value) : Prop := (F.ps = [] ∧ dV = .none) ∨ (F.ps ≠ [] ∧ ∃ dt xs, dV = .ref dt ∧ H dt = some (.tup xs) ∧ xs.length = F.ps.length)
/-- how the lambda binds its defaults -/
def BindL (F : LF) : Prop := ∀ (q : Str) (cl : List (Str × Addr)) (dV doc pm ctv : Value) (c' : Addr), (F.ps = [] → dV = .none → bindArgs (PySem.W.kdv_fn "<lambda>" q F.params (.expr F.body) F.scope cl dV doc pm (.ref c') ctv) ⟨[], []⟩ = pure []) ∧
  (F.ps ≠ [] → ∀ dt us, dV = .ref dt → us.length = F.ps.length → ∃ k, bindArgs (PySem.W.kdv_fn "<lambda>" q F.params (.expr F.body) F.scope cl dV doc pm (.ref c') ctv) ⟨[], []⟩ = seqItems? dV >>= k ∧ k (some us.toArray) = pure (F.ps.zip us))
/-- x(), in the def that got the lambda: Z is that def's context, entered at s -/
theorem pe_actO {CXg : CXT} {Eg : XK} {Ng : List Str} {qg : Str} {sg : Scope} {g f c' : Addr} {cdg : Value} {F : LF} {dV : Value} {k i : Nat} {a : Str} {pn : List (Addr × Obj)} {xe : Value → Shared → Prop} {W : WX} {E : XK} {tb : TE} {p1 p2 : Pos}
    (I : Inv X pins σ H s) (L : LamT X.N X.env.scope F) (hbind : BindL F)
    (tk : Takes ((cxOf CXg X.prog X.w X.K X.mg X.base Ng qg sg g cdg X.A X.stack s H Eg).tr pn xe) W) (hW : ∀ cls d σ' H', E cls d H' → W cls d σ' H') (hr : Room (k + 1) (X.A.deeper (envOfC qg sg s.heap.objs.size g cdg)))
    (hbody : ∀ (A : Around) (outer : List Env) (s : Shared) (H : Hp), Room k (A.deeper (lamEnv X F.scope s.heap.objs.size f c')) → PE (lamCx X A outer s H E F.scope f c') F.body tb)
    (hN : Ng[i]? = some a) (hv : Vis sg a) (hd : (a == ("__debug__" : Str)) = false := by decide) (hcd : (a == ("__classdict__" : Str)) = false := by decide) :
    PE ((cxOf CXg X.prog X.w X.K X.mg X.base Ng qg sg g cdg X.A X.stack s H Eg).tr pn xe) (.Call (.Name a p1) [] [] p2)
      (fun σZ HZ Q => σZ[i]? = some (some (.ref f)) ∧ HZ c' = some (CodeO c' (X.env.qual ++ "<lambda>")) ∧ HZ f = some (LamO f (X.env.qual ++ "<lambda>") F (cloFrom X.env.cells F.scope.names []) dV c') ∧ DfAt HZ F dV ∧ tb σ HZ Q) := by
  refine ⟨fun pinsZ sZ σZ HZ Q IZ h => ?_⟩
  obtain ⟨hs, hc, hfo, hdf, ht⟩ := h
  refine wpAny_Call_Name_kw (thn ((pe_var (pos := p1) (i := i) hN hv hd hcd).run pinsZ sZ σZ HZ (fun v H1 => v = .ref f ∧ H1 = HZ) IZ ⟨.ref f, hs, rfl, rfl⟩) fun u s1 ⟨v, H1, I1, r1, q1⟩ => ?_)
  obtain ⟨ev, eH⟩ := q1
  subst ev
  rw [eH] at I1
  obtain rfl : u = Value.ref f := r1
  obtain ⟨doc, pm, ctv, of1⟩ := lamO_at I1.hok hfo
  refine PySem.W.callWith_F0 ⟨_, _, _, _, of1⟩ ?_
  have un : Un (frs X.stack) [] H HZ s.heap s1.heap := I1.base
  obtain ⟨⟨oc, vs, t, hoc, hdc, hvc⟩, _, _⟩ := I1.hok c' _ hc
  obtain ⟨us, hul, hbt⟩ : ∃ us : List Value, us.length = F.ps.length ∧ BindsTo s1 (PySem.W.kdv_fn "<lambda>" (X.env.qual ++ "<lambda>") F.params (.expr F.body) F.scope (cloFrom X.env.cells F.scope.names []) dV doc pm (.ref c') ctv) ⟨[], []⟩ (F.ps.zip us) := by
    rcases hdf with ⟨e1, e2⟩ | ⟨e0, dt, xs, e1, e2, e3⟩
    · refine ⟨[], by rw [e1]; rfl, ?_⟩
      rw [e1]
      exact .of_eq ((hbind _ _ dV doc pm ctv c').1 e1 e2)
    · obtain ⟨hz, us, r, o, ho, hcls, n, hdata⟩ := I1.hok dt _ e2
      have hl : us.length = F.ps.length := by rw [← e3, r.length]
      obtain ⟨k0, hb1, hb2⟩ := (hbind (X.env.qual ++ "<lambda>") (cloFrom X.env.cells F.scope.names []) dV doc pm ctv c').2 e0 dt us e1 hl
      exact ⟨us, hl, BindsTo.of_defaults e1 ho hdata hb1 hb2⟩
  have rc : codeAny (model X.prog X.w) (X.A.deeper (envOfC qg sg s.heap.objs.size g cdg)) (.call (.ref f) ⟨[], []⟩) (CR (L2.CX X.prog X.w) (envOfC qg sg s.heap.objs.size g cdg :: X.stack) X.prog X.w HZ s1 Q E) s1 := by
    refine PySem.W.kla_callFunE hr.depth of1 rfl L.co L.gen rfl ⟨c', oc, vs, t, rfl, hoc, hdc, hvc⟩ ?_
    refine hbt _ _ _ _ ?_
    refine wpAny_newFunctionEnv (fun y hy => L.own y hy) (fun ⟨n, _⟩ hy => L.par n (List.of_mem_zip hy).1) (fun h₁ hns hsb => ⟨I1.nolimit.fresh _ hsb, ?_⟩) L.kind
    show codeAny _ _ (.expr F.body (lamEnv X F.scope s1.heap.objs.size f c')) _ _
    have kp : ∀ b o, s1.heap.get? b = some o → h₁.get? b = some o := fun b o e => hsb.extBut b o (Nat.ne_of_lt (Heap.lt_size e)) (Heap.get?_push_of_some _ e)
    have J : Inv (lamCx X (X.A.deeper (envOfC qg sg s.heap.objs.size g cdg)) (envOfC qg sg s.heap.objs.size g cdg :: X.stack) s1 HZ E F.scope f c') [] σ HZ { s1 with heap := h₁, toks := s1.toks + (F.ps.zip us).length } :=
      lam_startT I L I1.env0 hr.hd un hns kp
    refine PySem.W.kla_codeExpr (wpAny_mono ((hbody _ _ s1 HZ (hr.deeper _)).run [] _ _ HZ Q J ht) (fun v s' hq => ?_) fun e s' hq => hq)
    obtain ⟨w', H', J', rv, q⟩ := hq
    exact ⟨w', H', J'.os, J'.bare, J'.base, J'.hok, rv, q⟩
  have hx : Passes (L2.CX X.prog X.w) ((cxOf CXg X.prog X.w X.K X.mg X.base Ng qg sg g cdg X.A X.stack s H Eg).tr pn xe) E := passes_call tk hW
  refine wpAny_call (codeAny_mono rc fun r s' hq => ?_)
  cases r with
  | error e => exact hx pinsZ σZ HZ s1 e s' I1 hq
  | ok fl =>
    cases fl with
    | ret u => exact I1.after hq
    | next => exact False.elim hq
    | brk => exact False.elim hq
    | cont => exact False.elim hq
/-- lambda p=d: body, as a value -/
def tLamV1 (T : List (Addr × Str)) (q : Str) (F : LF) (cl : List (Str × Addr)) (td : TE) : TE := fun σ H Q => td σ H fun x H1 => ∀ dt, H1 dt = none → Tabs T (upd H1 dt (.tup [x])) ∧ ∀ (f c' : Addr) (H2 : Hp), ExtN (upd H1 dt (.tup [x])) H2 → (∀ b, H2 b = none → upd H1 dt (.tup [x]) b = none) → Tabs T H2 → upd H1 dt (.tup [x]) f = none →
  H2 f = some (LamO f q F cl (.ref dt) c') → H2 c' = some (CodeO c' q) → Q (.ref f) H2
theorem pe_lamv1 {T : List (Addr × Str)} {c P : Addr} {params : Arguments} {body : Expr} {scope : Scope} {pos : Pos} {d : Expr} {td : TE} {prm : Str} (TB : TabB X.base X.mg c P) (hcode : X.env.code = .ref c) (hm : (P, X.env.qual ++ "<lambda>") ∈ T) (hu : ∀ p ∈ T, p.1 = P → p.2 = X.env.qual ++ "<lambda>")
    (hfree : X.Ok → ∀ y ∈ scope.names, y.2 = .free → ∃ c, X.env.cells.lookup y.1 = some c) (hd : params.defaults = [d]) (hk : params.kw_defaults = []) (he : PE X d td) : PE X (.Lambda params body scope pos) (tLamV1 T (X.env.qual ++ "<lambda>") ⟨params, body, scope, [prm]⟩ (cloFrom X.env.cells scope.names []) td) := by
  refine ⟨fun pins s σ H Q I h => ?_⟩
  refine PySem.W.kdv_lam (by rw [hd]; rfl) hk ?_
  rw [hd]
  refine PySem.W.kdv_all1 (thn (he.run pins s σ H _ I h) fun v s1 hv => ?_)
  obtain ⟨x, H1, I1, rx, h1⟩ := hv
  refine PySem.W.kdv_all0 ?_
  rw [makeFunction_eq]
  simp only [List.zip_nil_right, List.filterMap_nil, List.isEmpty_nil, if_true, pure_bind, List.isEmpty_cons, Bool.false_eq_true, if_false]
  refine wpAny_bind (wpAny_newTextTuple ?_)
  have nd := I1.hok.fresh (Nat.le_refl s1.heap.objs.size)
  have I2 : Inv X pins σ (upd H1 s1.heap.objs.size (.tup [x])) { s1 with heap := s1.heap.push { cls := .type "tuple", data := .seq [v].toArray } } := I1.laid (t' := s1.toks) (fun b u q => Heap.get?_push_of_some _ q) (Nat.le_refl _) ⟨(Nat.le_of_ble_eq_true rfl : (1 : Nat) ≤ sizeLine), [v], .cons rx .nil, IsTup.new _ _⟩
  obtain ⟨hT, h2⟩ := h1 _ nd
  exact lam_val (F := ⟨params, body, scope, [prm]⟩) I2 TB hcode hm hu hT (hfree I.ok) fun f c' H2 s' I3 e1 e2 t1 nf hf hc => ⟨.ref f, H2, I3, rfl, h2 f c' H2 e1 e2 t1 nf hf hc⟩
end
/-- x(e), e a lambda made here: Fs, the lambdas that it may be, each with its reading -/
def tTold (T : List (LF × (XK → TE))) (q : Str) (cells : List (Str × Addr)) (TT : (XK → Hp → VK → Prop) → Hp → VK → Prop) (te : TE) : TE := fun σ H Q => te σ H fun x H1 => ∃ (f c' : Addr) (F : LF) (t : XK → TE) (dV : Value), x = .ref f ∧ (F, t) ∈ T ∧ H1 c' = some (CodeO c' q) ∧
  TT (fun E H' Q' => H' f = some (LamO f q F (cloFrom cells F.scope.names []) dV c') ∧ DfAt H' F dV ∧ t E σ H' Q') H1 Q
theorem pe_toldv {X : Cx} {Fs : List (LF × (XK → TE))} {TT : (XK → Hp → VK → Prop) → Hp → VK → Prop} {x a : Str} {g : Addr} {k : Nat} {pg : Arguments} {bg : List Stmt} {sg : Scope} {dV kV doc pm cdv ct oc : Value} {an od : Option Addr} {osl : Array (Option Value)} {Ng : List Str}
    {e : Expr} {te : TE} {p pos : Pos} (hg : Gl X x) (hm : X.mg x = some (.ref g)) (hk : PySem.W.keepIn X.K (.ref g) = true)
    (lk : X.K.lookup g = some ⟨oc, od, .func (PySem.W.fnOf x x pg bg sg dV kV doc pm an cdv ct), osl⟩) (hcg : PySem.W.codeIn X.K cdv x = true) (hb : L2.Binds X.K (PySem.W.fnOf x x pg bg sg dV kV doc pm an cdv ct) [a] []) (Sg : FnScope Ng [a] sg) (hNg : Ng[0]? = some a) (hva : Vis sg a)
    (hG : GivesTo X Ng x sg g cdv bg a (X.env.qual ++ "<lambda>") TT) (he : PE X e te) (hr : Room (k + 2) X.A)
    (L : ∀ q ∈ Fs, LamT X.N X.env.scope q.1) (hbind : ∀ q ∈ Fs, BindL q.1)
    (hbody : ∀ q ∈ Fs, ∀ (A : Around) (outer : List Env) (s : Shared) (H : Hp) (E : XK) (f c' : Addr), Room k (A.deeper (lamEnv X q.1.scope s.heap.objs.size f c')) → PE (lamCx X A outer s H E q.1.scope f c') q.1.body (q.2 E))
    (hdb : (x == ("__debug__" : Str)) = false := by decide) (hd : (a == ("__debug__" : Str)) = false := by decide) (hcd : (a == ("__classdict__" : Str)) = false := by decide)
    (hse : starEach [e] X.env = (false, eval e X.env) :: starEach [] X.env := by rfl) :
    PE X (.Call (.Name x p) [e] [] pos) (tTold Fs (X.env.qual ++ "<lambda>") X.env.cells TT te) := by
  refine ⟨fun pins s σ H Q I h => ?_⟩
  refine wpAny_Call_Name_kw (ld_glob I hg hm ?_ hdb)
  refine PySem.W.callWith_K (h₀ := X.base) I.ok.mod.kin hk ?_ (by rw [hse]) (by rfl)
  rw [hse]
  show wpAny _ _ (spliced ((false, eval e X.env) :: backTo pos (starEach [] X.env))) _ _ s
  refine Calls.spliced_cons (thn (he.run pins s σ H _ I h) fun v s' hv => ?_)
  obtain ⟨y, H1, I1, ry, f, c', F, t, dV', ey, hF, hco, h1⟩ := hv
  subst ey
  obtain rfl : v = Value.ref f := ry
  refine Calls.spliced_nil ⟨I1.kIn, ?_⟩
  have rc : codeAny (model X.prog X.w) X.A (.call (.ref g) ⟨[.ref f], []⟩) (CR C8.CX0 X.stack X.prog X.w H1 s' Q C8.E0) s' := by
    refine run_ofS (N := Ng) (ps := [a]) (us := [.ref f]) (vs := [.ref f]) lk hcg Sg hr I1.env0 (hb s' [.ref f] I1.kIn rfl) (.cons rfl .nil) rfl fun hr' => ?_
    obtain ⟨t', ht', hq'⟩ := hG f c' s' H1 Q (fun E H' Q' => H' f = some (LamO f (X.env.qual ++ "<lambda>") F (cloFrom X.env.cells F.scope.names []) dV' c') ∧ DfAt H' F dV' ∧ t E σ H' Q') (fun W pn xe E p1 p2 tk hW => pe_actO (i := 0) I1 (L _ hF) (hbind _ hF) tk hW hr' (fun A outer s H hr2 => hbody _ hF A outer s H E f c' hr2) hNg hva hd hcd) hco h1
    exact ⟨t', ht'.nox, hq'⟩
  refine wpAny_call (codeAny_mono rc fun r s2 hq => ?_)
  cases r with
  | error e => exact (show False from hq).elim
  | ok fl =>
    cases fl with
    | ret u => exact I1.after hq
    | next => exact False.elim hq
    | brk => exact False.elim hq
    | cont => exact False.elim hq
end Ak

namespace Ak
open PySem PySem.Spec PyProof.Rows L2 LamX
/-! ### lambdas as values, their words closed -/
/-- the lambda F reads as t -/
def Good (X : Cx) (k : Nat) (F : LF) (t : XK → TE) : Prop := LamT X.N X.env.scope F ∧ BindL F ∧ ∀ (A : Around) (outer : List Env) (s : Shared) (H : Hp) (E : XK) (f c' : Addr), Room k (A.deeper (lamEnv X F.scope s.heap.objs.size f c')) → PE (lamCx X A outer s H E F.scope f c') F.body (t E)
/-- the lambda F is at f -/
def LamAt (H : Hp) (q : Str) (cells : List (Str × Addr)) (F : LF) (f : Addr) : Prop := ∃ c' dV, H c' = some (CodeO c' q) ∧ H f = some (LamO f q F (cloFrom cells F.scope.names []) dV c') ∧ DfAt H F dV
theorem LamAt.ext {H H' : Hp} {q : Str} {cells : List (Str × Addr)} {F : LF} {f : Addr} (x : LamAt H q cells F f) (e : ExtN H H') : LamAt H' q cells F f := by
  obtain ⟨c', dV, h1, h2, h3⟩ := x
  refine ⟨c', dV, e _ _ h1 codeO_ne, e _ _ h2 lamO_ne, ?_⟩
  rcases h3 with h | ⟨e0, dt, xs, e1, e2, e3⟩
  · exact Or.inl h
  · exact Or.inr ⟨e0, dt, xs, e1, e _ _ e2 (fun _ z => by cases z), e3⟩
theorem bindL0 {params : Arguments} {body : Expr} {scope : Scope} (h : ∀ (q : Str) (cl : List (Str × Addr)) (doc pm ctv : Value) (c' : Addr), bindArgs (PySem.W.kdv_fn "<lambda>" q params (.expr body) scope cl .none doc pm (.ref c') ctv) ⟨[], []⟩ = pure []) : BindL ⟨params, body, scope, []⟩ := fun q cl dV doc pm ctv c' =>
  ⟨fun _ e => by subst e; exact h q cl doc pm ctv c', fun z => absurd rfl z⟩
theorem bindL1 {params : Arguments} {body : Expr} {scope : Scope} {prm : Str} (h : ∀ (q : Str) (cl : List (Str × Addr)) (doc pm ctv : Value) (c' : Addr) (dt : Addr) (u : Value), ∃ k, bindArgs (PySem.W.kdv_fn "<lambda>" q params (.expr body) scope cl (.ref dt) doc pm (.ref c') ctv) ⟨[], []⟩ = seqItems? (.ref dt) >>= k ∧ k (some #[u]) = pure [(prm, u)]) : BindL ⟨params, body, scope, [prm]⟩ := by
  intro q cl dV doc pm ctv c'
  refine ⟨(fun z => by cases z), fun _ dt us e hl => ?_⟩
  subst e
  match us, hl with
  | [u], _ => exact h q cl doc pm ctv c' dt u
def tLamP (T : List (Addr × Str)) (q : Str) (cells : List (Str × Addr)) (G : LF → (XK → TE) → Prop) (t : XK → TE) : TE := fun σ H Q => Tabs T H ∧ ∀ (f : Addr) (F : LF) (H1 : Hp), G F t → ExtN H H1 → (∀ b, H1 b = none → H b = none) → Tabs T H1 → H f = none → LamAt H1 q cells F f → Q (.ref f) H1
section
variable {X : Cx} {k : Nat} {T : List (Addr × Str)} {c P : Addr} {params : Arguments} {body : Expr} {scope : Scope} {pos : Pos} {G : LF → (XK → TE) → Prop} {t : XK → TE}
theorem pe_lamP (TB : TabB X.base X.mg c P) (hcode : X.env.code = .ref c) (hm : (P, X.env.qual ++ "<lambda>") ∈ T) (hu : ∀ p ∈ T, p.1 = P → p.2 = X.env.qual ++ "<lambda>") (hG : ∀ F, Good X k F t → G F t) (L : LamT X.N X.env.scope ⟨params, body, scope, []⟩)
    (hb : ∀ (q : Str) (cl : List (Str × Addr)) (doc pm ctv : Value) (c' : Addr), bindArgs (PySem.W.kdv_fn "<lambda>" q params (.expr body) scope cl .none doc pm (.ref c') ctv) ⟨[], []⟩ = pure []) (hdef : defaultsOf params X.env = ([], []))
    (hbody : ∀ (A : Around) (outer : List Env) (s : Shared) (H : Hp) (E : XK) (f c' : Addr), Room k (A.deeper (lamEnv X scope s.heap.objs.size f c')) → PE (lamCx X A outer s H E scope f c') body (t E)) :
    PE X (.Lambda params body scope pos) (tLamP T (X.env.qual ++ "<lambda>") X.env.cells G t) := by
  refine ⟨fun pins s σ H Q I h => ?_⟩
  obtain ⟨hT, h⟩ := h
  refine (pe_lamv (pos := pos) TB hcode hm hu (fun ok => L.has ok) hdef).run pins s σ H Q I ⟨hT, fun f c' H1 e1 e2 t1 nf hf hc => ?_⟩
  exact h f _ H1 (hG _ ⟨L, bindL0 hb, hbody⟩) e1 e2 t1 nf ⟨c', .none, hc, hf, Or.inl ⟨rfl, rfl⟩⟩
theorem pe_lamP1 {d : Expr} {v : V} {prm : Str} (TB : TabB X.base X.mg c P) (hcode : X.env.code = .ref c) (hm : (P, X.env.qual ++ "<lambda>") ∈ T) (hu : ∀ p ∈ T, p.1 = P → p.2 = X.env.qual ++ "<lambda>") (hG : ∀ F, Good X k F t → G F t) (L : LamT X.N X.env.scope ⟨params, body, scope, [prm]⟩)
    (hb : ∀ (q : Str) (cl : List (Str × Addr)) (doc pm ctv : Value) (c' : Addr) (dt : Addr) (u : Value), ∃ k, bindArgs (PySem.W.kdv_fn "<lambda>" q params (.expr body) scope cl (.ref dt) doc pm (.ref c') ctv) ⟨[], []⟩ = seqItems? (.ref dt) >>= k ∧ k (some #[u]) = pure [(prm, u)]) (hd : params.defaults = [d]) (hk : params.kw_defaults = []) (he : PE X d (tC v))
    (hbody : ∀ (A : Around) (outer : List Env) (s : Shared) (H : Hp) (E : XK) (f c' : Addr), Room k (A.deeper (lamEnv X scope s.heap.objs.size f c')) → PE (lamCx X A outer s H E scope f c') body (t E)) :
    PE X (.Lambda params body scope pos) (tLamP T (X.env.qual ++ "<lambda>") X.env.cells G t) := by
  refine ⟨fun pins s σ H Q I h => ?_⟩
  obtain ⟨hT, h⟩ := h
  refine (pe_lamv1 (prm := prm) (pos := pos) TB hcode hm hu (fun ok => L.has ok) hd hk he).run pins s σ H Q I (fun dt nd => ?_)
  have e0 : ∀ b o, H b = some o → upd H dt (.tup [v]) b = some o := fun b o e => (upd_ne (ne_of_none e nd)).trans e
  refine ⟨hT.ext e0, fun f c' H2 e1 e2 t1 nf hf hc => ?_⟩
  exact h f _ H2 (hG _ ⟨L, bindL1 hb, hbody⟩) (fun b o e n => e1 _ _ (e0 _ _ e) n) (fun b e => NdefX.upd_none (e2 b e)) t1 (NdefX.upd_none nf) ⟨c', .ref dt, hc, hf, Or.inr ⟨by simp, dt, [v], rfl, e1 _ _ upd_same (fun _ z => by cases z), rfl⟩⟩
end
/-- x(e), e a lambda made here -/
def tToldP (q : Str) (cells : List (Str × Addr)) (G : LF → (XK → TE) → Prop) (TT : (XK → Hp → VK → Prop) → Hp → VK → Prop) (te : TE) : TE := fun σ H Q => te σ H fun x H1 => ∃ (f : Addr) (F : LF) (t : XK → TE), x = .ref f ∧ G F t ∧ LamAt H1 q cells F f ∧
  ∀ c' dV, H1 f = some (LamO f q F (cloFrom cells F.scope.names []) dV c') → DfAt H1 F dV → TT (fun E H' Q' => H' f = some (LamO f q F (cloFrom cells F.scope.names []) dV c') ∧ DfAt H' F dV ∧ t E σ H' Q') H1 Q
theorem pe_toldP {X : Cx} {G : LF → (XK → TE) → Prop} {TT : (XK → Hp → VK → Prop) → Hp → VK → Prop} {x a : Str} {g : Addr} {k : Nat} {pg : Arguments} {bg : List Stmt} {sg : Scope} {dV kV doc pm cdv ct oc : Value} {an od : Option Addr} {osl : Array (Option Value)} {Ng : List Str}
    {e : Expr} {te : TE} {p pos : Pos} (hg : Gl X x) (hm : X.mg x = some (.ref g)) (hk : PySem.W.keepIn X.K (.ref g) = true)
    (lk : X.K.lookup g = some ⟨oc, od, .func (PySem.W.fnOf x x pg bg sg dV kV doc pm an cdv ct), osl⟩) (hcg : PySem.W.codeIn X.K cdv x = true) (hb : L2.Binds X.K (PySem.W.fnOf x x pg bg sg dV kV doc pm an cdv ct) [a] []) (Sg : FnScope Ng [a] sg) (hNg : Ng[0]? = some a) (hva : Vis sg a)
    (hG : GivesTo X Ng x sg g cdv bg a (X.env.qual ++ "<lambda>") TT) (he : PE X e te) (hr : Room (k + 2) X.A) (hGood : ∀ F t, G F t → Good X k F t)
    (hdb : (x == ("__debug__" : Str)) = false := by decide) (hd : (a == ("__debug__" : Str)) = false := by decide) (hcd : (a == ("__classdict__" : Str)) = false := by decide)
    (hse : starEach [e] X.env = (false, eval e X.env) :: starEach [] X.env := by rfl) :
    PE X (.Call (.Name x p) [e] [] pos) (tToldP (X.env.qual ++ "<lambda>") X.env.cells G TT te) := by
  refine ⟨fun pins s σ H Q I h => ?_⟩
  refine wpAny_Call_Name_kw (ld_glob I hg hm ?_ hdb)
  refine PySem.W.callWith_K (h₀ := X.base) I.ok.mod.kin hk ?_ (by rw [hse]) (by rfl)
  rw [hse]
  show wpAny _ _ (spliced ((false, eval e X.env) :: backTo pos (starEach [] X.env))) _ _ s
  refine Calls.spliced_cons (thn (he.run pins s σ H _ I h) fun v s' hv => ?_)
  obtain ⟨y, H1, I1, ry, f, F, t, ey, hF, hla, h1⟩ := hv
  subst ey
  obtain rfl : v = Value.ref f := ry
  obtain ⟨c', dV', hco, hfo, hdf⟩ := hla
  obtain ⟨L, hbind, hbody⟩ := hGood _ _ hF
  refine Calls.spliced_nil ⟨I1.kIn, ?_⟩
  have rc : codeAny (model X.prog X.w) X.A (.call (.ref g) ⟨[.ref f], []⟩) (CR C8.CX0 X.stack X.prog X.w H1 s' Q C8.E0) s' := by
    refine run_ofS (N := Ng) (ps := [a]) (us := [.ref f]) (vs := [.ref f]) lk hcg Sg hr I1.env0 (hb s' [.ref f] I1.kIn rfl) (.cons rfl .nil) rfl fun hr' => ?_
    obtain ⟨t', ht', hq'⟩ := hG f c' s' H1 Q (fun E H' Q' => H' f = some (LamO f (X.env.qual ++ "<lambda>") F (cloFrom X.env.cells F.scope.names []) dV' c') ∧ DfAt H' F dV' ∧ t E σ H' Q') (fun W pn xe E p1 p2 tk hW => pe_actO (i := 0) I1 L hbind tk hW hr' (fun A outer s H hr2 => hbody A outer s H E f c' hr2) hNg hva hd hcd) hco (h1 c' dV' hfo hdf)
    exact ⟨t', ht'.nox, hq'⟩
  refine wpAny_call (codeAny_mono rc fun r s2 hq => ?_)
  cases r with
  | error e => exact (show False from hq).elim
  | ok fl =>
    cases fl with
    | ret u => exact I1.after hq
    | next => exact False.elim hq
    | brk => exact False.elim hq
    | cont => exact False.elim hq
end Ak

namespace Ak
open PySem PySem.Spec PyProof.Rows L2 LamX
/-! ### a comprehension whose condition may ask for the enclosing frame as it stood at the comprehension's start -/
/-- the enclosing def's frame, at the comprehension's start -/
structure AtStart (X : Cx) (σ : L2.St) (s : Shared) (H : Hp) (fp : List Addr) : Prop where
  inv : ∃ pins, Inv X pins σ H s ∧ ∀ b ∈ fp, FpOk X pins H b
section
variable {X : Cx}
def tLcI (wi : TI) (g : TG) (tt : L2.St → TT) (te : TE) (vs : List Nat) : TE := fun σ H Q => tLc wi g (tt σ) te vs σ H Q
theorem pe_lcI {elt tg iter : Expr} {ifs : List Expr} {scope : Scope} {own : List (Str × Nat)} {pos : Pos} {wi : TI} {g : TG} {tt : L2.St → TT} {te : TE} (hc : X.calm = true) (hN : X.N.Nodup) (hi : PI X tg iter wi) (ok : BlkOk X.N X.env.scope scope own)
    (hg : ∀ (s : Shared) (H : Hp) (C : Addr) (cl : List (Str × Addr)) (fp : List Addr), PG (X.blk s H scope (compEnvC scope cl C X.env) fp) tg g)
    (ht : ∀ (s : Shared) (H : Hp) (C : Addr) (cl : List (Str × Addr)) (fp : List Addr) (σ : L2.St), AtStart X σ s H fp → PTs (X.blk s H scope (compEnvC scope cl C X.env) fp) ifs (tt σ))
    (he : ∀ (s : Shared) (H : Hp) (C : Addr) (cl : List (Str × Addr)) (fp : List Addr), PE (X.blk s H scope (compEnvC scope cl C X.env) fp) elt te) (hs : ∀ x, foldedSetIterable iter X.env x = pure x := by intro _; rfl) :
    PE X (.ListComp elt [⟨tg, iter, ifs, 0⟩] scope pos) (tLcI wi g tt te (own.map (·.2))) := by
  refine ⟨fun pins s σ H Q I h => ?_⟩
  change tLc wi g (tt σ) te (own.map (·.2)) σ H Q at h
  rw [eval_ListComp]
  have hfree : ∀ y ∈ scope.names, y.2 = .free → ∃ c, X.env.cells.lookup y.1 = some c := fun y hy e => (ok.free y hy e).elim (fun k => I.ok.has _ (.inl k)) fun k => I.ok.has _ (.inr k)
  refine wpAny_comprehension_free (use := none) rfl hs (closure_ok hfree) ok.kind (fun y hy e => by rw [ok.uniq y hy, e]) (thn (hi.run pins s σ H _ I h) fun xv s1 hx => thn hx fun itv s2 h2 => ?_)
  obtain ⟨it, fp, tn, J, H2, rfl, I2, T, st2, f2, q⟩ := h2
  refine wpAny_newObj_type (newEnv_comp ?_) (by show 0 ≤ sizeLine; decide)
  have hDn : H2 s2.heap.objs.size = none := I2.hok.fresh (Nat.le_refl _)
  obtain ⟨W, ⟨m0, w0⟩, turn⟩ := q _ hDn
  generalize hD : s2.heap.objs.size = D at hDn w0 turn ⊢
  obtain ⟨s3, hs3⟩ : ∃ s3 : Shared, s3 = { s2 with heap := s2.heap.push { cls := .type "list", data := .seq ([] : List Value).toArray } } := ⟨_, rfl⟩
  have h3 : s3.heap = s2.heap.push { cls := .type "list", data := .seq ([] : List Value).toArray } := by rw [hs3]
  have I3 : Inv X pins σ (upd H2 D (.lst [])) s3 := by
    rw [hs3]
    exact I2.laid (t' := s2.toks) (fun b o e => Heap.get?_push_of_some _ e) (Nat.le_of_eq hD) ⟨Nat.zero_le _, [], 0, .nil, by rw [← hD]; exact Heap.get?_push_size _ rfl⟩
  have f3 : ∀ b ∈ fp, FpOk X pins (upd H2 D (.lst [])) b ∧ b < s3.heap.objs.size := fun b hb => by
    obtain ⟨o, e, _⟩ := T.obj _ _ st2 b hb
    have hlt := Heap.lt_size e
    exact ⟨⟨by rw [upd_ne (by rw [← hD]; exact Nat.ne_of_lt hlt)]; exact (f2 b hb).1, (f2 b hb).2⟩, by rw [h3, Heap.size_push]; exact Nat.lt_succ_of_lt hlt⟩
  have st3 : tn 0 s3.heap := T.keep _ _ _ st2 fun b _ o e => by rw [h3]; exact Heap.get?_push_of_some _ e
  rw [← hs3]
  generalize hH3 : upd H2 D (.lst []) = H3 at I3 f3 w0
  obtain ⟨cl, hcl⟩ : ∃ cl, cl = cellsFrom (s3.heap.objs.size + 1) scope.names (cloFrom X.env.cells scope.names []) := ⟨_, rfl⟩
  have I4 := block_start I3 ok hN f3
  rw [← hcl] at I4
  have pg := hg s3 H3 s3.heap.objs.size cl fp
  have pt := ht s3 H3 s3.heap.objs.size cl fp σ ⟨pins, I3, fun b hb => (f3 b hb).1⟩
  have pe := he s3 H3 s3.heap.objs.size cl fp
  have nfp : ∀ b ∈ fp, H3 b = none := fun b hb => (f3 b hb).1.1
  obtain ⟨ce, hce⟩ : ∃ ce, ce = compEnvC scope cl s3.heap.objs.size X.env := ⟨_, rfl⟩
  have cL : ce.locals = s3.heap.objs.size := by rw [hce]; rfl
  rw [← hce] at I4 pg pt pe
  obtain ⟨s4, hs4⟩ : ∃ s4 : Shared, s4 = { s3 with heap := pushCells (s3.heap.push { cls := .type "dict", data := .dict #[] }) scope.names } := ⟨_, rfl⟩
  rw [← hs4] at I4
  have st4 : tn 0 s4.heap := T.keep _ _ _ st3 fun b _ o e => by rw [hs4]; exact pushCells_keeps _ _ _ _ (Heap.get?_push_of_some _ e)
  have stat : ∀ {σ' : L2.St} {H' : Hp} {s' : Shared}, Inv (X.blk s3 H3 scope ce fp) [] σ' H' s' → (∀ b ∈ fp, H' b = none) → ∀ b ∈ fp, FpOk (X.blk s3 H3 scope ce fp) [] H' b := fun {σ' H' s'} I' hn b hb =>
    ⟨hn b hb, (I'.ok.exf b hb).1, I'.ok.exfs b hb, .inl hb, fun x c e => (I'.ok.exf b hb).2 x c e, fun p hp => absurd (show p ∈ ([] : List (Addr × Obj)) ++ [] from hp) (by simp)⟩
  have loop : codeAny (model X.prog X.w) X.A (.compLoop (.ListComp elt [⟨tg, iter, ifs, 0⟩] scope pos) 0 (.ref it) (.ref D) ce) (compPost (model X.prog X.w) X.A X.xe none (EP X pins σ Q) (.ref D) s3.heap.objs.size) s4 := by
    refine compLoop_any (fun n s' => ∃ i H', Inv (X.blk s3 H3 scope ce fp) [] (wipe σ (own.map (·.2))) H' s' ∧ tn i s'.heap ∧ (∀ b ∈ fp, H' b = none) ∧ W i n H') ?_ m0 ⟨0, H3, I4, st4, nfp, w0⟩
    rintro n s5 ⟨i, H5, I5, st5, n5, w5⟩
    rcases turn i n H5 w5 with ⟨stop, qq⟩ | ⟨go, Nx, hNx, step⟩
    · refine thnF (T.done (X.blk s3 H3 scope ce fp) rfl rfl rfl hc i [] s5 _ H5 (fun _ _ => False) I5 (stat I5 n5) st5 stop) fun r s6 ⟨hr, I6⟩ => ?_
      subst hr
      have I7 : Inv X pins σ H5 s6 := I3.call' (ch := fp) I6.os I6.base I6.hok I6.bare fun b hb => ⟨(f3 b hb).1.2.2.2.1, (f3 b hb).1.2.1, (f3 b hb).1.2.2.2.2.1, (f3 b hb).1.2.2.2.2.2⟩
      have nC : H5 s3.heap.objs.size = none := cL ▸ I6.free
      obtain ⟨m, hn, _⟩ := I6.loc
      have hn : s6.heap.Ns s3.heap.objs.size m := cL ▸ hn
      obtain ⟨g0, g1, g2, g3, g4, g5⟩ := I3.fpOk (Nat.le_refl _) nC
      exact ⟨m, hn, fun h'' sb => ⟨.ref D, H5, I7.turned (t' := s6.toks) (fun b o hb e => (sb.2 b hb).trans e) g0 g1 g3 g4 g5, rfl, qq⟩⟩
    · refine thnF (T.item (X.blk s3 H3 scope ce fp) rfl rfl rfl hc i [] s5 _ H5 (fun _ _ => False) I5 (stat I5 n5) st5 go) fun r s6 ⟨u, hr, h6⟩ => ?_
      subst hr
      refine thnF h6 fun _ s7 ⟨x, H7, I7, r7, y7, st7, n7⟩ => ?_
      have I7' := I7.pinned (stat I7 n7) (T.obj _ _ st7)
      refine thnF (pg.run _ s7 _ H7 x u _ I7' r7 (step x H7 y7)) fun _ s8 ⟨σ8, H8, I8, hw8, q8⟩ => ?_
      refine thnF (pt.run _ s8 σ8 H8 _ I8 q8) fun b s9 ⟨H9, I9, q9⟩ => ?_
      have fin : ∀ {s' : Shared} {H' : Hp}, Inv (X.blk s3 H3 scope ce fp) ([] ++ pinsAt fp s7.heap) σ8 H' s' → Nx H' → ∃ m, m < n ∧ ∃ i H', Inv (X.blk s3 H3 scope ce fp) [] (wipe σ (own.map (·.2))) H' s' ∧ tn i s'.heap ∧ (∀ b ∈ fp, H' b = none) ∧ W i m H' := fun {s' H'} I' nx => by
        obtain ⟨m', hm, w'⟩ := hNx H' nx
        have pin' : ∀ b ∈ fp, ∀ o, s7.heap.get? b = some o → s'.heap.get? b = some o ∧ H' b = none := fun b hb o e =>
          have z := I'.pin (b, o) (List.mem_append_right _ (List.mem_append_right _ (mem_pinsAt hb e)))
          ⟨z.1, z.2.1⟩
        refine ⟨m', hm, i + 1, H', (I'.unpinned (pins := [])).weak (by rw [← hw8, wipe_length]) (fun j v e => by rw [← hw8] at e; exact (wipe_some e).1), T.keep _ _ _ st7 fun b hb o e => (pin' b hb o e).1, fun b hb => ?_, w'⟩
        obtain ⟨o, e, _⟩ := T.obj _ _ st7 b hb
        exact (pin' b hb o e).2
      cases b with
      | false =>
        simp only [Bool.false_eq_true, if_false] at q9 ⊢
        exact fin I9 q9
      | true =>
        simp only [if_true] at q9 ⊢
        refine thnF (pe.run _ s9 σ8 H9 _ I9 q9) fun z s10 ⟨yv, H10, I10, r10, acc, hD10, hz10, nx⟩ => ?_
        exact app_ok (X := X.blk s3 H3 scope ce fp) I10 hD10 hz10 r10 fun s11 I11 => fin I11 nx
  have done := codeAny_compStart_list loop (T.self X.A 0 _ _ _ st4 loop)
  rw [hce, hcl, hs4] at done
  exact done
/-- told(e) in a comprehension's condition, e a lambda made by the enclosing def -/
def tToldB (q : Str) (cells : List (Str × Addr)) (G : LF → (XK → TE) → Prop) (TT : (XK → Hp → VK → Prop) → Hp → VK → Prop) (te : TE) (σ0 : L2.St) : TE := fun σ H Q => te σ H fun x H1 => ∃ (f : Addr) (F : LF) (t : XK → TE), x = .ref f ∧ G F t ∧ LamAt H1 q cells F f ∧
  ∀ c' dV, H1 f = some (LamO f q F (cloFrom cells F.scope.names []) dV c') → DfAt H1 F dV → TT (fun E H' Q' => H' f = some (LamO f q F (cloFrom cells F.scope.names []) dV c') ∧ DfAt H' F dV ∧ t E σ0 H' Q') H1 Q
theorem pe_toldB {G : LF → (XK → TE) → Prop} {TT : (XK → Hp → VK → Prop) → Hp → VK → Prop} {x a : Str} {g : Addr} {k : Nat} {pg : Arguments} {bg : List Stmt} {sg : Scope} {dV kV doc pm cdv ct oc : Value} {an od : Option Addr} {osl : Array (Option Value)} {Ng : List Str}
    {e : Expr} {te : TE} {p pos : Pos} {s0 : Shared} {H0 : Hp} {scope : Scope} {C : Addr} {cl : List (Str × Addr)} {fp : List Addr} {σ0 : L2.St} (hg : Gl (X.blk s0 H0 scope (compEnvC scope cl C X.env) fp) x) (hm : X.mg x = some (.ref g)) (hk : PySem.W.keepIn X.K (.ref g) = true)
    (lk : X.K.lookup g = some ⟨oc, od, .func (PySem.W.fnOf x x pg bg sg dV kV doc pm an cdv ct), osl⟩) (hcg : PySem.W.codeIn X.K cdv x = true) (hb : L2.Binds X.K (PySem.W.fnOf x x pg bg sg dV kV doc pm an cdv ct) [a] []) (Sg : FnScope Ng [a] sg) (hNg : Ng[0]? = some a) (hva : Vis sg a)
    (hG : GivesTo X Ng x sg g cdv bg a (X.env.qual ++ "<lambda>") TT) (he : PE (X.blk s0 H0 scope (compEnvC scope cl C X.env) fp) e te) (hr : Room (k + 2) X.A) (hGood : ∀ F t, G F t → Good X k F t) (at0 : AtStart X σ0 s0 H0 fp)
    (hdb : (x == ("__debug__" : Str)) = false := by decide) (hd : (a == ("__debug__" : Str)) = false := by decide) (hcd : (a == ("__classdict__" : Str)) = false := by decide)
    (hse : starEach [e] (compEnvC scope cl C X.env) = (false, eval e (compEnvC scope cl C X.env)) :: starEach [] (compEnvC scope cl C X.env) := by rfl) :
    PE (X.blk s0 H0 scope (compEnvC scope cl C X.env) fp) (.Call (.Name x p) [e] [] pos) (tToldB (X.env.qual ++ "<lambda>") X.env.cells G TT te σ0) := by
  obtain ⟨pins0, I0, hfp⟩ := at0
  refine ⟨fun pins s σ H Q I h => ?_⟩
  refine wpAny_Call_Name_kw (ld_glob I hg hm ?_ hdb)
  refine PySem.W.callWith_K (h₀ := X.base) I.ok.mod.kin hk ?_ (by exact hse) (by rfl)
  show wpAny _ _ (spliced (backTo pos (starEach [e] (compEnvC scope cl C X.env)))) _ _ s
  rw [hse]
  show wpAny _ _ (spliced ((false, eval e (compEnvC scope cl C X.env)) :: backTo pos (starEach [] (compEnvC scope cl C X.env)))) _ _ s
  refine Calls.spliced_cons (thn (he.run pins s σ H _ I h) fun v s' hv => ?_)
  obtain ⟨y, H1, I1, ry, f, F, t, ey, hF, hla, h1⟩ := hv
  subst ey
  obtain rfl : v = Value.ref f := ry
  obtain ⟨c', dV', hco, hfo, hdf⟩ := hla
  obtain ⟨L, hbind, hbody⟩ := hGood _ _ hF
  have J : Inv X pins0 σ0 H1 s' := I0.call' (ch := fp) I1.os I1.base I1.hok I1.bare fun b hb => ⟨(hfp b hb).2.2.2.1, (hfp b hb).2.1, (hfp b hb).2.2.2.2.1, (hfp b hb).2.2.2.2.2⟩
  refine Calls.spliced_nil ⟨I1.kIn, ?_⟩
  have rc : codeAny (model X.prog X.w) X.A (.call (.ref g) ⟨[.ref f], []⟩) (CR C8.CX0 X.stack X.prog X.w H1 s' Q C8.E0) s' := by
    refine run_ofS (N := Ng) (ps := [a]) (us := [.ref f]) (vs := [.ref f]) lk hcg Sg hr J.env0 (hb s' [.ref f] J.kIn rfl) (.cons rfl .nil) rfl fun hr' => ?_
    obtain ⟨t', ht', hq'⟩ := hG f c' s' H1 Q (fun E H' Q' => H' f = some (LamO f (X.env.qual ++ "<lambda>") F (cloFrom X.env.cells F.scope.names []) dV' c') ∧ DfAt H' F dV' ∧ t E σ0 H' Q') (fun W pn xe E p1 p2 tk hW => pe_actO (i := 0) J L hbind tk hW hr' (fun A outer s H hr2 => hbody A outer s H E f c' hr2) hNg hva hd hcd) hco (h1 c' dV' hfo hdf)
    exact ⟨t', ht'.nox, hq'⟩
  refine wpAny_call (codeAny_mono rc fun r s2 hq => ?_)
  cases r with
  | error e => exact (show False from hq).elim
  | ok fl =>
    cases fl with
    | ret u => exact I1.after hq
    | next => exact False.elim hq
    | brk => exact False.elim hq
    | cont => exact False.elim hq
end
end Ak

namespace Ak
open PySem PySem.Spec PyProof.Rows L2
/-! ### what the written part says of an own error with an own __init__ -/
def oexIn (K : PySem.W.Frag) (C : Addr) : Bool := match K.lookup C with
  | some ⟨.type "type", _, .cls cd, sl⟩ => (match cd.mro, sl.toList with
    | .ref C' :: bm, [_, _, _, _, some (.builtin n), _] => C' == C && n == "ValueError.__new__" && !cd.hasDel && cd.hasDict && PySem.HandSPX.refsVE bm
    | _, _ => false)
  | _ => false
theorem oex_of {K : PySem.W.Frag} {C : Addr} (q : oexIn K C = true) : ∃ nm q N bs bm sn sub ab col dd k0 k1 k2 k3 k5, K.lookup C = some (excClassObj nm q C N bs bm true sn sub ab col dd k0 k1 k2 k3 k5 "ValueError.__new__") ∧ PySem.HandSPX.refsVE bm = true := by
  unfold oexIn at q
  split at q
  · rename_i dd cd sl ho
    split at q
    · rename_i C' bm k0 k1 k2 k3 n k5 hm hs
      simp only [Bool.and_eq_true, beq_iff_eq, Bool.not_eq_true'] at q
      obtain ⟨⟨⟨⟨rfl, rfl⟩, hdel⟩, hdct⟩, ht⟩ := q
      obtain ⟨nm, bs, mro, ns, qn, hd, sn, sub, ab, col, del⟩ := cd
      dsimp only at hm hdel hdct
      subst hm hdel hdct
      have hsl : sl = #[k0, k1, k2, k3, some (.builtin "ValueError.__new__"), k5] := by
        obtain ⟨l⟩ := sl
        simp only at hs
        rw [hs]
      subst hsl
      exact ⟨nm, qn, ns, bs, bm, sn, sub, ab, col, dd, k0, k1, k2, k3, k5, ho, ht⟩
    · cases q
  · cases q
end Ak

namespace Ak
open PySem PySem.Spec PyProof.Rows L2
abbrev s_BadSetting___init : Stmt := inClass (top 3) 0
section
variable {P : Program} {w : World} {K : PySem.W.Frag} {mg : Str → Option Value} {base : Heap} {C f cc cda : Addr} {kV doc pm ct of cx cl : Value} {an od cd cld : Option Addr} {osl csl cls : Array (Option Value)} {vs : Array Value} {file : Str} {tf : Tok}
theorem init_BadSetting (S : SupF P K mg C f cc cda (supD "BadSetting.__init__" s_BadSetting___init cc cda kV doc pm ct an) "self" of cx od cd osl csl vs file tf cl cld cls) (hcd : PySem.W.codeIn K (.ref cda) "BadSetting.__init__" = true) (hno : PySem.W.findIn K (.ref C) "word" = some none) :
    FnOk P w K mg base (L2.CX P w) 1 f (supD "BadSetting.__init__" s_BadSetting___init cc cda kV doc pm ct an) ["self", "word"] (spSup K C "word") :=
  sup_fn (prm := "word") (k := 0) S hcd (NdefX.nscope_by (by decide +kernel)) (by decide +kernel) rfl hno (fun _ => rfl) (fun _ => rfl) (fun _ => rfl) (by decide) (by decide)
    (fun A outer s H E hr => pa_cons (pe_joined (.cons pe_str (.cons (pe_fmt (pv 1)) .nil))) pa_nil)
    (fun a v H Q hv q => by
      refine j_c (H := H) (ts := [tFmt (tVar 1)]) (c := "this number cannot be: ") (Q := fun out _ => Q [.str out] H) (by decide +kernel) ?_
      refine j_t (w_fmtK ?_)
      refine ⟨v, rfl, ?_⟩
      have l0 : (Str.empty ++ Str.ofString "this number cannot be: ").length ≤ 100 := by decide +kernel
      rcases hv with ⟨i, rfl, hi⟩ | ⟨z, rfl, hz⟩
      · have := dec_len hi
        exact k_Fi hi (k_J (by omega) (j_nil (q _)))
      · exact k_Fs (by omega) (k_J (by omega) (j_nil (q _))))
theorem rai_BadSetting (S : SupF P K mg C f cc cda (supD "BadSetting.__init__" s_BadSetting___init cc cda kV doc pm ct an) "self" of cx od cd osl csl vs file tf cl cld cls) (hcd : PySem.W.codeIn K (.ref cda) "BadSetting.__init__" = true) (hno : PySem.W.findIn K (.ref C) "word" = some none)
    (hi : PySem.W.findIn K (.ref C) "__init__" = some (some (.ref f))) (ht : PySem.W.typeIn K (.ref f) = some (.type "function")) (T : OexC K C) (g : mg "BadSetting" = some (.ref C)) : RaiO P w K mg base 1 "BadSetting" C "word" :=
  ⟨⟨f, _, _, hi, ht, init_BadSetting S hcd hno, .all fun us hl => match us, hl with | [_, _], _ => rfl⟩, T, g⟩
end
end Ak

namespace Ak
open PySem PySem.Spec PyProof.Rows L2
/-- which number of a setting is the first that cannot be -/
def BadS (m w l a : Int) (wd : Str) : Prop :=
  (wd = "marks" ∧ ¬ (2 ≤ m ∧ m ≤ 64)) ∨ (wd = "wide" ∧ (2 ≤ m ∧ m ≤ 64) ∧ ¬ (0 ≤ w ∧ w ≤ 16)) ∨ (wd = "late" ∧ (2 ≤ m ∧ m ≤ 64) ∧ (0 ≤ w ∧ w ≤ 16) ∧ ¬ (0 ≤ l ∧ l ≤ 8)) ∨ (wd = "ahead" ∧ (2 ≤ m ∧ m ≤ 64) ∧ (0 ≤ w ∧ w ≤ 16) ∧ (0 ≤ l ∧ l ≤ 8) ∧ ¬ (1 ≤ a ∧ a ≤ 16))
/-- BadSetting with this word is raised -/
def RaisesW (C1 : Addr) (H : Hp) (E : XK) (wd : Str) : Prop := ∀ d H', H d = none → Keep [] H H' → H' d = some (.xd [("word", .str wd)]) → E (.ref C1) (some d) H'
theorem RaisesW.keep {C1 : Addr} {H H1 : Hp} {E : XK} {wd : Str} (x : RaisesW C1 H E wd) (k : Keep [] H H1) : RaisesW C1 H1 E wd := fun d H' nd k' hd => x d H' (k.2 _ nd) (k.trans k') hd
theorem RaisesW.now {C1 : Addr} {H : Hp} {E : XK} {wd : Str} (x : RaisesW C1 H E wd) : ∀ d, H d = none → E (.ref C1) (some d) (upd H d (.xd [("word", .str wd)])) := fun d nd => x d _ nd (Keep.refl.new nd) upd_same
def spNumX (C1 : Addr) : Sp := fun vs H Q E => ∃ wd n lo hi, vs = [.str wd, .int n] ∧ BoundOf wd lo hi ∧ ((lo ≤ n ∧ n ≤ hi) → Q .non H) ∧ (¬ (lo ≤ n ∧ n ≤ hi) → RaisesW C1 H E wd)
def spSetX (K : PySem.W.Frag) (C1 : Addr) : Sp := fun vs H Q E => ∃ q m w l a, vs = [.ref q] ∧ SqT K H q [.int m, .int w, .int l, .int a] ∧ (SetOk m w l a → ∀ H', Keep [] H H' → Q .non H') ∧ (∀ wd, BadS m w l a wd → RaisesW C1 H E wd)
theorem bound_len {wd : Str} {lo hi : Int} (h : BoundOf wd lo hi) : wd.length ≤ 100 := by
  cases h <;> decide +kernel
section
variable {P : Program} {w : World} {K : PySem.W.Frag} {mg : Str → Option Value} {base : Heap} {C1 : Addr}
local macro_rules | `(tactic| walk_at "s") => `(tactic| first | with_reducible refine Ak.w_mkO ?_)
theorem ok_numX {b : Addr} {f : Addr} {fd : FuncData} (F : L2.Fun K "check_number" "check_number" s_check_number f fd) (B : BoundsT K w mg b) (r_BadSetting : RaiO P w K mg base 1 "BadSetting" C1 "word") : FnOk P w K mg base (L2.CX P w) 3 f fd ["word", "number"] (spNumX C1) := by
  refine Fun.okX F sc_check_number (fun vs H Q E h => ?_) (fun cdv A outer s H vs Q E hr h => ?_)
  · obtain ⟨_, _, _, _, rfl, _⟩ := h
    rfl
  · obtain ⟨wd, n, lo, hi, rfl, hb, kg, kb⟩ := h
    have bv : BearsV (.str wd) := Or.inr ⟨_, rfl, bound_len hb⟩
    refine ⟨_, (pss_cons (ps_asg (pe_ix (Ak.ix_kd (K := K) (w := w) (by rfl) (by rfl)) (Ak.pe_cls (by rfl) B.g) (pv 0) (by intro _ _; rfl)) (Ak.pg_tupK (K := K) (n := 2) (by rfl) rfl (pgs_cons (pg_name (i := 2) sc_check_number.nd rfl (Or.inl rfl)) (pgs_cons (pg_name (i := 3) sc_check_number.nd rfl (Or.inl rfl)) pgs_nil))))
      (pss_one (ps_if (PW.pt (pw_or (pt_cmpR op_lt (pv 1) (pv 2) (nomark _)) (pw_or1 (pt_cmpR op_gt (pv 1) (pv 3) (nomark _)))))
      (pss_one (ps_raise rfl (takes_of rfl rfl rfl rfl) (Ak.pmk_o (K := K) (by rfl) r_BadSetting hr (by walk_at "lv") (by rfl) (pa_cons (pv 0) pa_nil))))
      pss_nil))), ?_⟩
    have e0 : L2.start N_check_number [V.str wd, V.int n] = [some (V.str wd), some (V.int n), none, none] := rfl
    rw [e0]
    try dsimp only [cxOf]
    obtain ⟨t, kt, st⟩ := B.get wd lo hi hb
    walk_at "rd"
    refine ⟨b, wd, _, rfl, rfl, kt, ?_⟩
    have st' := st H
    walk_at "rd"
    refine Ak.w_ite (fun z => ?_) (fun z => ?_)
    · walk_at "rd"
      refine l_mkO bv r_BadSetting.T ?_
      exact (kb (by omega)).now
    walk_at "rd"
    refine Ak.w_ite (fun z2 => ?_) (fun z2 => ?_)
    · walk_at "rd"
      refine l_mkO bv r_BadSetting.T ?_
      exact (kb (by omega)).now
    walk_at "rd"
    exact kg ⟨by omega, by omega⟩
theorem ok_setX {f : Addr} {fd : FuncData} (F : L2.Fun K "check_setting" "check_setting" s_check_setting f fd) (c_check_number : CalX P w K mg base 3 "check_number" (spNumX C1)) : FnOk P w K mg base (L2.CX P w) 4 f fd ["setting"] (spSetX K C1) := by
  refine Fun.okX F sc_check_setting (fun vs H Q E h => ?_) (fun cdv A outer s H vs Q E hr h => ?_)
  · obtain ⟨_, _, _, _, _, rfl, _⟩ := h
    rfl
  · obtain ⟨q, m, w, l, a, rfl, hq, kg, kb⟩ := h
    refine ⟨_, (pss_cons (ps_asg (pv 0) (Ak.pg_tupK (K := K) (n := 4) (by rfl) rfl (pgs_cons (pg_name (i := 1) sc_check_setting.nd rfl (Or.inl rfl)) (pgs_cons (pg_name (i := 2) sc_check_setting.nd rfl (Or.inl rfl)) (pgs_cons (pg_name (i := 3) sc_check_setting.nd rfl (Or.inl rfl)) (pgs_cons (pg_name (i := 4) sc_check_setting.nd rfl (Or.inl rfl)) pgs_nil))))))
      (pss_cons (ps_expr (Ak.pe_cx c_check_number hr (by walk_at "lv") (by rfl) (takes_of rfl rfl rfl rfl) (pa_cons pe_str (pa_cons (pv 1) pa_nil))))
      (pss_cons (ps_expr (Ak.pe_cx c_check_number hr (by walk_at "lv") (by rfl) (takes_of rfl rfl rfl rfl) (pa_cons pe_str (pa_cons (pv 2) pa_nil))))
      (pss_cons (ps_expr (Ak.pe_cx c_check_number hr (by walk_at "lv") (by rfl) (takes_of rfl rfl rfl rfl) (pa_cons pe_str (pa_cons (pv 3) pa_nil))))
      (pss_one (ps_expr (Ak.pe_cx c_check_number hr (by walk_at "lv") (by rfl) (takes_of rfl rfl rfl rfl) (pa_cons pe_str (pa_cons (pv 4) pa_nil))))))))), ?_⟩
    have e0 : L2.start N_check_setting [V.ref q] = [some (V.ref q), none, none, none, none] := rfl
    rw [e0]
    try dsimp only [cxOf]
    walk_at "rd"
    refine ⟨_, _, _, _, rfl, .marks, fun h1 => ?_, fun h1 => kb _ (Or.inl ⟨rfl, h1⟩)⟩
    walk_at "rd"
    refine ⟨_, _, _, _, rfl, .wide, fun h2 => ?_, fun h2 => kb _ (Or.inr (Or.inl ⟨rfl, h1, h2⟩))⟩
    walk_at "rd"
    refine ⟨_, _, _, _, rfl, .late, fun h3 => ?_, fun h3 => kb _ (Or.inr (Or.inr (Or.inl ⟨rfl, h1, h2, h3⟩)))⟩
    walk_at "rd"
    refine ⟨_, _, _, _, rfl, .ahead, fun h4 => ?_, fun h4 => kb _ (Or.inr (Or.inr (Or.inr ⟨rfl, h1, h2, h3, h4⟩)))⟩
    walk_at "rd"
    exact kg ⟨h1.1, h1.2, h2.1, h2.2, h3.1, h3.2, h4.1, h4.2⟩ _ Keep.refl
end
end Ak

namespace Ak
open PySem PySem.Spec PyProof.Rows L2
theorem bad_ok {m w l a : Int} {wd : Str} (x : BadS m w l a wd) : ¬ SetOk m w l a := fun s => by
  obtain ⟨s1, s2, s3, s4, s5, s6, s7, s8⟩ := s
  rcases x with ⟨_, h⟩ | ⟨_, _, h⟩ | ⟨_, _, _, h⟩ | ⟨_, _, _, _, h⟩ <;> omega
theorem bad_one_w {m w l a : Int} {w1 w2 : Str} (x : BadS m w l a w1) (y : BadS m w l a w2) : w1 = w2 := by
  rcases x with ⟨e1, h1⟩ | ⟨e1, h1, h2⟩ | ⟨e1, h1, h2, h3⟩ | ⟨e1, h1, h2, h3, h4⟩ <;> rcases y with ⟨e2, g1⟩ | ⟨e2, g1, g2⟩ | ⟨e2, g1, g2, g3⟩ | ⟨e2, g1, g2, g3, g4⟩ <;> first | (rw [e1, e2]; done) | (exfalso; omega)
def spEarX (K : PySem.W.Frag) (C C1 : Addr) : Sp := fun vs H Q E => ∃ p q m w l a dx, vs = [.ref p, .ref q] ∧ SqT K H q [.int m, .int w, .int l, .int a] ∧ H p = some (.ins C dx []) ∧ (∀ wd, BadS m w l a wd → RaisesW C1 H E wd) ∧
  (SetOk m w l a → ∀ c H', EarAt C H' p c m w l (-1) [] → H c = none → Keep [p] H H' → Q .non H')
def spMouthX (K : PySem.W.Frag) (C C1 : Addr) : Sp := fun vs H Q E => ∃ p q m w l a dx, vs = [.ref p, .ref q] ∧ SqT K H q [.int m, .int w, .int l, .int a] ∧ H p = some (.ins C dx []) ∧ (∀ wd, BadS m w l a wd → RaisesW C1 H E wd) ∧
  (SetOk m w l a → ∀ c H', MouthAt C H' p c m w a (-1) (-1) [] → H c = none → Keep [p] H H' → Q .non H')
def spWorldB (K : PySem.W.Frag) (C C1 : Addr) : Sp := fun vs H _ E => ∃ p q m w l a dx wd, vs = [.ref p, .ref q] ∧ SqT K H q [.int m, .int w, .int l, .int a] ∧ H p = some (.ins C dx []) ∧ BadS m w l a wd ∧ RaisesW C1 H E wd
def spPlayedB (K : PySem.W.Frag) (C1 : Addr) : Sp := fun vs H _ E => ∃ q e m w l a wd, vs = [.ref q, e] ∧ SqT K H q [.int m, .int w, .int l, .int a] ∧ BadS m w l a wd ∧ RaisesW C1 H E wd
def spJudgedX (K : PySem.W.Frag) (C1 : Addr) : Sp := fun vs H Q E => ∃ q m w l a, vs = [.ref q] ∧ SqT K H q [.int m, .int w, .int l, .int a] ∧ (∀ wd, BadS m w l a wd → RaisesW C1 H E wd) ∧ (SetOk m w l a → l + a < m ∧ ∀ t H', H t = none → H' t = some (.tup [.str "safe"]) → Keep [] H H' → Q (.ref t) H')
def spWrittenN (K : PySem.W.Frag) (C1 C2 C3 : Addr) : Sp := fun vs H _ E => ∃ q t b bs, ∃ k m w l a : Int, vs = [.ref q, .ref t] ∧ SqT K H q [.int m, .int w, .int l, .int a] ∧ SqT K H t [.int k, .ref b] ∧ SqT K H b (bs.map V.int) ∧ bs.length ≤ 100 ∧ k.natAbs < 2 ^ 59 ∧ (∀ x : Int, x ∈ bs → x.natAbs < 2 ^ 59) ∧
  (∀ wd, BadS m w l a wd → RaisesW C1 H E wd) ∧ (SetOk m w l a → (¬ MarkOk k m → ∀ H', Keep [] H H' → E (.ref C2) none H') ∧ (MarkOk k m → ¬ BitsOk bs w ∧ ∀ H', Keep [] H H' → E (.ref C3) none H'))
def spReadB (K : PySem.W.Frag) (C1 : Addr) : Sp := fun vs H _ E => ∃ q e m w l a wd, vs = [.ref q, e] ∧ SqT K H q [.int m, .int w, .int l, .int a] ∧ BadS m w l a wd ∧ RaisesW C1 H E wd
def spFewestB (C1 : Addr) : Sp := fun vs H _ E => ∃ l a, ∃ wd : Str, vs = [.int l, .int a] ∧ ((wd = "late" ∧ ¬ (0 ≤ l ∧ l ≤ 8)) ∨ (wd = "ahead" ∧ (0 ≤ l ∧ l ≤ 8) ∧ ¬ (1 ≤ a ∧ a ≤ 16))) ∧ RaisesW C1 H E wd
def spLoadB (C C1 : Addr) : Sp := fun vs H _ E => ∃ p r w dx, ∃ wd : Str, vs = [.ref p, .int r, .int w] ∧ H p = some (.ins C dx []) ∧ ((wd = "room" ∧ ¬ (1 ≤ r ∧ r ≤ 8)) ∨ (wd = "wait" ∧ (1 ≤ r ∧ r ≤ 8) ∧ ¬ (1 ≤ w ∧ w ≤ 20))) ∧ RaisesW C1 H E wd
def spComeB (C C2 : Addr) : Sp := fun vs H _ E => ∃ p c k m w l g cs, vs = [.ref p, .int k] ∧ EarAt C H p c m w l g cs ∧ k.natAbs < 2 ^ 59 ∧ ¬ MarkOk k m ∧ ∀ H', Keep [] H H' → E (.ref C2) none H'
def spTellB (C C3 : Addr) : Sp := fun vs H _ E => ∃ p c m w l g cs, vs = [.ref p] ∧ EarAt C H p c m w l g cs ∧ g < 0 ∧ ∀ H', Keep [] H H' → E (.ref C3) none H'
def spHearB (K : PySem.W.Frag) (C C2 C3 : Addr) : Sp := fun vs H _ E => ∃ p c t b bs, ∃ k m w a l g : Int, ∃ ks, vs = [.ref p, .ref t] ∧ MouthAt C H p c m w a l g ks ∧ SqT K H t [.int k, .ref b] ∧ SqT K H b (bs.map V.int) ∧ bs.length ≤ 100 ∧ w.natAbs < 2 ^ 59 ∧ k.natAbs < 2 ^ 59 ∧ (∀ x : Int, x ∈ bs → x.natAbs < 2 ^ 59) ∧
  (¬ MarkOk k m → ∀ H', Keep [] H H' → E (.ref C2) none H') ∧ (MarkOk k m → ¬ BitsOk bs w ∧ ∀ H', Keep [] H H' → E (.ref C3) none H')
section
variable {P : Program} {w : World} {K : PySem.W.Frag} {mg : Str → Option Value} {base : Heap} {C CW CE CM C1 C2 C3 : Addr}
theorem ok_ear_initX {f : Addr} {fd : FuncData} (F : L2.Fun K "__init__" "Ear.__init__" s_Ear___init f fd) (T : EarT K C) (c_check_setting : CalX P w K mg base 4 "check_setting" (spSetX K C1)) : FnOk P w K mg base (L2.CX P w) 5 f fd ["self", "setting"] (spEarX K C C1) := by
  refine Fun.okX F sc_Ear___init (fun vs H Q E h => ?_) (fun cdv A outer s H vs Q E hr h => ?_)
  · obtain ⟨_, _, _, _, _, _, _, rfl, _⟩ := h
    rfl
  · obtain ⟨p, q, m, wi, l, a, dx, rfl, hq, hp, kb, k⟩ := h
    obtain ⟨cl, n1, n2, n3, n4, n5⟩ := T
    refine ⟨_, (pss_cons (ps_expr (Ak.pe_cx c_check_setting hr (by walk_at "lv") (by rfl) (takes_of rfl rfl rfl rfl) (pa_cons (pv 1) pa_nil)))
      (pss_cons (ps_asg (pv 1) (Ak.pg_tupK (K := K) (n := 4) (by rfl) rfl (pgs_cons (pg_name (i := 2) sc_Ear___init.nd rfl (Or.inl rfl)) (pgs_cons (pg_name (i := 3) sc_Ear___init.nd rfl (Or.inl rfl)) (pgs_cons (pg_name (i := 4) sc_Ear___init.nd rfl (Or.inl rfl)) (pgs_cons (pg_name (i := 5) sc_Ear___init.nd rfl (Or.inl rfl)) pgs_nil))))))
      (pss_cons (Ak.ps_fldK (K := K) (by rfl) (pv 0) (pv 2) rfl)
      (pss_cons (Ak.ps_fldK (K := K) (by rfl) (pv 0) (pv 3) rfl)
      (pss_cons (Ak.ps_fldK (K := K) (by rfl) (pv 0) (pv 4) rfl)
      (pss_cons (Ak.ps_fldK (K := K) (by rfl) (pv 0) (pe_un un_neg pe_int) rfl)
      (pss_one (Ak.ps_fldK (K := K) (by rfl) (pv 0) (pe_lst pa_nil) rfl)))))))), ?_⟩
    have e0 : L2.start N_Ear___init [V.ref p, V.ref q] = [some (V.ref p), some (V.ref q), none, none, none, none] := rfl
    rw [e0]
    try dsimp only [cxOf]
    walk_at "rd"
    refine ⟨q, m, wi, l, a, rfl, hq, fun so H' hk => ?_, fun wd hb => kb wd hb⟩
    have hp' : H' p = some (.ins C dx []) := by walk_at "lk"
    walk_at "rd"
    refine k so _ _ ⟨dx, upd_same, ?_⟩ ?_ (by walk_at "kp")
    · show _ = some (HO.lst [])
      walk_at "lk"
    · exact fresh_of [p] (by walk_at "as") (by walk_at "kp")
theorem ok_mouth_initX {f : Addr} {fd : FuncData} (F : L2.Fun K "__init__" "Mouth.__init__" s_Mouth___init f fd) (T : MouthT K C) (c_check_setting : CalX P w K mg base 4 "check_setting" (spSetX K C1)) : FnOk P w K mg base (L2.CX P w) 5 f fd ["self", "setting"] (spMouthX K C C1) := by
  refine Fun.okX F sc_Mouth___init (fun vs H Q E h => ?_) (fun cdv A outer s H vs Q E hr h => ?_)
  · obtain ⟨_, _, _, _, _, _, _, rfl, _⟩ := h
    rfl
  · obtain ⟨p, q, m, wi, l, a, dx, rfl, hq, hp, kb, k⟩ := h
    obtain ⟨cl, n1, n2, n3, n4, n5, n6⟩ := T
    refine ⟨_, (pss_cons (ps_expr (Ak.pe_cx c_check_setting hr (by walk_at "lv") (by rfl) (takes_of rfl rfl rfl rfl) (pa_cons (pv 1) pa_nil)))
      (pss_cons (ps_asg (pv 1) (Ak.pg_tupK (K := K) (n := 4) (by rfl) rfl (pgs_cons (pg_name (i := 2) sc_Mouth___init.nd rfl (Or.inl rfl)) (pgs_cons (pg_name (i := 3) sc_Mouth___init.nd rfl (Or.inl rfl)) (pgs_cons (pg_name (i := 4) sc_Mouth___init.nd rfl (Or.inl rfl)) (pgs_cons (pg_name (i := 5) sc_Mouth___init.nd rfl (Or.inl rfl)) pgs_nil))))))
      (pss_cons (Ak.ps_fldK (K := K) (by rfl) (pv 0) (pv 2) rfl)
      (pss_cons (Ak.ps_fldK (K := K) (by rfl) (pv 0) (pv 3) rfl)
      (pss_cons (Ak.ps_fldK (K := K) (by rfl) (pv 0) (pv 5) rfl)
      (pss_cons (Ak.ps_fldK (K := K) (by rfl) (pv 0) (pe_un un_neg pe_int) rfl)
      (pss_cons (Ak.ps_fldK (K := K) (by rfl) (pv 0) (pe_un un_neg pe_int) rfl)
      (pss_one (Ak.ps_fldK (K := K) (by rfl) (pv 0) pe_dnewK rfl))))))))), ?_⟩
    have e0 : L2.start N_Mouth___init [V.ref p, V.ref q] = [some (V.ref p), some (V.ref q), none, none, none, none] := rfl
    rw [e0]
    try dsimp only [cxOf]
    walk_at "rd"
    refine ⟨q, m, wi, l, a, rfl, hq, fun so H' hk => ?_, fun wd hb => kb wd hb⟩
    have hp' : H' p = some (.ins C dx []) := by walk_at "lk"
    walk_at "rd"
    refine k so _ _ ⟨dx, upd_same, ?_⟩ ?_ (by walk_at "kp")
    · show _ = some (HO.dK [])
      walk_at "lk"
    · exact fresh_of [p] (by walk_at "as") (by walk_at "kp")
theorem ok_world_initB {f : Addr} {fd : FuncData} (F : L2.Fun K "__init__" "World.__init__" s_World___init f fd) (k_Mouth : MakX P w K mg base 5 "Mouth" CM (spMouthX K CM C1)) : FnOk P w K mg base (L2.CX P w) 7 f fd ["self", "setting"] (spWorldB K CW C1) := by
  refine Fun.okX F sc_World___init (fun vs H Q E h => ?_) (fun cdv A outer s H vs Q E hr h => ?_)
  · obtain ⟨_, _, _, _, _, _, _, _, rfl, _⟩ := h
    rfl
  · obtain ⟨p, q, m, wi, l, a, dx, wd, rfl, hq, hp, hb, kb⟩ := h
    refine ⟨_, (pss_cons (Ak.ps_fldK (K := K) (by rfl) (pv 0) (Ak.pe_kx k_Mouth hr (by walk_at "lv") (by rfl) (takes_of rfl rfl rfl rfl) (pa_cons (pv 1) pa_nil)) rfl)
      (pss_cons ps_never
      (pss_cons ps_never
      (pss_cons ps_never
      (pss_cons ps_never
      (pss_one ps_never)))))), ?_⟩
    have e0 : L2.start N_World___init [V.ref p, V.ref q] = [some (V.ref p), some (V.ref q)] := rfl
    rw [e0]
    try dsimp only [cxOf]
    walk_at "rd"
    intro mo dx1 nmo ndx1 nxp1
    have k0 : Keep [] H (upd (upd H dx1 (.own mo)) mo (.ins CM dx1 [])) := (Keep.refl.own ndx1).own nmo
    refine ⟨mo, q, m, wi, l, a, dx1, rfl, k0.seqT nin_nil hq, upd_same, fun wd2 hb2 => ?_, fun so => absurd so (bad_ok hb)⟩
    have e : wd2 = wd := bad_one_w hb2 hb
    rw [e]
    exact kb.keep k0
theorem ok_playedB {f : Addr} {fd : FuncData} (F : L2.Fun K "played" "played" s_played f fd) (k_World : MakX P w K mg base 7 "World" CW (spWorldB K CW C1)) : FnOk P w K mg base (L2.CX P w) 9 f fd ["setting", "events"] (spPlayedB K C1) := by
  refine Fun.okX F sc_played (fun vs H Q E h => ?_) (fun cdv A outer s H vs Q E hr h => ?_)
  · obtain ⟨_, _, _, _, _, _, _, rfl, _⟩ := h
    rfl
  · obtain ⟨q, e, m, wi, l, a, wd, rfl, hq, hb, kb⟩ := h
    refine ⟨_, (pss_cons (ps_set (i := 2) sc_played.nd rfl (Or.inl rfl) (Ak.pe_kx k_World hr (by walk_at "lv") (by rfl) (takes_of rfl rfl rfl rfl) (pa_cons (pv 0) pa_nil)))
      (pss_cons ps_never
      (pss_cons ps_never
      (pss_cons ps_never
      (pss_one ps_never))))), ?_⟩
    have e0 : L2.start N_played [V.ref q, e] = [some (V.ref q), some (e), none, none, none, none, none, none, none] := rfl
    rw [e0]
    try dsimp only [cxOf]
    walk_at "rd"
    intro p dx np ndx nxp
    have k0 : Keep [] H (upd (upd H dx (.own p)) p (.ins CW dx [])) := (Keep.refl.own ndx).own np
    exact ⟨p, q, m, wi, l, a, dx, wd, rfl, k0.seqT nin_nil hq, upd_same, hb, kb.keep k0⟩
theorem ok_judgedX {f : Addr} {fd : FuncData} (F : L2.Fun K "judged" "judged" s_judged f fd) (c_check_setting : CalX P w K mg base 4 "check_setting" (spSetX K C1)) : FnOk P w K mg base (L2.CX P w) 5 f fd ["setting"] (spJudgedX K C1) := by
  refine Fun.okX F sc_judged (fun vs H Q E h => ?_) (fun cdv A outer s H vs Q E hr h => ?_)
  · obtain ⟨_, _, _, _, _, rfl, _⟩ := h
    rfl
  · obtain ⟨q, m, wi, l, a, rfl, hq, kb, k⟩ := h
    refine ⟨_, (pss_cons (ps_expr (Ak.pe_cx c_check_setting hr (by walk_at "lv") (by rfl) (takes_of rfl rfl rfl rfl) (pa_cons (pv 0) pa_nil)))
      (pss_cons (ps_asg (pv 0) (Ak.pg_tupK (K := K) (n := 4) (by rfl) rfl (pgs_cons (pg_name (i := 1) sc_judged.nd rfl (Or.inl rfl)) (pgs_cons (pg_name (i := 2) sc_judged.nd rfl (Or.inl rfl)) (pgs_cons (pg_name (i := 3) sc_judged.nd rfl (Or.inl rfl)) (pgs_cons (pg_name (i := 4) sc_judged.nd rfl (Or.inl rfl)) pgs_nil))))))
      (pss_cons (ps_if (pt_cmpR op_gt (pv 1) (pe_op (Ak.op_plusK (K := K) (by rfl)) (pv 3) (pv 4)) (nomark _))
      (pss_one (ps_ret (pe_tup (pa_cons pe_str pa_nil))))
      pss_nil)
      (pss_one ps_never)))), ?_⟩
    have e0 : L2.start N_judged [V.ref q] = [some (V.ref q), none, none, none, none] := rfl
    rw [e0]
    try dsimp only [cxOf]
    walk_at "rd"
    refine ⟨q, m, wi, l, a, rfl, hq, fun so H1 k1 => ?_, fun wd hb => kb wd hb⟩
    have hq1 := k1.seqT nin_nil hq
    obtain ⟨sf, k⟩ := k so
    walk_at "rd"
    refine Ak.w_ite (fun z => ?_) (fun z => by omega)
    walk_at "rd"
    rename_i t nt
    exact k t _ (k1.2 _ nt) upd_same (k1.new nt)
theorem ok_writtenN {f : Addr} {fd : FuncData} (F : L2.Fun K "written" "written" s_written f fd) (c_check_setting : CalX P w K mg base 4 "check_setting" (spSetX K C1)) (c_check_telling : CalX P w K mg base 2 "check_telling" (spTellX K C2 C3)) : FnOk P w K mg base (L2.CX P w) 5 f fd ["setting", "told"] (spWrittenN K C1 C2 C3) := by
  refine Fun.okX F sc_written (fun vs H Q E h => ?_) (fun cdv A outer s H vs Q E hr h => ?_)
  · obtain ⟨_, _, _, _, _, _, _, _, _, rfl, _⟩ := h
    rfl
  · obtain ⟨q, t, b, bs, k, m, wi, l, a, rfl, hq, ht, hb, hl, hk, hx, kb, kg⟩ := h
    refine ⟨_, (pss_cons (ps_expr (Ak.pe_cx c_check_setting hr (by walk_at "lv") (by rfl) (takes_of rfl rfl rfl rfl) (pa_cons (pv 0) pa_nil)))
      (pss_cons (ps_expr (Ak.pe_cx c_check_telling hr (by walk_at "lv") (by rfl) (takes_of rfl rfl rfl rfl) (pa_cons (pv 1) (pa_cons (pe_ix (Ak.ix_K (K := K) (by rfl)) (pv 0) pe_int (by intro _ _; rfl)) (pa_cons (pe_ix (Ak.ix_K (K := K) (by rfl)) (pv 0) pe_int (by intro _ _; rfl)) pa_nil)))))
      (pss_cons ps_never
      (pss_cons ps_never
      (pss_one ps_never))))), ?_⟩
    have e0 : L2.start N_written [V.ref q, V.ref t] = [some (V.ref q), some (V.ref t), none, none, none, none] := rfl
    rw [e0]
    try dsimp only [cxOf]
    walk_at "rd"
    refine ⟨q, m, wi, l, a, rfl, hq, fun so H1 k1 => ?_, fun wd hb => kb wd hb⟩
    obtain ⟨kg1, kg2⟩ := kg so
    have hq1 := k1.seqT nin_nil hq
    have ht1 := k1.seqT nin_nil ht
    have hb1 := k1.seqT nin_nil hb
    have w1 := so.w1
    have w0 := so.w0
    walk_at "rd"
    exact ⟨t, b, bs, k, m, wi, rfl, ht1, hb1, hl, by omega, hk, hx, fun no => kg1 no _ k1, fun ok no H2 k2 => (kg2 ok).2 _ (k1.trans k2), fun ok ok2 => absurd ok2 (kg2 ok).1⟩
theorem ok_readB {f : Addr} {fd : FuncData} (F : L2.Fun K "read" "read" s_read f fd) (c_check_setting : CalX P w K mg base 4 "check_setting" (spSetX K C1)) : FnOk P w K mg base (L2.CX P w) 5 f fd ["setting", "text"] (spReadB K C1) := by
  refine Fun.okX F sc_read (fun vs H Q E h => ?_) (fun cdv A outer s H vs Q E hr h => ?_)
  · obtain ⟨_, _, _, _, _, _, _, rfl, _⟩ := h
    rfl
  · obtain ⟨q, e, m, wi, l, a, wd, rfl, hq, hb, kb⟩ := h
    refine ⟨_, (pss_cons (ps_expr (Ak.pe_cx c_check_setting hr (by walk_at "lv") (by rfl) (takes_of rfl rfl rfl rfl) (pa_cons (pv 0) pa_nil)))
      (pss_cons ps_never
      (pss_cons ps_never
      (pss_cons ps_never
      (pss_cons ps_never
      (pss_cons ps_never
      (pss_one ps_never))))))), ?_⟩
    have e0 : L2.start N_read [V.ref q, e] = [some (V.ref q), some (e), none, none] := rfl
    rw [e0]
    try dsimp only [cxOf]
    walk_at "rd"
    exact ⟨q, m, wi, l, a, rfl, hq, fun so => absurd so (bad_ok hb), fun wd2 hb2 => by rw [bad_one_w hb2 hb]; exact kb⟩
theorem ok_fewestB {f : Addr} {fd : FuncData} (F : L2.Fun K "fewest" "fewest" s_fewest f fd) (c_check_number : CalX P w K mg base 3 "check_number" (spNumX C1)) : FnOk P w K mg base (L2.CX P w) 4 f fd ["late", "ahead"] (spFewestB C1) := by
  refine Fun.okX F sc_fewest (fun vs H Q E h => ?_) (fun cdv A outer s H vs Q E hr h => ?_)
  · obtain ⟨_, _, _, rfl, _⟩ := h
    rfl
  · obtain ⟨l, a, wd, rfl, hb, kb⟩ := h
    refine ⟨_, (pss_cons (ps_expr (Ak.pe_cx c_check_number hr (by walk_at "lv") (by rfl) (takes_of rfl rfl rfl rfl) (pa_cons pe_str (pa_cons (pv 0) pa_nil))))
      (pss_cons (ps_expr (Ak.pe_cx c_check_number hr (by walk_at "lv") (by rfl) (takes_of rfl rfl rfl rfl) (pa_cons pe_str (pa_cons (pv 1) pa_nil))))
      (pss_cons ps_never
      (pss_cons ps_never
      (pss_one ps_never))))), ?_⟩
    have e0 : L2.start N_fewest [V.int l, V.int a] = [some (V.int l), some (V.int a), none] := rfl
    rw [e0]
    try dsimp only [cxOf]
    walk_at "rd"
    rcases hb with ⟨rfl, h⟩ | ⟨rfl, h, h2⟩
    · exact ⟨_, _, _, _, rfl, .late, fun z => absurd z h, fun _ => kb⟩
    · refine ⟨_, _, _, _, rfl, .late, fun _ => ?_, fun z => absurd h z⟩
      walk_at "rd"
      exact ⟨_, _, _, _, rfl, .ahead, fun z => absurd z h2, fun _ => kb⟩
theorem ok_load_initB {f : Addr} {fd : FuncData} (F : L2.Fun K "__init__" "Load.__init__" s_Load___init f fd) (c_check_number : CalX P w K mg base 3 "check_number" (spNumX C1)) : FnOk P w K mg base (L2.CX P w) 4 f fd ["self", "room", "wait"] (spLoadB C C1) := by
  refine Fun.okX F sc_Load___init (fun vs H Q E h => ?_) (fun cdv A outer s H vs Q E hr h => ?_)
  · obtain ⟨_, _, _, _, _, rfl, _⟩ := h
    rfl
  · obtain ⟨p, r, t, dx, wd, rfl, hp, hb, kb⟩ := h
    refine ⟨_, (pss_cons (ps_expr (Ak.pe_cx c_check_number hr (by walk_at "lv") (by rfl) (takes_of rfl rfl rfl rfl) (pa_cons pe_str (pa_cons (pv 1) pa_nil))))
      (pss_cons (ps_expr (Ak.pe_cx c_check_number hr (by walk_at "lv") (by rfl) (takes_of rfl rfl rfl rfl) (pa_cons pe_str (pa_cons (pv 2) pa_nil))))
      (pss_cons ps_never
      (pss_cons ps_never
      (pss_cons ps_never
      (pss_cons ps_never
      (pss_one ps_never))))))), ?_⟩
    have e0 : L2.start N_Load___init [V.ref p, V.int r, V.int t] = [some (V.ref p), some (V.int r), some (V.int t)] := rfl
    rw [e0]
    try dsimp only [cxOf]
    walk_at "rd"
    rcases hb with ⟨rfl, h⟩ | ⟨rfl, h, h2⟩
    · exact ⟨_, _, _, _, rfl, .room, fun z => absurd z h, fun _ => kb⟩
    · refine ⟨_, _, _, _, rfl, .room, fun _ => ?_, fun z => absurd h z⟩
      walk_at "rd"
      exact ⟨_, _, _, _, rfl, .wait, fun z => absurd z h2, fun _ => kb⟩
theorem ok_comeB {f : Addr} {fd : FuncData} (F : L2.Fun K "come" "Ear.come" s_Ear_come f fd) (T : EarT K C) (c_check_mark : CalX P w K mg base 1 "check_mark" (spMarkX C2)) : FnOk P w K mg base (L2.CX P w) 2 f fd ["self", "mark"] (spComeB C C2) := by
  refine Fun.okX F sc_Ear_come (fun vs H Q E h => ?_) (fun cdv A outer s H vs Q E hr h => ?_)
  · obtain ⟨_, _, _, _, _, _, _, _, rfl, _⟩ := h
    rfl
  · obtain ⟨p, c, k, m, wi, l, g, cs, rfl, ⟨dx, hp, hc⟩, hk, no, ke⟩ := h
    obtain ⟨cl, n1, n2, n3, n4, n5⟩ := T
    refine ⟨_, (pss_cons (ps_expr (Ak.pe_cx c_check_mark hr (by walk_at "lv") (by rfl) (takes_of rfl rfl rfl rfl) (pa_cons (pv 1) (pa_cons (Ak.pe_fldK (K := K) (by rfl) (pv 0) (by rfl)) pa_nil))))
      (pss_cons ps_never
      (pss_cons ps_never
      (pss_cons ps_never
      (pss_one ps_never))))), ?_⟩
    have e0 : L2.start N_Ear_come [V.ref p, V.int k] = [some (V.ref p), some (V.int k), none, none] := rfl
    rw [e0]
    try dsimp only [cxOf]
    walk_at "rd"
    exact ⟨k, m, rfl, hk, fun ok => absurd ok no, fun _ => ke _ Keep.refl⟩
theorem ok_tellB {f : Addr} {fd : FuncData} (F : L2.Fun K "tell" "Ear.tell" s_Ear_tell f fd) (T : EarT K C) (x_BadBits : RaiseC K mg "BadBits" C3) : FnOk P w K mg base (L2.CX P w) 1 f fd ["self"] (spTellB C C3) := by
  refine Fun.okX F sc_Ear_tell (fun vs H Q E h => ?_) (fun cdv A outer s H vs Q E hr h => ?_)
  · obtain ⟨_, _, _, _, _, _, _, rfl, _⟩ := h
    rfl
  · obtain ⟨p, c, m, wi, l, g, cs, rfl, ⟨dx, hp, hc⟩, g0, ke⟩ := h
    obtain ⟨cl, n1, n2, n3, n4, n5⟩ := T
    refine ⟨_, (pss_cons (ps_if (pt_cmpR op_lt (Ak.pe_fldK (K := K) (by rfl) (pv 0) (by rfl)) pe_int (nomark _))
      (pss_one (ps_raise rfl (takes_of rfl rfl rfl rfl) (pmk_own PySem.F.excBase_ValueError x_BadBits.q x_BadBits.g x_BadBits.k x_BadBits.r rfl)))
      pss_nil)
      (pss_one ps_never)), ?_⟩
    have e0 : L2.start N_Ear_tell [V.ref p] = [some (V.ref p)] := rfl
    rw [e0]
    try dsimp only [cxOf]
    walk_at "rd"
    refine Ak.w_ite (fun z => ?_) (fun z => by omega)
    walk_at "rd"
    exact ke _ Keep.refl
theorem ok_hearB {f : Addr} {fd : FuncData} (F : L2.Fun K "hear" "Mouth.hear" s_Mouth_hear f fd) (T : MouthT K C) (c_check_telling : CalX P w K mg base 2 "check_telling" (spTellX K C2 C3)) : FnOk P w K mg base (L2.CX P w) 3 f fd ["self", "told"] (spHearB K C C2 C3) := by
  refine Fun.okX F sc_Mouth_hear (fun vs H Q E h => ?_) (fun cdv A outer s H vs Q E hr h => ?_)
  · obtain ⟨_, _, _, _, _, _, _, _, _, _, _, _, rfl, _⟩ := h
    rfl
  · obtain ⟨p, c, t, b, bs, k, m, wi, a, l, g, ks, rfl, ⟨dx, hp, hc⟩, ht, hb, hl, hw, hk, hx, k1, k2⟩ := h
    obtain ⟨cl, n1, n2, n3, n4, n5, n6⟩ := T
    refine ⟨_, (pss_cons (ps_expr (Ak.pe_cx c_check_telling hr (by walk_at "lv") (by rfl) (takes_of rfl rfl rfl rfl) (pa_cons (pv 1) (pa_cons (Ak.pe_fldK (K := K) (by rfl) (pv 0) (by rfl)) (pa_cons (Ak.pe_fldK (K := K) (by rfl) (pv 0) (by rfl)) pa_nil)))))
      (pss_cons ps_never
      (pss_cons ps_never
      (pss_cons ps_never
      (pss_cons ps_never
      (pss_cons ps_never
      (pss_one ps_never))))))), ?_⟩
    have e0 : L2.start N_Mouth_hear [V.ref p, V.ref t] = [some (V.ref p), some (V.ref t), none, none, none, none] := rfl
    rw [e0]
    try dsimp only [cxOf]
    walk_at "rd"
    exact ⟨t, b, bs, k, m, wi, rfl, ht, hb, hl, hw, hk, hx, fun no => k1 no _ Keep.refl, fun ok no H2 kk => (k2 ok).2 _ kk, fun ok ok2 => absurd ok2 (k2 ok).1⟩
end
end Ak

namespace Ak
open PySem PySem.Spec PyProof.Rows L2
def spSendK (C : Addr) : Sp := fun vs H Q _ => ∃ p c m w a l g ks, vs = [.ref p] ∧ MouthAt C H p c m w a l g ks ∧ 0 < m ∧ ¬ g + a < l + 1 ∧ (∀ t H', H t = none → H' t = some (.tup [.int (l + 1), .int ((l + 1) % m)]) → Keep [p] H H' → Q (.ref t) H')
section
variable {P : Program} {w : World} {K : PySem.W.Frag} {mg : Str → Option Value} {base : Heap} {C : Addr}
theorem ok_last {f : Addr} {fd : FuncData} (F : L2.Fun K "last" "Ear.last" s_Ear_last f fd) (T : EarT K C) : FnOk P w K mg base (L2.CX P w) 1 f fd ["self"] (spLast C) := by
  refine Fun.okX F sc_Ear_last (fun vs H Q E h => ?_) (fun cdv A outer s H vs Q E hr h => ?_)
  · obtain ⟨_, _, _, _, _, _, _, rfl, _⟩ := h
    rfl
  · obtain ⟨p, c, m, w, l, g, cs, rfl, ⟨dx, hp, hc⟩, hQ⟩ := h
    obtain ⟨cl, n1, n2, n3, n4, n5⟩ := T
    refine ⟨_, (pss_one (ps_ret (Ak.pe_fldK (K := K) (by rfl) (pv 0) (by rfl)))), ?_⟩
    have e0 : L2.start N_Ear_last [V.ref p] = [some (V.ref p)] := rfl
    rw [e0]
    try dsimp only [cxOf]
    walk_at "rd"
    exact hQ
theorem ok_is_full {f : Addr} {fd : FuncData} (F : L2.Fun K "is_full" "Mouth.is_full" s_Mouth_is_full f fd) (T : MouthT K C) : FnOk P w K mg base (L2.CX P w) 1 f fd ["self"] (spIsFull C) := by
  refine Fun.okX F sc_Mouth_is_full (fun vs H Q E h => ?_) (fun cdv A outer s H vs Q E hr h => ?_)
  · obtain ⟨_, _, _, _, _, _, _, _, rfl, _⟩ := h
    rfl
  · obtain ⟨p, c, m, wi, a, l, g, ks, rfl, ⟨dx, hp, hc⟩, hQ⟩ := h
    obtain ⟨cl, n1, n2, n3, n4, n5, n6⟩ := T
    refine ⟨_, (pss_one (ps_ret (pe_cmpR op_gt (pe_op (Ak.op_plusK (K := K) (by rfl)) (Ak.pe_fldK (K := K) (by rfl) (pv 0) (by rfl)) pe_int) (pe_op (Ak.op_plusK (K := K) (by rfl)) (Ak.pe_fldK (K := K) (by rfl) (pv 0) (by rfl)) (Ak.pe_fldK (K := K) (by rfl) (pv 0) (by rfl))) (nomark _)))), ?_⟩
    have e0 : L2.start N_Mouth_is_full [V.ref p] = [some (V.ref p)] := rfl
    rw [e0]
    try dsimp only [cxOf]
    walk_at "rd"
    exact hQ
theorem ok_mlast {f : Addr} {fd : FuncData} (F : L2.Fun K "last" "Mouth.last" s_Mouth_last f fd) (T : MouthT K C) : FnOk P w K mg base (L2.CX P w) 1 f fd ["self"] (spMLast C) := by
  refine Fun.okX F sc_Mouth_last (fun vs H Q E h => ?_) (fun cdv A outer s H vs Q E hr h => ?_)
  · obtain ⟨_, _, _, _, _, _, _, _, rfl, _⟩ := h
    rfl
  · obtain ⟨p, c, m, wi, a, l, g, ks, rfl, ⟨dx, hp, hc⟩, hQ⟩ := h
    obtain ⟨cl, n1, n2, n3, n4, n5, n6⟩ := T
    refine ⟨_, (pss_one (ps_ret (Ak.pe_fldK (K := K) (by rfl) (pv 0) (by rfl)))), ?_⟩
    have e0 : L2.start N_Mouth_last [V.ref p] = [some (V.ref p)] := rfl
    rw [e0]
    try dsimp only [cxOf]
    walk_at "rd"
    exact hQ
theorem ok_sure {f : Addr} {fd : FuncData} (F : L2.Fun K "sure" "Mouth.sure" s_Mouth_sure f fd) (T : MouthT K C) (g_sorted : mg "sorted" = none) : FnOk P w K mg base (L2.CX P w) 1 f fd ["self"] (spSure C) := by
  refine Fun.okX F sc_Mouth_sure (fun vs H Q E h => ?_) (fun cdv A outer s H vs Q E hr h => ?_)
  · obtain ⟨_, _, _, _, _, _, _, _, rfl, _⟩ := h
    rfl
  · obtain ⟨p, c, m, wi, a, l, g, ks, rfl, ⟨dx, hp, hc⟩, k⟩ := h
    obtain ⟨cl, n1, n2, n3, n4, n5, n6⟩ := T
    refine ⟨_, (pss_one (ps_ret (pe_callB (Ak.cr_sortK (K := K) (by rfl) rfl) (by rfl) g_sorted (by decide +kernel) (pa_cons (Ak.pe_fldK (K := K) (by rfl) (pv 0) (by rfl)) pa_nil)))), ?_⟩
    have e0 : L2.start N_Mouth_sure [V.ref p] = [some (V.ref p)] := rfl
    rw [e0]
    try dsimp only [cxOf]
    walk_at "rd"
    exact k _ _ (by walk_at "as") upd_same (by walk_at "kp")
theorem ok_sendK {f : Addr} {fd : FuncData} (F : L2.Fun K "send" "Mouth.send" s_Mouth_send f fd) (T : MouthT K C) (m_Mouth_is_full : MetX P w K mg base 1 C "is_full" (spIsFull C)) : FnOk P w K mg base (L2.CX P w) 2 f fd ["self"] (spSendK C) := by
  refine Fun.okX F sc_Mouth_send (fun vs H Q E h => ?_) (fun cdv A outer s H vs Q E hr h => ?_)
  · obtain ⟨_, _, _, _, _, _, _, _, rfl, _⟩ := h
    rfl
  · obtain ⟨p, c, m, wi, a, l, g, ks, rfl, hM, m0, nf, k⟩ := h
    obtain ⟨dx, hp, hc⟩ := id hM
    have pc := hM.ne
    obtain ⟨cl, n1, n2, n3, n4, n5, n6⟩ := T
    refine ⟨_, (pss_cons (ps_if (Ak.pt_truK (K := K) (by rfl) (Ak.pe_mx0 (pv 0) m_Mouth_is_full hr (by walk_at "lv") (takes_of rfl rfl rfl rfl)))
      (pss_one ps_never)
      pss_nil)
      (pss_cons (ps_fldaug (pv 0) pe_int in_add)
      (pss_one (ps_ret (pe_tup (pa_cons (Ak.pe_fldK (K := K) (by rfl) (pv 0) (by rfl)) (pa_cons (pe_op op_mod (Ak.pe_fldK (K := K) (by rfl) (pv 0) (by rfl)) (Ak.pe_fldK (K := K) (by rfl) (pv 0) (by rfl))) pa_nil))))))), ?_⟩
    have e0 : L2.start N_Mouth_send [V.ref p] = [some (V.ref p)] := rfl
    rw [e0]
    try dsimp only [cxOf]
    walk_at "rd"
    refine ⟨p, c, m, wi, a, l, g, ks, rfl, hM, ?_⟩
    walk_at "rd"
    refine Ak.w_ite (fun z => absurd z nf) (fun z => ?_)
    walk_at "rd"
    exact k _ _ (fresh_of [p] (by walk_at "as") (by walk_at "kp")) upd_same (by walk_at "kp")
end
end Ak

namespace Ak
open PySem PySem.Spec PyProof.Rows L2
theorem sl_tupK {X : Cx} {K : PySem.W.Frag} (h : X.K = K) : SlR X (rSlA K) := h ▸ sl_tupA
theorem op_catK {X : Cx} {K : PySem.W.Frag} (h : X.K = K) : OpR X (binaryOp .Add) (rCatA K) := h ▸ op_catA
theorem nw_hi0 : ¬ (HT.sIx 4 0 none = 0 ∧ HT.sIx 4 4 (some 0) = 4) := by decide
theorem nw_lo0 : ¬ (HT.sIx 4 0 (some (0 + 1)) = 0 ∧ HT.sIx 4 4 none = 4) := by decide
theorem nw_hi1 : ¬ (HT.sIx 4 0 none = 0 ∧ HT.sIx 4 4 (some 1) = 4) := by decide
theorem nw_lo1 : ¬ (HT.sIx 4 0 (some (1 + 1)) = 0 ∧ HT.sIx 4 4 none = 4) := by decide
theorem nw_hi2 : ¬ (HT.sIx 4 0 none = 0 ∧ HT.sIx 4 4 (some 2) = 4) := by decide
theorem nw_lo2 : ¬ (HT.sIx 4 0 (some (2 + 1)) = 0 ∧ HT.sIx 4 4 none = 4) := by decide
theorem nw_hi3 : ¬ (HT.sIx 4 0 none = 0 ∧ HT.sIx 4 4 (some 3) = 4) := by decide
theorem nw_lo3 : ¬ (HT.sIx 4 0 (some (3 + 1)) = 0 ∧ HT.sIx 4 4 none = 4) := by decide
def spLawBad (K : PySem.W.Frag) : Sp := fun vs H Q _ => ∃ (H0 : Hp), ∃ d q m w l a, vs = [.ref d, .ref q] ∧ Dice K H0 H d ∧ H q = some (.tup [.int m, .int w, .int l, .int a]) ∧ SetOk m w l a ∧
  ∀ t b m' w' l' a' wd H', H' t = some (.tup [.ref b, .str wd]) → H' b = some (.tup [.int m', .int w', .int l', .int a']) → BadS m' w' l' a' wd → Dice K H0 H' d → Keep [d] H H' → Q (.ref t) H'
section
variable {P : Program} {w : World} {K : PySem.W.Frag} {mg : Str → Option Value} {base : Heap}
theorem ok_law_bad {f : Addr} {fd : FuncData} (F : L2.Fun K "_law_bad" "_law_bad" s_l_bad f fd) (g_list : mg "list" = none) (g_tuple : mg "tuple" = none) (c_l_next : CalX P w K mg base 1 "_law_next" (spNext K)) : FnOk P w K mg base (L2.CX P w) 2 f fd ["_law_d", "_law_setting_here"] (spLawBad K) := by
  refine Fun.okX F sc_l_bad (fun vs H Q E h => ?_) (fun cdv A outer s H vs Q E hr h => ?_)
  · obtain ⟨_, _, _, _, _, _, _, rfl, _⟩ := h
    rfl
  · obtain ⟨H0, d, q, m, wi, l, a, rfl, dc, hq, so, k⟩ := h
    obtain ⟨s1, s2, s3, s4, s5, s6, s7, s8⟩ := so
    obtain ⟨xs0, hd0⟩ := dc.lst
    have hqd : q ≠ d := ne_of hq hd0 (by intro z; cases z)
    refine ⟨_, (pss_cons (ps_set (i := 2) sc_l_bad.nd rfl (Or.inl rfl) (pe_op (Ak.op_plusK (K := K) (by rfl)) pe_int (Ak.pe_cx c_l_next hr (by walk_at "lv") (by rfl) (takes_of rfl rfl rfl rfl) (pa_cons (pv 0) (pa_cons (pe_op op_pow pe_int pe_int) pa_nil)))))
      (pss_cons (ps_set (i := 3) sc_l_bad.nd rfl (Or.inl rfl) (Ak.pe_cx c_l_next hr (by walk_at "lv") (by rfl) (takes_of rfl rfl rfl rfl) (pa_cons (pv 0) (pa_cons pe_int pa_nil))))
      (pss_cons (ps_set (i := 4) sc_l_bad.nd rfl (Or.inl rfl) (pe_ix (Ak.ix_K (K := K) (by rfl)) (pe_lst (pa_cons pe_int (pa_cons pe_int (pa_cons pe_int (pa_cons pe_int pa_nil))))) (pv 3) (by intro _ _; rfl)))
      (pss_cons (ps_set (i := 5) sc_l_bad.nd rfl (Or.inl rfl) (pe_ix (Ak.ix_K (K := K) (by rfl)) (pe_lst (pa_cons pe_int (pa_cons pe_int (pa_cons pe_int (pa_cons pe_int pa_nil))))) (pv 3) (by intro _ _; rfl)))
      (pss_cons (ps_set (i := 6) sc_l_bad.nd rfl (Or.inl rfl) (pe_ix (Ak.ix_K (K := K) (by rfl)) (pe_lst (pa_cons (pe_op op_sub (pv 4) pe_int) (pa_cons (pe_op (Ak.op_plusK (K := K) (by rfl)) (pv 5) pe_int) (pa_cons (pe_op op_sub (pv 4) (pv 2)) (pa_cons (pe_op (Ak.op_plusK (K := K) (by rfl)) (pv 5) (pv 2)) pa_nil))))) (Ak.pe_cx c_l_next hr (by walk_at "lv") (by rfl) (takes_of rfl rfl rfl rfl) (pa_cons (pv 0) (pa_cons pe_int pa_nil))) (by intro _ _; rfl)))
      (pss_cons (ps_set (i := 7) sc_l_bad.nd rfl (Or.inl rfl) (pe_slice (Ak.sl_K (K := K) (by rfl)) (pe_lst (pa_cons pe_int (pa_cons (pe_un un_neg pe_int) (pa_cons pe_int (pa_cons pe_int pa_nil))))) (po_some (pe_op (Ak.op_plusK (K := K) (by rfl)) (pv 3) pe_int)) po_none))
      (pss_cons (ps_if (pt_cmpR (Ak.op_eqK (K := K) (by rfl) hr.units) (Ak.pe_cx c_l_next hr (by walk_at "lv") (by rfl) (takes_of rfl rfl rfl rfl) (pa_cons (pv 0) (pa_cons pe_int pa_nil))) pe_int (nomark _))
      (pss_one (ps_set (i := 7) sc_l_bad.nd rfl (Or.inl rfl) (pe_callTy (Ak.cr_lisK (K := K) (by rfl)) (by rfl) g_list (by decide +kernel) (pa_cons (pe_slice (Ak.sl_tupK (K := K) (by rfl)) (pv 1) (po_some (pe_op (Ak.op_plusK (K := K) (by rfl)) (pv 3) pe_int)) po_none) pa_nil))))
      pss_nil)
      (pss_one (ps_ret (pe_tup (pa_cons (pe_op (Ak.op_catK (K := K) (by rfl)) (pe_op (Ak.op_catK (K := K) (by rfl)) (pe_slice (Ak.sl_tupK (K := K) (by rfl)) (pv 1) po_none (po_some (pv 3))) (pe_tup (pa_cons (pv 6) pa_nil))) (pe_callTy (Ak.cr_tupK (K := K) (by rfl)) (by rfl) g_tuple (by decide +kernel) (pa_cons (pv 7) pa_nil))) (pa_cons (pe_ix (Ak.ix_K (K := K) (by rfl)) (pe_lst (pa_cons pe_str (pa_cons pe_str (pa_cons pe_str (pa_cons pe_str pa_nil))))) (pv 3) (by intro _ _; rfl)) pa_nil)))))))))))), ?_⟩
    have e0 : L2.start N_l_bad [V.ref d, V.ref q] = [some (V.ref d), some (V.ref q), none, none, none, none, none, none] := rfl
    rw [e0]
    try dsimp only [cxOf]
    walk_at "rd"
    rw [show (10 : Int) ^ Int.toNat 9 = 1000000000 from by decide +kernel]
    walk_at "rd"
    rename_i fr H1 xs1 f0 f1 dc1 hd1 k1 at_ H2 xs2 a0 a1 dc2 hd2 k2 L1 nL1
    have hq2 := (k1.trans k2).1 _ _ (nin_cons hqd nin_nil) hq
    have k02 := k1.trans k2
    have at4 : at_ = 0 ∨ at_ = 1 ∨ at_ = 2 ∨ at_ = 3 := by omega
    clear k1 k2 dc1 hd1 a0 a1 dc hd0 hq
    rcases at4 with rfl | rfl | rfl | rfl
    · walk_at "rd"
      rename_i L2 nL2 L3 nL3 r3 H3 xs3 b0 b1 dc3 hd3 k3
      have L3d : L3 ≠ d := Ne.symm (ne_of_none (at_new nL2 (at_new nL1 hd2)) nL3)
      have hL3 := k3.1 _ _ (nin_cons L3d nin_nil) upd_same
      have k23 : Keep [d] H2 H3 := (((Keep.refl.new nL1).new nL2).new nL3).trans k3
      have hq3 := k23.1 _ _ (nin_cons hqd nin_nil) hq2
      have k03 := k02.trans k23
      refine Ak.pickP (fun v => v < 2 ∨ 64 < v) (SqL.of hL3) b0 (by show _ < (4 : Int); omega) (fun x hx => ?_) (fun odd hodd => ?_)
      · (repeat (rcases List.mem_cons.mp hx with rfl | hx; · exact ⟨_, rfl, by omega⟩))
        exact absurd hx List.not_mem_nil
      clear hL3 k3 k23 nL3 nL2 nL1 hq2 k02 dc2 hd2
      walk_at "rd"
      rename_i L4 nL4
      refine w_slDrop (SqL.of upd_same) (by omega) (fun L5 nL5 => ?_)
      walk_at "rd"
      rename_i r4 H4 xs4 c0 c1 dc4 hd4 k4
      have hL5 : upd (upd H3 L4 (.lst [.int 99, .int (-1), .int 99, .int 0])) L5 (.lst [.int (-1), .int 99, .int 0]) L5 = some (.lst [.int (-1), .int 99, .int 0]) := upd_same
      have L5d : L5 ≠ d := Ne.symm (ne_of_none (at_new nL4 hd3) nL5)
      have hL5 := k4.1 _ _ (nin_cons L5d nin_nil) hL5
      have k34 : Keep [d] H3 H4 := ((Keep.refl.new nL4).new nL5).trans k4
      have hq4 := k34.1 _ _ (nin_cons hqd nin_nil) hq3
      have k04 := k03.trans k34
      clear k4 k34 nL4 nL5 hq3 k03 dc3 hd3
      refine Ak.w_ite (fun z => ?_) (fun z => ?_)
      · walk_at "rd"
        refine ⟨q, [V.int m, V.int wi, V.int l, V.int a], rfl, SqT.of hq4, fun z => absurd z nw_lo0, fun _ p0 np0 => ?_⟩
        rw [show cutV [V.int m, V.int wi, V.int l, V.int a] (some (0 + 1)) none = [V.int wi, V.int l, V.int a] from rfl]
        walk_at "rd"
        refine ⟨p0, [V.int wi, V.int l, V.int a], rfl, Or.inr (SqT.of upd_same), fun lb nlb => ?_⟩
        have kU : Keep [] H4 (upd (upd H4 p0 (.tup [V.int wi, V.int l, V.int a])) lb (.lst [V.int wi, V.int l, V.int a])) := (Keep.refl.new np0).new nlb
        have hqT := kU.1 _ _ nin_nil hq4
        have hlb : upd (upd H4 p0 (.tup [V.int wi, V.int l, V.int a])) lb (.lst [V.int wi, V.int l, V.int a]) lb = some (.lst [V.int wi, V.int l, V.int a]) := upd_same
        have dcT := dc4.keep (S := []) kU nin_nil none_nil
        have kT : Keep [d] H _ := k04.trans (kU.mono sub_nil)
        generalize upd (upd H4 p0 (.tup [V.int wi, V.int l, V.int a])) lb (.lst [V.int wi, V.int l, V.int a]) = HT at hqT hlb dcT kT ⊢
        clear kU hq4 hL5 k04 dc4 hd4 nlb np0
        walk_at "rd"
        refine ⟨q, [V.int m, V.int wi, V.int l, V.int a], rfl, SqT.of hqT, fun z => absurd z nw_hi0, fun _ p1 np1 => ?_⟩
        rw [show cutV [V.int m, V.int wi, V.int l, V.int a] none (some 0) = [] from rfl]
        have np1 : HT p1 = none := np1
        walk_at "rd"
        rename_i p2 np2
        refine ⟨p1, p2, [], [V.int odd], rfl, rfl, SqT.of (at_new np2 upd_same), SqT.of upd_same, (Nat.le_of_ble_eq_true rfl), fun _ => ?_, fun z => absurd rfl z, fun z => absurd rfl z⟩
        walk_at "rd"
        rename_i p4 np4
        refine ⟨p2, p4, [V.int odd], [V.int wi, V.int l, V.int a], rfl, rfl, SqT.of (at_new np4 upd_same), SqT.of upd_same, (Nat.le_of_ble_eq_true rfl), (fun z => by cases z), (fun _ z => by cases z), fun _ _ p5 np5 => ?_⟩
        walk_at "rd"
        rename_i LW nLW T nT
        exact k T p5 _ _ _ _ _ _ upd_same (at_new nT (at_new nLW upd_same)) (.inl ⟨rfl, by omega⟩) (dcT.keep (S := []) (by walk_at "kp") nin_nil none_nil) (kT.trans (Keep.mono sub_nil (by walk_at "kp")))
      · walk_at "rd"
        have hqT := hq4
        have hlb := hL5
        have dcT := dc4
        have kT := k04
        generalize H4 = HT at hqT hlb dcT kT hd4 ⊢
        clear hq4 hL5 k04 dc4 hd4
        refine ⟨q, [V.int m, V.int wi, V.int l, V.int a], rfl, SqT.of hqT, fun z => absurd z nw_hi0, fun _ p1 np1 => ?_⟩
        rw [show cutV [V.int m, V.int wi, V.int l, V.int a] none (some 0) = [] from rfl]
        have np1 : HT p1 = none := np1
        walk_at "rd"
        rename_i p2 np2
        refine ⟨p1, p2, [], [V.int odd], rfl, rfl, SqT.of (at_new np2 upd_same), SqT.of upd_same, (Nat.le_of_ble_eq_true rfl), fun _ => ?_, fun z => absurd rfl z, fun z => absurd rfl z⟩
        walk_at "rd"
        rename_i p4 np4
        refine ⟨p2, p4, [V.int odd], [V.int (-1), V.int 99, V.int 0], rfl, rfl, SqT.of (at_new np4 upd_same), SqT.of upd_same, (Nat.le_of_ble_eq_true rfl), (fun z => by cases z), (fun _ z => by cases z), fun _ _ p5 np5 => ?_⟩
        walk_at "rd"
        rename_i LW nLW T nT
        exact k T p5 _ _ _ _ _ _ upd_same (at_new nT (at_new nLW upd_same)) (.inl ⟨rfl, by omega⟩) (dcT.keep (S := []) (by walk_at "kp") nin_nil none_nil) (kT.trans (Keep.mono sub_nil (by walk_at "kp")))
    · walk_at "rd"
      rename_i L2 nL2 L3 nL3 r3 H3 xs3 b0 b1 dc3 hd3 k3
      have L3d : L3 ≠ d := Ne.symm (ne_of_none (at_new nL2 (at_new nL1 hd2)) nL3)
      have hL3 := k3.1 _ _ (nin_cons L3d nin_nil) upd_same
      have k23 : Keep [d] H2 H3 := (((Keep.refl.new nL1).new nL2).new nL3).trans k3
      have hq3 := k23.1 _ _ (nin_cons hqd nin_nil) hq2
      have k03 := k02.trans k23
      refine Ak.pickP (fun v => v < 0 ∨ 16 < v) (SqL.of hL3) b0 (by show _ < (4 : Int); omega) (fun x hx => ?_) (fun odd hodd => ?_)
      · (repeat (rcases List.mem_cons.mp hx with rfl | hx; · exact ⟨_, rfl, by omega⟩))
        exact absurd hx List.not_mem_nil
      clear hL3 k3 k23 nL3 nL2 nL1 hq2 k02 dc2 hd2
      walk_at "rd"
      rename_i L4 nL4
      refine w_slDrop (SqL.of upd_same) (by omega) (fun L5 nL5 => ?_)
      walk_at "rd"
      rename_i r4 H4 xs4 c0 c1 dc4 hd4 k4
      have hL5 : upd (upd H3 L4 (.lst [.int 99, .int (-1), .int 99, .int 0])) L5 (.lst [.int 99, .int 0]) L5 = some (.lst [.int 99, .int 0]) := upd_same
      have L5d : L5 ≠ d := Ne.symm (ne_of_none (at_new nL4 hd3) nL5)
      have hL5 := k4.1 _ _ (nin_cons L5d nin_nil) hL5
      have k34 : Keep [d] H3 H4 := ((Keep.refl.new nL4).new nL5).trans k4
      have hq4 := k34.1 _ _ (nin_cons hqd nin_nil) hq3
      have k04 := k03.trans k34
      clear k4 k34 nL4 nL5 hq3 k03 dc3 hd3
      refine Ak.w_ite (fun z => ?_) (fun z => ?_)
      · walk_at "rd"
        refine ⟨q, [V.int m, V.int wi, V.int l, V.int a], rfl, SqT.of hq4, fun z => absurd z nw_lo1, fun _ p0 np0 => ?_⟩
        rw [show cutV [V.int m, V.int wi, V.int l, V.int a] (some (1 + 1)) none = [V.int l, V.int a] from rfl]
        walk_at "rd"
        refine ⟨p0, [V.int l, V.int a], rfl, Or.inr (SqT.of upd_same), fun lb nlb => ?_⟩
        have kU : Keep [] H4 (upd (upd H4 p0 (.tup [V.int l, V.int a])) lb (.lst [V.int l, V.int a])) := (Keep.refl.new np0).new nlb
        have hqT := kU.1 _ _ nin_nil hq4
        have hlb : upd (upd H4 p0 (.tup [V.int l, V.int a])) lb (.lst [V.int l, V.int a]) lb = some (.lst [V.int l, V.int a]) := upd_same
        have dcT := dc4.keep (S := []) kU nin_nil none_nil
        have kT : Keep [d] H _ := k04.trans (kU.mono sub_nil)
        generalize upd (upd H4 p0 (.tup [V.int l, V.int a])) lb (.lst [V.int l, V.int a]) = HT at hqT hlb dcT kT ⊢
        clear kU hq4 hL5 k04 dc4 hd4 nlb np0
        walk_at "rd"
        refine ⟨q, [V.int m, V.int wi, V.int l, V.int a], rfl, SqT.of hqT, fun z => absurd z nw_hi1, fun _ p1 np1 => ?_⟩
        rw [show cutV [V.int m, V.int wi, V.int l, V.int a] none (some 1) = [V.int m] from rfl]
        have np1 : HT p1 = none := np1
        walk_at "rd"
        rename_i p2 np2
        refine ⟨p1, p2, [V.int m], [V.int odd], rfl, rfl, SqT.of (at_new np2 upd_same), SqT.of upd_same, (Nat.le_of_ble_eq_true rfl), (fun z => by cases z), (fun _ z => by cases z), fun _ _ p3 np3 => ?_⟩
        walk_at "rd"
        rename_i p4 np4
        refine ⟨p3, p4, [V.int m, V.int odd], [V.int l, V.int a], rfl, rfl, SqT.of (at_new np4 upd_same), SqT.of upd_same, (Nat.le_of_ble_eq_true rfl), (fun z => by cases z), (fun _ z => by cases z), fun _ _ p5 np5 => ?_⟩
        walk_at "rd"
        rename_i LW nLW T nT
        exact k T p5 _ _ _ _ _ _ upd_same (at_new nT (at_new nLW upd_same)) (.inr (.inl ⟨rfl, ⟨s1, s2⟩, by omega⟩)) (dcT.keep (S := []) (by walk_at "kp") nin_nil none_nil) (kT.trans (Keep.mono sub_nil (by walk_at "kp")))
      · walk_at "rd"
        have hqT := hq4
        have hlb := hL5
        have dcT := dc4
        have kT := k04
        generalize H4 = HT at hqT hlb dcT kT hd4 ⊢
        clear hq4 hL5 k04 dc4 hd4
        refine ⟨q, [V.int m, V.int wi, V.int l, V.int a], rfl, SqT.of hqT, fun z => absurd z nw_hi1, fun _ p1 np1 => ?_⟩
        rw [show cutV [V.int m, V.int wi, V.int l, V.int a] none (some 1) = [V.int m] from rfl]
        have np1 : HT p1 = none := np1
        walk_at "rd"
        rename_i p2 np2
        refine ⟨p1, p2, [V.int m], [V.int odd], rfl, rfl, SqT.of (at_new np2 upd_same), SqT.of upd_same, (Nat.le_of_ble_eq_true rfl), (fun z => by cases z), (fun _ z => by cases z), fun _ _ p3 np3 => ?_⟩
        walk_at "rd"
        rename_i p4 np4
        refine ⟨p3, p4, [V.int m, V.int odd], [V.int 99, V.int 0], rfl, rfl, SqT.of (at_new np4 upd_same), SqT.of upd_same, (Nat.le_of_ble_eq_true rfl), (fun z => by cases z), (fun _ z => by cases z), fun _ _ p5 np5 => ?_⟩
        walk_at "rd"
        rename_i LW nLW T nT
        exact k T p5 _ _ _ _ _ _ upd_same (at_new nT (at_new nLW upd_same)) (.inr (.inl ⟨rfl, ⟨s1, s2⟩, by omega⟩)) (dcT.keep (S := []) (by walk_at "kp") nin_nil none_nil) (kT.trans (Keep.mono sub_nil (by walk_at "kp")))
    · walk_at "rd"
      rename_i L2 nL2 L3 nL3 r3 H3 xs3 b0 b1 dc3 hd3 k3
      have L3d : L3 ≠ d := Ne.symm (ne_of_none (at_new nL2 (at_new nL1 hd2)) nL3)
      have hL3 := k3.1 _ _ (nin_cons L3d nin_nil) upd_same
      have k23 : Keep [d] H2 H3 := (((Keep.refl.new nL1).new nL2).new nL3).trans k3
      have hq3 := k23.1 _ _ (nin_cons hqd nin_nil) hq2
      have k03 := k02.trans k23
      refine Ak.pickP (fun v => v < 0 ∨ 8 < v) (SqL.of hL3) b0 (by show _ < (4 : Int); omega) (fun x hx => ?_) (fun odd hodd => ?_)
      · (repeat (rcases List.mem_cons.mp hx with rfl | hx; · exact ⟨_, rfl, by omega⟩))
        exact absurd hx List.not_mem_nil
      clear hL3 k3 k23 nL3 nL2 nL1 hq2 k02 dc2 hd2
      walk_at "rd"
      rename_i L4 nL4
      refine w_slDrop (SqL.of upd_same) (by omega) (fun L5 nL5 => ?_)
      walk_at "rd"
      rename_i r4 H4 xs4 c0 c1 dc4 hd4 k4
      have hL5 : upd (upd H3 L4 (.lst [.int 99, .int (-1), .int 99, .int 0])) L5 (.lst [.int 0]) L5 = some (.lst [.int 0]) := upd_same
      have L5d : L5 ≠ d := Ne.symm (ne_of_none (at_new nL4 hd3) nL5)
      have hL5 := k4.1 _ _ (nin_cons L5d nin_nil) hL5
      have k34 : Keep [d] H3 H4 := ((Keep.refl.new nL4).new nL5).trans k4
      have hq4 := k34.1 _ _ (nin_cons hqd nin_nil) hq3
      have k04 := k03.trans k34
      clear k4 k34 nL4 nL5 hq3 k03 dc3 hd3
      refine Ak.w_ite (fun z => ?_) (fun z => ?_)
      · walk_at "rd"
        refine ⟨q, [V.int m, V.int wi, V.int l, V.int a], rfl, SqT.of hq4, fun z => absurd z nw_lo2, fun _ p0 np0 => ?_⟩
        rw [show cutV [V.int m, V.int wi, V.int l, V.int a] (some (2 + 1)) none = [V.int a] from rfl]
        walk_at "rd"
        refine ⟨p0, [V.int a], rfl, Or.inr (SqT.of upd_same), fun lb nlb => ?_⟩
        have kU : Keep [] H4 (upd (upd H4 p0 (.tup [V.int a])) lb (.lst [V.int a])) := (Keep.refl.new np0).new nlb
        have hqT := kU.1 _ _ nin_nil hq4
        have hlb : upd (upd H4 p0 (.tup [V.int a])) lb (.lst [V.int a]) lb = some (.lst [V.int a]) := upd_same
        have dcT := dc4.keep (S := []) kU nin_nil none_nil
        have kT : Keep [d] H _ := k04.trans (kU.mono sub_nil)
        generalize upd (upd H4 p0 (.tup [V.int a])) lb (.lst [V.int a]) = HT at hqT hlb dcT kT ⊢
        clear kU hq4 hL5 k04 dc4 hd4 nlb np0
        walk_at "rd"
        refine ⟨q, [V.int m, V.int wi, V.int l, V.int a], rfl, SqT.of hqT, fun z => absurd z nw_hi2, fun _ p1 np1 => ?_⟩
        rw [show cutV [V.int m, V.int wi, V.int l, V.int a] none (some 2) = [V.int m, V.int wi] from rfl]
        have np1 : HT p1 = none := np1
        walk_at "rd"
        rename_i p2 np2
        refine ⟨p1, p2, [V.int m, V.int wi], [V.int odd], rfl, rfl, SqT.of (at_new np2 upd_same), SqT.of upd_same, (Nat.le_of_ble_eq_true rfl), (fun z => by cases z), (fun _ z => by cases z), fun _ _ p3 np3 => ?_⟩
        walk_at "rd"
        rename_i p4 np4
        refine ⟨p3, p4, [V.int m, V.int wi, V.int odd], [V.int a], rfl, rfl, SqT.of (at_new np4 upd_same), SqT.of upd_same, (Nat.le_of_ble_eq_true rfl), (fun z => by cases z), (fun _ z => by cases z), fun _ _ p5 np5 => ?_⟩
        walk_at "rd"
        rename_i LW nLW T nT
        exact k T p5 _ _ _ _ _ _ upd_same (at_new nT (at_new nLW upd_same)) (.inr (.inr (.inl ⟨rfl, ⟨s1, s2⟩, ⟨s3, s4⟩, by omega⟩))) (dcT.keep (S := []) (by walk_at "kp") nin_nil none_nil) (kT.trans (Keep.mono sub_nil (by walk_at "kp")))
      · walk_at "rd"
        have hqT := hq4
        have hlb := hL5
        have dcT := dc4
        have kT := k04
        generalize H4 = HT at hqT hlb dcT kT hd4 ⊢
        clear hq4 hL5 k04 dc4 hd4
        refine ⟨q, [V.int m, V.int wi, V.int l, V.int a], rfl, SqT.of hqT, fun z => absurd z nw_hi2, fun _ p1 np1 => ?_⟩
        rw [show cutV [V.int m, V.int wi, V.int l, V.int a] none (some 2) = [V.int m, V.int wi] from rfl]
        have np1 : HT p1 = none := np1
        walk_at "rd"
        rename_i p2 np2
        refine ⟨p1, p2, [V.int m, V.int wi], [V.int odd], rfl, rfl, SqT.of (at_new np2 upd_same), SqT.of upd_same, (Nat.le_of_ble_eq_true rfl), (fun z => by cases z), (fun _ z => by cases z), fun _ _ p3 np3 => ?_⟩
        walk_at "rd"
        rename_i p4 np4
        refine ⟨p3, p4, [V.int m, V.int wi, V.int odd], [V.int 0], rfl, rfl, SqT.of (at_new np4 upd_same), SqT.of upd_same, (Nat.le_of_ble_eq_true rfl), (fun z => by cases z), (fun _ z => by cases z), fun _ _ p5 np5 => ?_⟩
        walk_at "rd"
        rename_i LW nLW T nT
        exact k T p5 _ _ _ _ _ _ upd_same (at_new nT (at_new nLW upd_same)) (.inr (.inr (.inl ⟨rfl, ⟨s1, s2⟩, ⟨s3, s4⟩, by omega⟩))) (dcT.keep (S := []) (by walk_at "kp") nin_nil none_nil) (kT.trans (Keep.mono sub_nil (by walk_at "kp")))
    · walk_at "rd"
      rename_i L2 nL2 L3 nL3 r3 H3 xs3 b0 b1 dc3 hd3 k3
      have L3d : L3 ≠ d := Ne.symm (ne_of_none (at_new nL2 (at_new nL1 hd2)) nL3)
      have hL3 := k3.1 _ _ (nin_cons L3d nin_nil) upd_same
      have k23 : Keep [d] H2 H3 := (((Keep.refl.new nL1).new nL2).new nL3).trans k3
      have hq3 := k23.1 _ _ (nin_cons hqd nin_nil) hq2
      have k03 := k02.trans k23
      refine Ak.pickP (fun v => v < 1 ∨ 16 < v) (SqL.of hL3) b0 (by show _ < (4 : Int); omega) (fun x hx => ?_) (fun odd hodd => ?_)
      · (repeat (rcases List.mem_cons.mp hx with rfl | hx; · exact ⟨_, rfl, by omega⟩))
        exact absurd hx List.not_mem_nil
      clear hL3 k3 k23 nL3 nL2 nL1 hq2 k02 dc2 hd2
      walk_at "rd"
      rename_i L4 nL4
      refine w_slDrop (SqL.of upd_same) (by omega) (fun L5 nL5 => ?_)
      walk_at "rd"
      rename_i r4 H4 xs4 c0 c1 dc4 hd4 k4
      have hL5 : upd (upd H3 L4 (.lst [.int 99, .int (-1), .int 99, .int 0])) L5 (.lst []) L5 = some (.lst []) := upd_same
      have L5d : L5 ≠ d := Ne.symm (ne_of_none (at_new nL4 hd3) nL5)
      have hL5 := k4.1 _ _ (nin_cons L5d nin_nil) hL5
      have k34 : Keep [d] H3 H4 := ((Keep.refl.new nL4).new nL5).trans k4
      have hq4 := k34.1 _ _ (nin_cons hqd nin_nil) hq3
      have k04 := k03.trans k34
      clear k4 k34 nL4 nL5 hq3 k03 dc3 hd3
      refine Ak.w_ite (fun z => ?_) (fun z => ?_)
      · walk_at "rd"
        refine ⟨q, [V.int m, V.int wi, V.int l, V.int a], rfl, SqT.of hq4, fun z => absurd z nw_lo3, fun _ p0 np0 => ?_⟩
        rw [show cutV [V.int m, V.int wi, V.int l, V.int a] (some (3 + 1)) none = [] from rfl]
        walk_at "rd"
        refine ⟨p0, [], rfl, Or.inr (SqT.of upd_same), fun lb nlb => ?_⟩
        have kU : Keep [] H4 (upd (upd H4 p0 (.tup [])) lb (.lst [])) := (Keep.refl.new np0).new nlb
        have hqT := kU.1 _ _ nin_nil hq4
        have hlb : upd (upd H4 p0 (.tup [])) lb (.lst []) lb = some (.lst []) := upd_same
        have dcT := dc4.keep (S := []) kU nin_nil none_nil
        have kT : Keep [d] H _ := k04.trans (kU.mono sub_nil)
        generalize upd (upd H4 p0 (.tup [])) lb (.lst []) = HT at hqT hlb dcT kT ⊢
        clear kU hq4 hL5 k04 dc4 hd4 nlb np0
        walk_at "rd"
        refine ⟨q, [V.int m, V.int wi, V.int l, V.int a], rfl, SqT.of hqT, fun z => absurd z nw_hi3, fun _ p1 np1 => ?_⟩
        rw [show cutV [V.int m, V.int wi, V.int l, V.int a] none (some 3) = [V.int m, V.int wi, V.int l] from rfl]
        have np1 : HT p1 = none := np1
        walk_at "rd"
        rename_i p2 np2
        refine ⟨p1, p2, [V.int m, V.int wi, V.int l], [V.int odd], rfl, rfl, SqT.of (at_new np2 upd_same), SqT.of upd_same, (Nat.le_of_ble_eq_true rfl), (fun z => by cases z), (fun _ z => by cases z), fun _ _ p3 np3 => ?_⟩
        walk_at "rd"
        rename_i p4 np4
        refine ⟨p3, p4, [V.int m, V.int wi, V.int l, V.int odd], [], rfl, rfl, SqT.of (at_new np4 upd_same), SqT.of upd_same, (Nat.le_of_ble_eq_true rfl), (fun z => by cases z), (fun _ _ => ?_), fun _ z => absurd rfl z⟩
        walk_at "rd"
        rename_i LW nLW T nT
        exact k T p3 _ _ _ _ _ _ upd_same (at_new nT (at_new nLW (at_new np4 upd_same))) (.inr (.inr (.inr ⟨rfl, ⟨s1, s2⟩, ⟨s3, s4⟩, ⟨s5, s6⟩, by omega⟩))) (dcT.keep (S := []) (by walk_at "kp") nin_nil none_nil) (kT.trans (Keep.mono sub_nil (by walk_at "kp")))
      · walk_at "rd"
        have hqT := hq4
        have hlb := hL5
        have dcT := dc4
        have kT := k04
        generalize H4 = HT at hqT hlb dcT kT hd4 ⊢
        clear hq4 hL5 k04 dc4 hd4
        refine ⟨q, [V.int m, V.int wi, V.int l, V.int a], rfl, SqT.of hqT, fun z => absurd z nw_hi3, fun _ p1 np1 => ?_⟩
        rw [show cutV [V.int m, V.int wi, V.int l, V.int a] none (some 3) = [V.int m, V.int wi, V.int l] from rfl]
        have np1 : HT p1 = none := np1
        walk_at "rd"
        rename_i p2 np2
        refine ⟨p1, p2, [V.int m, V.int wi, V.int l], [V.int odd], rfl, rfl, SqT.of (at_new np2 upd_same), SqT.of upd_same, (Nat.le_of_ble_eq_true rfl), (fun z => by cases z), (fun _ z => by cases z), fun _ _ p3 np3 => ?_⟩
        walk_at "rd"
        rename_i p4 np4
        refine ⟨p3, p4, [V.int m, V.int wi, V.int l, V.int odd], [], rfl, rfl, SqT.of (at_new np4 upd_same), SqT.of upd_same, (Nat.le_of_ble_eq_true rfl), (fun z => by cases z), (fun _ _ => ?_), fun _ z => absurd rfl z⟩
        walk_at "rd"
        rename_i LW nLW T nT
        exact k T p3 _ _ _ _ _ _ upd_same (at_new nT (at_new nLW (at_new np4 upd_same))) (.inr (.inr (.inr ⟨rfl, ⟨s1, s2⟩, ⟨s3, s4⟩, ⟨s5, s6⟩, by omega⟩))) (dcT.keep (S := []) (by walk_at "kp") nin_nil none_nil) (kT.trans (Keep.mono sub_nil (by walk_at "kp")))
end
end Ak

namespace Ak
open PySem PySem.Spec PyProof.Rows L2
section
variable {σ : L2.St} {H : Hp} {Q : VK} {g : TG} {tt : TT} {te : TE} {vs : List Nat}
abbrev LcTurnP (Pv : Addr → Nat → Hp → Prop) (g : TG) (tt : TT) (te : TE) (vs : List Nat) (σ : L2.St) (D : Addr) (i : Nat) (x : V) (H' : Hp) : Prop :=
  g x (wipe σ vs) H' fun σ2 H2 => wipe σ2 vs = wipe σ vs ∧ tt σ2 H2 fun b H3 => if b = true then te σ2 H3 fun y H4 => ∃ acc, H4 D = some (.lst acc) ∧ acc.length < sizeLine ∧ Pv D (i + 1) (upd H4 D (.lst (acc ++ [y]))) else Pv D (i + 1) H3
theorem l_lcRP {lo : Int} {n : Nat} (Pv : Addr → Nat → Hp → Prop) (h0 : ∀ D, H D = none → Pv D 0 (upd H D (.lst [])))
    (hs : ∀ D i H', H D = none → i < n → Pv D i H' → LcTurnP Pv g tt te vs σ D i (.int (lo + i)) H') (hd : ∀ D H', H D = none → Pv D n H' → Q (.ref D) H') : LcR lo n g tt te vs σ H Q :=
  fun D hD => lc_range (Pv D) (h0 D hD) (fun i H' hi q => hs D i H' hD hi q) fun H' q => hd D H' hD q
theorem l_lcR1P {j : Int} (b : -(2 ^ 62) ≤ j ∧ j < 2 ^ 62) (Pv : Addr → Nat → Hp → Prop) (h0 : ∀ D, H D = none → Pv D 0 (upd H D (.lst [])))
    (hs : ∀ D i H', H D = none → i < j.toNat → Pv D i H' → LcTurnP Pv g tt te vs σ D i (.int i) H') (hd : ∀ D H', H D = none → Pv D j.toNat H' → Q (.ref D) H') : kLcR1 g tt te vs σ [.int j] H Q :=
  ⟨j, rfl, b.1, b.2, l_lcRP Pv h0 (fun D i H' a b c => by rw [Int.zero_add]; exact hs D i H' a b c) hd⟩
theorem l_lcLP {K : PySem.W.Frag} {a : Addr} {xs : List V} (e : SqL K H a xs) (Pv : Addr → Nat → Hp → Prop) (h0 : ∀ D, H D = none → Pv D 0 (upd H D (.lst []))) (hl : ∀ D i H', H D = none → Pv D i H' → SqL K H' a xs)
    (hs : ∀ D i x H', H D = none → xs[i]? = some x → Pv D i H' → LcTurnP Pv g tt te vs σ D i x H') (hd : ∀ D H', H D = none → Pv D xs.length H' → Q (.ref D) H') : kLcL K g tt te vs σ (.ref a) H Q :=
  ⟨a, rfl, ⟨xs, e⟩, fun D hD => lc_list (xs := xs) (Pv D) (h0 D hD) (fun i H' _ q => hl D i H' hD q) (fun i x H' hx q => hs D i x H' hD hx q) fun H' q => hd D H' hD q⟩
end
theorem ints_dice {K : PySem.W.Frag} {H0 H : Hp} {d c : Addr} (dc : Dice K H0 H d) {ns : List Int} (h : H c = some (.lst (ns.map V.int))) : c ≠ d := fun z => by
  obtain ⟨⟨ad, ms, i, m, r, hd, _⟩, _, _⟩ := dc
  rw [z, hd] at h
  cases ns with
  | nil => cases h
  | cons x y => cases h
theorem cut_ifTE {c : Bool} {t u : TE} {σ : L2.St} {H : Hp} {Q : VK} (N : V → Hp → Prop) (a : ∀ v H', N v H' → Q v H') (b : ∀ R : VK, (∀ v H', N v H' → R v H') → if c = true then t σ H R else u σ H R) : if c = true then t σ H Q else u σ H Q := b Q a
def spLawBits (K : PySem.W.Frag) : Sp := fun vs H Q _ => ∃ (H0 : Hp), ∃ d q m w l a, vs = [.ref d, .ref q] ∧ Dice K H0 H d ∧ H q = some (.tup [.int m, .int w, .int l, .int a]) ∧ SetOk m w l a ∧
  ∀ b bs H', H' b = some (.tup (bs.map V.int)) → bs.length ≤ 20 → (∀ x : Int, x ∈ bs → x.natAbs < 2 ^ 59) → ¬ BitsOk bs w → Dice K H0 H' d → Keep [d] H H' → Q (.ref b) H'
section
variable {P : Program} {w : World} {K : PySem.W.Frag} {mg : Str → Option Value} {base : Heap}
theorem ok_law_bits {f : Addr} {fd : FuncData} (F : L2.Fun K "_law_bits" "_law_bits" s_l_bits f fd) (g_range : mg "range" = none) (g_int : mg "int" = none) (g_tuple : mg "tuple" = none) (c_l_next : CalX P w K mg base 1 "_law_next" (spNext K)) : FnOk P w K mg base (L2.CX P w) 2 f fd ["_law_d", "_law_setting_here"] (spLawBits K) := by
  refine Fun.okX F sc_l_bits (fun vs H Q E h => ?_) (fun cdv A outer s H vs Q E hr h => ?_)
  · obtain ⟨_, _, _, _, _, _, _, rfl, _⟩ := h
    rfl
  · obtain ⟨H0, d, q, m, wi, l, a, rfl, dc, hq, so, k⟩ := h
    obtain ⟨s1, s2, s3, s4, s5, s6, s7, s8⟩ := so
    obtain ⟨xs0, hd0⟩ := dc.lst
    refine ⟨_, (pss_cons (ps_set (i := 2) sc_l_bits.nd rfl (Or.inl rfl) (pe_ix (Ak.ix_K (K := K) (by rfl)) (pv 1) pe_int (by intro _ _; rfl)))
      (pss_cons (ps_set (i := 3) sc_l_bits.nd rfl (Or.inl rfl) (Ak.pe_cx c_l_next hr (by walk_at "lv") (by rfl) (takes_of rfl rfl rfl rfl) (pa_cons (pv 0) (pa_cons (pe_op (Ak.op_plusK (K := K) (by rfl)) (pv 2) pe_int) pa_nil))))
      (pss_cons (ps_setLc (i := 4) (own := [("_law_k", 5)]) (g := (gName 5)) (tt := tYes) rfl sc_l_bits.nd rfl rfl (sw_true rfl rfl rfl (by decide +kernel)) (pi_range1 (by rfl) g_range (pa_cons (pv 2) pa_nil)) (blkOk_by (N := N_l_bits) (sc := defScope s_l_bits) (by decide +kernel)) (fun _ _ _ _ _ => by exact (pg_name (i := 5) sc_l_bits.nd rfl (Or.inl rfl))) (fun _ _ _ _ _ => by exact pts_nil) (fun _ _ _ _ _ => by exact (Ak.pe_cx c_l_next hr (by walk_at "lv") (by rfl) L2.takes0 (pa_cons (pv 0) (pa_cons pe_int pa_nil)))))
      (pss_cons (ps_set (i := 6) sc_l_bits.nd rfl (Or.inl rfl) (pe_ix (Ak.ix_K (K := K) (by rfl)) (pe_lst (pa_cons pe_int (pa_cons (pe_un un_neg pe_int) (pa_cons (pe_op op_pow pe_int pe_int) pa_nil)))) (Ak.pe_cx c_l_next hr (by walk_at "lv") (by rfl) (takes_of rfl rfl rfl rfl) (pa_cons (pv 0) (pa_cons pe_int pa_nil))) (by intro _ _; rfl)))
      (pss_cons (ps_set (i := 7) sc_l_bits.nd rfl (Or.inl rfl) (pe_lst (pa_cons (pe_op (Ak.op_plusK (K := K) (by rfl)) (pv 4) (pe_lst (pa_cons pe_int pa_nil))) (pa_cons (pe_op (Ak.op_plusK (K := K) (by rfl)) (pe_op (Ak.op_plusK (K := K) (by rfl)) (pe_slice (Ak.sl_K (K := K) (by rfl)) (pv 4) po_none (po_some (pv 3))) (pe_lst (pa_cons (pv 6) pa_nil))) (pe_slice (Ak.sl_K (K := K) (by rfl)) (pv 4) (po_some (pv 3)) po_none)) (pa_cons (pe_op (Ak.op_plusK (K := K) (by rfl)) (pe_op (Ak.op_plusK (K := K) (by rfl)) (pe_slice (Ak.sl_K (K := K) (by rfl)) (pv 4) po_none (po_some (pv 3))) (pe_lst (pa_cons (pv 6) pa_nil))) (pe_op Ak.op_times (pe_slice (Ak.sl_K (K := K) (by rfl)) (pv 4) (po_some (pe_op (Ak.op_plusK (K := K) (by rfl)) (pv 3) pe_int)) po_none) (pe_callTy Ak.cr_intX (by rfl) g_int (by decide +kernel) (pa_cons (pe_cmpR op_lt (pv 3) (pv 2) (nomark _)) pa_nil)))) pa_nil)))))
      (pss_cons (ps_set (i := 8) sc_l_bits.nd rfl (Or.inl rfl) (pe_ix (Ak.ix_K (K := K) (by rfl)) (pe_op (Ak.op_plusK (K := K) (by rfl)) (pv 7) (pe_lst (pa_cons (pe_ifExp (pt_cmpR op_gt (pv 2) pe_int (nomark _)) (pe_slice (Ak.sl_K (K := K) (by rfl)) (pv 4) (po_some pe_int) po_none) (pe_lst (pa_cons pe_int pa_nil))) pa_nil))) (Ak.pe_cx c_l_next hr (by walk_at "lv") (by rfl) (takes_of rfl rfl rfl rfl) (pa_cons (pv 0) (pa_cons pe_int pa_nil))) (by intro _ _; rfl)))
      (pss_one (ps_ret (pe_callTy (Ak.cr_tupK (K := K) (by rfl)) (by rfl) g_tuple (by decide +kernel) (pa_cons (pv 8) pa_nil)))))))))), ?_⟩
    have e0 : L2.start N_l_bits [V.ref d, V.ref q] = [some (V.ref d), some (V.ref q), none, none, none, none, none, none, none] := rfl
    rw [e0]
    try dsimp only [cxOf]
    walk_at "rd"
    rename_i at_ H1 xs1 a0 a1 dc1 hd1 k1
    refine l_lcR1P (by omega) (fun D i Hx => ∃ bs : List Int, bs.length = i ∧ Bits01 bs ∧ Hx D = some (.lst (bs.map V.int)) ∧ Dice K H0 Hx d ∧ Keep [d] H1 Hx)
      (fun D hD => ⟨[], rfl, fun x hx => absurd hx List.not_mem_nil, upd_same, dc1.keep (S := []) (Keep.refl.own hD) nin_nil none_nil, Keep.refl.own hD⟩) (fun D j H2 hD hj pv => ?_) (fun D H2 hD pv => ?_)
    · obtain ⟨bs, hbl, h01, hbD, dc2, k2⟩ := pv
      obtain ⟨xs2, hd2⟩ := dc2.lst
      have nDd : D ≠ d := Ne.symm (ne_of_none hd1 hD)
      walk_at "rd"
      rename_i x3 H3 xs3 j0 j1 dc3 hd3 k3
      refine ⟨bs.map V.int, by walk_at "lk", by rw [List.length_map, sizeLine_eq]; omega, bs ++ [x3], by rw [List.length_append, hbl]; rfl, fun x hx => ?_, by rw [upd_same, List.map_append]; rfl, dc1.own dc3 hD (Ne.symm nDd), (k2.trans k3).own hD⟩
      rcases List.mem_append.mp hx with hx | hx
      · exact h01 x hx
      · rw [List.mem_singleton.mp hx]
        omega
    · obtain ⟨bs, hbl, h01, hbD, dc2, k2⟩ := pv
      obtain ⟨xs2, hd2⟩ := dc2.lst
      have nDd : D ≠ d := Ne.symm (ne_of_none hd1 hD)
      have k02 := k1.trans k2
      have hw : (bs.length : Int) = wi := by omega
      have h16 : bs.length ≤ 16 := by omega
      clear k1 k2 dc1 hd1 dc hd0 hq
      walk_at "rd"
      rename_i L9 nL9 r9 H3 xs3 b0 b1 dc3 hd3 k3
      have L9d : L9 ≠ d := Ne.symm (ne_of_none hd2 nL9)
      have hL9 := k3.1 _ _ (nin_cons L9d nin_nil) upd_same
      have hb3 : H3 D = some (.lst (bs.map V.int)) := k3.1 _ _ (nin_cons nDd nin_nil) (at_new nL9 hbD)
      have k03 : Keep [d] H H3 := k02.trans (Keep.trans (Keep.refl.new nL9) k3)
      refine Ak.pickP (fun v => v.natAbs < 2 ^ 59 ∧ v ≠ 0 ∧ v ≠ 1) (SqL.of hL9) b0 (by show _ < (3 : Int); omega) (fun x hx => ?_) (fun odd hodd => ?_)
      · (repeat (rcases List.mem_cons.mp hx with rfl | hx; · exact ⟨_, rfl, by decide +kernel⟩))
        exact absurd hx List.not_mem_nil
      clear hL9 k3 k02 nL9 hbD dc2 hd2
      have ltk : (bs.take at_.toNat).length = at_.toNat := by rw [List.length_take]; omega
      have ldr : (bs.drop at_.toNat).length = bs.length - at_.toNat := List.length_drop
      have ldr1 : (bs.drop (at_ + 1).toNat).length = bs.length - (at_ + 1).toNat := List.length_drop
      walk_at "rd"
      rename_i L0 nL0 A nA
      have kA : Keep [] H3 (upd (upd H3 L0 (.lst [.int 0])) A (.lst (bs.map V.int ++ [.int 0]))) := (Keep.refl.new nL0).new nA
      have hA : upd (upd H3 L0 (.lst [.int 0])) A (.lst (bs.map V.int ++ [.int 0])) A = some (.lst ((bs ++ [0]).map V.int)) := by rw [upd_same, List.map_append]; rfl
      generalize upd (upd H3 L0 (.lst [.int 0])) A (.lst (bs.map V.int ++ [.int 0])) = HA at kA hA ⊢
      have hbA := kA.1 _ _ nin_nil hb3
      refine w_slTake (SqL.of hbA) a0 (fun S1 nS1 => ?_)
      rw [← List.map_take]
      walk_at "rd"
      rename_i L1 nL1 P1 nP1
      refine w_slDrop (xs := bs.map V.int) (SqL.of (by walk_at "lk")) a0 (fun S2 nS2 => ?_)
      rw [← List.map_drop]
      refine Ak.w_plusL (xs := (bs.take at_.toNat).map V.int ++ [.int odd]) (ys := (bs.drop at_.toNat).map V.int) (at_new nS2 upd_same) upd_same (by rw [List.length_append, List.length_map, List.length_map, sizeLine_eq]; show _ + 1 + _ ≤ _; omega) (fun B nB => ?_)
      have kB : Keep [] HA (upd (upd (upd (upd (upd HA S1 (.lst ((bs.take at_.toNat).map V.int))) L1 (.lst [.int odd])) P1 (.lst ((bs.take at_.toNat).map V.int ++ [.int odd]))) S2 (.lst ((bs.drop at_.toNat).map V.int))) B (.lst ((bs.take at_.toNat).map V.int ++ [.int odd] ++ (bs.drop at_.toNat).map V.int))) := by walk_at "kp"
      have hB : upd (upd (upd (upd (upd HA S1 (.lst ((bs.take at_.toNat).map V.int))) L1 (.lst [.int odd])) P1 (.lst ((bs.take at_.toNat).map V.int ++ [.int odd]))) S2 (.lst ((bs.drop at_.toNat).map V.int))) B (.lst ((bs.take at_.toNat).map V.int ++ [.int odd] ++ (bs.drop at_.toNat).map V.int)) B = some (.lst ((bs.take at_.toNat ++ [odd] ++ bs.drop at_.toNat).map V.int)) := by rw [upd_same, List.map_append, List.map_append]; rfl
      generalize upd (upd (upd (upd (upd HA S1 (.lst ((bs.take at_.toNat).map V.int))) L1 (.lst [.int odd])) P1 (.lst ((bs.take at_.toNat).map V.int ++ [.int odd]))) S2 (.lst ((bs.drop at_.toNat).map V.int))) B (.lst ((bs.take at_.toNat).map V.int ++ [.int odd] ++ (bs.drop at_.toNat).map V.int)) = HB at kB hB ⊢
      have hbB := kB.1 _ _ nin_nil hbA
      have hAB := kB.1 _ _ nin_nil hA
      clear nS1 nL1 nP1 nS2 nB nL0 nA
      walk_at "rd"
      refine w_slTake (SqL.of hbB) a0 (fun S3 nS3 => ?_)
      rw [← List.map_take]
      walk_at "rd"
      rename_i L2 nL2 P2 nP2
      refine w_slDrop (xs := bs.map V.int) (SqL.of (by walk_at "lk")) (by omega) (fun S4 nS4 => ?_)
      rw [← List.map_drop]
      walk_at "rd"
      obtain ⟨cut, hcut⟩ : ∃ c, c = (if decide (at_ < wi) = true then (1 : Int) else 0) := ⟨_, rfl⟩
      rw [← hcut]
      have cut01 : 0 ≤ cut ∧ cut ≤ 1 := by rw [hcut]; split <;> decide
      refine w_timesL upd_same (by omega) (by omega) (by rw [List.length_map, sizeLine_eq]; exact Nat.le_trans (Nat.mul_le_mul_left _ (show cut.toNat ≤ 1 by omega)) (by omega)) (fun M nM => ?_)
      have fl : (List.replicate cut.toNat ((bs.drop (at_ + 1).toNat).map V.int)).flatten = (if at_ < wi then bs.drop (at_ + 1).toNat else []).map V.int := by
        by_cases h : at_ < wi
        · rw [hcut, if_pos (decide_eq_true h), if_pos h]
          show ([_] : List (List V)).flatten = _
          simp
        · rw [hcut, if_neg (by rw [decide_eq_false h]; decide), if_neg h]
          rfl
      rw [fl]
      have lrs : (if at_ < wi then bs.drop (at_ + 1).toNat else []).length ≤ 16 := by
        split
        · omega
        · simp
      generalize hrs : (if at_ < wi then bs.drop (at_ + 1).toNat else []) = rs at lrs fl ⊢
      refine Ak.w_plusL (xs := (bs.take at_.toNat).map V.int ++ [.int odd]) (ys := rs.map V.int) (at_new nM (at_new nS4 upd_same)) upd_same (by rw [List.length_append, List.length_map, List.length_map, sizeLine_eq]; show _ + 1 + _ ≤ _; omega) (fun C nC => ?_)
      walk_at "rd"
      rename_i L nL
      have kC : Keep [] HB (upd (upd (upd (upd (upd (upd HB S3 (.lst ((bs.take at_.toNat).map V.int))) L2 (.lst [.int odd])) P2 (.lst ((bs.take at_.toNat).map V.int ++ [.int odd]))) S4 (.lst ((bs.drop (at_ + 1).toNat).map V.int))) M (.lst (rs.map V.int))) C (.lst ((bs.take at_.toNat).map V.int ++ [.int odd] ++ rs.map V.int))) := by walk_at "kp"
      have hC : (upd (upd (upd (upd (upd (upd HB S3 (.lst ((bs.take at_.toNat).map V.int))) L2 (.lst [.int odd])) P2 (.lst ((bs.take at_.toNat).map V.int ++ [.int odd]))) S4 (.lst ((bs.drop (at_ + 1).toNat).map V.int))) M (.lst (rs.map V.int))) C (.lst ((bs.take at_.toNat).map V.int ++ [.int odd] ++ rs.map V.int))) C = some (.lst ((bs.take at_.toNat ++ [odd] ++ rs).map V.int)) := by rw [upd_same, List.map_append, List.map_append]; rfl
      generalize upd (upd (upd (upd (upd (upd HB S3 (.lst ((bs.take at_.toNat).map V.int))) L2 (.lst [.int odd])) P2 (.lst ((bs.take at_.toNat).map V.int ++ [.int odd]))) S4 (.lst ((bs.drop (at_ + 1).toNat).map V.int))) M (.lst (rs.map V.int))) C (.lst ((bs.take at_.toNat).map V.int ++ [.int odd] ++ rs.map V.int)) = HC at kC hC nL ⊢
      clear nS3 nL2 nP2 nS4 nM nC
      have hbC := kC.1 _ _ nin_nil hbB
      have hAC := kC.1 _ _ nin_nil hAB
      have hBC := kC.1 _ _ nin_nil hB
      have k3C := (kA.trans kB).trans kC
      have kL : Keep [] HC (upd HC L (.lst [.ref A, .ref B, .ref C])) := Keep.refl.new nL
      have hL : upd HC L (.lst [.ref A, .ref B, .ref C]) L = some (.lst [.ref A, .ref B, .ref C]) := upd_same
      generalize upd HC L (.lst [.ref A, .ref B, .ref C]) = HL at kL hL ⊢
      have hbL := kL.1 _ _ nin_nil hbC
      have small : ∀ x : Int, x ∈ bs → x.natAbs < 2 ^ 59 := fun x hx => by rcases h01 x hx with h | h <;> rw [h] <;> decide
      refine cut_ifTE (fun v H' => ∃ S5 xs5, v = .ref S5 ∧ H' S5 = some (.lst (xs5.map V.int)) ∧ Keep [] HL H' ∧ xs5.length ≤ 16 ∧ (∀ x : Int, x ∈ xs5 → x.natAbs < 2 ^ 59) ∧ ¬ BitsOk xs5 wi) (fun v H' pv => ?_) (fun R rest => ?_)
      · obtain ⟨S5, xs5, rfl, hS5, k5, l5, sm5, no5⟩ := pv
        walk_at "rd"
        rename_i LD nLD LF nLF r6 H6 xs6 e0' e1' dc6 hd6 k6
        have k35 := (k3C.trans kL).trans k5
        have dc' := dc3.keep (S := []) k35 nin_nil none_nil
        have hd' := k35.1 _ _ nin_nil hd3
        have LFd : LF ≠ d := Ne.symm (ne_of_none (at_new nLD hd') nLF)
        have hLF : H6 LF = some (.lst ([.ref A, .ref B, .ref C] ++ [.ref S5])) := k6.1 _ _ (nin_cons LFd nin_nil) upd_same
        have k56 : Keep [d] H' H6 := ((Keep.refl.new nLD).new nLF).trans k6
        have kLH := kL.trans k5
        have hA' := kLH.1 _ _ nin_nil hAC
        have hB' := kLH.1 _ _ nin_nil hBC
        have hC' := kLH.1 _ _ nin_nil hC
        have hA6 := k56.1 _ _ (nin_cons (ints_dice dc' hA') nin_nil) hA'
        have hB6 := k56.1 _ _ (nin_cons (ints_dice dc' hB') nin_nil) hB'
        have hC6 := k56.1 _ _ (nin_cons (ints_dice dc' hC') nin_nil) hC'
        have hS6 := k56.1 _ _ (nin_cons (ints_dice dc' hS5) nin_nil) hS5
        have k06 : Keep [d] H H6 := (k03.trans (k35.mono sub_nil)).trans k56
        have r4 : r6 = 0 ∨ r6 = 1 ∨ r6 = 2 ∨ r6 = 3 := by omega
        clear hA' hB' hC' hA hAB hAC hB hBC hC hS5 hL hbL hbA hbB hbC k6 kLH k35 kL kC kB kA k3C dc3 hd3 hd' dc' nL nLD nLF k5 k56 k03 hb3
        rcases r4 with rfl | rfl | rfl | rfl
        · refine w_ixL (SqL.of hLF) (v := .ref A) rfl ?_
          walk_at "rd"
          rename_i b nb
          refine k b (bs ++ [0]) _ upd_same (by rw [List.length_append]; show _ + 1 ≤ _; omega) (fun x hx => ?_) (fun h => ?_) (dc6.keep (S := []) (Keep.refl.new nb) nin_nil none_nil) (k06.new nb)
          · rcases List.mem_append.mp hx with hx | hx
            · exact small x hx
            · rw [List.mem_singleton.mp hx]; decide
          · have := h.1
            rw [List.length_append] at this
            change ((bs.length + 1 : Nat) : Int) = wi at this
            omega
        · refine w_ixL (SqL.of hLF) (v := .ref B) rfl ?_
          walk_at "rd"
          rename_i b nb
          refine k b (bs.take at_.toNat ++ [odd] ++ bs.drop at_.toNat) _ upd_same (by rw [List.length_append, List.length_append]; show _ + 1 + _ ≤ _; omega) (fun x hx => ?_) (fun h => ?_) (dc6.keep (S := []) (Keep.refl.new nb) nin_nil none_nil) (k06.new nb)
          · rcases List.mem_append.mp hx with hx | hx
            · rcases List.mem_append.mp hx with hx | hx
              · exact small x (List.mem_of_mem_take hx)
              · rw [List.mem_singleton.mp hx]; exact hodd.1
            · exact small x (List.mem_of_mem_drop hx)
          · have := h.2 odd (List.mem_append.mpr (Or.inl (List.mem_append.mpr (Or.inr (List.mem_singleton.mpr rfl)))))
            omega
        · refine w_ixL (SqL.of hLF) (v := .ref C) rfl ?_
          walk_at "rd"
          rename_i b nb
          have srs : ∀ x : Int, x ∈ rs → x ∈ bs := fun x hx => by
            rw [← hrs] at hx
            split at hx
            · exact List.mem_of_mem_drop hx
            · exact absurd hx List.not_mem_nil
          refine k b (bs.take at_.toNat ++ [odd] ++ rs) _ upd_same (by rw [List.length_append, List.length_append]; show _ + 1 + _ ≤ _; rw [← hrs]; split; omega; (show _ + 1 + 0 ≤ _; omega)) (fun x hx => ?_) (fun h => ?_) (dc6.keep (S := []) (Keep.refl.new nb) nin_nil none_nil) (k06.new nb)
          · rcases List.mem_append.mp hx with hx | hx
            · rcases List.mem_append.mp hx with hx | hx
              · exact small x (List.mem_of_mem_take hx)
              · rw [List.mem_singleton.mp hx]; exact hodd.1
            · exact small x (srs x hx)
          · have := h.2 odd (List.mem_append.mpr (Or.inl (List.mem_append.mpr (Or.inr (List.mem_singleton.mpr rfl)))))
            omega
        · refine w_ixL (SqL.of hLF) (v := .ref S5) rfl ?_
          walk_at "rd"
          rename_i b nb
          exact k b xs5 _ upd_same (by omega) sm5 no5 (dc6.keep (S := []) (Keep.refl.new nb) nin_nil none_nil) (k06.new nb)
      · refine Ak.w_ite (fun z => ?_) (fun z => ?_)
        · walk_at "rd"
          refine w_slDrop (SqL.of hbL) (by decide) (fun S5 nS5 => ?_)
          rw [← List.map_drop]
          refine rest _ _ ⟨S5, bs.drop 1, rfl, upd_same, Keep.refl.new nS5, by rw [List.length_drop]; omega, fun x hx => small x (List.mem_of_mem_drop hx), fun h => ?_⟩
          have := h.1
          rw [List.length_drop] at this
          omega
        · walk_at "rd"
          rename_i S5 nS5
          refine rest _ _ ⟨S5, [1], rfl, upd_same, Keep.refl.new nS5, by decide, fun x hx => by rw [List.mem_singleton.mp hx]; decide, fun h => ?_⟩
          have : ((1 : Nat) : Int) = wi := h.1
          omega
end
end Ak

namespace Ak
open PySem PySem.Spec PyProof.Rows L2
def spBounds : Sp := fun vs H Q _ => vs = [] ∧ ∀ H', Keep [] H H' → Q (.bl true) H'
section
variable {P : Program} {w : World} {K : PySem.W.Frag} {mg : Str → Option Value} {base : Heap} {CE CM C1 : Addr}
theorem ok_law_bounds {f : Addr} {fd : FuncData} (F : L2.Fun K "_law_bounds" "_law_bounds" s_l_bounds f fd) (k_Ear : MakX P w K mg base 5 "Ear" CE (spEarX K CE C1)) (k_Mouth : MakX P w K mg base 5 "Mouth" CM (spMouthX K CM C1)) (m_Ear_last : MetX P w K mg base 1 CE "last" (spLast CE)) (m_Mouth_send : MetX P w K mg base 2 CM "send" (spSendK CM))
    (c_judged : CalX P w K mg base 5 "judged" (spJudgedX K C1)) : FnOk P w K mg base (L2.CX P w) 7 f fd [] spBounds := by
  refine Fun.okX F sc_l_bounds (fun vs H Q E h => ?_) (fun cdv A outer s H vs Q E hr h => ?_)
  · obtain ⟨rfl, _⟩ := h
    rfl
  · obtain ⟨rfl, k⟩ := h
    refine ⟨_, (pss_cons (ps_for (passes_of rfl) rfl (Ak.pi_listK (K := K) (by rfl) (pe_lst (pa_cons (pe_tup (pa_cons pe_int (pa_cons pe_int (pa_cons pe_int (pa_cons pe_int pa_nil))))) (pa_cons (pe_tup (pa_cons pe_int (pa_cons pe_int (pa_cons pe_int (pa_cons pe_int pa_nil))))) pa_nil)))) (pg_name (i := 0) sc_l_bounds.nd rfl (Or.inl rfl))
      (pss_one (ps_if (PW.pt (pw_or (pt_cmpR (Ak.op_neK (K := K) (by rfl) hr.units) (Ak.pe_mx0 (Ak.pe_kx k_Ear hr (by walk_at "lv") (by rfl) (takes_of rfl rfl rfl rfl) (pa_cons (pv 0) pa_nil)) m_Ear_last hr (by walk_at "lv") (takes_of rfl rfl rfl rfl)) (pe_un un_neg pe_int) (nomark _)) (pw_or (pt_cmpR (Ak.op_neK (K := K) (by rfl) hr.units) (Ak.pe_mx0 (Ak.pe_kx k_Mouth hr (by walk_at "lv") (by rfl) (takes_of rfl rfl rfl rfl) (pa_cons (pv 0) pa_nil)) m_Mouth_send hr (by walk_at "lv") (takes_of rfl rfl rfl rfl)) (pe_tup (pa_cons pe_int (pa_cons pe_int pa_nil))) (nomark _)) (pw_or1 (pt_cmpR (Ak.op_neK (K := K) (by rfl) hr.units) (Ak.pe_cx c_judged hr (by walk_at "lv") (by rfl) (takes_of rfl rfl rfl rfl) (pa_cons (pv 0) pa_nil)) (pe_tup (pa_cons pe_str pa_nil)) (nomark _))))))
      (pss_one (ps_ret pe_bl))
      pss_nil)))
      (pss_one (ps_ret pe_bl))), ?_⟩
    have e0 : L2.start N_l_bounds [] = [none] := rfl
    rw [e0]
    try dsimp only [cxOf]
    walk_at "rd"
    rename_i t1 n1 t2 n2 L nL
    have k0 : Keep [] H (upd (upd (upd H t1 (.tup [.int 64, .int 16, .int 8, .int 16])) t2 (.tup [.int 2, .int 0, .int 0, .int 1])) L (.lst [.ref t1, .ref t2])) := ((Keep.refl.new n1).new n2).new nL
    have h1 : upd (upd (upd H t1 (.tup [.int 64, .int 16, .int 8, .int 16])) t2 (.tup [.int 2, .int 0, .int 0, .int 1])) L (.lst [.ref t1, .ref t2]) t1 = some (.tup [.int 64, .int 16, .int 8, .int 16]) := at_new nL (at_new n2 upd_same)
    have h2 : upd (upd (upd H t1 (.tup [.int 64, .int 16, .int 8, .int 16])) t2 (.tup [.int 2, .int 0, .int 0, .int 1])) L (.lst [.ref t1, .ref t2]) t2 = some (.tup [.int 2, .int 0, .int 0, .int 1]) := at_new nL upd_same
    have hL : upd (upd (upd H t1 (.tup [.int 64, .int 16, .int 8, .int 16])) t2 (.tup [.int 2, .int 0, .int 0, .int 1])) L (.lst [.ref t1, .ref t2]) L = some (.lst [.ref t1, .ref t2]) := upd_same
    generalize upd (upd (upd H t1 (.tup [.int 64, .int 16, .int 8, .int 16])) t2 (.tup [.int 2, .int 0, .int 0, .int 1])) L (.lst [.ref t1, .ref t2]) = H0 at k0 h1 h2 hL ⊢
    refine Ak.l_forList (xs := [.ref t1, .ref t2]) (SqL.of hL) (fun _ σ' H' => ∃ v0, σ' = [v0] ∧ Keep [] H0 H') ⟨none, rfl, Keep.refl⟩ (fun j σ' H' _ pv => by obtain ⟨_, _, kk⟩ := pv; exact SqL.of (kk.1 _ _ nin_nil hL)) (fun j x σ' H' hx pv => ?_) (fun σ' H' pv => ?_)
    · obtain ⟨v0, rfl, kk⟩ := pv
      obtain ⟨t, M, W, l, a, rfl, ht, so, sf⟩ : ∃ t M W l a, x = .ref t ∧ H' t = some (.tup [.int M, .int W, .int l, .int a]) ∧ SetOk M W l a ∧ l + a < M := by
        match j, hx with
        | 0, hx => cases hx; exact ⟨t1, 64, 16, 8, 16, rfl, kk.1 _ _ nin_nil h1, ⟨by decide, by decide, by decide, by decide, by decide, by decide, by decide, by decide⟩, by decide⟩
        | 1, hx => cases hx; exact ⟨t2, 2, 0, 0, 1, rfl, kk.1 _ _ nin_nil h2, ⟨by decide, by decide, by decide, by decide, by decide, by decide, by decide, by decide⟩, by decide⟩
        | j + 2, hx => simp at hx
      walk_at "rd"
      intro p dx np ndx nxp
      have kA : Keep [] H' (upd (upd H' dx (.own p)) p (.ins CE dx [])) := (Keep.refl.own ndx).own np
      refine ⟨p, t, M, W, l, a, dx, rfl, SqT.of (kA.1 _ _ nin_nil ht), upd_same, fun wd hb => absurd so (bad_ok hb), fun _ c H2 hE nc k2 => ⟨rfl, ?_⟩⟩
      have kB : Keep [] H' H2 := Keep.fresh k2 (fun b hb => by rw [List.mem_singleton.mp hb]; exact np) kA
      obtain ⟨dxe, hpe, hce⟩ := id hE
      walk_at "rd"
      refine ⟨p, c, M, W, l, -1, [], rfl, hE, ?_⟩
      walk_at "rd"
      refine Ak.w_iteN (fun z => absurd rfl z) (fun _ => ?_)
      clear hpe hce hE k2 nc kA
      have ht2 := kB.1 _ _ nin_nil ht
      walk_at "rd"
      intro p2 dx2 np2 ndx2 nxp2
      have kC : Keep [] H2 (upd (upd H2 dx2 (.own p2)) p2 (.ins CM dx2 [])) := (Keep.refl.own ndx2).own np2
      refine ⟨p2, t, M, W, l, a, dx2, rfl, SqT.of (kC.1 _ _ nin_nil ht2), upd_same, fun wd hb => absurd so (bad_ok hb), fun _ c2 H3 hM nc2 k3 => ⟨rfl, ?_⟩⟩
      have kD : Keep [] H2 H3 := Keep.fresh k3 (fun b hb => by rw [List.mem_singleton.mp hb]; exact np2) kC
      obtain ⟨dxm, hpm, hcm⟩ := id hM
      have a1 := so.a0
      have M0 := so.m0
      walk_at "rd"
      refine ⟨p2, c2, M, W, a, -1, -1, [], rfl, hM, by omega, by omega, fun t3 H4 nt3 ht3 k4 => ?_⟩
      have kE : Keep [] H2 H4 := Keep.fresh k4 (fun b hb => by rw [List.mem_singleton.mp hb]; exact np2) kD
      have ht4 := kE.1 _ _ nin_nil ht2
      clear hpm hcm hM k3 nc2 kC kD k4
      walk_at "rd"
      rename_i t4 nt4
      refine w_neT (SqT.of (at_new nt4 ht3)) (SqT.of upd_same) rfl rfl ?_
      have e0 : ((-1 : Int) + 1) % M = 0 := Int.zero_emod M
      have kF : Keep [] H4 (upd H4 t4 (.tup [.int 0, .int 0])) := Keep.refl.new nt4
      generalize upd H4 t4 (.tup [.int 0, .int 0]) = H5 at kF ⊢
      have ht5 := kF.1 _ _ nin_nil ht4
      walk_at "rd"
      refine Ak.w_iteN (fun z => absurd (by rw [e0]; rfl) z) (fun _ => ?_)
      walk_at "rd"
      refine ⟨t, M, W, l, a, rfl, SqT.of ht5, fun wd hb => absurd so (bad_ok hb), fun _ => ⟨sf, fun t6 H6 nt6 ht6 k6 => ?_⟩⟩
      walk_at "rd"
      rename_i t7 nt7
      refine w_neT (SqT.of (at_new nt7 ht6)) (SqT.of upd_same) (by decide +kernel) (by decide +kernel) ?_
      walk_at "rd"
      refine Ak.w_iteN (fun z => absurd rfl z) (fun _ => ?_)
      walk_at "rd"
      exact ⟨_, rfl, kk.trans (kB.trans (kE.trans (kF.trans (k6.new nt7))))⟩
    · obtain ⟨v0, rfl, kk⟩ := pv
      walk_at "rd"
      exact k _ (k0.trans kk)
end
end Ak

namespace Ak
open PySem PySem.Spec PyProof.Rows L2 LamX
theorem LamAt.keepW {H : Hp} {q : Str} {cells : List (Str × Addr)} {F : LF} {f W : Addr} {xs ys : List V} (x : LamAt H q cells F f) (hW : H W = some (.lst xs)) : LamAt (upd H W (.lst ys)) q cells F f := by
  obtain ⟨c', dV, h1, h2, h3⟩ := x
  have n1 : c' ≠ W := ne_of h1 hW (by unfold CodeO; intro z; cases z)
  have n2 : f ≠ W := ne_of h2 hW (by unfold LamO; intro z; cases z)
  refine ⟨c', dV, (upd_ne n1).trans h1, (upd_ne n2).trans h2, ?_⟩
  rcases h3 with h | ⟨e0, dt, zs, e1, e2, e3⟩
  · exact Or.inl h
  · exact Or.inr ⟨e0, dt, zs, e1, (upd_ne (ne_of e2 hW (by intro z; cases z))).trans e2, e3⟩
/-- the lambda at f, called where P holds, is told as out -/
def WorkAt (G : LF → (XK → TE) → Prop) (C1 C2 C3 C4 C5 C6 : Addr) (q : Str) (cells : List (Str × Addr)) (P : L2.St → Hp → Prop) (out : List V) (H : Hp) (f : Addr) : Prop :=
  ∃ F t, G F t ∧ LamAt H q cells F f ∧ ∀ (σ1 : L2.St) (H1 : Hp) (Qk : VK), P σ1 H1 → (∀ p H2, Keep [] H1 H2 → H2 p = some (.tup out) → Qk (.ref p) H2) →
    t (fun cls d H' => ∃ o, ToldW C1 C2 C3 C4 C5 C6 H' cls d o ∧ ∀ p H2, H' p = none → Keep [] H' H2 → H2 p = some (.tup o) → Qk (.ref p) H2) σ1 H1 Qk
theorem WorkAt.ext {G : LF → (XK → TE) → Prop} {C1 C2 C3 C4 C5 C6 : Addr} {q : Str} {cells : List (Str × Addr)} {P : L2.St → Hp → Prop} {out : List V} {H H' : Hp} {f : Addr} (x : WorkAt G C1 C2 C3 C4 C5 C6 q cells P out H f) (e : ExtN H H') : WorkAt G C1 C2 C3 C4 C5 C6 q cells P out H' f := by
  obtain ⟨F, t, g, la, r⟩ := x
  exact ⟨F, t, g, la.ext e, r⟩
theorem WorkAt.keepW {G : LF → (XK → TE) → Prop} {C1 C2 C3 C4 C5 C6 : Addr} {q : Str} {cells : List (Str × Addr)} {P : L2.St → Hp → Prop} {out : List V} {H : Hp} {f W : Addr} {xs ys : List V} (x : WorkAt G C1 C2 C3 C4 C5 C6 q cells P out H f) (hW : H W = some (.lst xs)) : WorkAt G C1 C2 C3 C4 C5 C6 q cells P out (upd H W (.lst ys)) f := by
  obtain ⟨F, t, g, la, r⟩ := x
  exact ⟨F, t, g, la.keepW hW, r⟩
/-- the works as they stand in the list at W -/
structure Works (G : LF → (XK → TE) → Prop) (C1 C2 C3 C4 C5 C6 : Addr) (q : Str) (cells : List (Str × Addr)) (P : L2.St → Hp → Prop) (out : List V) (H : Hp) (W : Addr) (fs : List Addr) : Prop where
  w : H W = some (.lst (fs.map V.ref))
  r : ∀ f, f ∈ fs → WorkAt G C1 C2 C3 C4 C5 C6 q cells P out H f
section
variable {G : LF → (XK → TE) → Prop} {C1 C2 C3 C4 C5 C6 : Addr} {q : Str} {cells : List (Str × Addr)} {P : L2.St → Hp → Prop} {out : List V} {H H' : Hp} {W f : Addr} {fs : List Addr}
theorem Works.ext (x : Works G C1 C2 C3 C4 C5 C6 q cells P out H W fs) (e : ExtN H H') : Works G C1 C2 C3 C4 C5 C6 q cells P out H' W fs := ⟨e _ _ x.w (fun _ z => by cases z), fun f hf => (x.r f hf).ext e⟩
theorem Works.add (x : Works G C1 C2 C3 C4 C5 C6 q cells P out H W fs) (y : WorkAt G C1 C2 C3 C4 C5 C6 q cells P out H f) : Works G C1 C2 C3 C4 C5 C6 q cells P out (upd H W (.lst (fs.map V.ref ++ [.ref f]))) W (fs ++ [f]) :=
  ⟨by rw [upd_same, List.map_append]; rfl, fun g hg => by
    rcases List.mem_append.mp hg with hg | hg
    · exact (x.r g hg).keepW x.w
    · rw [List.mem_singleton.mp hg]; exact y.keepW x.w⟩
theorem Works.one (n : H W = none) (y : WorkAt G C1 C2 C3 C4 C5 C6 q cells P out H f) : Works G C1 C2 C3 C4 C5 C6 q cells P out (upd H W (.lst [.ref f])) W [f] :=
  ⟨upd_same, fun g hg => by rw [List.mem_singleton.mp hg]; exact y.ext (fun b o e _ => (upd_ne (ne_of_none e n)).trans e)⟩
theorem Works.three {f2 f3 : Addr} (n : H W = none) (y : WorkAt G C1 C2 C3 C4 C5 C6 q cells P out H f) (y2 : WorkAt G C1 C2 C3 C4 C5 C6 q cells P out H f2) (y3 : WorkAt G C1 C2 C3 C4 C5 C6 q cells P out H f3) : Works G C1 C2 C3 C4 C5 C6 q cells P out (upd H W (.lst [.ref f, .ref f2, .ref f3])) W [f, f2, f3] :=
  have e : ExtN H (upd H W (.lst [.ref f, .ref f2, .ref f3])) := fun _ _ e _ => (upd_ne (ne_of_none e n)).trans e
  ⟨upd_same, fun g hg => by
    rcases List.mem_cons.mp hg with rfl | hg
    · exact y.ext e
    · rcases List.mem_cons.mp hg with rfl | hg
      · exact y2.ext e
      · rw [List.mem_singleton.mp hg]; exact y3.ext e⟩
end
section
variable {T : List (Addr × Str)} {q : Str} {cells : List (Str × Addr)} {G : LF → (XK → TE) → Prop} {t : XK → TE} {σ : L2.St} {H : Hp} {Q : VK} {wi : TI} {g : TG} {tt : L2.St → TT} {te : TE} {vs : List Nat} {TT : (XK → Hp → VK → Prop) → Hp → VK → Prop} {σ0 : L2.St}
theorem w_lamP (ht : Tabs T H) (h : ∀ (f : Addr) (F : LF) (H1 : Hp), G F t → ExtN H H1 → (∀ b, H1 b = none → H b = none) → Tabs T H1 → H f = none → LamAt H1 q cells F f → Q (.ref f) H1) : tLamP T q cells G t σ H Q := ⟨ht, h⟩
theorem w_lcI (h : tLc wi g (tt σ) te vs σ H Q) : tLcI wi g tt te vs σ H Q := h
theorem w_toldB {C1 C2 C3 C4 C5 C6 : Addr} {P : L2.St → Hp → Prop} {out : List V} {f : Addr} (hte : ∀ R : VK, R (.ref f) H → te σ H R) (y : WorkAt G C1 C2 C3 C4 C5 C6 q cells P out H f) (p : P σ0 H) (h : ∀ p H2, Keep [] H H2 → H2 p = some (.tup out) → Q (.ref p) H2) : tToldB q cells G (TTold3 C1 C2 C3 C4 C5 C6) te σ0 σ H Q := by
  obtain ⟨F, t, g, la, r⟩ := y
  exact hte _ ⟨f, F, t, rfl, g, la, fun c' dV e1 e2 => ⟨e1, e2, r σ0 H Q p h⟩⟩
end
theorem bad_atom {m w l a : Int} {wd : Str} (x : BadS m w l a wd) : PyData.strOk wd = true := by
  rcases x with ⟨e, _⟩ | ⟨e, _⟩ | ⟨e, _⟩ | ⟨e, _⟩ <;> rw [e] <;> decide +kernel
/-- what a refusal by a word is told as -/
theorem raises_word {C1 C2 C3 C4 C5 C6 : Addr} {H : Hp} {Qk : VK} {wd : Str} (h : ∀ p H2, Keep [] H H2 → H2 p = some (.tup [.str "setting", .str wd]) → Qk (.ref p) H2) : RaisesW C1 H (fun cls d H' => ∃ o, ToldW C1 C2 C3 C4 C5 C6 H' cls d o ∧ ∀ p H2, H' p = none → Keep [] H' H2 → H2 p = some (.tup o) → Qk (.ref p) H2) wd :=
  fun d H' nd k hd => ⟨_, ToldW.setting hd rfl, fun p H2 np k2 hp => h p H2 (k.trans k2) hp⟩
section
variable {K : PySem.W.Frag} {CE CM CL C1 C2 C3 : Addr} {σ : L2.St} {H : Hp} {Q : VK} {E : XK} {bq : Addr} {m w l a : Int} {wd : Str}
theorem r_Ear (hs : σ[4]? = some (some (.ref bq))) (hb : H bq = some (.tup [.int m, .int w, .int l, .int a])) (bad : BadS m w l a wd) (hr : RaisesW C1 H E wd) : tMakeX CE (spEarX K CE C1) (wOut E) (tCons (tVar 4) tNil) σ H Q := by
  refine ⟨.ref bq, hs, fun p dx np ndx nxp => ?_⟩
  have k0 : Keep [] H (upd (upd H dx (.own p)) p (.ins CE dx [])) := (Keep.refl.own ndx).own np
  refine ⟨p, bq, m, w, l, a, dx, rfl, SqT.of (k0.1 _ _ nin_nil hb), upd_same, fun wd2 hb2 => ?_, fun so => absurd so (bad_ok bad)⟩
  rw [bad_one_w hb2 bad]
  exact hr.keep k0
theorem r_Mouth (hs : σ[4]? = some (some (.ref bq))) (hb : H bq = some (.tup [.int m, .int w, .int l, .int a])) (bad : BadS m w l a wd) (hr : RaisesW C1 H E wd) : tMakeX CM (spMouthX K CM C1) (wOut E) (tCons (tVar 4) tNil) σ H Q := by
  refine ⟨.ref bq, hs, fun p dx np ndx nxp => ?_⟩
  have k0 : Keep [] H (upd (upd H dx (.own p)) p (.ins CM dx [])) := (Keep.refl.own ndx).own np
  refine ⟨p, bq, m, w, l, a, dx, rfl, SqT.of (k0.1 _ _ nin_nil hb), upd_same, fun wd2 hb2 => ?_, fun so => absurd so (bad_ok bad)⟩
  rw [bad_one_w hb2 bad]
  exact hr.keep k0
theorem r_played (hs : σ[4]? = some (some (.ref bq))) (hb : H bq = some (.tup [.int m, .int w, .int l, .int a])) (bad : BadS m w l a wd) (hr : RaisesW C1 H E wd) : tCallX (spPlayedB K C1) (wOut E) (tCons (tVar 4) (tCons (tLst (tCons (tTup (tCons (tC (.str "x")) tNil)) tNil)) tNil)) σ H Q := by
  refine ⟨.ref bq, hs, ?_⟩
  refine ⟨(Nat.le_of_ble_eq_true rfl : (1 : Nat) ≤ sizeLine), fun t nt => ⟨(Nat.le_of_ble_eq_true rfl : (1 : Nat) ≤ sizeLine), fun L nL => ?_⟩⟩
  have k0 : Keep [] H (upd (upd H t (.tup [.str "x"])) L (.lst [.ref t])) := (Keep.refl.new nt).new nL
  exact ⟨bq, _, m, w, l, a, wd, rfl, SqT.of (k0.1 _ _ nin_nil hb), bad, hr.keep k0⟩
theorem r_judged (hs : σ[4]? = some (some (.ref bq))) (hb : H bq = some (.tup [.int m, .int w, .int l, .int a])) (bad : BadS m w l a wd) (hr : RaisesW C1 H E wd) : tCallX (spJudgedX K C1) (wOut E) (tCons (tVar 4) tNil) σ H Q := by
  refine ⟨.ref bq, hs, ?_⟩
  exact ⟨bq, m, w, l, a, rfl, SqT.of hb, fun wd2 hb2 => by rw [bad_one_w hb2 bad]; exact hr, fun so => absurd so (bad_ok bad)⟩
theorem r_written (hs : σ[4]? = some (some (.ref bq))) (hb : H bq = some (.tup [.int m, .int w, .int l, .int a])) (bad : BadS m w l a wd) (hr : RaisesW C1 H E wd) : tCallX (spWrittenN K C1 C2 C3) (wOut E) (tCons (tVar 4) (tCons (tTup (tCons (tC (.int 99)) (tCons (tTup tNil) tNil))) tNil)) σ H Q := by
  refine ⟨.ref bq, hs, ?_⟩
  refine ⟨Nat.zero_le _, fun b nb => ⟨(Nat.le_of_ble_eq_true rfl : (2 : Nat) ≤ sizeLine), fun t nt => ?_⟩⟩
  have k0 : Keep [] H (upd (upd H b (.tup [])) t (.tup [.int 99, .ref b])) := (Keep.refl.new nb).new nt
  exact ⟨bq, t, b, [], 99, m, w, l, a, rfl, SqT.of (k0.1 _ _ nin_nil hb), SqT.of upd_same, SqT.of (at_new nt upd_same), Nat.zero_le _, by decide, fun x hx => absurd hx List.not_mem_nil, fun wd2 hb2 => by rw [bad_one_w hb2 bad]; exact hr.keep k0, fun so => absurd so (bad_ok bad)⟩
theorem r_read (hs : σ[4]? = some (some (.ref bq))) (hb : H bq = some (.tup [.int m, .int w, .int l, .int a])) (bad : BadS m w l a wd) (hr : RaisesW C1 H E wd) : tCallX (spReadB K C1) (wOut E) (tCons (tVar 4) (tCons (tC (.str "x")) tNil)) σ H Q := by
  refine ⟨.ref bq, hs, ?_⟩
  exact ⟨bq, _, m, w, l, a, wd, rfl, SqT.of hb, bad, hr⟩
theorem r_fewest (hs : σ[4]? = some (some (.ref bq))) (hb : H bq = some (.tup [.int m, .int w, .int l, .int a])) (bad : BadS m w l a wd) (hwd : wd = "late" ∨ wd = "ahead") (hr : RaisesW C1 H E wd) : tCallX (spFewestB C1) (wOut E) (tCons (tOp (rIx K) (tVar 4) (tC (.int 2))) (tCons (tOp (rIx K) (tVar 4) (tC (.int 3))) tNil)) σ H Q := by
  refine ⟨.ref bq, hs, ?_⟩
  refine Ak.w_ixT (SqT.of hb) (v := .int l) rfl ?_
  refine ⟨.ref bq, hs, ?_⟩
  refine Ak.w_ixT (SqT.of hb) (v := .int a) rfl ?_
  refine ⟨l, a, wd, rfl, ?_, hr⟩
  have d1 : ¬ Str.ofString "marks" = "late" := by decide +kernel
  have d2 : ¬ Str.ofString "marks" = "ahead" := by decide +kernel
  have d3 : ¬ Str.ofString "wide" = "late" := by decide +kernel
  have d4 : ¬ Str.ofString "wide" = "ahead" := by decide +kernel
  rcases bad with ⟨e, _⟩ | ⟨e, _⟩ | ⟨e, _, _, h⟩ | ⟨e, _, _, h1, h2⟩
  · rw [e] at hwd; exact (hwd.elim d1 d2).elim
  · rw [e] at hwd; exact (hwd.elim d3 d4).elim
  · exact Or.inl ⟨e, h⟩
  · exact Or.inr ⟨e, h1, h2⟩
end
theorem eqV_str {s a : Str} : eqV (.str a) (.str s) = decide (a = s) := by
  unfold eqV
  rw [Bool.eq_iff_iff]
  by_cases h : a = s
  · subst h; simp
  · simp [h]
theorem inV_two {s a b : Str} : inV (.str s) [.str a, .str b] = decide (s = a ∨ s = b) := by
  show (eqV (.str a) (.str s) || (eqV (.str b) (.str s) || false)) = _
  rw [eqV_str, eqV_str, Bool.or_false]
  by_cases h : a = s
  · rw [decide_eq_true h, decide_eq_true (Or.inl h.symm)]; rfl
  · by_cases h2 : b = s
    · rw [decide_eq_true h2, decide_eq_true (Or.inr h2.symm), Bool.or_true]
    · rw [decide_eq_false h, decide_eq_false h2, decide_eq_false (fun z => z.elim (fun y => h y.symm) (fun y => h2 y.symm))]; rfl
theorem map_ref {fs : List Addr} {i : Nat} {x : V} (hx : (fs.map V.ref)[i]? = some x) : ∃ f, fs[i]? = some f ∧ V.ref f = x := by
  rw [List.getElem?_map] at hx
  cases e : fs[i]? with
  | none => rw [e] at hx; cases hx
  | some c => rw [e] at hx; exact ⟨c, rfl, Option.some.inj hx⟩
theorem atoms_sw {m w l a : Int} {wd : Str} (x : BadS m w l a wd) : [V.str "setting", V.str wd].all atomV = true := by
  show (atomV _ && (atomV _ && true)) = true
  rw [show atomV (.str "setting") = true by decide +kernel, show atomV (.str wd) = true from bad_atom x]
  rfl
section
variable {CL C1 : Addr} {σ : L2.St} {H : Hp} {Q : VK} {E : XK} {r t : Int} {wd : Str}
theorem r_Load (h9 : σ[9]? = some (some (.int r))) (h10 : σ[10]? = some (some (.int t))) (bad : (wd = "room" ∧ ¬ (1 ≤ r ∧ r ≤ 8)) ∨ (wd = "wait" ∧ (1 ≤ r ∧ r ≤ 8) ∧ ¬ (1 ≤ t ∧ t ≤ 20))) (hr : RaisesW C1 H E wd) : tMakeX CL (spLoadB CL C1) (wOut E) (tCons (tVar 9) (tCons (tVar 10) tNil)) σ H Q := by
  refine ⟨.int r, h9, .int t, h10, fun p dx np ndx nxp => ?_⟩
  have kL : Keep [] H (upd (upd H dx (.own p)) p (.ins CL dx [])) := (Keep.refl.own ndx).own np
  exact ⟨p, r, t, dx, wd, rfl, upd_same, bad, hr.keep kL⟩
theorem r_Load8 (h10 : σ[10]? = some (some (.int t))) (bad : (wd = "room" ∧ ¬ ((1 : Int) ≤ 8 ∧ (8 : Int) ≤ 8)) ∨ (wd = "wait" ∧ ((1 : Int) ≤ 8 ∧ (8 : Int) ≤ 8) ∧ ¬ (1 ≤ t ∧ t ≤ 20))) (hr : RaisesW C1 H E wd) : tMakeX CL (spLoadB CL C1) (wOut E) (tCons (tC (.int 8)) (tCons (tVar 10) tNil)) σ H Q := by
  refine ⟨.int t, h10, fun p dx np ndx nxp => ?_⟩
  have kL : Keep [] H (upd (upd H dx (.own p)) p (.ins CL dx [])) := (Keep.refl.own ndx).own np
  exact ⟨p, 8, t, dx, wd, rfl, upd_same, bad, hr.keep kL⟩
end
/-! ### marks and bits refused -/
/-- what stands where the law's second and third lists are called -/
structure EMs (CE CM : Addr) (q bb p ce p9 ce9 : Addr) (m w l a mk : Int) (bs : List Int) (σ : L2.St) (H : Hp) : Prop where
  s3 : σ[3]? = some (some (.ref q))
  s11 : σ[11]? = some (some (.int mk))
  s12 : σ[12]? = some (some (.ref bb))
  s13 : σ[13]? = some (some (.ref p))
  s14 : σ[14]? = some (some (.ref p9))
  q : H q = some (.tup [.int m, .int w, .int l, .int a])
  b : H bb = some (.tup (bs.map V.int))
  e : EarAt CE H p ce m w l (-1) []
  m : MouthAt CM H p9 ce9 m w a (-1) (-1) []
section
variable {K : PySem.W.Frag} {CE CM C1 C2 C3 : Addr} {σ : L2.St} {H : Hp} {Q : VK} {E : XK} {q bb p ce p9 ce9 : Addr} {m w l a mk : Int} {bs : List Int}
theorem r_come (x : EMs CE CM q bb p ce p9 ce9 m w l a mk bs σ H) (hk : mk.natAbs < 2 ^ 59) (no : ¬ MarkOk mk m) (hr : ∀ H', Keep [] H H' → E (.ref C2) none H') : tMethX CE "come" (spComeB CE C2) (wOut E) (tVar 13) (tCons (tVar 11) tNil) σ H Q := by
  obtain ⟨dx, hp, hc⟩ := id x.e
  exact ⟨.ref p, x.s13, p, dx, _, rfl, hp, rfl, .int mk, x.s11, p, ce, mk, m, w, l, -1, [], rfl, x.e, hk, no, hr⟩
theorem r_tell (x : EMs CE CM q bb p ce p9 ce9 m w l a mk bs σ H) (hr : ∀ H', Keep [] H H' → E (.ref C3) none H') : tMethX CE "tell" (spTellB CE C3) (wOut E) (tVar 13) tNil σ H Q := by
  obtain ⟨dx, hp, hc⟩ := id x.e
  exact ⟨.ref p, x.s13, p, dx, _, rfl, hp, rfl, p, ce, m, w, l, -1, [], rfl, x.e, by decide, hr⟩
theorem r_hearM (x : EMs CE CM q bb p ce p9 ce9 m w l a mk bs σ H) (so : SetOk m w l a) (lb : bs.length ≤ 20) (sm : ∀ y : Int, y ∈ bs → y.natAbs < 2 ^ 59) (hk : mk.natAbs < 2 ^ 59) (no : ¬ MarkOk mk m) (hr : ∀ H', Keep [] H H' → E (.ref C2) none H') : tMethX CM "hear" (spHearB K CM C2 C3) (wOut E) (tVar 14) (tCons (tTup (tCons (tVar 11) (tCons (tVar 12) tNil))) tNil) σ H Q := by
  obtain ⟨dx, hp, hc⟩ := id x.m
  have w0 := so.w0
  have w1 := so.w1
  refine ⟨.ref p9, x.s14, p9, dx, _, rfl, hp, rfl, .int mk, x.s11, .ref bb, x.s12, (Nat.le_of_ble_eq_true rfl : (2 : Nat) ≤ sizeLine), fun t nt => ?_⟩
  have k0 : Keep [] H (upd H t (.tup [.int mk, .ref bb])) := Keep.refl.new nt
  exact ⟨p9, ce9, t, bb, bs, mk, m, w, a, -1, -1, [], rfl, x.m.keep k0 nin_nil nin_nil, SqT.of upd_same, SqT.of (k0.1 _ _ nin_nil x.b), by omega, by omega, hk, sm, fun _ H' k' => hr _ (k0.trans k'), fun ok => absurd ok no⟩
theorem r_hear0 (x : EMs CE CM q bb p ce p9 ce9 m w l a mk bs σ H) (so : SetOk m w l a) (lb : bs.length ≤ 20) (sm : ∀ y : Int, y ∈ bs → y.natAbs < 2 ^ 59) (no : ¬ BitsOk bs w) (hr : ∀ H', Keep [] H H' → E (.ref C3) none H') : tMethX CM "hear" (spHearB K CM C2 C3) (wOut E) (tVar 14) (tCons (tTup (tCons (tC (.int 0)) (tCons (tVar 12) tNil))) tNil) σ H Q := by
  obtain ⟨dx, hp, hc⟩ := id x.m
  have w0 := so.w0
  have w1 := so.w1
  have m0 := so.m0
  refine ⟨.ref p9, x.s14, p9, dx, _, rfl, hp, rfl, .ref bb, x.s12, (Nat.le_of_ble_eq_true rfl : (2 : Nat) ≤ sizeLine), fun t nt => ?_⟩
  have k0 : Keep [] H (upd H t (.tup [.int 0, .ref bb])) := Keep.refl.new nt
  exact ⟨p9, ce9, t, bb, bs, 0, m, w, a, -1, -1, [], rfl, x.m.keep k0 nin_nil nin_nil, SqT.of upd_same, SqT.of (k0.1 _ _ nin_nil x.b), by omega, by omega, by decide, sm, fun z => absurd ⟨Int.le_refl _, by omega⟩ z, fun _ => ⟨no, fun H' k' => hr _ (k0.trans k')⟩⟩
theorem r_writtenM (x : EMs CE CM q bb p ce p9 ce9 m w l a mk bs σ H) (so : SetOk m w l a) (lb : bs.length ≤ 20) (sm : ∀ y : Int, y ∈ bs → y.natAbs < 2 ^ 59) (hk : mk.natAbs < 2 ^ 59) (no : ¬ MarkOk mk m) (hr : ∀ H', Keep [] H H' → E (.ref C2) none H') : tCallX (spWrittenN K C1 C2 C3) (wOut E) (tCons (tVar 3) (tCons (tTup (tCons (tVar 11) (tCons (tVar 12) tNil))) tNil)) σ H Q := by
  refine ⟨.ref q, x.s3, .int mk, x.s11, .ref bb, x.s12, (Nat.le_of_ble_eq_true rfl : (2 : Nat) ≤ sizeLine), fun t nt => ?_⟩
  have k0 : Keep [] H (upd H t (.tup [.int mk, .ref bb])) := Keep.refl.new nt
  exact ⟨q, t, bb, bs, mk, m, w, l, a, rfl, SqT.of (k0.1 _ _ nin_nil x.q), SqT.of upd_same, SqT.of (k0.1 _ _ nin_nil x.b), by omega, hk, sm, fun w2 hb => absurd so (bad_ok hb), fun _ => ⟨fun _ H' k' => hr _ (k0.trans k'), fun ok => absurd ok no⟩⟩
theorem r_written0 (x : EMs CE CM q bb p ce p9 ce9 m w l a mk bs σ H) (so : SetOk m w l a) (lb : bs.length ≤ 20) (sm : ∀ y : Int, y ∈ bs → y.natAbs < 2 ^ 59) (no : ¬ BitsOk bs w) (hr : ∀ H', Keep [] H H' → E (.ref C3) none H') : tCallX (spWrittenN K C1 C2 C3) (wOut E) (tCons (tVar 3) (tCons (tTup (tCons (tC (.int 0)) (tCons (tVar 12) tNil))) tNil)) σ H Q := by
  have m0 := so.m0
  refine ⟨.ref q, x.s3, .ref bb, x.s12, (Nat.le_of_ble_eq_true rfl : (2 : Nat) ≤ sizeLine), fun t nt => ?_⟩
  have k0 : Keep [] H (upd H t (.tup [.int 0, .ref bb])) := Keep.refl.new nt
  exact ⟨q, t, bb, bs, 0, m, w, l, a, rfl, SqT.of (k0.1 _ _ nin_nil x.q), SqT.of upd_same, SqT.of (k0.1 _ _ nin_nil x.b), by omega, by decide, sm, fun w2 hb => absurd so (bad_ok hb), fun _ => ⟨fun z => absurd ⟨Int.le_refl _, by omega⟩ z, fun _ => ⟨no, fun H' k' => hr _ (k0.trans k')⟩⟩⟩
end
section
variable {C : Addr} {H H' : Hp} {p c W : Addr} {m w l g a : Int} {cs ks : List Int} {xs : List V}
theorem ear_ext (x : EarAt C H p c m w l g cs) (e : ExtN H H') : EarAt C H' p c m w l g cs := by
  obtain ⟨dx, h1, h2⟩ := x
  exact ⟨dx, e _ _ h1 (fun _ z => by cases z), e _ _ h2 (fun _ z => by cases z)⟩
theorem mouth_ext (x : MouthAt C H p c m w a l g ks) (e : ExtN H H') : MouthAt C H' p c m w a l g ks := by
  obtain ⟨dx, h1, h2⟩ := x
  exact ⟨dx, e _ _ h1 (fun _ z => by cases z), e _ _ h2 (fun _ z => by cases z)⟩
theorem ear_keepW (x : EarAt C H p c m w l g cs) (k : Keep [W] H H') (hW : H W = some (.lst xs)) (n : c ≠ W) : EarAt C H' p c m w l g cs := by
  obtain ⟨dx, h1, h2⟩ := id x
  exact x.keep k (nin_cons (ne_of h1 hW (by intro z; cases z)) nin_nil) (nin_cons n nin_nil)
theorem mouth_keepW (x : MouthAt C H p c m w a l g ks) (k : Keep [W] H H') (hW : H W = some (.lst xs)) : MouthAt C H' p c m w a l g ks := by
  obtain ⟨dx, h1, h2⟩ := id x
  exact x.keep k (nin_cons (ne_of h1 hW (by intro z; cases z)) nin_nil) (nin_cons (ne_of h2 hW (by intro z; cases z)) nin_nil)
end
end Ak

namespace Ak
open PySem PySem.Spec PyProof.Rows L2
theorem told_in {H : Hp} {Q : VK} {C1 C2 C3 C4 C5 C6 : Addr} {tl : XK → Hp → VK → Prop} (h : tl (fun cls d H' => ∃ out, ToldW C1 C2 C3 C4 C5 C6 H' cls d out ∧ ∀ p H2, H' p = none → Keep [] H' H2 → H2 p = some (.tup out) → Q (.ref p) H2) H Q) : TTold3 C1 C2 C3 C4 C5 C6 tl H Q := h
section
variable {P : Program} {w : World} {K : PySem.W.Frag} {mg : Str → Option Value} {base : Heap} {CE CM CL : Addr}
def spLaw (K : PySem.W.Frag) (PT : Addr) : Sp := fun vs H Q _ => ∃ (a : Addr) (ns : List Int), vs = [.ref a] ∧ SqL K H a (ns.map V.int) ∧ ns.length ≤ 63 ∧ H PT = some (.tbl #[]) ∧ ∀ H', Q (.bl true) H'
theorem ok_law {f cL PT fT C0 C1 C2 C3 C4 C5 C6 : Addr} {oc : Value} {od an odT anT : Option Addr} {osl oslT : Array (Option Value)} {kV doc pm ct kVT docT pmT cdT ctT ocT : Value}
    (lk : K.lookup f = some ⟨oc, od, .func (PySem.W.fnOf "law" "law" (defArgs s_law) (defBody s_law) (defScope s_law) .none kV doc pm an (.ref cL) ct), osl⟩) (hcd : PySem.W.codeIn K (.ref cL) "law" = true)
    (TB : LamX.TabB base mg cL PT)
    (lkT : K.lookup fT = some ⟨ocT, odT, .func (PySem.W.fnOf "_law_told" "_law_told" (defArgs s_l_told) (defBody s_l_told) (defScope s_l_told) .none kVT docT pmT anT cdT ctT), oslT⟩) (hcT : PySem.W.codeIn K cdT "_law_told" = true) (hkT : PySem.W.keepIn K (.ref fT) = true) (g__law_told : mg "_law_told" = some (.ref fT))
    (bT : L2.Binds K (PySem.W.fnOf "_law_told" "_law_told" (defArgs s_l_told) (defBody s_l_told) (defScope s_l_told) .none kVT docT pmT anT cdT ctT) ["_law_work"] [])
    (TC : ToldC K C0 C1 C2 C3 C4 C5 C6)
    (g_BitsError : mg "BitsError" = some (.ref C0)) (g_BadSetting : mg "BadSetting" = some (.ref C1)) (g_BadMark : mg "BadMark" = some (.ref C2))
    (g_BadBits : mg "BadBits" = some (.ref C3)) (g_Full : mg "Full" = some (.ref C4)) (g_BadEvent : mg "BadEvent" = some (.ref C5)) (g_BadText : mg "BadText" = some (.ref C6)) (g_isinstance : mg "isinstance" = none) (g_ValueError : mg "ValueError" = none) (g_range : mg "range" = none)
    (c_l_dice : CalX P w K mg base 1 "_law_dice" (spDice K)) (c_l_next : CalX P w K mg base 1 "_law_next" (spNext K)) (c_l_setting : CalX P w K mg base 2 "_law_setting" (spSetting K)) (c_l_like : CalX P w K mg base 4 "_law_like" (spLike K 3))
    (c_l_bad : CalX P w K mg base 2 "_law_bad" (spLawBad K)) (c_l_bits : CalX P w K mg base 2 "_law_bits" (spLawBits K)) (c_l_bounds : CalX P w K mg base 7 "_law_bounds" spBounds)
    (k_Ear : MakX P w K mg base 5 "Ear" CE (spEarX K CE C1)) (k_Mouth : MakX P w K mg base 5 "Mouth" CM (spMouthX K CM C1)) (k_Load : MakX P w K mg base 4 "Load" CL (spLoadB CL C1))
    (c_played : CalX P w K mg base 9 "played" (spPlayedB K C1)) (c_judged : CalX P w K mg base 5 "judged" (spJudgedX K C1)) (c_written : CalX P w K mg base 5 "written" (spWrittenN K C1 C2 C3)) (c_read : CalX P w K mg base 5 "read" (spReadB K C1)) (c_fewest : CalX P w K mg base 4 "fewest" (spFewestB C1))
    (m_Ear_come : MetX P w K mg base 2 CE "come" (spComeB CE C2)) (m_Ear_tell : MetX P w K mg base 1 CE "tell" (spTellB CE C3)) (m_Ear_last : MetX P w K mg base 1 CE "last" (spLast CE))
    (m_Mouth_hear : MetX P w K mg base 3 CM "hear" (spHearB K CM C2 C3)) (m_Mouth_last : MetX P w K mg base 1 CM "last" (spMLast CM)) (m_Mouth_sure : MetX P w K mg base 1 CM "sure" (spSure CM)) (m_Mouth_is_full : MetX P w K mg base 1 CM "is_full" (spIsFull CM)) :
    FnOk P w K mg base (L2.CX P w) 12 f (PySem.W.fnOf "law" "law" (defArgs s_law) (defBody s_law) (defScope s_law) .none kV doc pm an (.ref cL) ct) ["_law_script"] (spLaw K PT) := by
  refine fn_of lk hcd sc_law (fun vs H Q E h => ?_) (fun A outer s H vs Q E hr h => ?_)
  · obtain ⟨_, _, rfl, _⟩ := h
    rfl
  · obtain ⟨a, ns, rfl, hS, hl, hPT, k⟩ := h
    obtain ⟨G, hGG⟩ : ∃ G : LF → (XK → TE) → Prop, ∀ F t, G F t ↔ Good (cxOf (L2.CX P w) P w K mg base N_law "law" (defScope s_law) f (.ref cL) A outer s H E) 9 F t := ⟨_, fun _ _ => Iff.rfl⟩
    refine ⟨_, (pss_cons (ps_set (i := 1) sc_law.nd rfl (Or.inl rfl) (Ak.pe_cx c_l_dice hr (by walk_at "lv") (by rfl) (takes_of rfl rfl rfl rfl) (pa_cons (pv 0) pa_nil)))
      (pss_cons (ps_if (pt_not (Ak.pt_truK (K := K) (by rfl) (Ak.pe_cx0 c_l_bounds hr (by walk_at "lv") (by rfl) (takes_of rfl rfl rfl rfl))))
      (pss_one (ps_ret pe_bl))
      pss_nil)
      (pss_cons (ps_for (passes_of rfl) rfl (pi_range1 (by rfl) g_range (pa_cons pe_int pa_nil)) (pg_name (i := 2) sc_law.nd rfl (Or.inl rfl))
      (pss_cons (ps_set (i := 3) sc_law.nd rfl (Or.inr rfl) (Ak.pe_cx c_l_setting hr (by walk_at "lv") (by rfl) (takes_of rfl rfl rfl rfl) (pa_cons (pv 1) pa_nil)))
      (pss_cons (ps_asg (Ak.pe_cx c_l_bad hr (by walk_at "lv") (by rfl) (takes_of rfl rfl rfl rfl) (pa_cons (pv 1) (pa_cons (pv 3) pa_nil))) (Ak.pg_tupK (K := K) (n := 2) (by rfl) rfl (pgs_cons (pg_name (i := 4) sc_law.nd rfl (Or.inr rfl)) (pgs_cons (pg_name (i := 5) sc_law.nd rfl (Or.inr rfl)) pgs_nil))))
      (pss_cons (ps_set (i := 6) sc_law.nd rfl (Or.inl rfl) (pe_lst (pa_cons (Ak.pe_lamP (k := 9) (T := [(PT, (envOfC "law" (defScope s_law) s.heap.objs.size f (.ref cL)).qual ++ "<lambda>")]) (G := G) (t := fun E => tMakeX CE (spEarX K CE C1) (wOut E) (tCons (tVar 4) tNil)) TB rfl (List.mem_singleton.mpr rfl) (fun p hp _ => by rw [List.mem_singleton.mp hp]; rfl) (fun F h => (hGG F _).mpr h) (lamT_by (by show lamTB N_law (defScope s_law) _ = true; decide +kernel)) (fun _ _ _ _ _ _ => rfl) rfl (fun _ _ _ _ _ _ _ hr' => Ak.pe_kx k_Ear hr' (by decide) (by rfl) (takes_of rfl rfl rfl rfl) (pa_cons (pv 4) pa_nil))) pa_nil)))
      (pss_cons (ps_expr (Ak.pe_bmK (K := K) (by rfl) PySem.F.plainAttrs_list PySem.F.slot_list_append PySem.F.type_list_append mt_append (pv 6) (pa_cons (Ak.pe_lamP (k := 9) (T := [(PT, (envOfC "law" (defScope s_law) s.heap.objs.size f (.ref cL)).qual ++ "<lambda>")]) (G := G) (t := fun E => tMakeX CM (spMouthX K CM C1) (wOut E) (tCons (tVar 4) tNil)) TB rfl (List.mem_singleton.mpr rfl) (fun p hp _ => by rw [List.mem_singleton.mp hp]; rfl) (fun F h => (hGG F _).mpr h) (lamT_by (by show lamTB N_law (defScope s_law) _ = true; decide +kernel)) (fun _ _ _ _ _ _ => rfl) rfl (fun _ _ _ _ _ _ _ hr' => Ak.pe_kx k_Mouth hr' (by decide) (by rfl) (takes_of rfl rfl rfl rfl) (pa_cons (pv 4) pa_nil))) pa_nil)))
      (pss_cons (ps_expr (Ak.pe_bmK (K := K) (by rfl) PySem.F.plainAttrs_list PySem.F.slot_list_append PySem.F.type_list_append mt_append (pv 6) (pa_cons (Ak.pe_lamP (k := 9) (T := [(PT, (envOfC "law" (defScope s_law) s.heap.objs.size f (.ref cL)).qual ++ "<lambda>")]) (G := G) (t := fun E => tCallX (spPlayedB K C1) (wOut E) (tCons (tVar 4) (tCons (tLst (tCons (tTup (tCons (tC (.str "x")) tNil)) tNil)) tNil))) TB rfl (List.mem_singleton.mpr rfl) (fun p hp _ => by rw [List.mem_singleton.mp hp]; rfl) (fun F h => (hGG F _).mpr h) (lamT_by (by show lamTB N_law (defScope s_law) _ = true; decide +kernel)) (fun _ _ _ _ _ _ => rfl) rfl (fun _ _ _ _ _ _ _ hr' => Ak.pe_cx c_played hr' (by decide) (by rfl) (takes_of rfl rfl rfl rfl) (pa_cons (pv 4) (pa_cons (pe_lst (pa_cons (pe_tup (pa_cons pe_str pa_nil)) pa_nil)) pa_nil)))) pa_nil)))
      (pss_cons (ps_expr (Ak.pe_bmK (K := K) (by rfl) PySem.F.plainAttrs_list PySem.F.slot_list_append PySem.F.type_list_append mt_append (pv 6) (pa_cons (Ak.pe_lamP (k := 9) (T := [(PT, (envOfC "law" (defScope s_law) s.heap.objs.size f (.ref cL)).qual ++ "<lambda>")]) (G := G) (t := fun E => tCallX (spJudgedX K C1) (wOut E) (tCons (tVar 4) tNil)) TB rfl (List.mem_singleton.mpr rfl) (fun p hp _ => by rw [List.mem_singleton.mp hp]; rfl) (fun F h => (hGG F _).mpr h) (lamT_by (by show lamTB N_law (defScope s_law) _ = true; decide +kernel)) (fun _ _ _ _ _ _ => rfl) rfl (fun _ _ _ _ _ _ _ hr' => Ak.pe_cx c_judged hr' (by decide) (by rfl) (takes_of rfl rfl rfl rfl) (pa_cons (pv 4) pa_nil))) pa_nil)))
      (pss_cons (ps_expr (Ak.pe_bmK (K := K) (by rfl) PySem.F.plainAttrs_list PySem.F.slot_list_append PySem.F.type_list_append mt_append (pv 6) (pa_cons (Ak.pe_lamP (k := 9) (T := [(PT, (envOfC "law" (defScope s_law) s.heap.objs.size f (.ref cL)).qual ++ "<lambda>")]) (G := G) (t := fun E => tCallX (spWrittenN K C1 C2 C3) (wOut E) (tCons (tVar 4) (tCons (tTup (tCons (tC (.int 99)) (tCons (tTup tNil) tNil))) tNil))) TB rfl (List.mem_singleton.mpr rfl) (fun p hp _ => by rw [List.mem_singleton.mp hp]; rfl) (fun F h => (hGG F _).mpr h) (lamT_by (by show lamTB N_law (defScope s_law) _ = true; decide +kernel)) (fun _ _ _ _ _ _ => rfl) rfl (fun _ _ _ _ _ _ _ hr' => Ak.pe_cx c_written hr' (by decide) (by rfl) (takes_of rfl rfl rfl rfl) (pa_cons (pv 4) (pa_cons (pe_tup (pa_cons pe_int (pa_cons (pe_tup pa_nil) pa_nil))) pa_nil)))) pa_nil)))
      (pss_cons (ps_expr (Ak.pe_bmK (K := K) (by rfl) PySem.F.plainAttrs_list PySem.F.slot_list_append PySem.F.type_list_append mt_append (pv 6) (pa_cons (Ak.pe_lamP (k := 9) (T := [(PT, (envOfC "law" (defScope s_law) s.heap.objs.size f (.ref cL)).qual ++ "<lambda>")]) (G := G) (t := fun E => tCallX (spReadB K C1) (wOut E) (tCons (tVar 4) (tCons (tC (.str "x")) tNil))) TB rfl (List.mem_singleton.mpr rfl) (fun p hp _ => by rw [List.mem_singleton.mp hp]; rfl) (fun F h => (hGG F _).mpr h) (lamT_by (by show lamTB N_law (defScope s_law) _ = true; decide +kernel)) (fun _ _ _ _ _ _ => rfl) rfl (fun _ _ _ _ _ _ _ hr' => Ak.pe_cx c_read hr' (by decide) (by rfl) (takes_of rfl rfl rfl rfl) (pa_cons (pv 4) (pa_cons pe_str pa_nil)))) pa_nil)))
      (pss_cons (ps_if (pt_cmpR (Ak.op_inK (K := K) (by rfl)) (pv 5) (pe_tup (pa_cons pe_str (pa_cons pe_str pa_nil))) (by rfl))
      (pss_one (ps_expr (Ak.pe_bmK (K := K) (by rfl) PySem.F.plainAttrs_list PySem.F.slot_list_append PySem.F.type_list_append mt_append (pv 6) (pa_cons (Ak.pe_lamP (k := 9) (T := [(PT, (envOfC "law" (defScope s_law) s.heap.objs.size f (.ref cL)).qual ++ "<lambda>")]) (G := G) (t := fun E => tCallX (spFewestB C1) (wOut E) (tCons (tOp (rIx K) (tVar 4) (tC (.int 2))) (tCons (tOp (rIx K) (tVar 4) (tC (.int 3))) tNil))) TB rfl (List.mem_singleton.mpr rfl) (fun p hp _ => by rw [List.mem_singleton.mp hp]; rfl) (fun F h => (hGG F _).mpr h) (lamT_by (by show lamTB N_law (defScope s_law) _ = true; decide +kernel)) (fun _ _ _ _ _ _ => rfl) rfl (fun _ _ _ _ _ _ _ hr' => Ak.pe_cx c_fewest hr' (by decide) (by rfl) (takes_of rfl rfl rfl rfl) (pa_cons (pe_ix (Ak.ix_K (K := K) (by rfl)) (pv 4) pe_int (by intro _ _; rfl)) (pa_cons (pe_ix (Ak.ix_K (K := K) (by rfl)) (pv 4) pe_int (by intro _ _; rfl)) pa_nil)))) pa_nil))))
      pss_nil)
      (pss_cons (ps_if (pt_cmpR (Ak.op_neK (K := K) (by rfl) hr.units) (Ak.pe_lcI (own := [("_law_work", 7)]) (g := (gName 7)) rfl sc_law.nd (Ak.pi_listK (K := K) (by rfl) (pv 6)) (blkOk_by (N := N_law) (sc := defScope s_law) (by decide +kernel)) (fun _ _ _ _ _ => by exact (pg_name (i := 7) sc_law.nd rfl (Or.inl rfl))) (fun _ _ _ _ _ σ0 at0 => by exact (pts_one (pt_cmpR (Ak.op_neK (K := K) (by rfl) hr.units) (Ak.pe_toldB (k := 9) (G := G) (TT := TTold3 C1 C2 C3 C4 C5 C6) (by rfl) g__law_told hkT lkT hcT bT sc_l_told rfl (Or.inl rfl) (told_gives3 TC g_BitsError g_BadSetting g_BadMark g_BadBits g_Full g_BadEvent g_BadText g_isinstance g_ValueError) (pv 7) hr (fun F t h => (hGG F t).mp h) at0) (pe_tup (pa_cons pe_str (pa_cons (pv 5) pa_nil))) (nomark _)))) (fun _ _ _ _ _ => by exact (pv 7))) (pe_lst pa_nil) (nomark _))
      (pss_one (ps_ret pe_bl))
      pss_nil)
      (pss_cons (ps_set (i := 8) sc_law.nd rfl (Or.inl rfl) (pe_op (Ak.op_plusK (K := K) (by rfl)) pe_int (Ak.pe_cx c_l_next hr (by walk_at "lv") (by rfl) (takes_of rfl rfl rfl rfl) (pa_cons (pv 1) (pa_cons (pe_op op_pow pe_int pe_int) pa_nil)))))
      (pss_cons (ps_set (i := 9) sc_law.nd rfl (Or.inr rfl) (pe_ix (Ak.ix_K (K := K) (by rfl)) (pe_lst (pa_cons pe_int (pa_cons pe_int (pa_cons (pe_un un_neg (pv 8)) (pa_cons (pe_op (Ak.op_plusK (K := K) (by rfl)) pe_int (pv 8)) pa_nil))))) (Ak.pe_cx c_l_next hr (by walk_at "lv") (by rfl) (takes_of rfl rfl rfl rfl) (pa_cons (pv 1) (pa_cons pe_int pa_nil))) (by intro _ _; rfl)))
      (pss_cons (ps_set (i := 10) sc_law.nd rfl (Or.inr rfl) (pe_ix (Ak.ix_K (K := K) (by rfl)) (pe_lst (pa_cons pe_int (pa_cons pe_int (pa_cons (pe_un un_neg (pv 8)) (pa_cons (pe_op (Ak.op_plusK (K := K) (by rfl)) pe_int (pv 8)) pa_nil))))) (Ak.pe_cx c_l_next hr (by walk_at "lv") (by rfl) (takes_of rfl rfl rfl rfl) (pa_cons (pv 1) (pa_cons pe_int pa_nil))) (by intro _ _; rfl)))
      (pss_cons (ps_if (pt_cmpR (Ak.op_neK (K := K) (by rfl) hr.units) (LamX.pe_lamcall (k := 9) (T := [(PT, (envOfC "law" (defScope s_law) s.heap.objs.size f (.ref cL)).qual ++ "<lambda>")]) (TT := TTold3 C1 C2 C3 C4 C5 C6) (t := fun E => tMakeX CL (spLoadB CL C1) (wOut E) (tCons (tVar 9) (tCons (tVar 10) tNil))) (by rfl) g__law_told hkT lkT hcT bT sc_l_told rfl (Or.inl rfl) (told_gives3 TC g_BitsError g_BadSetting g_BadMark g_BadBits g_Full g_BadEvent g_BadText g_isinstance g_ValueError) TB rfl (List.mem_singleton.mpr rfl) (fun p hp _ => by rw [List.mem_singleton.mp hp]; rfl) hr (LamX.lamS_by (by show LamX.lamSB (defScope s_law) _ = true; decide +kernel)) rfl (fun _ _ _ _ _ => rfl) (fun _ _ _ _ _ _ _ hr' => Ak.pe_kx k_Load hr' (by decide) (by rfl) (takes_of rfl rfl rfl rfl) (pa_cons (pv 9) (pa_cons (pv 10) pa_nil)))) (pe_tup (pa_cons pe_str (pa_cons pe_str pa_nil))) (nomark _))
      (pss_one (ps_ret pe_bl))
      pss_nil)
      (pss_cons (ps_if (pt_cmpR (Ak.op_neK (K := K) (by rfl) hr.units) (LamX.pe_lamcall (k := 9) (T := [(PT, (envOfC "law" (defScope s_law) s.heap.objs.size f (.ref cL)).qual ++ "<lambda>")]) (TT := TTold3 C1 C2 C3 C4 C5 C6) (t := fun E => tMakeX CL (spLoadB CL C1) (wOut E) (tCons (tC (.int 8)) (tCons (tVar 10) tNil))) (by rfl) g__law_told hkT lkT hcT bT sc_l_told rfl (Or.inl rfl) (told_gives3 TC g_BitsError g_BadSetting g_BadMark g_BadBits g_Full g_BadEvent g_BadText g_isinstance g_ValueError) TB rfl (List.mem_singleton.mpr rfl) (fun p hp _ => by rw [List.mem_singleton.mp hp]; rfl) hr (LamX.lamS_by (by show LamX.lamSB (defScope s_law) _ = true; decide +kernel)) rfl (fun _ _ _ _ _ => rfl) (fun _ _ _ _ _ _ _ hr' => Ak.pe_kx k_Load hr' (by decide) (by rfl) (takes_of rfl rfl rfl rfl) (pa_cons pe_int (pa_cons (pv 10) pa_nil)))) (pe_tup (pa_cons pe_str (pa_cons pe_str pa_nil))) (nomark _))
      (pss_one (ps_ret pe_bl))
      pss_nil)
      (pss_cons (ps_set (i := 11) sc_law.nd rfl (Or.inr rfl) (pe_ix (Ak.ix_K (K := K) (by rfl)) (pe_lst (pa_cons (pe_un un_neg pe_int) (pa_cons (pe_ix (Ak.ix_K (K := K) (by rfl)) (pv 3) pe_int (by intro _ _; rfl)) (pa_cons (pe_un un_neg (pv 8)) (pa_cons (pe_op (Ak.op_plusK (K := K) (by rfl)) (pe_ix (Ak.ix_K (K := K) (by rfl)) (pv 3) pe_int (by intro _ _; rfl)) (pv 8)) pa_nil))))) (Ak.pe_cx c_l_next hr (by walk_at "lv") (by rfl) (takes_of rfl rfl rfl rfl) (pa_cons (pv 1) (pa_cons pe_int pa_nil))) (by intro _ _; rfl)))
      (pss_cons (ps_set (i := 12) sc_law.nd rfl (Or.inr rfl) (Ak.pe_cx c_l_bits hr (by walk_at "lv") (by rfl) (takes_of rfl rfl rfl rfl) (pa_cons (pv 1) (pa_cons (pv 3) pa_nil))))
      (pss_cons (ps_asg (pe_tup (pa_cons (Ak.pe_kx k_Ear hr (by walk_at "lv") (by rfl) (takes_of rfl rfl rfl rfl) (pa_cons (pv 3) pa_nil)) (pa_cons (Ak.pe_kx k_Mouth hr (by walk_at "lv") (by rfl) (takes_of rfl rfl rfl rfl) (pa_cons (pv 3) pa_nil)) pa_nil))) (Ak.pg_tupK (K := K) (n := 2) (by rfl) rfl (pgs_cons (pg_name (i := 13) sc_law.nd rfl (Or.inr rfl)) (pgs_cons (pg_name (i := 14) sc_law.nd rfl (Or.inr rfl)) pgs_nil))))
      (pss_cons (ps_set (i := 6) sc_law.nd rfl (Or.inl rfl) (pe_lst (pa_cons (Ak.pe_lamP (k := 9) (T := [(PT, (envOfC "law" (defScope s_law) s.heap.objs.size f (.ref cL)).qual ++ "<lambda>")]) (G := G) (t := fun E => tMethX CE "come" (spComeB CE C2) (wOut E) (tVar 13) (tCons (tVar 11) tNil)) TB rfl (List.mem_singleton.mpr rfl) (fun p hp _ => by rw [List.mem_singleton.mp hp]; rfl) (fun F h => (hGG F _).mpr h) (lamT_by (by show lamTB N_law (defScope s_law) _ = true; decide +kernel)) (fun _ _ _ _ _ _ => rfl) rfl (fun _ _ _ _ _ _ _ hr' => Ak.pe_mx (pv 13) m_Ear_come hr' (by decide) (takes_of rfl rfl rfl rfl) (pa_cons (pv 11) pa_nil))) pa_nil)))
      (pss_cons (ps_expr (Ak.pe_bmK (K := K) (by rfl) PySem.F.plainAttrs_list PySem.F.slot_list_append PySem.F.type_list_append mt_append (pv 6) (pa_cons (Ak.pe_lamP (k := 9) (T := [(PT, (envOfC "law" (defScope s_law) s.heap.objs.size f (.ref cL)).qual ++ "<lambda>")]) (G := G) (t := fun E => tMethX CM "hear" (spHearB K CM C2 C3) (wOut E) (tVar 14) (tCons (tTup (tCons (tVar 11) (tCons (tVar 12) tNil))) tNil)) TB rfl (List.mem_singleton.mpr rfl) (fun p hp _ => by rw [List.mem_singleton.mp hp]; rfl) (fun F h => (hGG F _).mpr h) (lamT_by (by show lamTB N_law (defScope s_law) _ = true; decide +kernel)) (fun _ _ _ _ _ _ => rfl) rfl (fun _ _ _ _ _ _ _ hr' => Ak.pe_mx (pv 14) m_Mouth_hear hr' (by decide) (takes_of rfl rfl rfl rfl) (pa_cons (pe_tup (pa_cons (pv 11) (pa_cons (pv 12) pa_nil))) pa_nil))) pa_nil)))
      (pss_cons (ps_expr (Ak.pe_bmK (K := K) (by rfl) PySem.F.plainAttrs_list PySem.F.slot_list_append PySem.F.type_list_append mt_append (pv 6) (pa_cons (Ak.pe_lamP (k := 9) (T := [(PT, (envOfC "law" (defScope s_law) s.heap.objs.size f (.ref cL)).qual ++ "<lambda>")]) (G := G) (t := fun E => tCallX (spWrittenN K C1 C2 C3) (wOut E) (tCons (tVar 3) (tCons (tTup (tCons (tVar 11) (tCons (tVar 12) tNil))) tNil))) TB rfl (List.mem_singleton.mpr rfl) (fun p hp _ => by rw [List.mem_singleton.mp hp]; rfl) (fun F h => (hGG F _).mpr h) (lamT_by (by show lamTB N_law (defScope s_law) _ = true; decide +kernel)) (fun _ _ _ _ _ _ => rfl) rfl (fun _ _ _ _ _ _ _ hr' => Ak.pe_cx c_written hr' (by decide) (by rfl) (takes_of rfl rfl rfl rfl) (pa_cons (pv 3) (pa_cons (pe_tup (pa_cons (pv 11) (pa_cons (pv 12) pa_nil))) pa_nil)))) pa_nil)))
      (pss_cons (ps_if (pt_cmpR (Ak.op_neK (K := K) (by rfl) hr.units) (Ak.pe_lcI (own := [("_law_work", 7)]) (g := (gName 7)) rfl sc_law.nd (Ak.pi_listK (K := K) (by rfl) (pv 6)) (blkOk_by (N := N_law) (sc := defScope s_law) (by decide +kernel)) (fun _ _ _ _ _ => by exact (pg_name (i := 7) sc_law.nd rfl (Or.inl rfl))) (fun _ _ _ _ _ σ0 at0 => by exact (pts_one (pt_cmpR (Ak.op_neK (K := K) (by rfl) hr.units) (Ak.pe_toldB (k := 9) (G := G) (TT := TTold3 C1 C2 C3 C4 C5 C6) (by rfl) g__law_told hkT lkT hcT bT sc_l_told rfl (Or.inl rfl) (told_gives3 TC g_BitsError g_BadSetting g_BadMark g_BadBits g_Full g_BadEvent g_BadText g_isinstance g_ValueError) (pv 7) hr (fun F t h => (hGG F t).mp h) at0) (pe_tup (pa_cons pe_str pa_nil)) (nomark _)))) (fun _ _ _ _ _ => by exact (pv 7))) (pe_lst pa_nil) (nomark _))
      (pss_one (ps_ret pe_bl))
      pss_nil)
      (pss_cons (ps_set (i := 6) sc_law.nd rfl (Or.inl rfl) (pe_lst (pa_cons (Ak.pe_lamP (k := 9) (T := [(PT, (envOfC "law" (defScope s_law) s.heap.objs.size f (.ref cL)).qual ++ "<lambda>")]) (G := G) (t := fun E => tMethX CM "hear" (spHearB K CM C2 C3) (wOut E) (tVar 14) (tCons (tTup (tCons (tC (.int 0)) (tCons (tVar 12) tNil))) tNil)) TB rfl (List.mem_singleton.mpr rfl) (fun p hp _ => by rw [List.mem_singleton.mp hp]; rfl) (fun F h => (hGG F _).mpr h) (lamT_by (by show lamTB N_law (defScope s_law) _ = true; decide +kernel)) (fun _ _ _ _ _ _ => rfl) rfl (fun _ _ _ _ _ _ _ hr' => Ak.pe_mx (pv 14) m_Mouth_hear hr' (by decide) (takes_of rfl rfl rfl rfl) (pa_cons (pe_tup (pa_cons pe_int (pa_cons (pv 12) pa_nil))) pa_nil))) (pa_cons (Ak.pe_lamP1 (prm := "_law_a") (v := .int 0) (k := 9) (T := [(PT, (envOfC "law" (defScope s_law) s.heap.objs.size f (.ref cL)).qual ++ "<lambda>")]) (G := G) (t := fun E => tCallX (spWrittenN K C1 C2 C3) (wOut E) (tCons (tVar 3) (tCons (tTup (tCons (tC (.int 0)) (tCons (tVar 12) tNil))) tNil))) TB rfl (List.mem_singleton.mpr rfl) (fun p hp _ => by rw [List.mem_singleton.mp hp]; rfl) (fun F h => (hGG F _).mpr h) (lamT_by (by show lamTB N_law (defScope s_law) _ = true; decide +kernel)) (fun _ _ _ _ _ _ _ _ => ⟨_, rfl, rfl⟩) rfl rfl pe_int (fun _ _ _ _ _ _ _ hr' => Ak.pe_cx c_written hr' (by decide) (by rfl) (takes_of rfl rfl rfl rfl) (pa_cons (pv 3) (pa_cons (pe_tup (pa_cons pe_int (pa_cons (pv 12) pa_nil))) pa_nil)))) (pa_cons (Ak.pe_lamP1 (prm := "_law_b") (v := .int 0) (k := 9) (T := [(PT, (envOfC "law" (defScope s_law) s.heap.objs.size f (.ref cL)).qual ++ "<lambda>")]) (G := G) (t := fun E => tMethX CE "tell" (spTellB CE C3) (wOut E) (tVar 13) tNil) TB rfl (List.mem_singleton.mpr rfl) (fun p hp _ => by rw [List.mem_singleton.mp hp]; rfl) (fun F h => (hGG F _).mpr h) (lamT_by (by show lamTB N_law (defScope s_law) _ = true; decide +kernel)) (fun _ _ _ _ _ _ _ _ => ⟨_, rfl, rfl⟩) rfl rfl pe_int (fun _ _ _ _ _ _ _ hr' => Ak.pe_mx0 (pv 13) m_Ear_tell hr' (by decide) (takes_of rfl rfl rfl rfl))) pa_nil)))))
      (pss_cons (ps_if (pt_cmpR (Ak.op_neK (K := K) (by rfl) hr.units) (Ak.pe_lcI (own := [("_law_work", 7)]) (g := (gName 7)) rfl sc_law.nd (Ak.pi_listK (K := K) (by rfl) (pv 6)) (blkOk_by (N := N_law) (sc := defScope s_law) (by decide +kernel)) (fun _ _ _ _ _ => by exact (pg_name (i := 7) sc_law.nd rfl (Or.inl rfl))) (fun _ _ _ _ _ σ0 at0 => by exact (pts_one (pt_cmpR (Ak.op_neK (K := K) (by rfl) hr.units) (Ak.pe_toldB (k := 9) (G := G) (TT := TTold3 C1 C2 C3 C4 C5 C6) (by rfl) g__law_told hkT lkT hcT bT sc_l_told rfl (Or.inl rfl) (told_gives3 TC g_BitsError g_BadSetting g_BadMark g_BadBits g_Full g_BadEvent g_BadText g_isinstance g_ValueError) (pv 7) hr (fun F t h => (hGG F t).mp h) at0) (pe_tup (pa_cons pe_str pa_nil)) (nomark _)))) (fun _ _ _ _ _ => by exact (pv 7))) (pe_lst pa_nil) (nomark _))
      (pss_one (ps_ret pe_bl))
      pss_nil)
      (pss_one (ps_if (pt_not (Ak.pt_truK (K := K) (by rfl) (Ak.pe_cx c_l_like hr (by walk_at "lv") (by rfl) (takes_of rfl rfl rfl rfl) (pa_cons (pe_lst (pa_cons (Ak.pe_mx0 (pv 13) m_Ear_last hr (by walk_at "lv") (takes_of rfl rfl rfl rfl)) (pa_cons (Ak.pe_mx0 (pv 14) m_Mouth_last hr (by walk_at "lv") (takes_of rfl rfl rfl rfl)) (pa_cons (Ak.pe_mx0 (pv 14) m_Mouth_sure hr (by walk_at "lv") (takes_of rfl rfl rfl rfl)) (pa_cons (Ak.pe_mx0 (pv 14) m_Mouth_is_full hr (by walk_at "lv") (takes_of rfl rfl rfl rfl)) pa_nil))))) (pa_cons (pe_lst (pa_cons (pe_un un_neg pe_int) (pa_cons (pe_un un_neg pe_int) (pa_cons (pe_lst pa_nil) (pa_cons pe_bl pa_nil))))) pa_nil)))))
      (pss_one (ps_ret pe_bl))
      pss_nil)))))))))))))))))))))))))))
      (pss_one (ps_ret pe_bl))))), ?_⟩
    have e0 : L2.start N_law [V.ref a] = [some (V.ref a), none, none, none, none, none, none, none, none, none, none, none, none, none, none] := rfl
    rw [e0]
    try dsimp only [cxOf]
    walk_at "rd"
    refine ⟨a, ns, rfl, hS, hl, fun d H1 hd dc k1 => ?_⟩
    have tN : LamX.Tabs [(PT, (envOfC "law" (defScope s_law) s.heap.objs.size f (.ref cL)).qual ++ "<lambda>")] H1 := Tabs.one (LamX.TabS.nil (k1.1 _ _ nin_nil hPT))
    walk_at "rd"
    refine ⟨rfl, fun H2 k2 => ?_⟩
    have dc2 := dc.keep (S := []) k2 nin_nil none_nil
    have tb2 := Tabs.keep tN k2 plain0
    clear dc tN k1 k2
    walk_at "rd"
    refine Ak.l_forR1 (by decide) (by decide) (fun i σ' H' => ∃ v2 v3 v4 v5 v6 v7 v8 v9 v10 v11 v12 v13 v14, σ' = [some (.ref a), some (.ref d), v2, v3, v4, v5, v6, v7, v8, v9, v10, v11, v12, v13, v14] ∧ Dice K H H' d ∧ LamX.Tabs [(PT, (envOfC "law" (defScope s_law) s.heap.objs.size f (.ref cL)).qual ++ "<lambda>")] H')
      ⟨_, _, _, _, _, _, _, _, _, _, _, _, _, rfl, dc2, tb2⟩ (fun i σ' H' hi pv => ?_) (fun σ' H' pv => ?_)
    · obtain ⟨v2, v3, v4, v5, v6, v7, v8, v9, v10, v11, v12, v13, v14, rfl, dcx, tb⟩ := pv
      obtain ⟨xsx, hdx⟩ := dcx.lst
      walk_at "rd"
      refine ⟨H, d, rfl, dcx, fun q m wi l ah H3 so nq hq dc3 k3 => ?_⟩
      obtain ⟨xs3, hd3⟩ := dc3.lst
      have tb3 := Tabs.keep tb k3 (plain1 (Plain.lst hdx))
      have hqd : q ≠ d := ne_of hq hd3 (by intro z; cases z)
      walk_at "rd"
      refine ⟨H, d, q, m, wi, l, ah, rfl, dc3, hq, so, fun t bq m' w' l' a' wd H4 ht hbq hbad dc4 k4 => ?_⟩
      have tb4 := Tabs.keep tb3 k4 (plain1 (Plain.lst hd3))
      have hq4 := k4.1 _ _ (nin_cons hqd nin_nil) hq
      clear k3 k4 tb3 tb dc3 dcx hq dc2 tb2
      walk_at "rd"
      refine w_lamP tb4 (fun f1 F1 H5 g1 e5 _ tb5 nf1 la1 => ?_)
      have dc5 := dc4.ext' e5
      have hq5 := e5 _ _ hq4 (fun _ z => by cases z)
      have hb5 := e5 _ _ hbq (fun _ z => by cases z)
      have y1 : WorkAt G C1 C2 C3 C4 C5 C6 ((envOfC "law" (defScope s_law) s.heap.objs.size f (.ref cL)).qual ++ "<lambda>") (envOfC "law" (defScope s_law) s.heap.objs.size f (.ref cL)).cells (fun σ1 H1 => σ1[4]? = some (some (.ref bq)) ∧ H1 bq = some (.tup [.int m', .int w', .int l', .int a'])) [.str "setting", .str wd] H5 f1 := ⟨F1, _, g1, la1, fun σ1 H1 Qk p h => r_Ear p.1 p.2 hbad (raises_word h)⟩
      clear e5 tb4 hq4 hbq la1 g1 dc4 ht
      walk_at "rd"
      rename_i W nW
      have kW : Keep [] H5 (upd H5 W (.lst [.ref f1])) := Keep.refl.new nW
      have X0 : Works G C1 C2 C3 C4 C5 C6 ((envOfC "law" (defScope s_law) s.heap.objs.size f (.ref cL)).qual ++ "<lambda>") (envOfC "law" (defScope s_law) s.heap.objs.size f (.ref cL)).cells (fun σ1 H1 => σ1[4]? = some (some (.ref bq)) ∧ H1 bq = some (.tup [.int m', .int w', .int l', .int a'])) [.str "setting", .str wd] (upd H5 W (.lst [.ref f1])) W [f1] := Works.one nW y1
      have dJ0 := dc5.keep (S := []) kW nin_nil none_nil
      have tJ0 := Tabs.keep tb5 kW plain0
      have qJ0 := kW.1 _ _ nin_nil hq5
      have bJ0 := kW.1 _ _ nin_nil hb5
      have frW : Fr H W := Fr.of dc5.ext nW
      have Wd : W ≠ d := by
        obtain ⟨xs5, hd5⟩ := dc5.lst
        exact Ne.symm (ne_of_none hd5 nW)
      generalize upd H5 W (.lst [.ref f1]) = J0 at X0 dJ0 tJ0 qJ0 bJ0 ⊢
      clear kW nW y1 dc5 tb5 hq5 hb5 nf1
      refine w_lamP tJ0 (fun f6 F6 H6 g6 e6 _ tb6 nf6 la6 => ?_)
      have y6 : WorkAt G C1 C2 C3 C4 C5 C6 ((envOfC "law" (defScope s_law) s.heap.objs.size f (.ref cL)).qual ++ "<lambda>") (envOfC "law" (defScope s_law) s.heap.objs.size f (.ref cL)).cells (fun σ1 H1 => σ1[4]? = some (some (.ref bq)) ∧ H1 bq = some (.tup [.int m', .int w', .int l', .int a'])) [.str "setting", .str wd] H6 f6 := ⟨F6, _, g6, la6, fun σ1 H1 Qk p h => r_Mouth p.1 p.2 hbad (raises_word h)⟩
      have X6 := X0.ext e6
      have hW6 := X6.w
      have dd6 := dJ0.ext' e6
      have qq6 := e6 _ _ qJ0 (fun _ z => by cases z)
      have bb6 := e6 _ _ bJ0 (fun _ z => by cases z)
      walk_at "rd"
      have kW : Keep [W] H6 (upd H6 W (.lst ([f1].map V.ref ++ [.ref f6]))) := Keep.refl.set List.mem_cons_self
      have Y6 : Works G C1 C2 C3 C4 C5 C6 ((envOfC "law" (defScope s_law) s.heap.objs.size f (.ref cL)).qual ++ "<lambda>") (envOfC "law" (defScope s_law) s.heap.objs.size f (.ref cL)).cells (fun σ1 H1 => σ1[4]? = some (some (.ref bq)) ∧ H1 bq = some (.tup [.int m', .int w', .int l', .int a'])) [.str "setting", .str wd] (upd H6 W (.lst ([f1].map V.ref ++ [.ref f6]))) W ([f1] ++ [f6]) := X6.add y6
      have dJ6 := dd6.keepF kW.x (nin_cons (Ne.symm Wd) nin_nil) (fun b hb => by rw [List.mem_singleton.mp hb]; exact frW)
      have tJ6 := Tabs.keep tb6 kW (plain1 (Plain.lst hW6))
      have qJ6 := kW.1 _ _ (nin_cons (ne_of qq6 hW6 (by intro z; cases z)) nin_nil) qq6
      have bJ6 := kW.1 _ _ (nin_cons (ne_of bb6 hW6 (by intro z; cases z)) nin_nil) bb6
      generalize upd H6 W (.lst ([f1].map V.ref ++ [.ref f6])) = J6 at Y6 dJ6 tJ6 qJ6 bJ6 ⊢
      clear kW X6 y6 hW6 dd6 qq6 bb6 e6 tb6 nf6 la6 g6 X0 dJ0 tJ0 qJ0 bJ0
      have X6' : Works G C1 C2 C3 C4 C5 C6 ((envOfC "law" (defScope s_law) s.heap.objs.size f (.ref cL)).qual ++ "<lambda>") (envOfC "law" (defScope s_law) s.heap.objs.size f (.ref cL)).cells (fun σ1 H1 => σ1[4]? = some (some (.ref bq)) ∧ H1 bq = some (.tup [.int m', .int w', .int l', .int a'])) [.str "setting", .str wd] J6 W [f1, f6] := Y6
      clear Y6
      refine w_lamP tJ6 (fun f7 F7 H7 g7 e7 _ tb7 nf7 la7 => ?_)
      have y7 : WorkAt G C1 C2 C3 C4 C5 C6 ((envOfC "law" (defScope s_law) s.heap.objs.size f (.ref cL)).qual ++ "<lambda>") (envOfC "law" (defScope s_law) s.heap.objs.size f (.ref cL)).cells (fun σ1 H1 => σ1[4]? = some (some (.ref bq)) ∧ H1 bq = some (.tup [.int m', .int w', .int l', .int a'])) [.str "setting", .str wd] H7 f7 := ⟨F7, _, g7, la7, fun σ1 H1 Qk p h => r_played p.1 p.2 hbad (raises_word h)⟩
      have X7 := X6'.ext e7
      have hW7 := X7.w
      have dd7 := dJ6.ext' e7
      have qq7 := e7 _ _ qJ6 (fun _ z => by cases z)
      have bb7 := e7 _ _ bJ6 (fun _ z => by cases z)
      walk_at "rd"
      have kW : Keep [W] H7 (upd H7 W (.lst ([f1, f6].map V.ref ++ [.ref f7]))) := Keep.refl.set List.mem_cons_self
      have Y7 : Works G C1 C2 C3 C4 C5 C6 ((envOfC "law" (defScope s_law) s.heap.objs.size f (.ref cL)).qual ++ "<lambda>") (envOfC "law" (defScope s_law) s.heap.objs.size f (.ref cL)).cells (fun σ1 H1 => σ1[4]? = some (some (.ref bq)) ∧ H1 bq = some (.tup [.int m', .int w', .int l', .int a'])) [.str "setting", .str wd] (upd H7 W (.lst ([f1, f6].map V.ref ++ [.ref f7]))) W ([f1, f6] ++ [f7]) := X7.add y7
      have dJ7 := dd7.keepF kW.x (nin_cons (Ne.symm Wd) nin_nil) (fun b hb => by rw [List.mem_singleton.mp hb]; exact frW)
      have tJ7 := Tabs.keep tb7 kW (plain1 (Plain.lst hW7))
      have qJ7 := kW.1 _ _ (nin_cons (ne_of qq7 hW7 (by intro z; cases z)) nin_nil) qq7
      have bJ7 := kW.1 _ _ (nin_cons (ne_of bb7 hW7 (by intro z; cases z)) nin_nil) bb7
      generalize upd H7 W (.lst ([f1, f6].map V.ref ++ [.ref f7])) = J7 at Y7 dJ7 tJ7 qJ7 bJ7 ⊢
      clear kW X7 y7 hW7 dd7 qq7 bb7 e7 tb7 nf7 la7 g7 X6' dJ6 tJ6 qJ6 bJ6
      have X7' : Works G C1 C2 C3 C4 C5 C6 ((envOfC "law" (defScope s_law) s.heap.objs.size f (.ref cL)).qual ++ "<lambda>") (envOfC "law" (defScope s_law) s.heap.objs.size f (.ref cL)).cells (fun σ1 H1 => σ1[4]? = some (some (.ref bq)) ∧ H1 bq = some (.tup [.int m', .int w', .int l', .int a'])) [.str "setting", .str wd] J7 W [f1, f6, f7] := Y7
      clear Y7
      refine w_lamP tJ7 (fun f8 F8 H8 g8 e8 _ tb8 nf8 la8 => ?_)
      have y8 : WorkAt G C1 C2 C3 C4 C5 C6 ((envOfC "law" (defScope s_law) s.heap.objs.size f (.ref cL)).qual ++ "<lambda>") (envOfC "law" (defScope s_law) s.heap.objs.size f (.ref cL)).cells (fun σ1 H1 => σ1[4]? = some (some (.ref bq)) ∧ H1 bq = some (.tup [.int m', .int w', .int l', .int a'])) [.str "setting", .str wd] H8 f8 := ⟨F8, _, g8, la8, fun σ1 H1 Qk p h => r_judged p.1 p.2 hbad (raises_word h)⟩
      have X8 := X7'.ext e8
      have hW8 := X8.w
      have dd8 := dJ7.ext' e8
      have qq8 := e8 _ _ qJ7 (fun _ z => by cases z)
      have bb8 := e8 _ _ bJ7 (fun _ z => by cases z)
      walk_at "rd"
      have kW : Keep [W] H8 (upd H8 W (.lst ([f1, f6, f7].map V.ref ++ [.ref f8]))) := Keep.refl.set List.mem_cons_self
      have Y8 : Works G C1 C2 C3 C4 C5 C6 ((envOfC "law" (defScope s_law) s.heap.objs.size f (.ref cL)).qual ++ "<lambda>") (envOfC "law" (defScope s_law) s.heap.objs.size f (.ref cL)).cells (fun σ1 H1 => σ1[4]? = some (some (.ref bq)) ∧ H1 bq = some (.tup [.int m', .int w', .int l', .int a'])) [.str "setting", .str wd] (upd H8 W (.lst ([f1, f6, f7].map V.ref ++ [.ref f8]))) W ([f1, f6, f7] ++ [f8]) := X8.add y8
      have dJ8 := dd8.keepF kW.x (nin_cons (Ne.symm Wd) nin_nil) (fun b hb => by rw [List.mem_singleton.mp hb]; exact frW)
      have tJ8 := Tabs.keep tb8 kW (plain1 (Plain.lst hW8))
      have qJ8 := kW.1 _ _ (nin_cons (ne_of qq8 hW8 (by intro z; cases z)) nin_nil) qq8
      have bJ8 := kW.1 _ _ (nin_cons (ne_of bb8 hW8 (by intro z; cases z)) nin_nil) bb8
      generalize upd H8 W (.lst ([f1, f6, f7].map V.ref ++ [.ref f8])) = J8 at Y8 dJ8 tJ8 qJ8 bJ8 ⊢
      clear kW X8 y8 hW8 dd8 qq8 bb8 e8 tb8 nf8 la8 g8 X7' dJ7 tJ7 qJ7 bJ7
      have X8' : Works G C1 C2 C3 C4 C5 C6 ((envOfC "law" (defScope s_law) s.heap.objs.size f (.ref cL)).qual ++ "<lambda>") (envOfC "law" (defScope s_law) s.heap.objs.size f (.ref cL)).cells (fun σ1 H1 => σ1[4]? = some (some (.ref bq)) ∧ H1 bq = some (.tup [.int m', .int w', .int l', .int a'])) [.str "setting", .str wd] J8 W [f1, f6, f7, f8] := Y8
      clear Y8
      refine w_lamP tJ8 (fun f9 F9 H9 g9 e9 _ tb9 nf9 la9 => ?_)
      have y9 : WorkAt G C1 C2 C3 C4 C5 C6 ((envOfC "law" (defScope s_law) s.heap.objs.size f (.ref cL)).qual ++ "<lambda>") (envOfC "law" (defScope s_law) s.heap.objs.size f (.ref cL)).cells (fun σ1 H1 => σ1[4]? = some (some (.ref bq)) ∧ H1 bq = some (.tup [.int m', .int w', .int l', .int a'])) [.str "setting", .str wd] H9 f9 := ⟨F9, _, g9, la9, fun σ1 H1 Qk p h => r_written p.1 p.2 hbad (raises_word h)⟩
      have X9 := X8'.ext e9
      have hW9 := X9.w
      have dd9 := dJ8.ext' e9
      have qq9 := e9 _ _ qJ8 (fun _ z => by cases z)
      have bb9 := e9 _ _ bJ8 (fun _ z => by cases z)
      walk_at "rd"
      have kW : Keep [W] H9 (upd H9 W (.lst ([f1, f6, f7, f8].map V.ref ++ [.ref f9]))) := Keep.refl.set List.mem_cons_self
      have Y9 : Works G C1 C2 C3 C4 C5 C6 ((envOfC "law" (defScope s_law) s.heap.objs.size f (.ref cL)).qual ++ "<lambda>") (envOfC "law" (defScope s_law) s.heap.objs.size f (.ref cL)).cells (fun σ1 H1 => σ1[4]? = some (some (.ref bq)) ∧ H1 bq = some (.tup [.int m', .int w', .int l', .int a'])) [.str "setting", .str wd] (upd H9 W (.lst ([f1, f6, f7, f8].map V.ref ++ [.ref f9]))) W ([f1, f6, f7, f8] ++ [f9]) := X9.add y9
      have dJ9 := dd9.keepF kW.x (nin_cons (Ne.symm Wd) nin_nil) (fun b hb => by rw [List.mem_singleton.mp hb]; exact frW)
      have tJ9 := Tabs.keep tb9 kW (plain1 (Plain.lst hW9))
      have qJ9 := kW.1 _ _ (nin_cons (ne_of qq9 hW9 (by intro z; cases z)) nin_nil) qq9
      have bJ9 := kW.1 _ _ (nin_cons (ne_of bb9 hW9 (by intro z; cases z)) nin_nil) bb9
      generalize upd H9 W (.lst ([f1, f6, f7, f8].map V.ref ++ [.ref f9])) = J9 at Y9 dJ9 tJ9 qJ9 bJ9 ⊢
      clear kW X9 y9 hW9 dd9 qq9 bb9 e9 tb9 nf9 la9 g9 X8' dJ8 tJ8 qJ8 bJ8
      have X9' : Works G C1 C2 C3 C4 C5 C6 ((envOfC "law" (defScope s_law) s.heap.objs.size f (.ref cL)).qual ++ "<lambda>") (envOfC "law" (defScope s_law) s.heap.objs.size f (.ref cL)).cells (fun σ1 H1 => σ1[4]? = some (some (.ref bq)) ∧ H1 bq = some (.tup [.int m', .int w', .int l', .int a'])) [.str "setting", .str wd] J9 W [f1, f6, f7, f8, f9] := Y9
      clear Y9
      refine w_lamP tJ9 (fun f10 F10 H10 g10 e10 _ tb10 nf10 la10 => ?_)
      have y10 : WorkAt G C1 C2 C3 C4 C5 C6 ((envOfC "law" (defScope s_law) s.heap.objs.size f (.ref cL)).qual ++ "<lambda>") (envOfC "law" (defScope s_law) s.heap.objs.size f (.ref cL)).cells (fun σ1 H1 => σ1[4]? = some (some (.ref bq)) ∧ H1 bq = some (.tup [.int m', .int w', .int l', .int a'])) [.str "setting", .str wd] H10 f10 := ⟨F10, _, g10, la10, fun σ1 H1 Qk p h => r_read p.1 p.2 hbad (raises_word h)⟩
      have X10 := X9'.ext e10
      have hW10 := X10.w
      have dd10 := dJ9.ext' e10
      have qq10 := e10 _ _ qJ9 (fun _ z => by cases z)
      have bb10 := e10 _ _ bJ9 (fun _ z => by cases z)
      walk_at "rd"
      rename_i tt ntt
      have kW : Keep [W] H10 (upd H10 W (.lst ([f1, f6, f7, f8, f9].map V.ref ++ [.ref f10]))) := Keep.refl.set List.mem_cons_self
      have Y10 : Works G C1 C2 C3 C4 C5 C6 ((envOfC "law" (defScope s_law) s.heap.objs.size f (.ref cL)).qual ++ "<lambda>") (envOfC "law" (defScope s_law) s.heap.objs.size f (.ref cL)).cells (fun σ1 H1 => σ1[4]? = some (some (.ref bq)) ∧ H1 bq = some (.tup [.int m', .int w', .int l', .int a'])) [.str "setting", .str wd] (upd H10 W (.lst ([f1, f6, f7, f8, f9].map V.ref ++ [.ref f10]))) W ([f1, f6, f7, f8, f9] ++ [f10]) := X10.add y10
      have dJ10 := dd10.keepF kW.x (nin_cons (Ne.symm Wd) nin_nil) (fun b hb => by rw [List.mem_singleton.mp hb]; exact frW)
      have tJ10 := Tabs.keep tb10 kW (plain1 (Plain.lst hW10))
      have qJ10 := kW.1 _ _ (nin_cons (ne_of qq10 hW10 (by intro z; cases z)) nin_nil) qq10
      have bJ10 := kW.1 _ _ (nin_cons (ne_of bb10 hW10 (by intro z; cases z)) nin_nil) bb10
      generalize upd H10 W (.lst ([f1, f6, f7, f8, f9].map V.ref ++ [.ref f10])) = J10 at Y10 dJ10 tJ10 qJ10 bJ10 ntt ⊢
      clear kW X10 y10 hW10 dd10 qq10 bb10 e10 tb10 nf10 la10 g10 X9' dJ9 tJ9 qJ9 bJ9
      have X10' : Works G C1 C2 C3 C4 C5 C6 ((envOfC "law" (defScope s_law) s.heap.objs.size f (.ref cL)).qual ++ "<lambda>") (envOfC "law" (defScope s_law) s.heap.objs.size f (.ref cL)).cells (fun σ1 H1 => σ1[4]? = some (some (.ref bq)) ∧ H1 bq = some (.tup [.int m', .int w', .int l', .int a'])) [.str "setting", .str wd] J10 W [f1, f6, f7, f8, f9, f10] := Y10
      clear Y10
      have kT : Keep [] J10 (upd J10 tt (.tup [.str "late", .str "ahead"])) := Keep.refl.new ntt
      have Z0 := X10'.ext kT.ext
      have dZ := dJ10.keep (S := []) kT nin_nil none_nil
      have tZ := Tabs.keep tJ10 kT plain0
      have qZ := kT.1 _ _ nin_nil qJ10
      have bZ := kT.1 _ _ nin_nil bJ10
      refine w_inO upd_same rfl rfl rfl ?_
      rw [inV_two]
      generalize upd J10 tt (.tup [.str "late", .str "ahead"]) = J11 at Z0 dZ tZ qZ bZ ⊢
      clear kT X10' dJ10 tJ10 qJ10 bJ10 ntt
      walk_at "rd"
      refine cut_ifO (fun σ' H' => ∃ fs v7 v8 v9 v10 v11 v12 v13 v14, σ' = [some (.ref a), some (.ref d), some (.int (i : Nat)), some (.ref q), some (.ref bq), some (.str wd), some (.ref W), v7, v8, v9, v10, v11, v12, v13, v14] ∧ Works G C1 C2 C3 C4 C5 C6 ((envOfC "law" (defScope s_law) s.heap.objs.size f (.ref cL)).qual ++ "<lambda>") (envOfC "law" (defScope s_law) s.heap.objs.size f (.ref cL)).cells (fun σ1 H1 => σ1[4]? = some (some (.ref bq)) ∧ H1 bq = some (.tup [.int m', .int w', .int l', .int a'])) [.str "setting", .str wd] H' W fs ∧ fs.length ≤ 7 ∧ Dice K H H' d ∧ LamX.Tabs [(PT, (envOfC "law" (defScope s_law) s.heap.objs.size f (.ref cL)).qual ++ "<lambda>")] H' ∧ H' q = some (.tup [.int m, .int wi, .int l, .int ah]) ∧ H' bq = some (.tup [.int m', .int w', .int l', .int a'])) (fun σ' H' pv => ?_) (fun R rest => ?_)
      · obtain ⟨fs, v7, v8, v9, v10, v11, v12, v13, v14, rfl, Z, lfs, dY, tY, qY, bY⟩ := pv
        clear Z0 dZ tZ qZ bZ frW
        walk_at "rd"
        refine w_lcI ?_
        walk_at "rd"
        refine l_lcLP (xs := fs.map V.ref) (SqL.of Z.w) (fun D ix Hx => Hx D = some (.lst []) ∧ Keep [] H' Hx) (fun D hD => ⟨upd_same, Keep.refl.new hD⟩) (fun D ix Hx hD pv => SqL.of (pv.2.1 _ _ nin_nil Z.w)) (fun D ix x Hx hD hx pv => ?_) (fun D Hx hD pv => ?_)
        · obtain ⟨hDx, kx⟩ := pv
          obtain ⟨f', hf', rfl⟩ := map_ref hx
          walk_at "rd"
          refine w_toldB (fun R h => ⟨.ref f', rfl, h⟩) ((Z.r f' (List.mem_of_getElem? hf')).ext kx.ext) ⟨rfl, kx.1 _ _ nin_nil bY⟩ (fun p H2 k2 hp => ?_)
          have kx2 := kx.trans k2
          have hD2 := k2.1 _ _ nin_nil hDx
          walk_at "rd"
          rename_i t3 nt3
          refine w_neT (SqT.of (at_new nt3 hp)) (SqT.of upd_same) (atoms_sw hbad) (atoms_sw hbad) ?_
          walk_at "rd"
          refine Ak.w_iteN (fun z => absurd rfl z) (fun _ => ?_)
          exact ⟨at_new nt3 hD2, kx2.new nt3⟩
        · obtain ⟨hDx, kx⟩ := pv
          walk_at "rd"
          rename_i L9 nL9
          refine w_neE (ns := []) (SqL.of (at_new nL9 hDx)) (SqL.of upd_same) ?_
          have k9 := kx.new (o := .lst []) nL9
          have d9 := dY.keep (S := []) k9 nin_nil none_nil
          have t9 := Tabs.keep tY k9 plain0
          have q9 := k9.1 _ _ nin_nil qY
          generalize upd Hx L9 (.lst []) = H9 at d9 t9 q9 ⊢
          clear k9 kx hDx nL9 Z dY tY qY bY
          walk_at "rd"
          refine Ak.w_iteN (fun z => absurd rfl z) (fun _ => ?_)
          obtain ⟨xs9, hd9⟩ := d9.lst
          walk_at "rd"
          rw [show (10 : Int) ^ Int.toNat 9 = 1000000000 from by decide +kernel]
          walk_at "rd"
          rename_i fr HA xsA fr0 fr1 dA hdA kA LO nLO r1 HB xsB b0 b1 dB hdB kB
          have tA := Tabs.keep t9 kA (plain1 (Plain.lst hd9))
          have qA := kA.1 _ _ (nin_cons hqd nin_nil) q9
          clear kA t9 q9 d9 hd9
          have LOd : LO ≠ d := Ne.symm (ne_of_none hdA nLO)
          have hLO := kB.1 _ _ (nin_cons LOd nin_nil) upd_same
          have kAB : Keep [d] HA HB := (Keep.refl.new nLO).trans kB
          have tB := Tabs.keep tA kAB (plain1 (Plain.lst hdA))
          have qB := kAB.1 _ _ (nin_cons hqd nin_nil) qA
          refine Ak.pickP (fun v => v < 1 ∨ 8 < v) (SqL.of hLO) b0 (by show _ < (4 : Int); omega) (fun x hx => ?_) (fun odd hodd => ?_)
          · (repeat (rcases List.mem_cons.mp hx with rfl | hx; · exact ⟨_, rfl, by omega⟩))
            exact absurd hx List.not_mem_nil
          clear hLO kAB kB tA qA nLO
          walk_at "rd"
          rename_i LP nLP r2 HC xsC c0 c1 dC hdC kC
          have LPd : LP ≠ d := Ne.symm (ne_of_none hdB nLP)
          have hLP := kC.1 _ _ (nin_cons LPd nin_nil) upd_same
          have kBC : Keep [d] HB HC := (Keep.refl.new nLP).trans kC
          have tC := Tabs.keep tB kBC (plain1 (Plain.lst hdB))
          have qC := kBC.1 _ _ (nin_cons hqd nin_nil) qB
          refine Ak.pickP (fun v => v < 1 ∨ 20 < v) (SqL.of hLP) c0 (by show _ < (4 : Int); omega) (fun x hx => ?_) (fun more hmore => ?_)
          · (repeat (rcases List.mem_cons.mp hx with rfl | hx; · exact ⟨_, rfl, by omega⟩))
            exact absurd hx List.not_mem_nil
          clear hLP kBC kC tB qB nLP
          walk_at "rd"
          refine ⟨tC, fun HD extD tD => ?_⟩
          have dD := dC.ext' extD
          have qD := extD _ _ qC (fun _ z => by cases z)
          clear extD tC dC qC
          refine told_in ?_
          refine r_Load (r := odd) (t := more) rfl rfl (Or.inl ⟨rfl, by omega⟩) (fun dd HD' ndd kdd hdd => ⟨_, ToldW.setting hdd rfl, fun p2 HE np2 kE0 hp2 => ?_⟩)
          have kE := kdd.trans kE0
          have dE := dD.keep (S := []) kE nin_nil none_nil
          have tE := Tabs.keep tD kE plain0
          have qE := kE.1 _ _ nin_nil qD
          clear dD tD qD kE
          walk_at "rd"
          rename_i t5 nt5
          refine w_neT (SqT.of (at_new nt5 hp2)) (SqT.of upd_same) (by decide +kernel) (by decide +kernel) ?_
          have kF : Keep [] HE (upd HE t5 (.tup [.str "setting", .str "room"])) := Keep.refl.new nt5
          have dF := dE.keep (S := []) kF nin_nil none_nil
          have tF := Tabs.keep tE kF plain0
          have qF := kF.1 _ _ nin_nil qE
          generalize upd HE t5 (.tup [.str "setting", .str "room"]) = HF at dF tF qF ⊢
          clear kF dE tE qE nt5 hp2
          walk_at "rd"
          refine Ak.w_iteN (fun z => absurd rfl z) (fun _ => ?_)
          walk_at "rd"
          refine ⟨tF, fun HG extG tG => ?_⟩
          have dG := dF.ext' extG
          have qG := extG _ _ qF (fun _ z => by cases z)
          clear extG tF dF qF
          refine told_in ?_
          refine r_Load8 (t := more) rfl (Or.inr ⟨rfl, ⟨by decide, by decide⟩, by omega⟩) (fun dd HD' ndd kdd hdd => ⟨_, ToldW.setting hdd rfl, fun p2 HI np2 kI0 hp2 => ?_⟩)
          have kI := kdd.trans kI0
          have dI := dG.keep (S := []) kI nin_nil none_nil
          have tI := Tabs.keep tG kI plain0
          have qI := kI.1 _ _ nin_nil qG
          clear dG tG qG kI
          walk_at "rd"
          rename_i t6 nt6
          refine w_neT (SqT.of (at_new nt6 hp2)) (SqT.of upd_same) (by decide +kernel) (by decide +kernel) ?_
          have kF : Keep [] HI (upd HI t6 (.tup [.str "setting", .str "wait"])) := Keep.refl.new nt6
          have dJ := dI.keep (S := []) kF nin_nil none_nil
          have tJ := Tabs.keep tI kF plain0
          have qJ := kF.1 _ _ nin_nil qI
          generalize upd HI t6 (.tup [.str "setting", .str "wait"]) = HJ at dJ tJ qJ ⊢
          clear kF dI tI qI nt6 hp2
          walk_at "rd"
          refine Ak.w_iteN (fun z => absurd rfl z) (fun _ => ?_)
          obtain ⟨xsJ, hdJ⟩ := dJ.lst
          have m2 := so.m0
          have m64 := so.m1
          walk_at "rd"
          rename_i LM nLM r3 HK xsK g0 g1 dK hdK kK
          have LMd : LM ≠ d := Ne.symm (ne_of_none hdJ nLM)
          have hLM := kK.1 _ _ (nin_cons LMd nin_nil) upd_same
          have kJK : Keep [d] HJ HK := (Keep.refl.new nLM).trans kK
          have tK := Tabs.keep tJ kJK (plain1 (Plain.lst hdJ))
          have qK := kJK.1 _ _ (nin_cons hqd nin_nil) qJ
          refine Ak.pickP (fun v => ¬ MarkOk v m ∧ v.natAbs < 2 ^ 59) (SqL.of hLM) g0 (by show _ < (4 : Int); omega) (fun x hx => ?_) (fun mk hmk => ?_)
          · (repeat (rcases List.mem_cons.mp hx with rfl | hx; · exact ⟨_, rfl, fun z => by have := z.1; have := z.2; omega, by omega⟩))
            exact absurd hx List.not_mem_nil
          clear hLM kJK kK tJ qJ nLM dJ hdJ
          walk_at "rd"
          refine ⟨H, d, q, m, wi, l, ah, rfl, dK, qK, so, fun bb bs HL hbb lbs sm nob dL kL => ?_⟩
          have tL := Tabs.keep tK kL (plain1 (Plain.lst hdK))
          have qL := kL.1 _ _ (nin_cons hqd nin_nil) qK
          clear kL tK qK dK hdK
          walk_at "rd"
          intro p dx np ndx nxp
          have k0 : Keep [] HL (upd (upd HL dx (.own p)) p (.ins CE dx [])) := (Keep.refl.own ndx).own np
          refine ⟨p, q, m, wi, l, ah, dx, rfl, SqT.of (k0.1 _ _ nin_nil qL), upd_same, fun w2 hb2 => absurd so (bad_ok hb2), fun _ ce HM hE nce kM => ⟨rfl, ?_⟩⟩
          have kLM : Keep [] HL HM := Keep.fresh kM (fun b hb => by rw [List.mem_singleton.mp hb]; exact np) k0
          have dM := dL.keep (S := []) kLM nin_nil none_nil
          have tM := Tabs.keep tL kLM plain0
          have qM := kLM.1 _ _ nin_nil qL
          have bM := kLM.1 _ _ nin_nil hbb
          clear kM k0 nce ndx np kLM dL tL qL hbb
          walk_at "rd"
          intro p9 dx9 np9 ndx9 nxp9
          have k0 : Keep [] HM (upd (upd HM dx9 (.own p9)) p9 (.ins CM dx9 [])) := (Keep.refl.own ndx9).own np9
          refine ⟨p9, q, m, wi, l, ah, dx9, rfl, SqT.of (k0.1 _ _ nin_nil qM), upd_same, fun w2 hb2 => absurd so (bad_ok hb2), fun _ ce9 HN hMo nce9 kN => ⟨rfl, ?_⟩⟩
          have kMN : Keep [] HM HN := Keep.fresh kN (fun b hb => by rw [List.mem_singleton.mp hb]; exact np9) k0
          have dN := dM.keep (S := []) kMN nin_nil none_nil
          have tN2 := Tabs.keep tM kMN plain0
          have qN := kMN.1 _ _ nin_nil qM
          have bN := kMN.1 _ _ nin_nil bM
          have eN := hE.keep kMN nin_nil nin_nil
          clear kN k0 nce9 ndx9 np9 kMN dM tM qM bM hE
          walk_at "rd"
          rename_i tp ntp
          have kP : Keep [] HN (upd HN tp (.tup [.ref p, .ref p9])) := Keep.refl.new ntp
          have dP := dN.keep (S := []) kP nin_nil none_nil
          have tP := Tabs.keep tN2 kP plain0
          have qP := kP.1 _ _ nin_nil qN
          have bP := kP.1 _ _ nin_nil bN
          have eP := eN.keep kP nin_nil nin_nil
          have mP := hMo.keep kP nin_nil nin_nil
          generalize upd HN tp (.tup [.ref p, .ref p9]) = HP at dP tP qP bP eP mP ⊢
          clear kP ntp dN tN2 qN bN eN hMo
          refine w_lamP tP (fun l1 L1' HQ gg1 ex1 _ tQ nl1 la1 => ?_)
          have z1 : WorkAt G C1 C2 C3 C4 C5 C6 ((envOfC "law" (defScope s_law) s.heap.objs.size f (.ref cL)).qual ++ "<lambda>") (envOfC "law" (defScope s_law) s.heap.objs.size f (.ref cL)).cells (EMs CE CM q bb p ce p9 ce9 m wi l ah mk bs) [.str "mark"] HQ l1 := ⟨L1', _, gg1, la1, fun σ1 H1 Qk px hh => r_come px hmk.2 hmk.1 (fun H' k' => ⟨_, ToldW.mark, fun p2 H2 np k2 hp => hh p2 H2 (k'.trans k2) hp⟩)⟩
          have dQ := dP.ext' ex1
          have qQ := ex1 _ _ qP (fun _ z => by cases z)
          have bQ := ex1 _ _ bP (fun _ z => by cases z)
          have eQ := ear_ext eP ex1
          have mQ := mouth_ext mP ex1
          clear ex1 la1 gg1 nl1 dP tP qP bP eP mP
          walk_at "rd"
          rename_i W2 nW2
          have kW : Keep [] HQ (upd HQ W2 (.lst [.ref l1])) := Keep.refl.new nW2
          have X0 : Works G C1 C2 C3 C4 C5 C6 ((envOfC "law" (defScope s_law) s.heap.objs.size f (.ref cL)).qual ++ "<lambda>") (envOfC "law" (defScope s_law) s.heap.objs.size f (.ref cL)).cells (EMs CE CM q bb p ce p9 ce9 m wi l ah mk bs) [.str "mark"] (upd HQ W2 (.lst [.ref l1])) W2 [l1] := Works.one nW2 z1
          have frW2 : Fr H W2 := Fr.of dQ.ext nW2
          have Wd2 : W2 ≠ d := by
            obtain ⟨xs5, hd5⟩ := dQ.lst
            exact Ne.symm (ne_of_none hd5 nW2)
          have nce : ce ≠ W2 := by
            obtain ⟨dxe, h1, h2⟩ := eQ
            exact ne_of_none h2 nW2
          have dR := dQ.keep (S := []) kW nin_nil none_nil
          have tR := Tabs.keep tQ kW plain0
          have qR := kW.1 _ _ nin_nil qQ
          have bR := kW.1 _ _ nin_nil bQ
          have eR := eQ.keep kW nin_nil nin_nil
          have mR := mQ.keep kW nin_nil nin_nil
          generalize upd HQ W2 (.lst [.ref l1]) = HR at X0 dR tR qR bR eR mR ⊢
          clear kW nW2 z1 dQ tQ qQ bQ eQ mQ
          refine w_lamP tR (fun l2 Fl2 HS gl2 exl2 _ tS nl2 lal2 => ?_)
          have zl2 : WorkAt G C1 C2 C3 C4 C5 C6 ((envOfC "law" (defScope s_law) s.heap.objs.size f (.ref cL)).qual ++ "<lambda>") (envOfC "law" (defScope s_law) s.heap.objs.size f (.ref cL)).cells (EMs CE CM q bb p ce p9 ce9 m wi l ah mk bs) [.str "mark"] HS l2 := ⟨Fl2, _, gl2, lal2, fun σ1 H1 Qk px hh => r_hearM px so lbs sm hmk.2 hmk.1 (fun H' k' => ⟨_, ToldW.mark, fun p2 H2 np k2 hp => hh p2 H2 (k'.trans k2) hp⟩)⟩
          have Xl2 := X0.ext exl2
          have hWl2 := Xl2.w
          have dS := dR.ext' exl2
          have qS := exl2 _ _ qR (fun _ z => by cases z)
          have bS := exl2 _ _ bR (fun _ z => by cases z)
          have eS := ear_ext eR exl2
          have mS := mouth_ext mR exl2
          walk_at "rd"
          have kW : Keep [W2] HS (upd HS W2 (.lst ([l1].map V.ref ++ [.ref l2]))) := Keep.refl.set List.mem_cons_self
          have Yl2 : Works G C1 C2 C3 C4 C5 C6 ((envOfC "law" (defScope s_law) s.heap.objs.size f (.ref cL)).qual ++ "<lambda>") (envOfC "law" (defScope s_law) s.heap.objs.size f (.ref cL)).cells (EMs CE CM q bb p ce p9 ce9 m wi l ah mk bs) [.str "mark"] (upd HS W2 (.lst ([l1].map V.ref ++ [.ref l2]))) W2 ([l1] ++ [l2]) := Xl2.add zl2
          have dV := dS.keepF kW.x (nin_cons (Ne.symm Wd2) nin_nil) (fun b hb => by rw [List.mem_singleton.mp hb]; exact frW2)
          have tV := Tabs.keep tS kW (plain1 (Plain.lst hWl2))
          have qV := kW.1 _ _ (nin_cons (ne_of qS hWl2 (by intro z; cases z)) nin_nil) qS
          have bV := kW.1 _ _ (nin_cons (ne_of bS hWl2 (by intro z; cases z)) nin_nil) bS
          have eV := ear_keepW eS kW hWl2 nce
          have mV := mouth_keepW mS kW hWl2
          generalize upd HS W2 (.lst ([l1].map V.ref ++ [.ref l2])) = HV at Yl2 dV tV qV bV eV mV ⊢
          clear kW Xl2 zl2 hWl2 dS tS qS bS eS mS exl2 nl2 lal2 gl2 X0 dR tR qR bR eR mR
          have Yl2' : Works G C1 C2 C3 C4 C5 C6 ((envOfC "law" (defScope s_law) s.heap.objs.size f (.ref cL)).qual ++ "<lambda>") (envOfC "law" (defScope s_law) s.heap.objs.size f (.ref cL)).cells (EMs CE CM q bb p ce p9 ce9 m wi l ah mk bs) [.str "mark"] HV W2 [l1, l2] := Yl2
          clear Yl2
          refine w_lamP tV (fun l3 Fl3 HU gl3 exl3 _ tU nl3 lal3 => ?_)
          have zl3 : WorkAt G C1 C2 C3 C4 C5 C6 ((envOfC "law" (defScope s_law) s.heap.objs.size f (.ref cL)).qual ++ "<lambda>") (envOfC "law" (defScope s_law) s.heap.objs.size f (.ref cL)).cells (EMs CE CM q bb p ce p9 ce9 m wi l ah mk bs) [.str "mark"] HU l3 := ⟨Fl3, _, gl3, lal3, fun σ1 H1 Qk px hh => r_writtenM px so lbs sm hmk.2 hmk.1 (fun H' k' => ⟨_, ToldW.mark, fun p2 H2 np k2 hp => hh p2 H2 (k'.trans k2) hp⟩)⟩
          have Xl3 := Yl2'.ext exl3
          have hWl3 := Xl3.w
          have dU := dV.ext' exl3
          have qU := exl3 _ _ qV (fun _ z => by cases z)
          have bU := exl3 _ _ bV (fun _ z => by cases z)
          have eU := ear_ext eV exl3
          have mU := mouth_ext mV exl3
          walk_at "rd"
          have kW : Keep [W2] HU (upd HU W2 (.lst ([l1, l2].map V.ref ++ [.ref l3]))) := Keep.refl.set List.mem_cons_self
          have Yl3 : Works G C1 C2 C3 C4 C5 C6 ((envOfC "law" (defScope s_law) s.heap.objs.size f (.ref cL)).qual ++ "<lambda>") (envOfC "law" (defScope s_law) s.heap.objs.size f (.ref cL)).cells (EMs CE CM q bb p ce p9 ce9 m wi l ah mk bs) [.str "mark"] (upd HU W2 (.lst ([l1, l2].map V.ref ++ [.ref l3]))) W2 ([l1, l2] ++ [l3]) := Xl3.add zl3
          have dY := dU.keepF kW.x (nin_cons (Ne.symm Wd2) nin_nil) (fun b hb => by rw [List.mem_singleton.mp hb]; exact frW2)
          have tY := Tabs.keep tU kW (plain1 (Plain.lst hWl3))
          have qY := kW.1 _ _ (nin_cons (ne_of qU hWl3 (by intro z; cases z)) nin_nil) qU
          have bY := kW.1 _ _ (nin_cons (ne_of bU hWl3 (by intro z; cases z)) nin_nil) bU
          have eY := ear_keepW eU kW hWl3 nce
          have mY := mouth_keepW mU kW hWl3
          generalize upd HU W2 (.lst ([l1, l2].map V.ref ++ [.ref l3])) = HY at Yl3 dY tY qY bY eY mY ⊢
          clear kW Xl3 zl3 hWl3 dU tU qU bU eU mU exl3 nl3 lal3 gl3 Yl2' dV tV qV bV eV mV
          have Z2 : Works G C1 C2 C3 C4 C5 C6 ((envOfC "law" (defScope s_law) s.heap.objs.size f (.ref cL)).qual ++ "<lambda>") (envOfC "law" (defScope s_law) s.heap.objs.size f (.ref cL)).cells (EMs CE CM q bb p ce p9 ce9 m wi l ah mk bs) [.str "mark"] HY W2 [l1, l2, l3] := Yl3
          clear Yl3
          refine w_lcI ?_
          walk_at "rd"
          refine l_lcLP (xs := [l1, l2, l3].map V.ref) (SqL.of Z2.w) (fun D ix Hx => Hx D = some (.lst []) ∧ Keep [] HY Hx) (fun D hD => ⟨upd_same, Keep.refl.new hD⟩) (fun D ix Hx hD pv => SqL.of (pv.2.1 _ _ nin_nil Z2.w)) (fun D ix x Hx hD hx pv => ?_) (fun D Hx hD pv => ?_)
          · obtain ⟨hDx, kx⟩ := pv
            obtain ⟨f', hf', rfl⟩ := map_ref hx
            walk_at "rd"
            refine w_toldB (fun R h => ⟨.ref f', rfl, h⟩) ((Z2.r f' (List.mem_of_getElem? hf')).ext kx.ext) ⟨rfl, rfl, rfl, rfl, rfl, kx.1 _ _ nin_nil qY, kx.1 _ _ nin_nil bY, eY.keep kx nin_nil nin_nil, mY.keep kx nin_nil nin_nil⟩ (fun p2 H2 k2 hp => ?_)
            have kx2 := kx.trans k2
            have hD2 := k2.1 _ _ nin_nil hDx
            walk_at "rd"
            rename_i t3 nt3
            refine w_neT (SqT.of (at_new nt3 hp)) (SqT.of upd_same) (by decide +kernel) (by decide +kernel) ?_
            walk_at "rd"
            refine Ak.w_iteN (fun z => absurd rfl z) (fun _ => ?_)
            exact ⟨at_new nt3 hD2, kx2.new nt3⟩
          · obtain ⟨hDx, kx⟩ := pv
            walk_at "rd"
            rename_i L9 nL9
            refine w_neE (ns := []) (SqL.of (at_new nL9 hDx)) (SqL.of upd_same) ?_
            have k9 := kx.new (o := .lst []) nL9
            have d9 := dY.keep (S := []) k9 nin_nil none_nil
            have t9 := Tabs.keep tY k9 plain0
            have q9 := k9.1 _ _ nin_nil qY
            have b9 := k9.1 _ _ nin_nil bY
            have e9 := eY.keep k9 nin_nil nin_nil
            have m9 := mY.keep k9 nin_nil nin_nil
            generalize upd Hx L9 (.lst []) = HZ at d9 t9 q9 b9 e9 m9 ⊢
            clear k9 kx hDx nL9 Z2 dY tY qY bY eY mY
            walk_at "rd"
            refine Ak.w_iteN (fun z => absurd rfl z) (fun _ => ?_)
            walk_at "rd"
            refine w_lamP t9 (fun lA2 FA2 HA2 ggA2 exA2 _ tA2 nlA2 laA2 => ?_)
            have zA2 : WorkAt G C1 C2 C3 C4 C5 C6 ((envOfC "law" (defScope s_law) s.heap.objs.size f (.ref cL)).qual ++ "<lambda>") (envOfC "law" (defScope s_law) s.heap.objs.size f (.ref cL)).cells (EMs CE CM q bb p ce p9 ce9 m wi l ah mk bs) [.str "bits"] HA2 lA2 := ⟨FA2, _, ggA2, laA2, fun σ1 H1 Qk px hh => r_hear0 px so lbs sm nob (fun H' k' => ⟨_, ToldW.bits, fun p2 H2 np k2 hp => hh p2 H2 (k'.trans k2) hp⟩)⟩
            have dA2 := d9.ext' exA2
            have qA2 := exA2 _ _ q9 (fun _ z => by cases z)
            have bA2 := exA2 _ _ b9 (fun _ z => by cases z)
            have eA2 := ear_ext e9 exA2
            have mA2 := mouth_ext m9 exA2
            clear exA2 laA2 ggA2 nlA2 d9 t9 q9 b9 e9 m9
            walk_at "rd"
            refine w_lamP tA2 (fun lB2 FB2 HB2 ggB2 exB2 _ tB2 nlB2 laB2 => ?_)
            have zB2 : WorkAt G C1 C2 C3 C4 C5 C6 ((envOfC "law" (defScope s_law) s.heap.objs.size f (.ref cL)).qual ++ "<lambda>") (envOfC "law" (defScope s_law) s.heap.objs.size f (.ref cL)).cells (EMs CE CM q bb p ce p9 ce9 m wi l ah mk bs) [.str "bits"] HB2 lB2 := ⟨FB2, _, ggB2, laB2, fun σ1 H1 Qk px hh => r_written0 px so lbs sm nob (fun H' k' => ⟨_, ToldW.bits, fun p2 H2 np k2 hp => hh p2 H2 (k'.trans k2) hp⟩)⟩
            replace zA2 := zA2.ext exB2
            have dB2 := dA2.ext' exB2
            have qB2 := exB2 _ _ qA2 (fun _ z => by cases z)
            have bB2 := exB2 _ _ bA2 (fun _ z => by cases z)
            have eB2 := ear_ext eA2 exB2
            have mB2 := mouth_ext mA2 exB2
            clear exB2 laB2 ggB2 nlB2 dA2 tA2 qA2 bA2 eA2 mA2
            walk_at "rd"
            refine w_lamP tB2 (fun lC2 FC2 HC2 ggC2 exC2 _ tC2 nlC2 laC2 => ?_)
            have zC2 : WorkAt G C1 C2 C3 C4 C5 C6 ((envOfC "law" (defScope s_law) s.heap.objs.size f (.ref cL)).qual ++ "<lambda>") (envOfC "law" (defScope s_law) s.heap.objs.size f (.ref cL)).cells (EMs CE CM q bb p ce p9 ce9 m wi l ah mk bs) [.str "bits"] HC2 lC2 := ⟨FC2, _, ggC2, laC2, fun σ1 H1 Qk px hh => r_tell px (fun H' k' => ⟨_, ToldW.bits, fun p2 H2 np k2 hp => hh p2 H2 (k'.trans k2) hp⟩)⟩
            replace zA2 := zA2.ext exC2
            replace zB2 := zB2.ext exC2
            have dC2 := dB2.ext' exC2
            have qC2 := exC2 _ _ qB2 (fun _ z => by cases z)
            have bC2 := exC2 _ _ bB2 (fun _ z => by cases z)
            have eC2 := ear_ext eB2 exC2
            have mC2 := mouth_ext mB2 exC2
            clear exC2 laC2 ggC2 nlC2 dB2 tB2 qB2 bB2 eB2 mB2
            walk_at "rd"
            rename_i W3 nW3
            have kW : Keep [] HC2 (upd HC2 W3 (.lst [.ref lA2, .ref lB2, .ref lC2])) := Keep.refl.new nW3
            have Y3 : Works G C1 C2 C3 C4 C5 C6 ((envOfC "law" (defScope s_law) s.heap.objs.size f (.ref cL)).qual ++ "<lambda>") (envOfC "law" (defScope s_law) s.heap.objs.size f (.ref cL)).cells (EMs CE CM q bb p ce p9 ce9 m wi l ah mk bs) [.str "bits"] (upd HC2 W3 (.lst [.ref lA2, .ref lB2, .ref lC2])) W3 [lA2, lB2, lC2] := Works.three nW3 zA2 zB2 zC2
            have dW := dC2.keep (S := []) kW nin_nil none_nil
            have tW := Tabs.keep tC2 kW plain0
            have qW := kW.1 _ _ nin_nil qC2
            have bW := kW.1 _ _ nin_nil bC2
            have eW := eC2.keep kW nin_nil nin_nil
            have mW := mC2.keep kW nin_nil nin_nil
            generalize upd HC2 W3 (.lst [.ref lA2, .ref lB2, .ref lC2]) = HW3 at Y3 dW tW qW bW eW mW ⊢
            clear kW nW3 zA2 zB2 zC2 dC2 tC2 qC2 bC2 eC2 mC2
            walk_at "rd"
            refine w_lcI ?_
            walk_at "rd"
            refine l_lcLP (xs := [lA2, lB2, lC2].map V.ref) (SqL.of Y3.w) (fun D ix Hx => Hx D = some (.lst []) ∧ Keep [] HW3 Hx) (fun D hD => ⟨upd_same, Keep.refl.new hD⟩) (fun D ix Hx hD pv => SqL.of (pv.2.1 _ _ nin_nil Y3.w)) (fun D ix x Hx hD hx pv => ?_) (fun D Hx hD pv => ?_)
            · obtain ⟨hDx, kx⟩ := pv
              obtain ⟨f', hf', rfl⟩ := map_ref hx
              walk_at "rd"
              refine w_toldB (fun R h => ⟨.ref f', rfl, h⟩) ((Y3.r f' (List.mem_of_getElem? hf')).ext kx.ext) ⟨rfl, rfl, rfl, rfl, rfl, kx.1 _ _ nin_nil qW, kx.1 _ _ nin_nil bW, eW.keep kx nin_nil nin_nil, mW.keep kx nin_nil nin_nil⟩ (fun p2 H2 k2 hp => ?_)
              have kx2 := kx.trans k2
              have hD2 := k2.1 _ _ nin_nil hDx
              walk_at "rd"
              rename_i t3 nt3
              refine w_neT (SqT.of (at_new nt3 hp)) (SqT.of upd_same) (by decide +kernel) (by decide +kernel) ?_
              walk_at "rd"
              refine Ak.w_iteN (fun z => absurd rfl z) (fun _ => ?_)
              exact ⟨at_new nt3 hD2, kx2.new nt3⟩
            · obtain ⟨hDx, kx⟩ := pv
              walk_at "rd"
              rename_i L9 nL9
              refine w_neE (ns := []) (SqL.of (at_new nL9 hDx)) (SqL.of upd_same) ?_
              have k9 := kx.new (o := .lst []) nL9
              have dX := dW.keep (S := []) k9 nin_nil none_nil
              have tX := Tabs.keep tW k9 plain0
              have eX := eW.keep k9 nin_nil nin_nil
              have mX := mW.keep k9 nin_nil nin_nil
              generalize upd Hx L9 (.lst []) = HX at dX tX eX mX ⊢
              clear k9 kx hDx nL9 Y3 dW tW qW bW eW mW
              walk_at "rd"
              refine Ak.w_iteN (fun z => absurd rfl z) (fun _ => ?_)
              walk_at "rd"
              obtain ⟨dxe, hpe, hce⟩ := id eX
              obtain ⟨dxm, hpm, hcm⟩ := id mX
              have ah0 := so.a0
              refine ⟨p, dxe, _, rfl, hpe, rfl, p, ce, m, wi, l, -1, [], rfl, eX, ?_⟩
              walk_at "rd"
              refine ⟨p9, ce9, m, wi, ah, -1, -1, [], rfl, mX, ?_⟩
              walk_at "rd"
              refine ⟨p9, ce9, m, wi, ah, -1, -1, [], rfl, mX, fun fS HS2 nfS hfS kS => ?_⟩
              rw [srt_of .nil] at hfS
              have mT := mX.keep kS nin_nil nin_nil
              have hpm2 := kS.1 _ _ nin_nil hpm
              have dT2 := dX.keep (S := []) kS nin_nil none_nil
              have tT2 := Tabs.keep tX kS plain0
              clear dX tX eX kS hpe
              walk_at "rd"
              refine ⟨p9, ce9, m, wi, ah, -1, -1, [], rfl, mT, ?_⟩
              walk_at "rd"
              rename_i A1 nA1 A2 nA2 A3 nA3
              rw [show decide (-1 + ah < -1 + 1) = false from decide_eq_false (by omega)] at nA2 nA3 ⊢
              have g1 : (upd (upd (upd HS2 A1 (.lst [.int (-1), .int (-1), .ref fS, .bl false])) A2 (.lst [])) A3 (.lst [.int (-1), .int (-1), .ref A2, .bl false])) A1 = some (.lst [.int (-1), .int (-1), .ref fS, .bl false]) := at_new nA3 (at_new nA2 upd_same)
              have g2 : (upd (upd (upd HS2 A1 (.lst [.int (-1), .int (-1), .ref fS, .bl false])) A2 (.lst [])) A3 (.lst [.int (-1), .int (-1), .ref A2, .bl false])) A2 = some (.lst []) := at_new nA3 upd_same
              have g3 : (upd (upd (upd HS2 A1 (.lst [.int (-1), .int (-1), .ref fS, .bl false])) A2 (.lst [])) A3 (.lst [.int (-1), .int (-1), .ref A2, .bl false])) fS = some (.lst []) := at_new nA3 (at_new nA2 (at_new nA1 hfS))
              have kL : Keep [] HS2 (upd (upd (upd HS2 A1 (.lst [.int (-1), .int (-1), .ref fS, .bl false])) A2 (.lst [])) A3 (.lst [.int (-1), .int (-1), .ref A2, .bl false])) := ((Keep.refl.new nA1).new nA2).new nA3
              refine like_go (al_lst g1 upd_same (.cons al_int (.cons al_int (.cons (al_lst g3 g2 .nil (Nat.zero_le _)) (.cons al_bl .nil)))) (Nat.le_of_ble_eq_true rfl)) ?_
              have dU2 := dT2.keep (S := []) kL nin_nil none_nil
              have tU2 := Tabs.keep tT2 kL plain0
              clear g1 g2 g3
              walk_at "rd"
              exact ⟨_, _, _, _, _, _, _, _, _, _, _, _, _, rfl, dU2, tU2⟩
      · refine Ak.w_iteB (fun z => ?_) (fun z => ?_)
        · have hWZ := Z0.w
          walk_at "rd"
          refine w_lamP tZ (fun f11 F11 H11 g11 e11 _ tb11 nf11 la11 => ?_)
          have y11 : WorkAt G C1 C2 C3 C4 C5 C6 ((envOfC "law" (defScope s_law) s.heap.objs.size f (.ref cL)).qual ++ "<lambda>") (envOfC "law" (defScope s_law) s.heap.objs.size f (.ref cL)).cells (fun σ1 H1 => σ1[4]? = some (some (.ref bq)) ∧ H1 bq = some (.tup [.int m', .int w', .int l', .int a'])) [.str "setting", .str wd] H11 f11 := ⟨F11, _, g11, la11, fun σ1 H1 Qk p h => r_fewest p.1 p.2 hbad (of_decide_eq_true z) (raises_word h)⟩
          have X11 := Z0.ext e11
          have hW11 := X11.w
          have dd11 := dZ.ext' e11
          have qq11 := e11 _ _ qZ (fun _ z => by cases z)
          have bb11 := e11 _ _ bZ (fun _ z => by cases z)
          walk_at "rd"
          have kW : Keep [W] H11 (upd H11 W (.lst ([f1, f6, f7, f8, f9, f10].map V.ref ++ [.ref f11]))) := Keep.refl.set List.mem_cons_self
          exact rest _ _ ⟨[f1, f6, f7, f8, f9, f10] ++ [f11], _, _, _, _, _, _, _, _, rfl, X11.add y11, (Nat.le_of_ble_eq_true rfl), dd11.keepF kW.x (nin_cons (Ne.symm Wd) nin_nil) (fun b hb => by rw [List.mem_singleton.mp hb]; exact frW), Tabs.keep tb11 kW (plain1 (Plain.lst hW11)), kW.1 _ _ (nin_cons (ne_of qq11 hW11 (by intro z; cases z)) nin_nil) qq11, kW.1 _ _ (nin_cons (ne_of bb11 hW11 (by intro z; cases z)) nin_nil) bb11⟩
        · walk_at "rd"
          exact rest _ _ ⟨[f1, f6, f7, f8, f9, f10], _, _, _, _, _, _, _, _, rfl, Z0, (Nat.le_of_ble_eq_true rfl), dZ, tZ, qZ, bZ⟩
    · obtain ⟨v2, v3, v4, v5, v6, v7, v8, v9, v10, v11, v12, v13, v14, rfl, dcx, tb⟩ := pv
      walk_at "rd"
      exact k _
end
end Ak
namespace Ak
open PySem PySem.Spec PyProof.Rows L2
theorem all_mk {l : PySem.W.OpenLaw} {w : World} {K : PySem.W.Frag} {h : Heap} {mg : Str → Option Value} {fa A_Ear A_Mouth A_World A_Load A_BadMark A_BadBits A_BadSetting A_in_BadSetting A_cc_BadSetting A_cd_BadSetting A_BitsError A_Full A_BadEvent A_BadText A_l_told A_BOUNDS A_t1 A_t2 A_t3 A_t4 A_t5 A_t6 A_l_like A_l_next A_l_dice A_l_setting A_check_mark A_check_bits A_check_telling A_check_number A_check_setting A_Ear___init A_Mouth___init A_World___init A_played A_judged A_written A_read A_fewest A_Load___init A_Ear_come A_Ear_tell A_Mouth_hear A_Ear_last A_Mouth_is_full A_Mouth_last A_Mouth_sure A_Mouth_send A_l_bad A_l_bits A_l_bounds A_law A_code A_tab : Addr} {ocL kVL docL pmL ctL ocC : Value} {odL anL odC : Option Addr} {oslL oslC : Array (Option Value)} {vsC : Array Value} {esB : Array DictEntry} {nB : Nat} {ocT kVT docT pmT cdT ctT : Value} {odT anT : Option Addr} {oslT : Array (Option Value)} {ofBadSetting cxBadSetting clBadSetting kVBadSetting docBadSetting pmBadSetting ctBadSetting : Value} {odBadSetting anBadSetting cdBadSetting cldBadSetting : Option Addr} {oslBadSetting cslBadSetting clsBadSetting : Array (Option Value)} {vsBadSetting : Array Value} {fileBadSetting : Str} {tfBadSetting : Tok}
    (X : K.In h) (G : h.Ns mainGlobals mg) (hfa : mg "law" = some (.ref fa))
    (a_Ear : PySem.W.nsIn K mainGlobals "Ear" = some (some (.ref A_Ear)))
    (pg_Ear : PySem.W.plainGet K A_Ear Str.empty = true)
    (hd_Ear : PySem.W.hasDictIn K A_Ear = true)
    (po_Ear : PySem.W.plainOver K A_Ear = true)
    (sa_Ear : PySem.W.findIn K (.ref A_Ear) "__setattr__" = some (some (.builtin "object.__setattr__")))
    (mk_Ear : PySem.W.makesIn K A_Ear = true)
    (kc_Ear : PySem.W.keepIn K (.ref A_Ear) = true)
    (na_Ear__marks : PySem.W.findIn K (.ref A_Ear) "_marks" = some none)
    (na_Ear__wide : PySem.W.findIn K (.ref A_Ear) "_wide" = some none)
    (na_Ear__late : PySem.W.findIn K (.ref A_Ear) "_late" = some none)
    (na_Ear__greatest : PySem.W.findIn K (.ref A_Ear) "_greatest" = some none)
    (na_Ear__came : PySem.W.findIn K (.ref A_Ear) "_came" = some none)
    (a_Mouth : PySem.W.nsIn K mainGlobals "Mouth" = some (some (.ref A_Mouth)))
    (pg_Mouth : PySem.W.plainGet K A_Mouth Str.empty = true)
    (hd_Mouth : PySem.W.hasDictIn K A_Mouth = true)
    (po_Mouth : PySem.W.plainOver K A_Mouth = true)
    (sa_Mouth : PySem.W.findIn K (.ref A_Mouth) "__setattr__" = some (some (.builtin "object.__setattr__")))
    (mk_Mouth : PySem.W.makesIn K A_Mouth = true)
    (kc_Mouth : PySem.W.keepIn K (.ref A_Mouth) = true)
    (na_Mouth__marks : PySem.W.findIn K (.ref A_Mouth) "_marks" = some none)
    (na_Mouth__wide : PySem.W.findIn K (.ref A_Mouth) "_wide" = some none)
    (na_Mouth__ahead : PySem.W.findIn K (.ref A_Mouth) "_ahead" = some none)
    (na_Mouth__last : PySem.W.findIn K (.ref A_Mouth) "_last" = some none)
    (na_Mouth__greatest : PySem.W.findIn K (.ref A_Mouth) "_greatest" = some none)
    (na_Mouth__sure : PySem.W.findIn K (.ref A_Mouth) "_sure" = some none)
    (a_World : PySem.W.nsIn K mainGlobals "World" = some (some (.ref A_World)))
    (pg_World : PySem.W.plainGet K A_World Str.empty = true)
    (hd_World : PySem.W.hasDictIn K A_World = true)
    (po_World : PySem.W.plainOver K A_World = true)
    (sa_World : PySem.W.findIn K (.ref A_World) "__setattr__" = some (some (.builtin "object.__setattr__")))
    (mk_World : PySem.W.makesIn K A_World = true)
    (kc_World : PySem.W.keepIn K (.ref A_World) = true)
    (a_Load : PySem.W.nsIn K mainGlobals "Load" = some (some (.ref A_Load)))
    (pg_Load : PySem.W.plainGet K A_Load Str.empty = true)
    (hd_Load : PySem.W.hasDictIn K A_Load = true)
    (po_Load : PySem.W.plainOver K A_Load = true)
    (sa_Load : PySem.W.findIn K (.ref A_Load) "__setattr__" = some (some (.builtin "object.__setattr__")))
    (mk_Load : PySem.W.makesIn K A_Load = true)
    (kc_Load : PySem.W.keepIn K (.ref A_Load) = true)
    (a_BadMark : PySem.W.nsIn K mainGlobals "BadMark" = some (some (.ref A_BadMark)))
    (xq_BadMark : PySem.W.excIn K A_BadMark [.type "ValueError", .type "Exception", .type "BaseException", .type "object"] "ValueError.__new__" = true)
    (xk_BadMark : PySem.W.keepIn K (.ref A_BadMark) = true)
    (xs_BadMark : PySem.W.subIn K (.ref A_BadMark) (.type "BaseException") = some true)
    (xt_BadMark : PySem.W.typeIn K (.ref A_BadMark) = some (.type "type"))
    (a_BadBits : PySem.W.nsIn K mainGlobals "BadBits" = some (some (.ref A_BadBits)))
    (xq_BadBits : PySem.W.excIn K A_BadBits [.type "ValueError", .type "Exception", .type "BaseException", .type "object"] "ValueError.__new__" = true)
    (xk_BadBits : PySem.W.keepIn K (.ref A_BadBits) = true)
    (xs_BadBits : PySem.W.subIn K (.ref A_BadBits) (.type "BaseException") = some true)
    (xt_BadBits : PySem.W.typeIn K (.ref A_BadBits) = some (.type "type"))
    (a_BadSetting : PySem.W.nsIn K mainGlobals "BadSetting" = some (some (.ref A_BadSetting)))
    (xk_BadSetting : PySem.W.keepIn K (.ref A_BadSetting) = true)
    (xs_BadSetting : PySem.W.subIn K (.ref A_BadSetting) (.type "BaseException") = some true)
    (xt_BadSetting : PySem.W.typeIn K (.ref A_BadSetting) = some (.type "type"))
    (rq_BadSetting : Ak.oexIn K A_BadSetting = true)
    (sa_BadSetting : PySem.W.findIn K (.ref A_BadSetting) "__setattr__" = some (some (.builtin "object.__setattr__")))
    (ci_BadSetting : PySem.W.findIn K (.ref A_BadSetting) "__init__" = some (some (.ref A_in_BadSetting)))
    (ti_BadSetting : PySem.W.typeIn K (.ref A_in_BadSetting) = some (.type "function"))
    (ni_BadSetting : PySem.W.findIn K (.ref A_BadSetting) "word" = some none)
    (ri_lk_BadSetting : K.lookup A_in_BadSetting = some ⟨ofBadSetting, odBadSetting, .func (Ak.supD "BadSetting.__init__" s_BadSetting___init A_cc_BadSetting A_cd_BadSetting kVBadSetting docBadSetting pmBadSetting ctBadSetting anBadSetting), oslBadSetting⟩)
    (ri_hc_BadSetting : PySem.W.codeIn K (.ref A_cd_BadSetting) "BadSetting.__init__" = true)
    (ri_lc_BadSetting : K.lookup A_cd_BadSetting = some ⟨cxBadSetting, cdBadSetting, .fields vsBadSetting, cslBadSetting⟩)
    (ri_v2_BadSetting : (vsBadSetting[2]? : Option Value) = some (.str fileBadSetting tfBadSetting))
    (ri_fl_BadSetting : ((l.prog.main.file : Str) == fileBadSetting) = true)
    (ri_tp : (l.prog.main.scope.names.lookup ("super" : Str)).isSome = false)
    (ri_ce_BadSetting : K.lookup A_cc_BadSetting = some ⟨clBadSetting, cldBadSetting, .cell (some (.ref A_BadSetting)), clsBadSetting⟩)
    (ri_dc_BadSetting : (PySem.W.clsIn K A_BadSetting).isSome = true)
    (ri_sb_BadSetting : PySem.W.mroIn K A_BadSetting (.ref A_BadSetting) = some true)
    (ri_op : PySem.W.nsIn K cStatics "thirdparty.any" = some none)
    (ri_su_BadSetting : PySem.W.ks_superIn K A_BadSetting A_BadSetting "__init__" = some (some (.builtin "ValueError.__init__")))
    (ri_sv_BadSetting : PySem.W.subIn K (.ref A_BadSetting) (.type "ValueError") = some true)
    (z_super : PySem.W.nsIn K mainGlobals "super" = some none)
    (a_BitsError : PySem.W.nsIn K mainGlobals "BitsError" = some (some (.ref A_BitsError)))
    (a_Full : PySem.W.nsIn K mainGlobals "Full" = some (some (.ref A_Full)))
    (a_BadEvent : PySem.W.nsIn K mainGlobals "BadEvent" = some (some (.ref A_BadEvent)))
    (a_BadText : PySem.W.nsIn K mainGlobals "BadText" = some (some (.ref A_BadText)))
    (oh_BadSetting_0 : PySem.W.findIn K (.ref A_BadSetting) "__getattribute__" = some (some (.builtin "BaseException.__getattribute__")))
    (oh_BadSetting_1 : PySem.W.findIn K (.ref A_BadSetting) "__getattr__" = some none)
    (oh_BadSetting_2 : PySem.W.subIn K (.ref A_BadSetting) (.type "BaseException") = some true)
    (oh_BadSetting_3 : PySem.W.hasDictIn K A_BadSetting = true)
    (oh_BadSetting_4 : PySem.W.findIn K (.ref A_BadSetting) "__class__" = some (some (.builtin "object.__class__")))
    (oc_hn : PySem.W.specialIn K (.builtin "object.__class__") "__get__" = some (some (.builtin "getset_descriptor.__get__")))
    (oc_ht : PySem.W.takesIn K (.builtin "object.__class__") = some true)
    (om_BadSetting : PySem.W.mroIn K A_BadSetting (.type "object") = some true)
    (ok_BadSetting_0 : PySem.W.kitOne K (.ref A_BadSetting) (.ref A_BadSetting) = some true)
    (ok_BadSetting_1 : PySem.W.kitOne K (.ref A_BadSetting) (.ref A_BadMark) = some false)
    (ok_BadSetting_2 : PySem.W.kitOne K (.ref A_BadSetting) (.ref A_BadBits) = some false)
    (ok_BadSetting_3 : PySem.W.kitOne K (.ref A_BadSetting) (.ref A_Full) = some false)
    (ok_BadSetting_4 : PySem.W.kitOne K (.ref A_BadSetting) (.ref A_BadEvent) = some false)
    (ok_BadSetting_5 : PySem.W.kitOne K (.ref A_BadSetting) (.ref A_BadText) = some false)
    (ox_BadSetting : PySem.W.exmOne K (.ref A_BadSetting) (.ref A_BitsError) = some true)
    (ov_BadSetting : PySem.W.kitOne K (.ref A_BadSetting) (.type "ValueError") = some true)
    (oh_BadMark_0 : PySem.W.findIn K (.ref A_BadMark) "__getattribute__" = some (some (.builtin "BaseException.__getattribute__")))
    (oh_BadMark_1 : PySem.W.findIn K (.ref A_BadMark) "__getattr__" = some none)
    (oh_BadMark_2 : PySem.W.subIn K (.ref A_BadMark) (.type "BaseException") = some true)
    (oh_BadMark_3 : PySem.W.hasDictIn K A_BadMark = true)
    (oh_BadMark_4 : PySem.W.findIn K (.ref A_BadMark) "__class__" = some (some (.builtin "object.__class__")))
    (om_BadMark : PySem.W.mroIn K A_BadMark (.type "object") = some true)
    (ok_BadMark_0 : PySem.W.kitOne K (.ref A_BadMark) (.ref A_BadSetting) = some false)
    (ok_BadMark_1 : PySem.W.kitOne K (.ref A_BadMark) (.ref A_BadMark) = some true)
    (ok_BadMark_2 : PySem.W.kitOne K (.ref A_BadMark) (.ref A_BadBits) = some false)
    (ok_BadMark_3 : PySem.W.kitOne K (.ref A_BadMark) (.ref A_Full) = some false)
    (ok_BadMark_4 : PySem.W.kitOne K (.ref A_BadMark) (.ref A_BadEvent) = some false)
    (ok_BadMark_5 : PySem.W.kitOne K (.ref A_BadMark) (.ref A_BadText) = some false)
    (ox_BadMark : PySem.W.exmOne K (.ref A_BadMark) (.ref A_BitsError) = some true)
    (ov_BadMark : PySem.W.kitOne K (.ref A_BadMark) (.type "ValueError") = some true)
    (oh_BadBits_0 : PySem.W.findIn K (.ref A_BadBits) "__getattribute__" = some (some (.builtin "BaseException.__getattribute__")))
    (oh_BadBits_1 : PySem.W.findIn K (.ref A_BadBits) "__getattr__" = some none)
    (oh_BadBits_2 : PySem.W.subIn K (.ref A_BadBits) (.type "BaseException") = some true)
    (oh_BadBits_3 : PySem.W.hasDictIn K A_BadBits = true)
    (oh_BadBits_4 : PySem.W.findIn K (.ref A_BadBits) "__class__" = some (some (.builtin "object.__class__")))
    (om_BadBits : PySem.W.mroIn K A_BadBits (.type "object") = some true)
    (ok_BadBits_0 : PySem.W.kitOne K (.ref A_BadBits) (.ref A_BadSetting) = some false)
    (ok_BadBits_1 : PySem.W.kitOne K (.ref A_BadBits) (.ref A_BadMark) = some false)
    (ok_BadBits_2 : PySem.W.kitOne K (.ref A_BadBits) (.ref A_BadBits) = some true)
    (ok_BadBits_3 : PySem.W.kitOne K (.ref A_BadBits) (.ref A_Full) = some false)
    (ok_BadBits_4 : PySem.W.kitOne K (.ref A_BadBits) (.ref A_BadEvent) = some false)
    (ok_BadBits_5 : PySem.W.kitOne K (.ref A_BadBits) (.ref A_BadText) = some false)
    (ox_BadBits : PySem.W.exmOne K (.ref A_BadBits) (.ref A_BitsError) = some true)
    (ov_BadBits : PySem.W.kitOne K (.ref A_BadBits) (.type "ValueError") = some true)
    (oh_Full_0 : PySem.W.findIn K (.ref A_Full) "__getattribute__" = some (some (.builtin "BaseException.__getattribute__")))
    (oh_Full_1 : PySem.W.findIn K (.ref A_Full) "__getattr__" = some none)
    (oh_Full_2 : PySem.W.subIn K (.ref A_Full) (.type "BaseException") = some true)
    (oh_Full_3 : PySem.W.hasDictIn K A_Full = true)
    (oh_Full_4 : PySem.W.findIn K (.ref A_Full) "__class__" = some (some (.builtin "object.__class__")))
    (om_Full : PySem.W.mroIn K A_Full (.type "object") = some true)
    (ok_Full_0 : PySem.W.kitOne K (.ref A_Full) (.ref A_BadSetting) = some false)
    (ok_Full_1 : PySem.W.kitOne K (.ref A_Full) (.ref A_BadMark) = some false)
    (ok_Full_2 : PySem.W.kitOne K (.ref A_Full) (.ref A_BadBits) = some false)
    (ok_Full_3 : PySem.W.kitOne K (.ref A_Full) (.ref A_Full) = some true)
    (ok_Full_4 : PySem.W.kitOne K (.ref A_Full) (.ref A_BadEvent) = some false)
    (ok_Full_5 : PySem.W.kitOne K (.ref A_Full) (.ref A_BadText) = some false)
    (ox_Full : PySem.W.exmOne K (.ref A_Full) (.ref A_BitsError) = some true)
    (ov_Full : PySem.W.kitOne K (.ref A_Full) (.type "ValueError") = some true)
    (oh_BadEvent_0 : PySem.W.findIn K (.ref A_BadEvent) "__getattribute__" = some (some (.builtin "BaseException.__getattribute__")))
    (oh_BadEvent_1 : PySem.W.findIn K (.ref A_BadEvent) "__getattr__" = some none)
    (oh_BadEvent_2 : PySem.W.subIn K (.ref A_BadEvent) (.type "BaseException") = some true)
    (oh_BadEvent_3 : PySem.W.hasDictIn K A_BadEvent = true)
    (oh_BadEvent_4 : PySem.W.findIn K (.ref A_BadEvent) "__class__" = some (some (.builtin "object.__class__")))
    (om_BadEvent : PySem.W.mroIn K A_BadEvent (.type "object") = some true)
    (ok_BadEvent_0 : PySem.W.kitOne K (.ref A_BadEvent) (.ref A_BadSetting) = some false)
    (ok_BadEvent_1 : PySem.W.kitOne K (.ref A_BadEvent) (.ref A_BadMark) = some false)
    (ok_BadEvent_2 : PySem.W.kitOne K (.ref A_BadEvent) (.ref A_BadBits) = some false)
    (ok_BadEvent_3 : PySem.W.kitOne K (.ref A_BadEvent) (.ref A_Full) = some false)
    (ok_BadEvent_4 : PySem.W.kitOne K (.ref A_BadEvent) (.ref A_BadEvent) = some true)
    (ok_BadEvent_5 : PySem.W.kitOne K (.ref A_BadEvent) (.ref A_BadText) = some false)
    (ox_BadEvent : PySem.W.exmOne K (.ref A_BadEvent) (.ref A_BitsError) = some true)
    (ov_BadEvent : PySem.W.kitOne K (.ref A_BadEvent) (.type "ValueError") = some true)
    (oh_BadText_0 : PySem.W.findIn K (.ref A_BadText) "__getattribute__" = some (some (.builtin "BaseException.__getattribute__")))
    (oh_BadText_1 : PySem.W.findIn K (.ref A_BadText) "__getattr__" = some none)
    (oh_BadText_2 : PySem.W.subIn K (.ref A_BadText) (.type "BaseException") = some true)
    (oh_BadText_3 : PySem.W.hasDictIn K A_BadText = true)
    (oh_BadText_4 : PySem.W.findIn K (.ref A_BadText) "__class__" = some (some (.builtin "object.__class__")))
    (om_BadText : PySem.W.mroIn K A_BadText (.type "object") = some true)
    (ok_BadText_0 : PySem.W.kitOne K (.ref A_BadText) (.ref A_BadSetting) = some false)
    (ok_BadText_1 : PySem.W.kitOne K (.ref A_BadText) (.ref A_BadMark) = some false)
    (ok_BadText_2 : PySem.W.kitOne K (.ref A_BadText) (.ref A_BadBits) = some false)
    (ok_BadText_3 : PySem.W.kitOne K (.ref A_BadText) (.ref A_Full) = some false)
    (ok_BadText_4 : PySem.W.kitOne K (.ref A_BadText) (.ref A_BadEvent) = some false)
    (ok_BadText_5 : PySem.W.kitOne K (.ref A_BadText) (.ref A_BadText) = some true)
    (ox_BadText : PySem.W.exmOne K (.ref A_BadText) (.ref A_BitsError) = some true)
    (ov_BadText : PySem.W.kitOne K (.ref A_BadText) (.type "ValueError") = some true)
    (tc_s1 : (PySem.W.clsIn K A_BadSetting).isSome = true)
    (tc_n1 : PySem.W.findIn K (.ref A_BadSetting) "word" = some none)
    (tc_s5 : (PySem.W.clsIn K A_BadEvent).isSome = true)
    (tc_n5 : PySem.W.findIn K (.ref A_BadEvent) "number" = some none)
    (tc_s6 : (PySem.W.clsIn K A_BadText).isSome = true)
    (tc_n6 : PySem.W.findIn K (.ref A_BadText) "place" = some none)
    (a_l_told : PySem.W.nsIn K mainGlobals "_law_told" = some (some (.ref A_l_told)))
    (lkT : K.lookup A_l_told = some ⟨ocT, odT, .func (PySem.W.fnOf "_law_told" "_law_told" (defArgs s_l_told) (defBody s_l_told) (defScope s_l_told) .none kVT docT pmT anT cdT ctT), oslT⟩)
    (hcT : PySem.W.codeIn K cdT "_law_told" = true)
    (hkT : PySem.W.keepIn K (.ref A_l_told) = true)
    (a_BOUNDS : PySem.W.nsIn K mainGlobals "BOUNDS" = some (some (.ref A_BOUNDS)))
    (lkB : K.lookup A_BOUNDS = some { cls := .type "dict", data := .dict esB nB })
    (klB : PySem.W.KeysLit w.params esB.toList)
    (nB1 : PySem.W.nsIn K A_BOUNDS "marks" = some (some (.ref A_t1)))
    (nB2 : PySem.W.nsIn K A_BOUNDS "wide" = some (some (.ref A_t2)))
    (nB3 : PySem.W.nsIn K A_BOUNDS "late" = some (some (.ref A_t3)))
    (nB4 : PySem.W.nsIn K A_BOUNDS "ahead" = some (some (.ref A_t4)))
    (nB5 : PySem.W.nsIn K A_BOUNDS "room" = some (some (.ref A_t5)))
    (nB6 : PySem.W.nsIn K A_BOUNDS "wait" = some (some (.ref A_t6)))
    (sB1 : ∀ H, SqT K H A_t1 [.int 2, .int 64])
    (sB2 : ∀ H, SqT K H A_t2 [.int 0, .int 16])
    (sB3 : ∀ H, SqT K H A_t3 [.int 0, .int 8])
    (sB4 : ∀ H, SqT K H A_t4 [.int 1, .int 16])
    (sB5 : ∀ H, SqT K H A_t5 [.int 1, .int 8])
    (sB6 : ∀ H, SqT K H A_t6 [.int 1, .int 20])
    (F_l_like : ∃ fd, L2.Fun K "_law_like" "_law_like" s_l_like A_l_like fd)
    (a_l_like : PySem.W.nsIn K mainGlobals "_law_like" = some (some (.ref A_l_like)))
    (z_isinstance : PySem.W.nsIn K mainGlobals "isinstance" = some none)
    (z_bool : PySem.W.nsIn K mainGlobals "bool" = some none)
    (z_str : PySem.W.nsIn K mainGlobals "str" = some none)
    (z_int : PySem.W.nsIn K mainGlobals "int" = some none)
    (z_dict : PySem.W.nsIn K mainGlobals "dict" = some none)
    (z_tuple : PySem.W.nsIn K mainGlobals "tuple" = some none)
    (z_list : PySem.W.nsIn K mainGlobals "list" = some none)
    (z_len : PySem.W.nsIn K mainGlobals "len" = some none)
    (z_range : PySem.W.nsIn K mainGlobals "range" = some none)
    (F_l_next : ∃ fd, L2.Fun K "_law_next" "_law_next" s_l_next A_l_next fd)
    (a_l_next : PySem.W.nsIn K mainGlobals "_law_next" = some (some (.ref A_l_next)))
    (F_l_dice : ∃ fd, L2.Fun K "_law_dice" "_law_dice" s_l_dice A_l_dice fd)
    (a_l_dice : PySem.W.nsIn K mainGlobals "_law_dice" = some (some (.ref A_l_dice)))
    (F_l_setting : ∃ fd, L2.Fun K "_law_setting" "_law_setting" s_l_setting A_l_setting fd)
    (z_max : PySem.W.nsIn K mainGlobals "max" = some none)
    (z_min : PySem.W.nsIn K mainGlobals "min" = some none)
    (a_l_setting : PySem.W.nsIn K mainGlobals "_law_setting" = some (some (.ref A_l_setting)))
    (F_check_mark : ∃ fd, L2.Fun K "check_mark" "check_mark" s_check_mark A_check_mark fd)
    (a_check_mark : PySem.W.nsIn K mainGlobals "check_mark" = some (some (.ref A_check_mark)))
    (F_check_bits : ∃ fd, L2.Fun K "check_bits" "check_bits" s_check_bits A_check_bits fd)
    (a_check_bits : PySem.W.nsIn K mainGlobals "check_bits" = some (some (.ref A_check_bits)))
    (F_check_telling : ∃ fd, L2.Fun K "check_telling" "check_telling" s_check_telling A_check_telling fd)
    (a_check_telling : PySem.W.nsIn K mainGlobals "check_telling" = some (some (.ref A_check_telling)))
    (F_check_number : ∃ fd, L2.Fun K "check_number" "check_number" s_check_number A_check_number fd)
    (a_check_number : PySem.W.nsIn K mainGlobals "check_number" = some (some (.ref A_check_number)))
    (F_check_setting : ∃ fd, L2.Fun K "check_setting" "check_setting" s_check_setting A_check_setting fd)
    (a_check_setting : PySem.W.nsIn K mainGlobals "check_setting" = some (some (.ref A_check_setting)))
    (F_Ear___init : ∃ fd, L2.Fun K "__init__" "Ear.__init__" s_Ear___init A_Ear___init fd)
    (ci_Ear___init : PySem.W.findIn K (.ref A_Ear) "__init__" = some (some (.ref A_Ear___init)))
    (ii_Ear___init : PySem.W.isFn K (.ref A_Ear___init) = true)
    (F_Mouth___init : ∃ fd, L2.Fun K "__init__" "Mouth.__init__" s_Mouth___init A_Mouth___init fd)
    (ci_Mouth___init : PySem.W.findIn K (.ref A_Mouth) "__init__" = some (some (.ref A_Mouth___init)))
    (ii_Mouth___init : PySem.W.isFn K (.ref A_Mouth___init) = true)
    (F_World___init : ∃ fd, L2.Fun K "__init__" "World.__init__" s_World___init A_World___init fd)
    (ci_World___init : PySem.W.findIn K (.ref A_World) "__init__" = some (some (.ref A_World___init)))
    (ii_World___init : PySem.W.isFn K (.ref A_World___init) = true)
    (F_played : ∃ fd, L2.Fun K "played" "played" s_played A_played fd)
    (a_played : PySem.W.nsIn K mainGlobals "played" = some (some (.ref A_played)))
    (F_judged : ∃ fd, L2.Fun K "judged" "judged" s_judged A_judged fd)
    (a_judged : PySem.W.nsIn K mainGlobals "judged" = some (some (.ref A_judged)))
    (F_written : ∃ fd, L2.Fun K "written" "written" s_written A_written fd)
    (a_written : PySem.W.nsIn K mainGlobals "written" = some (some (.ref A_written)))
    (F_read : ∃ fd, L2.Fun K "read" "read" s_read A_read fd)
    (a_read : PySem.W.nsIn K mainGlobals "read" = some (some (.ref A_read)))
    (F_fewest : ∃ fd, L2.Fun K "fewest" "fewest" s_fewest A_fewest fd)
    (a_fewest : PySem.W.nsIn K mainGlobals "fewest" = some (some (.ref A_fewest)))
    (F_Load___init : ∃ fd, L2.Fun K "__init__" "Load.__init__" s_Load___init A_Load___init fd)
    (ci_Load___init : PySem.W.findIn K (.ref A_Load) "__init__" = some (some (.ref A_Load___init)))
    (ii_Load___init : PySem.W.isFn K (.ref A_Load___init) = true)
    (F_Ear_come : ∃ fd, L2.Fun K "come" "Ear.come" s_Ear_come A_Ear_come fd)
    (ci_Ear_come : PySem.W.findIn K (.ref A_Ear) "come" = some (some (.ref A_Ear_come)))
    (ii_Ear_come : PySem.W.isFn K (.ref A_Ear_come) = true)
    (F_Ear_tell : ∃ fd, L2.Fun K "tell" "Ear.tell" s_Ear_tell A_Ear_tell fd)
    (ci_Ear_tell : PySem.W.findIn K (.ref A_Ear) "tell" = some (some (.ref A_Ear_tell)))
    (ii_Ear_tell : PySem.W.isFn K (.ref A_Ear_tell) = true)
    (F_Mouth_hear : ∃ fd, L2.Fun K "hear" "Mouth.hear" s_Mouth_hear A_Mouth_hear fd)
    (ci_Mouth_hear : PySem.W.findIn K (.ref A_Mouth) "hear" = some (some (.ref A_Mouth_hear)))
    (ii_Mouth_hear : PySem.W.isFn K (.ref A_Mouth_hear) = true)
    (F_Ear_last : ∃ fd, L2.Fun K "last" "Ear.last" s_Ear_last A_Ear_last fd)
    (ci_Ear_last : PySem.W.findIn K (.ref A_Ear) "last" = some (some (.ref A_Ear_last)))
    (ii_Ear_last : PySem.W.isFn K (.ref A_Ear_last) = true)
    (F_Mouth_is_full : ∃ fd, L2.Fun K "is_full" "Mouth.is_full" s_Mouth_is_full A_Mouth_is_full fd)
    (ci_Mouth_is_full : PySem.W.findIn K (.ref A_Mouth) "is_full" = some (some (.ref A_Mouth_is_full)))
    (ii_Mouth_is_full : PySem.W.isFn K (.ref A_Mouth_is_full) = true)
    (F_Mouth_last : ∃ fd, L2.Fun K "last" "Mouth.last" s_Mouth_last A_Mouth_last fd)
    (ci_Mouth_last : PySem.W.findIn K (.ref A_Mouth) "last" = some (some (.ref A_Mouth_last)))
    (ii_Mouth_last : PySem.W.isFn K (.ref A_Mouth_last) = true)
    (F_Mouth_sure : ∃ fd, L2.Fun K "sure" "Mouth.sure" s_Mouth_sure A_Mouth_sure fd)
    (z_sorted : PySem.W.nsIn K mainGlobals "sorted" = some none)
    (ci_Mouth_sure : PySem.W.findIn K (.ref A_Mouth) "sure" = some (some (.ref A_Mouth_sure)))
    (ii_Mouth_sure : PySem.W.isFn K (.ref A_Mouth_sure) = true)
    (F_Mouth_send : ∃ fd, L2.Fun K "send" "Mouth.send" s_Mouth_send A_Mouth_send fd)
    (ci_Mouth_send : PySem.W.findIn K (.ref A_Mouth) "send" = some (some (.ref A_Mouth_send)))
    (ii_Mouth_send : PySem.W.isFn K (.ref A_Mouth_send) = true)
    (F_l_bad : ∃ fd, L2.Fun K "_law_bad" "_law_bad" s_l_bad A_l_bad fd)
    (a_l_bad : PySem.W.nsIn K mainGlobals "_law_bad" = some (some (.ref A_l_bad)))
    (F_l_bits : ∃ fd, L2.Fun K "_law_bits" "_law_bits" s_l_bits A_l_bits fd)
    (a_l_bits : PySem.W.nsIn K mainGlobals "_law_bits" = some (some (.ref A_l_bits)))
    (F_l_bounds : ∃ fd, L2.Fun K "_law_bounds" "_law_bounds" s_l_bounds A_l_bounds fd)
    (a_l_bounds : PySem.W.nsIn K mainGlobals "_law_bounds" = some (some (.ref A_l_bounds)))
    (a_law : PySem.W.nsIn K mainGlobals "law" = some (some (.ref A_law)))
    (lk_law : K.lookup A_law = some ⟨ocL, odL, .func (PySem.W.fnOf "law" "law" (defArgs s_law) (defBody s_law) (defScope s_law) .none kVL docL pmL anL (.ref A_code) ctL), oslL⟩)
    (hc_law : PySem.W.codeIn K (.ref A_code) "law" = true)
    (lk_code : K.lookup A_code = some ⟨ocC, odC, .fields vsC, oslC⟩)
    (ht_law : (vsC[11]? : Option Value) = some (.ref A_tab))
    (hh_law : PySem.W.codeHdIn K A_code A_tab = true)
    (nt_law : K.lookup A_tab = none)
    (z_ValueError : PySem.W.nsIn K mainGlobals "ValueError" = some none)
    (hT : h.get? A_tab = some { cls := .none, data := .fields #[] }) : LamX.LawAtS l w K (L2.CX l.prog w) 12 63 "_law_script" mg fa h := by
  have e0 := hfa.symm.trans (PySem.W.mg_of X G a_law)
  cases e0
  have cl_Ear : Cls K A_Ear := ⟨pg_Ear, hd_Ear, po_Ear, sa_Ear⟩
  have cl_Mouth : Cls K A_Mouth := ⟨pg_Mouth, hd_Mouth, po_Mouth, sa_Mouth⟩
  have cl_World : Cls K A_World := ⟨pg_World, hd_World, po_World, sa_World⟩
  have cl_Load : Cls K A_Load := ⟨pg_Load, hd_Load, po_Load, sa_Load⟩
  have T_EarT : EarT K A_Ear := ⟨cl_Ear, na_Ear__marks, na_Ear__wide, na_Ear__late, na_Ear__greatest, na_Ear__came⟩
  have T_MouthT : MouthT K A_Mouth := ⟨cl_Mouth, na_Mouth__marks, na_Mouth__wide, na_Mouth__ahead, na_Mouth__last, na_Mouth__greatest, na_Mouth__sure⟩
  have x_BadMark : RaiseC K mg "BadMark" A_BadMark := ⟨xq_BadMark, PySem.W.mg_of X G a_BadMark, xk_BadMark, xs_BadMark, xt_BadMark⟩
  have x_BadBits : RaiseC K mg "BadBits" A_BadBits := ⟨xq_BadBits, PySem.W.mg_of X G a_BadBits, xk_BadBits, xs_BadBits, xt_BadBits⟩
  have T_BadSetting : OexC K A_BadSetting := ⟨Ak.oex_of rq_BadSetting, sa_BadSetting, xs_BadSetting, xt_BadSetting, xk_BadSetting⟩
  have S_BadSetting : SupF l.prog K mg A_BadSetting A_in_BadSetting A_cc_BadSetting A_cd_BadSetting (Ak.supD "BadSetting.__init__" s_BadSetting___init A_cc_BadSetting A_cd_BadSetting kVBadSetting docBadSetting pmBadSetting ctBadSetting anBadSetting) "self" ofBadSetting cxBadSetting odBadSetting cdBadSetting oslBadSetting cslBadSetting vsBadSetting fileBadSetting tfBadSetting clBadSetting cldBadSetting clsBadSetting := ⟨ri_lk_BadSetting, ⟨_, rfl, rfl⟩, ri_lc_BadSetting, ri_v2_BadSetting, ri_fl_BadSetting, ri_tp, ri_ce_BadSetting, ri_dc_BadSetting, ri_sb_BadSetting, (PySem.W.mg_none_of X G z_super), ri_op, ri_su_BadSetting, ri_sv_BadSetting⟩
  have o1 : OneBad K A_BitsError A_BadSetting A_BadMark A_BadBits A_Full A_BadEvent A_BadText A_BadSetting true false false false false false := ⟨ox_BadSetting, ⟨oh_BadSetting_0, oh_BadSetting_1, oh_BadSetting_2, oh_BadSetting_3, oh_BadSetting_4, oc_hn, oc_ht, om_BadSetting⟩, ok_BadSetting_0, ok_BadSetting_1, ok_BadSetting_2, ok_BadSetting_3, ok_BadSetting_4, ok_BadSetting_5, ov_BadSetting⟩
  have o2 : OneBad K A_BitsError A_BadSetting A_BadMark A_BadBits A_Full A_BadEvent A_BadText A_BadMark false true false false false false := ⟨ox_BadMark, ⟨oh_BadMark_0, oh_BadMark_1, oh_BadMark_2, oh_BadMark_3, oh_BadMark_4, oc_hn, oc_ht, om_BadMark⟩, ok_BadMark_0, ok_BadMark_1, ok_BadMark_2, ok_BadMark_3, ok_BadMark_4, ok_BadMark_5, ov_BadMark⟩
  have o3 : OneBad K A_BitsError A_BadSetting A_BadMark A_BadBits A_Full A_BadEvent A_BadText A_BadBits false false true false false false := ⟨ox_BadBits, ⟨oh_BadBits_0, oh_BadBits_1, oh_BadBits_2, oh_BadBits_3, oh_BadBits_4, oc_hn, oc_ht, om_BadBits⟩, ok_BadBits_0, ok_BadBits_1, ok_BadBits_2, ok_BadBits_3, ok_BadBits_4, ok_BadBits_5, ov_BadBits⟩
  have o4 : OneBad K A_BitsError A_BadSetting A_BadMark A_BadBits A_Full A_BadEvent A_BadText A_Full false false false true false false := ⟨ox_Full, ⟨oh_Full_0, oh_Full_1, oh_Full_2, oh_Full_3, oh_Full_4, oc_hn, oc_ht, om_Full⟩, ok_Full_0, ok_Full_1, ok_Full_2, ok_Full_3, ok_Full_4, ok_Full_5, ov_Full⟩
  have o5 : OneBad K A_BitsError A_BadSetting A_BadMark A_BadBits A_Full A_BadEvent A_BadText A_BadEvent false false false false true false := ⟨ox_BadEvent, ⟨oh_BadEvent_0, oh_BadEvent_1, oh_BadEvent_2, oh_BadEvent_3, oh_BadEvent_4, oc_hn, oc_ht, om_BadEvent⟩, ok_BadEvent_0, ok_BadEvent_1, ok_BadEvent_2, ok_BadEvent_3, ok_BadEvent_4, ok_BadEvent_5, ov_BadEvent⟩
  have o6 : OneBad K A_BitsError A_BadSetting A_BadMark A_BadBits A_Full A_BadEvent A_BadText A_BadText false false false false false true := ⟨ox_BadText, ⟨oh_BadText_0, oh_BadText_1, oh_BadText_2, oh_BadText_3, oh_BadText_4, oc_hn, oc_ht, om_BadText⟩, ok_BadText_0, ok_BadText_1, ok_BadText_2, ok_BadText_3, ok_BadText_4, ok_BadText_5, ov_BadText⟩
  have TC : ToldC K A_BitsError A_BadSetting A_BadMark A_BadBits A_Full A_BadEvent A_BadText := ⟨o1, o2, o3, o4, o5, o6, tc_s1, tc_n1, tc_s5, tc_n5, tc_s6, tc_n6⟩
  have bT : L2.Binds K (PySem.W.fnOf "_law_told" "_law_told" (defArgs s_l_told) (defBody s_l_told) (defScope s_l_told) .none kVT docT pmT anT cdT ctT) ["_law_work"] [] := (L2.fun_mk lkT hcT hkT).binds fun _ _ _ _ _ _ us hl => match us, hl with | [_], _ => rfl
  have B : BoundsT K w mg A_BOUNDS := bounds_mk (PySem.W.mg_of X G a_BOUNDS) lkB klB nB1 nB2 nB3 nB4 nB5 nB6 sB1 sB2 sB3 sB4 sB5 sB6
  obtain ⟨fd_l_like, F_l_like⟩ := F_l_like
  have b_l_like := F_l_like.binds (ps := ["_law_found", "_law_due"]) fun _ _ _ _ _ _ us hl => match us, hl with | [_, _], _ => rfl
  have g_isinstance := (PySem.W.mg_none_of X G z_isinstance)
  have g_bool := (PySem.W.mg_none_of X G z_bool)
  have g_str := (PySem.W.mg_none_of X G z_str)
  have g_int := (PySem.W.mg_none_of X G z_int)
  have g_dict := (PySem.W.mg_none_of X G z_dict)
  have g_tuple := (PySem.W.mg_none_of X G z_tuple)
  have g_list := (PySem.W.mg_none_of X G z_list)
  have g_len := (PySem.W.mg_none_of X G z_len)
  have g_range := (PySem.W.mg_none_of X G z_range)
  obtain ⟨fd_l_next, F_l_next⟩ := F_l_next
  have b_l_next := F_l_next.binds (ps := ["_law_dice_here", "_law_many"]) fun _ _ _ _ _ _ us hl => match us, hl with | [_, _], _ => rfl
  obtain ⟨fd_l_dice, F_l_dice⟩ := F_l_dice
  have b_l_dice := F_l_dice.binds (ps := ["_law_script"]) fun _ _ _ _ _ _ us hl => match us, hl with | [_], _ => rfl
  obtain ⟨fd_l_setting, F_l_setting⟩ := F_l_setting
  have b_l_setting := F_l_setting.binds (ps := ["_law_d"]) fun _ _ _ _ _ _ us hl => match us, hl with | [_], _ => rfl
  obtain ⟨fd_check_mark, F_check_mark⟩ := F_check_mark
  have b_check_mark := F_check_mark.binds (ps := ["mark", "marks"]) fun _ _ _ _ _ _ us hl => match us, hl with | [_, _], _ => rfl
  obtain ⟨fd_check_bits, F_check_bits⟩ := F_check_bits
  have b_check_bits := F_check_bits.binds (ps := ["bits", "wide"]) fun _ _ _ _ _ _ us hl => match us, hl with | [_, _], _ => rfl
  obtain ⟨fd_check_telling, F_check_telling⟩ := F_check_telling
  have b_check_telling := F_check_telling.binds (ps := ["told", "marks", "wide"]) fun _ _ _ _ _ _ us hl => match us, hl with | [_, _, _], _ => rfl
  obtain ⟨fd_check_number, F_check_number⟩ := F_check_number
  have b_check_number := F_check_number.binds (ps := ["word", "number"]) fun _ _ _ _ _ _ us hl => match us, hl with | [_, _], _ => rfl
  obtain ⟨fd_check_setting, F_check_setting⟩ := F_check_setting
  have b_check_setting := F_check_setting.binds (ps := ["setting"]) fun _ _ _ _ _ _ us hl => match us, hl with | [_], _ => rfl
  obtain ⟨fd_Ear___init, F_Ear___init⟩ := F_Ear___init
  have b_Ear___init := F_Ear___init.binds (ps := ["self", "setting"]) fun _ _ _ _ _ _ us hl => match us, hl with | [_, _], _ => rfl
  obtain ⟨fd_Mouth___init, F_Mouth___init⟩ := F_Mouth___init
  have b_Mouth___init := F_Mouth___init.binds (ps := ["self", "setting"]) fun _ _ _ _ _ _ us hl => match us, hl with | [_, _], _ => rfl
  obtain ⟨fd_World___init, F_World___init⟩ := F_World___init
  have b_World___init := F_World___init.binds (ps := ["self", "setting"]) fun _ _ _ _ _ _ us hl => match us, hl with | [_, _], _ => rfl
  obtain ⟨fd_played, F_played⟩ := F_played
  have b_played := F_played.binds (ps := ["setting", "events"]) fun _ _ _ _ _ _ us hl => match us, hl with | [_, _], _ => rfl
  obtain ⟨fd_judged, F_judged⟩ := F_judged
  have b_judged := F_judged.binds (ps := ["setting"]) fun _ _ _ _ _ _ us hl => match us, hl with | [_], _ => rfl
  obtain ⟨fd_written, F_written⟩ := F_written
  have b_written := F_written.binds (ps := ["setting", "told"]) fun _ _ _ _ _ _ us hl => match us, hl with | [_, _], _ => rfl
  obtain ⟨fd_read, F_read⟩ := F_read
  have b_read := F_read.binds (ps := ["setting", "text"]) fun _ _ _ _ _ _ us hl => match us, hl with | [_, _], _ => rfl
  obtain ⟨fd_fewest, F_fewest⟩ := F_fewest
  have b_fewest := F_fewest.binds (ps := ["late", "ahead"]) fun _ _ _ _ _ _ us hl => match us, hl with | [_, _], _ => rfl
  obtain ⟨fd_Load___init, F_Load___init⟩ := F_Load___init
  have b_Load___init := F_Load___init.binds (ps := ["self", "room", "wait"]) fun _ _ _ _ _ _ us hl => match us, hl with | [_, _, _], _ => rfl
  obtain ⟨fd_Ear_come, F_Ear_come⟩ := F_Ear_come
  have b_Ear_come := F_Ear_come.binds (ps := ["self", "mark"]) fun _ _ _ _ _ _ us hl => match us, hl with | [_, _], _ => rfl
  obtain ⟨fd_Ear_tell, F_Ear_tell⟩ := F_Ear_tell
  have b_Ear_tell := F_Ear_tell.binds (ps := ["self"]) fun _ _ _ _ _ _ us hl => match us, hl with | [_], _ => rfl
  obtain ⟨fd_Mouth_hear, F_Mouth_hear⟩ := F_Mouth_hear
  have b_Mouth_hear := F_Mouth_hear.binds (ps := ["self", "told"]) fun _ _ _ _ _ _ us hl => match us, hl with | [_, _], _ => rfl
  obtain ⟨fd_Ear_last, F_Ear_last⟩ := F_Ear_last
  have b_Ear_last := F_Ear_last.binds (ps := ["self"]) fun _ _ _ _ _ _ us hl => match us, hl with | [_], _ => rfl
  obtain ⟨fd_Mouth_is_full, F_Mouth_is_full⟩ := F_Mouth_is_full
  have b_Mouth_is_full := F_Mouth_is_full.binds (ps := ["self"]) fun _ _ _ _ _ _ us hl => match us, hl with | [_], _ => rfl
  obtain ⟨fd_Mouth_last, F_Mouth_last⟩ := F_Mouth_last
  have b_Mouth_last := F_Mouth_last.binds (ps := ["self"]) fun _ _ _ _ _ _ us hl => match us, hl with | [_], _ => rfl
  obtain ⟨fd_Mouth_sure, F_Mouth_sure⟩ := F_Mouth_sure
  have b_Mouth_sure := F_Mouth_sure.binds (ps := ["self"]) fun _ _ _ _ _ _ us hl => match us, hl with | [_], _ => rfl
  obtain ⟨fd_Mouth_send, F_Mouth_send⟩ := F_Mouth_send
  have b_Mouth_send := F_Mouth_send.binds (ps := ["self"]) fun _ _ _ _ _ _ us hl => match us, hl with | [_], _ => rfl
  obtain ⟨fd_l_bad, F_l_bad⟩ := F_l_bad
  have b_l_bad := F_l_bad.binds (ps := ["_law_d", "_law_setting_here"]) fun _ _ _ _ _ _ us hl => match us, hl with | [_, _], _ => rfl
  obtain ⟨fd_l_bits, F_l_bits⟩ := F_l_bits
  have b_l_bits := F_l_bits.binds (ps := ["_law_d", "_law_setting_here"]) fun _ _ _ _ _ _ us hl => match us, hl with | [_, _], _ => rfl
  obtain ⟨fd_l_bounds, F_l_bounds⟩ := F_l_bounds
  have b_l_bounds := F_l_bounds.binds (ps := []) fun _ _ _ _ _ _ us hl => match us, hl with | [], _ => rfl
  refine ⟨PySem.W.fnOf "law" "law" (defArgs s_law) (defBody s_law) (defScope s_law) .none kVL docL pmL anL (.ref A_code) ctL, [(A_code, A_tab)], spLaw K A_tab, fun p hp => ?_, fun p hp => ?_, fun p hp => ?_, fun s u => .of_eq rfl, fun H a ns hl _ hPT hS => ?_, fun base _ _ hTB => ?_⟩
  · rw [List.mem_singleton.mp hp]; exact hT
  · rw [List.mem_singleton.mp hp]; exact nt_law
  · rw [List.mem_singleton.mp hp]; exact PySem.W.codeHd_of_K X hh_law
  · exact ⟨a, ns, rfl, hS, hl, hPT _ (List.mem_singleton.mpr rfl), fun _ => rfl⟩
  · have TB := hTB _ (List.mem_singleton.mpr rfl)
    have r_BadSetting : RaiO l.prog w K mg base 1 "BadSetting" A_BadSetting "word" := rai_BadSetting S_BadSetting ri_hc_BadSetting ni_BadSetting ci_BadSetting ti_BadSetting T_BadSetting (PySem.W.mg_of X G a_BadSetting)
    have c_l_next : CalX l.prog w K mg base 1 "_law_next" _ := ⟨A_l_next, fd_l_next, _, ok_next F_l_next (PySem.W.mg_none_of X G z_len), PySem.W.mg_of X G a_l_next, F_l_next.kp, b_l_next⟩
    have c_l_dice : CalX l.prog w K mg base 1 "_law_dice" _ := ⟨A_l_dice, fd_l_dice, _, ok_dice F_l_dice (PySem.W.mg_none_of X G z_len) (PySem.W.mg_none_of X G z_int), PySem.W.mg_of X G a_l_dice, F_l_dice.kp, b_l_dice⟩
    have c_l_like : CalX l.prog w K mg base 4 "_law_like" (spLike K 3) := ok_like F_l_like g_isinstance g_bool g_str g_int g_dict g_tuple g_list g_len g_range (PySem.W.mg_of X G a_l_like) b_l_like 3
    have c_l_setting : CalX l.prog w K mg base 2 "_law_setting" _ := ⟨A_l_setting, fd_l_setting, _, ok_setting F_l_setting (PySem.W.mg_none_of X G z_max) (PySem.W.mg_none_of X G z_min) c_l_next, PySem.W.mg_of X G a_l_setting, F_l_setting.kp, b_l_setting⟩
    have c_check_mark : CalX l.prog w K mg base 1 "check_mark" _ := ⟨A_check_mark, fd_check_mark, _, ok_markX F_check_mark x_BadMark, PySem.W.mg_of X G a_check_mark, F_check_mark.kp, b_check_mark⟩
    have c_check_bits : CalX l.prog w K mg base 1 "check_bits" _ := ⟨A_check_bits, fd_check_bits, _, ok_bitsX F_check_bits (PySem.W.mg_none_of X G z_len) x_BadBits, PySem.W.mg_of X G a_check_bits, F_check_bits.kp, b_check_bits⟩
    have c_check_telling : CalX l.prog w K mg base 2 "check_telling" _ := ⟨A_check_telling, fd_check_telling, _, ok_tellX F_check_telling c_check_mark c_check_bits, PySem.W.mg_of X G a_check_telling, F_check_telling.kp, b_check_telling⟩
    have c_check_number : CalX l.prog w K mg base 3 "check_number" _ := ⟨A_check_number, fd_check_number, _, ok_numX F_check_number B r_BadSetting, PySem.W.mg_of X G a_check_number, F_check_number.kp, b_check_number⟩
    have c_check_setting : CalX l.prog w K mg base 4 "check_setting" _ := ⟨A_check_setting, fd_check_setting, _, ok_setX F_check_setting c_check_number, PySem.W.mg_of X G a_check_setting, F_check_setting.kp, b_check_setting⟩
    have k_Ear : MakX l.prog w K mg base 5 "Ear" A_Ear _ := ⟨A_Ear___init, fd_Ear___init, _, ⟨mk_Ear, ci_Ear___init, ii_Ear___init, kc_Ear⟩, ok_ear_initX F_Ear___init T_EarT c_check_setting, PySem.W.mg_of X G a_Ear, b_Ear___init⟩
    have k_Mouth : MakX l.prog w K mg base 5 "Mouth" A_Mouth _ := ⟨A_Mouth___init, fd_Mouth___init, _, ⟨mk_Mouth, ci_Mouth___init, ii_Mouth___init, kc_Mouth⟩, ok_mouth_initX F_Mouth___init T_MouthT c_check_setting, PySem.W.mg_of X G a_Mouth, b_Mouth___init⟩
    have k_World : MakX l.prog w K mg base 7 "World" A_World _ := ⟨A_World___init, fd_World___init, _, ⟨mk_World, ci_World___init, ii_World___init, kc_World⟩, ok_world_initB (CW := A_World) F_World___init k_Mouth, PySem.W.mg_of X G a_World, b_World___init⟩
    have c_played : CalX l.prog w K mg base 9 "played" _ := ⟨A_played, fd_played, _, ok_playedB F_played k_World, PySem.W.mg_of X G a_played, F_played.kp, b_played⟩
    have c_judged : CalX l.prog w K mg base 5 "judged" _ := ⟨A_judged, fd_judged, _, ok_judgedX F_judged c_check_setting, PySem.W.mg_of X G a_judged, F_judged.kp, b_judged⟩
    have c_written : CalX l.prog w K mg base 5 "written" _ := ⟨A_written, fd_written, _, ok_writtenN F_written c_check_setting c_check_telling, PySem.W.mg_of X G a_written, F_written.kp, b_written⟩
    have c_read : CalX l.prog w K mg base 5 "read" _ := ⟨A_read, fd_read, _, ok_readB F_read c_check_setting, PySem.W.mg_of X G a_read, F_read.kp, b_read⟩
    have c_fewest : CalX l.prog w K mg base 4 "fewest" _ := ⟨A_fewest, fd_fewest, _, ok_fewestB F_fewest c_check_number, PySem.W.mg_of X G a_fewest, F_fewest.kp, b_fewest⟩
    have k_Load : MakX l.prog w K mg base 4 "Load" A_Load _ := ⟨A_Load___init, fd_Load___init, _, ⟨mk_Load, ci_Load___init, ii_Load___init, kc_Load⟩, ok_load_initB (C := A_Load) F_Load___init c_check_number, PySem.W.mg_of X G a_Load, b_Load___init⟩
    have m_Ear_come : MetX l.prog w K mg base 2 A_Ear "come" _ := ⟨A_Ear_come, fd_Ear_come, _, cl_Ear, ⟨ci_Ear_come, ii_Ear_come, F_Ear_come.kp⟩, ok_comeB F_Ear_come T_EarT c_check_mark, b_Ear_come⟩
    have m_Ear_tell : MetX l.prog w K mg base 1 A_Ear "tell" _ := ⟨A_Ear_tell, fd_Ear_tell, _, cl_Ear, ⟨ci_Ear_tell, ii_Ear_tell, F_Ear_tell.kp⟩, ok_tellB F_Ear_tell T_EarT x_BadBits, b_Ear_tell⟩
    have m_Mouth_hear : MetX l.prog w K mg base 3 A_Mouth "hear" _ := ⟨A_Mouth_hear, fd_Mouth_hear, _, cl_Mouth, ⟨ci_Mouth_hear, ii_Mouth_hear, F_Mouth_hear.kp⟩, ok_hearB F_Mouth_hear T_MouthT c_check_telling, b_Mouth_hear⟩
    have m_Ear_last : MetX l.prog w K mg base 1 A_Ear "last" _ := ⟨A_Ear_last, fd_Ear_last, _, cl_Ear, ⟨ci_Ear_last, ii_Ear_last, F_Ear_last.kp⟩, ok_last F_Ear_last T_EarT, b_Ear_last⟩
    have m_Mouth_is_full : MetX l.prog w K mg base 1 A_Mouth "is_full" _ := ⟨A_Mouth_is_full, fd_Mouth_is_full, _, cl_Mouth, ⟨ci_Mouth_is_full, ii_Mouth_is_full, F_Mouth_is_full.kp⟩, ok_is_full F_Mouth_is_full T_MouthT, b_Mouth_is_full⟩
    have m_Mouth_last : MetX l.prog w K mg base 1 A_Mouth "last" _ := ⟨A_Mouth_last, fd_Mouth_last, _, cl_Mouth, ⟨ci_Mouth_last, ii_Mouth_last, F_Mouth_last.kp⟩, ok_mlast F_Mouth_last T_MouthT, b_Mouth_last⟩
    have m_Mouth_sure : MetX l.prog w K mg base 1 A_Mouth "sure" _ := ⟨A_Mouth_sure, fd_Mouth_sure, _, cl_Mouth, ⟨ci_Mouth_sure, ii_Mouth_sure, F_Mouth_sure.kp⟩, ok_sure F_Mouth_sure T_MouthT (PySem.W.mg_none_of X G z_sorted), b_Mouth_sure⟩
    have m_Mouth_send : MetX l.prog w K mg base 2 A_Mouth "send" _ := ⟨A_Mouth_send, fd_Mouth_send, _, cl_Mouth, ⟨ci_Mouth_send, ii_Mouth_send, F_Mouth_send.kp⟩, ok_sendK F_Mouth_send T_MouthT m_Mouth_is_full, b_Mouth_send⟩
    have c_l_bad : CalX l.prog w K mg base 2 "_law_bad" _ := ⟨A_l_bad, fd_l_bad, _, ok_law_bad F_l_bad (PySem.W.mg_none_of X G z_list) (PySem.W.mg_none_of X G z_tuple) c_l_next, PySem.W.mg_of X G a_l_bad, F_l_bad.kp, b_l_bad⟩
    have c_l_bits : CalX l.prog w K mg base 2 "_law_bits" _ := ⟨A_l_bits, fd_l_bits, _, ok_law_bits F_l_bits (PySem.W.mg_none_of X G z_range) (PySem.W.mg_none_of X G z_int) (PySem.W.mg_none_of X G z_tuple) c_l_next, PySem.W.mg_of X G a_l_bits, F_l_bits.kp, b_l_bits⟩
    have c_l_bounds : CalX l.prog w K mg base 7 "_law_bounds" _ := ⟨A_l_bounds, fd_l_bounds, _, ok_law_bounds F_l_bounds k_Ear k_Mouth m_Ear_last m_Mouth_send c_judged, PySem.W.mg_of X G a_l_bounds, F_l_bounds.kp, b_l_bounds⟩
    exact ok_law lk_law hc_law TB lkT hcT hkT (PySem.W.mg_of X G a_l_told) bT TC (PySem.W.mg_of X G a_BitsError) (PySem.W.mg_of X G a_BadSetting) (PySem.W.mg_of X G a_BadMark) (PySem.W.mg_of X G a_BadBits) (PySem.W.mg_of X G a_Full) (PySem.W.mg_of X G a_BadEvent) (PySem.W.mg_of X G a_BadText) (PySem.W.mg_none_of X G z_isinstance) (PySem.W.mg_none_of X G z_ValueError) (PySem.W.mg_none_of X G z_range) c_l_dice c_l_next c_l_setting c_l_like c_l_bad c_l_bits c_l_bounds k_Ear k_Mouth k_Load c_played c_judged c_written c_read c_fewest m_Ear_come m_Ear_tell m_Ear_last m_Mouth_hear m_Mouth_last m_Mouth_sure m_Mouth_is_full
end Ak
local macro_rules | `(tactic| walk_at "fi") => `(tactic| (refine' ⟨_, L2.fun_mk ?l ?c ?k⟩; (case l => k_is); (case c => k_is); (case k => k_is)))
local macro_rules | `(tactic| walk_at "vals") => `(tactic| first | exact .nil | exact .cons (by first | rfl | exact ⟨_, rfl⟩) (by walk_at "vals"))
local macro_rules | `(tactic| walk_at "kl") => `(tactic| first | exact trivial | (refine ⟨⟨_, _, rfl, rfl⟩, ?_⟩; walk_at "kl"))
local macro_rules | `(tactic| walk_at "sqk") => `(tactic| (refine' Ak.sqT_of ?l ?c ?d ?z ?v; (case l => k_is); (case c => rfl); (case d => rfl); (case z => exact Nat.le_of_ble_eq_true rfl); (case v => walk_at "vals")))
open PySem PySem.W PyProof.Rows in
set_option maxRecDepth 100000 in
set_option maxHeartbeats 0 in
theorem PySem.Challenge.cw_ackbits_k01_what_is_none_holds : PySem.Challenge.rw_ackbits_k01_what_is_none.Holds := by
  w_on; o_law; k_head; (case hw => w_witness2)
  k_fill
  refine LamX.walk_ofTs (l := PySem.Challenge.rw_ackbits_k01_what_is_none) (n := 63) (k := 12) (x := "_law_script") (CX := fun w => L2.CX (PySem.Challenge.rw_ackbits_k01_what_is_none).prog w) rfl (by decide) rfl ⟨rfl, by decide, by decide⟩ (fun w h Y => PySem.W.km_in_of Y) ?F (fun _ _ _ _ _ z => Ak.cx_none z)
  case F =>
    intro w mg fa h Y KX G hmg
    refine' Ak.all_mk KX G hmg ?a_Ear ?pg_Ear ?hd_Ear ?po_Ear ?sa_Ear ?mk_Ear ?kc_Ear ?na_Ear__marks ?na_Ear__wide ?na_Ear__late ?na_Ear__greatest ?na_Ear__came ?a_Mouth ?pg_Mouth ?hd_Mouth ?po_Mouth ?sa_Mouth ?mk_Mouth ?kc_Mouth ?na_Mouth__marks ?na_Mouth__wide ?na_Mouth__ahead ?na_Mouth__last ?na_Mouth__greatest ?na_Mouth__sure ?a_World ?pg_World ?hd_World ?po_World ?sa_World ?mk_World ?kc_World ?a_Load ?pg_Load ?hd_Load ?po_Load ?sa_Load ?mk_Load ?kc_Load ?a_BadMark ?xq_BadMark ?xk_BadMark ?xs_BadMark ?xt_BadMark ?a_BadBits ?xq_BadBits ?xk_BadBits ?xs_BadBits ?xt_BadBits ?a_BadSetting ?xk_BadSetting ?xs_BadSetting ?xt_BadSetting ?rq_BadSetting ?sa_BadSetting ?ci_BadSetting ?ti_BadSetting ?ni_BadSetting ?ri_lk_BadSetting ?ri_hc_BadSetting ?ri_lc_BadSetting ?ri_v2_BadSetting ?ri_fl_BadSetting ?ri_tp ?ri_ce_BadSetting ?ri_dc_BadSetting ?ri_sb_BadSetting ?ri_op ?ri_su_BadSetting ?ri_sv_BadSetting ?z_super ?a_BitsError ?a_Full ?a_BadEvent ?a_BadText ?oh_BadSetting_0 ?oh_BadSetting_1 ?oh_BadSetting_2 ?oh_BadSetting_3 ?oh_BadSetting_4 ?oc_hn ?oc_ht ?om_BadSetting ?ok_BadSetting_0 ?ok_BadSetting_1 ?ok_BadSetting_2 ?ok_BadSetting_3 ?ok_BadSetting_4 ?ok_BadSetting_5 ?ox_BadSetting ?ov_BadSetting ?oh_BadMark_0 ?oh_BadMark_1 ?oh_BadMark_2 ?oh_BadMark_3 ?oh_BadMark_4 ?om_BadMark ?ok_BadMark_0 ?ok_BadMark_1 ?ok_BadMark_2 ?ok_BadMark_3 ?ok_BadMark_4 ?ok_BadMark_5 ?ox_BadMark ?ov_BadMark ?oh_BadBits_0 ?oh_BadBits_1 ?oh_BadBits_2 ?oh_BadBits_3 ?oh_BadBits_4 ?om_BadBits ?ok_BadBits_0 ?ok_BadBits_1 ?ok_BadBits_2 ?ok_BadBits_3 ?ok_BadBits_4 ?ok_BadBits_5 ?ox_BadBits ?ov_BadBits ?oh_Full_0 ?oh_Full_1 ?oh_Full_2 ?oh_Full_3 ?oh_Full_4 ?om_Full ?ok_Full_0 ?ok_Full_1 ?ok_Full_2 ?ok_Full_3 ?ok_Full_4 ?ok_Full_5 ?ox_Full ?ov_Full ?oh_BadEvent_0 ?oh_BadEvent_1 ?oh_BadEvent_2 ?oh_BadEvent_3 ?oh_BadEvent_4 ?om_BadEvent ?ok_BadEvent_0 ?ok_BadEvent_1 ?ok_BadEvent_2 ?ok_BadEvent_3 ?ok_BadEvent_4 ?ok_BadEvent_5 ?ox_BadEvent ?ov_BadEvent ?oh_BadText_0 ?oh_BadText_1 ?oh_BadText_2 ?oh_BadText_3 ?oh_BadText_4 ?om_BadText ?ok_BadText_0 ?ok_BadText_1 ?ok_BadText_2 ?ok_BadText_3 ?ok_BadText_4 ?ok_BadText_5 ?ox_BadText ?ov_BadText ?tc_s1 ?tc_n1 ?tc_s5 ?tc_n5 ?tc_s6 ?tc_n6 ?a_l_told ?lkT ?hcT ?hkT ?a_BOUNDS ?lkB ?klB ?nB1 ?nB2 ?nB3 ?nB4 ?nB5 ?nB6 ?sB1 ?sB2 ?sB3 ?sB4 ?sB5 ?sB6 ?F_l_like ?a_l_like ?z_isinstance ?z_bool ?z_str ?z_int ?z_dict ?z_tuple ?z_list ?z_len ?z_range ?F_l_next ?a_l_next ?F_l_dice ?a_l_dice ?F_l_setting ?z_max ?z_min ?a_l_setting ?F_check_mark ?a_check_mark ?F_check_bits ?a_check_bits ?F_check_telling ?a_check_telling ?F_check_number ?a_check_number ?F_check_setting ?a_check_setting ?F_Ear___init ?ci_Ear___init ?ii_Ear___init ?F_Mouth___init ?ci_Mouth___init ?ii_Mouth___init ?F_World___init ?ci_World___init ?ii_World___init ?F_played ?a_played ?F_judged ?a_judged ?F_written ?a_written ?F_read ?a_read ?F_fewest ?a_fewest ?F_Load___init ?ci_Load___init ?ii_Load___init ?F_Ear_come ?ci_Ear_come ?ii_Ear_come ?F_Ear_tell ?ci_Ear_tell ?ii_Ear_tell ?F_Mouth_hear ?ci_Mouth_hear ?ii_Mouth_hear ?F_Ear_last ?ci_Ear_last ?ii_Ear_last ?F_Mouth_is_full ?ci_Mouth_is_full ?ii_Mouth_is_full ?F_Mouth_last ?ci_Mouth_last ?ii_Mouth_last ?F_Mouth_sure ?z_sorted ?ci_Mouth_sure ?ii_Mouth_sure ?F_Mouth_send ?ci_Mouth_send ?ii_Mouth_send ?F_l_bad ?a_l_bad ?F_l_bits ?a_l_bits ?F_l_bounds ?a_l_bounds ?a_law ?lk_law ?hc_law ?lk_code ?ht_law ?hh_law ?nt_law ?z_ValueError ?hT
    (case a_Ear => k_is)
    (case a_Mouth => k_is)
    (case a_World => k_is)
    (case a_Load => k_is)
    (case a_BadMark => k_is)
    (case a_BadBits => k_is)
    (case a_BadSetting => k_is)
    (case a_BitsError => k_is)
    (case a_Full => k_is)
    (case a_BadEvent => k_is)
    (case a_BadText => k_is)
    (case a_l_told => k_is)
    (case a_BOUNDS => k_is)
    (case a_l_like => k_is)
    (case a_l_next => k_is)
    (case a_l_dice => k_is)
    (case a_l_setting => k_is)
    (case a_check_mark => k_is)
    (case a_check_bits => k_is)
    (case a_check_telling => k_is)
    (case a_check_number => k_is)
    (case a_check_setting => k_is)
    (case a_played => k_is)
    (case a_judged => k_is)
    (case a_written => k_is)
    (case a_read => k_is)
    (case a_fewest => k_is)
    (case a_l_bad => k_is)
    (case a_l_bits => k_is)
    (case a_l_bounds => k_is)
    (case a_law => k_is)
    (case ci_BadSetting => k_is)
    (case ci_Ear___init => k_is)
    (case ci_Mouth___init => k_is)
    (case ci_World___init => k_is)
    (case ci_Load___init => k_is)
    (case ci_Ear_come => k_is)
    (case ci_Ear_tell => k_is)
    (case ci_Mouth_hear => k_is)
    (case ci_Ear_last => k_is)
    (case ci_Mouth_is_full => k_is)
    (case ci_Mouth_last => k_is)
    (case ci_Mouth_sure => k_is)
    (case ci_Mouth_send => k_is)
    (case pg_Ear => k_is)
    (case hd_Ear => k_is)
    (case po_Ear => k_is)
    (case sa_Ear => k_is)
    (case mk_Ear => k_is)
    (case kc_Ear => k_is)
    (case na_Ear__marks => k_is)
    (case na_Ear__wide => k_is)
    (case na_Ear__late => k_is)
    (case na_Ear__greatest => k_is)
    (case na_Ear__came => k_is)
    (case pg_Mouth => k_is)
    (case hd_Mouth => k_is)
    (case po_Mouth => k_is)
    (case sa_Mouth => k_is)
    (case mk_Mouth => k_is)
    (case kc_Mouth => k_is)
    (case na_Mouth__marks => k_is)
    (case na_Mouth__wide => k_is)
    (case na_Mouth__ahead => k_is)
    (case na_Mouth__last => k_is)
    (case na_Mouth__greatest => k_is)
    (case na_Mouth__sure => k_is)
    (case pg_World => k_is)
    (case hd_World => k_is)
    (case po_World => k_is)
    (case sa_World => k_is)
    (case mk_World => k_is)
    (case kc_World => k_is)
    (case pg_Load => k_is)
    (case hd_Load => k_is)
    (case po_Load => k_is)
    (case sa_Load => k_is)
    (case mk_Load => k_is)
    (case kc_Load => k_is)
    (case xq_BadMark => k_exc)
    (case xk_BadMark => k_is)
    (case xs_BadMark => k_is)
    (case xt_BadMark => k_is)
    (case xq_BadBits => k_exc)
    (case xk_BadBits => k_is)
    (case xs_BadBits => k_is)
    (case xt_BadBits => k_is)
    (case xk_BadSetting => k_is)
    (case xs_BadSetting => k_is)
    (case xt_BadSetting => k_is)
    (case rq_BadSetting => kernel_rfl)
    (case sa_BadSetting => k_is)
    (case ti_BadSetting => k_is)
    (case ni_BadSetting => k_is)
    (case ri_lk_BadSetting => k_is)
    (case ri_hc_BadSetting => k_is)
    (case ri_lc_BadSetting => k_is)
    (case ri_v2_BadSetting => rfl)
    (case ri_fl_BadSetting => kernel_rfl)
    (case ri_tp => kernel_rfl)
    (case ri_ce_BadSetting => k_is)
    (case ri_dc_BadSetting => kernel_rfl)
    (case ri_sb_BadSetting => k_is)
    (case ri_op => k_is)
    (case ri_su_BadSetting => kernel_rfl)
    (case ri_sv_BadSetting => k_is)
    (case z_super => k_is)
    (case oh_BadSetting_0 => k_is)
    (case oh_BadSetting_1 => k_is)
    (case oh_BadSetting_2 => k_is)
    (case oh_BadSetting_3 => k_is)
    (case oh_BadSetting_4 => k_is)
    (case oc_hn => k_is)
    (case oc_ht => k_is)
    (case om_BadSetting => k_is)
    (case ok_BadSetting_0 => kernel_rfl)
    (case ok_BadSetting_1 => kernel_rfl)
    (case ok_BadSetting_2 => kernel_rfl)
    (case ok_BadSetting_3 => kernel_rfl)
    (case ok_BadSetting_4 => kernel_rfl)
    (case ok_BadSetting_5 => kernel_rfl)
    (case ox_BadSetting => kernel_rfl)
    (case ov_BadSetting => kernel_rfl)
    (case oh_BadMark_0 => k_is)
    (case oh_BadMark_1 => k_is)
    (case oh_BadMark_2 => k_is)
    (case oh_BadMark_3 => k_is)
    (case oh_BadMark_4 => k_is)
    (case om_BadMark => k_is)
    (case ok_BadMark_0 => kernel_rfl)
    (case ok_BadMark_1 => kernel_rfl)
    (case ok_BadMark_2 => kernel_rfl)
    (case ok_BadMark_3 => kernel_rfl)
    (case ok_BadMark_4 => kernel_rfl)
    (case ok_BadMark_5 => kernel_rfl)
    (case ox_BadMark => kernel_rfl)
    (case ov_BadMark => kernel_rfl)
    (case oh_BadBits_0 => k_is)
    (case oh_BadBits_1 => k_is)
    (case oh_BadBits_2 => k_is)
    (case oh_BadBits_3 => k_is)
    (case oh_BadBits_4 => k_is)
    (case om_BadBits => k_is)
    (case ok_BadBits_0 => kernel_rfl)
    (case ok_BadBits_1 => kernel_rfl)
    (case ok_BadBits_2 => kernel_rfl)
    (case ok_BadBits_3 => kernel_rfl)
    (case ok_BadBits_4 => kernel_rfl)
    (case ok_BadBits_5 => kernel_rfl)
    (case ox_BadBits => kernel_rfl)
    (case ov_BadBits => kernel_rfl)
    (case oh_Full_0 => k_is)
    (case oh_Full_1 => k_is)
    (case oh_Full_2 => k_is)
    (case oh_Full_3 => k_is)
    (case oh_Full_4 => k_is)
    (case om_Full => k_is)
    (case ok_Full_0 => kernel_rfl)
    (case ok_Full_1 => kernel_rfl)
    (case ok_Full_2 => kernel_rfl)
    (case ok_Full_3 => kernel_rfl)
    (case ok_Full_4 => kernel_rfl)
    (case ok_Full_5 => kernel_rfl)
    (case ox_Full => kernel_rfl)
    (case ov_Full => kernel_rfl)
    (case oh_BadEvent_0 => k_is)
    (case oh_BadEvent_1 => k_is)
    (case oh_BadEvent_2 => k_is)
    (case oh_BadEvent_3 => k_is)
    (case oh_BadEvent_4 => k_is)
    (case om_BadEvent => k_is)
    (case ok_BadEvent_0 => kernel_rfl)
    (case ok_BadEvent_1 => kernel_rfl)
    (case ok_BadEvent_2 => kernel_rfl)
    (case ok_BadEvent_3 => kernel_rfl)
    (case ok_BadEvent_4 => kernel_rfl)
    (case ok_BadEvent_5 => kernel_rfl)
    (case ox_BadEvent => kernel_rfl)
    (case ov_BadEvent => kernel_rfl)
    (case oh_BadText_0 => k_is)
    (case oh_BadText_1 => k_is)
    (case oh_BadText_2 => k_is)
    (case oh_BadText_3 => k_is)
    (case oh_BadText_4 => k_is)
    (case om_BadText => k_is)
    (case ok_BadText_0 => kernel_rfl)
    (case ok_BadText_1 => kernel_rfl)
    (case ok_BadText_2 => kernel_rfl)
    (case ok_BadText_3 => kernel_rfl)
    (case ok_BadText_4 => kernel_rfl)
    (case ok_BadText_5 => kernel_rfl)
    (case ox_BadText => kernel_rfl)
    (case ov_BadText => kernel_rfl)
    (case tc_s1 => kernel_rfl)
    (case tc_n1 => k_is)
    (case tc_s5 => kernel_rfl)
    (case tc_n5 => k_is)
    (case tc_s6 => kernel_rfl)
    (case tc_n6 => k_is)
    (case lkT => k_is)
    (case hcT => k_is)
    (case hkT => k_is)
    (case lkB => k_is)
    (case klB => walk_at "kl")
    (case nB1 => k_is)
    (case nB2 => k_is)
    (case nB3 => k_is)
    (case nB4 => k_is)
    (case nB5 => k_is)
    (case nB6 => k_is)
    (case sB1 => walk_at "sqk")
    (case sB2 => walk_at "sqk")
    (case sB3 => walk_at "sqk")
    (case sB4 => walk_at "sqk")
    (case sB5 => walk_at "sqk")
    (case sB6 => walk_at "sqk")
    (case F_l_like => walk_at "fi")
    (case z_isinstance => k_is)
    (case z_bool => k_is)
    (case z_str => k_is)
    (case z_int => k_is)
    (case z_dict => k_is)
    (case z_tuple => k_is)
    (case z_list => k_is)
    (case z_len => k_is)
    (case z_range => k_is)
    (case F_l_next => walk_at "fi")
    (case F_l_dice => walk_at "fi")
    (case F_l_setting => walk_at "fi")
    (case z_max => k_is)
    (case z_min => k_is)
    (case F_check_mark => walk_at "fi")
    (case F_check_bits => walk_at "fi")
    (case F_check_telling => walk_at "fi")
    (case F_check_number => walk_at "fi")
    (case F_check_setting => walk_at "fi")
    (case F_Ear___init => walk_at "fi")
    (case ii_Ear___init => k_is)
    (case F_Mouth___init => walk_at "fi")
    (case ii_Mouth___init => k_is)
    (case F_World___init => walk_at "fi")
    (case ii_World___init => k_is)
    (case F_played => walk_at "fi")
    (case F_judged => walk_at "fi")
    (case F_written => walk_at "fi")
    (case F_read => walk_at "fi")
    (case F_fewest => walk_at "fi")
    (case F_Load___init => walk_at "fi")
    (case ii_Load___init => k_is)
    (case F_Ear_come => walk_at "fi")
    (case ii_Ear_come => k_is)
    (case F_Ear_tell => walk_at "fi")
    (case ii_Ear_tell => k_is)
    (case F_Mouth_hear => walk_at "fi")
    (case ii_Mouth_hear => k_is)
    (case F_Ear_last => walk_at "fi")
    (case ii_Ear_last => k_is)
    (case F_Mouth_is_full => walk_at "fi")
    (case ii_Mouth_is_full => k_is)
    (case F_Mouth_last => walk_at "fi")
    (case ii_Mouth_last => k_is)
    (case F_Mouth_sure => walk_at "fi")
    (case z_sorted => k_is)
    (case ii_Mouth_sure => k_is)
    (case F_Mouth_send => walk_at "fi")
    (case ii_Mouth_send => k_is)
    (case F_l_bad => walk_at "fi")
    (case F_l_bits => walk_at "fi")
    (case F_l_bounds => walk_at "fi")
    (case lk_law => k_is)
    (case hc_law => k_is)
    (case lk_code => k_is)
    (case ht_law => rfl)
    (case hh_law => kernel_rfl)
    (case nt_law => kernel_rfl)
    (case z_ValueError => k_is)
    (case hT => exact PySem.W.km_tabs_of Y _ (by k_mem))
#print axioms PySem.Challenge.cw_ackbits_k01_what_is_none_holds
