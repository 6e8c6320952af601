import PyProof.Rows.All
import Wide.All
import OpenK.AllK
import Wide.FinOn
import HandS.ForMost
import HandS.Exc
import HandS.WordsExc
import HandS.ExcOwn
import HandS.ExcIs
import HandS.ExcField
import HandS.TryOnly
import HandS.IsInst
import HandS.Conv
import HandS.Zip
import HandS.Codes
import HandS.Lambda
import HandS.EndTab
import HandS.Small
import HandS.SetFor
import HandS.SortInts
import HandS.HotCalls
import HandS.NestedK
import KE.GoesEnumKw
import KE.GoesMore
import HandS.SortKw
import HandS.More
import HandS.FStr
import HandS.Style
import PySem.Challenge.RW_ackbits_k09_whole_pieces_come
set_option Elab.async false
set_option linter.all false
set_option maxRecDepth 100000
set_option maxHeartbeats 4000000
namespace Ak
open PySem PySem.Spec PyProof.Rows L2

/-! ### heaps: what is kept but for S -/
def Keep (S : List Addr) (H H' : Hp) : Prop := (∀ a o, a ∉ S → H a = some o → H' a = some o) ∧ ∀ a, H' a = none → H a = none
section
variable {S T : List Addr} {H H1 H2 : Hp} {a p : Addr} {o : HO} {K : PySem.W.Frag} {xs : List V}
theorem Keep.refl : Keep S H H := ⟨fun _ _ _ h => h, fun _ h => h⟩
theorem Keep.mono (h : ∀ b, b ∈ T → b ∈ S) (k : Keep T H H1) : Keep S H H1 := ⟨fun b u n e => k.1 b u (fun m => n (h b m)) e, k.2⟩
theorem Keep.trans (k : Keep S H H1) (l : Keep S H1 H2) : Keep S H H2 := ⟨fun b u n e => l.1 b u n (k.1 b u n e), fun b e => k.2 b (l.2 b e)⟩
/-- behind a call -/
theorem Keep.call (l : Keep T H1 H2) (h : ∀ b, b ∈ T → b ∈ S) (k : Keep S H H1) : Keep S H H2 := k.trans (l.mono h)
theorem Keep.new (k : Keep S H H1) (n : H1 p = none) : Keep S H (upd H1 p o) := ⟨fun b u m e => by
  have e1 := k.1 b u m e
  rw [upd_ne (ne_of_none e1 n)]
  exact e1, fun b e => by
  by_cases q : b = p
  · rw [q, upd_same] at e; cases e
  · rw [upd_ne q] at e; exact k.2 b e⟩
theorem Keep.set (k : Keep S H H1) (m : p ∈ S) : Keep S H (upd H1 p o) := ⟨fun b u n e => by
  have e1 := k.1 b u n e
  have q : b ≠ p := fun z => n (z ▸ m)
  rw [upd_ne q]
  exact e1, fun b e => by
  by_cases q : b = p
  · rw [q, upd_same] at e; cases e
  · rw [upd_ne q] at e; exact k.2 b e⟩
theorem Keep.new' (n : H1 p = none) (k : Keep S H H1) : Keep S H (upd H1 p o) := k.new n
theorem Keep.set' (m : p ∈ S) (k : Keep S H H1) : Keep S H (upd H1 p o) := k.set m
theorem Keep.at (k : Keep S H H1) (n : a ∉ S) (e : H a = some o) : H1 a = some o := k.1 a o n e
theorem Keep.free (k : Keep S H H1) (e : H1 a = none) : H a = none := k.2 a e
theorem Keep.seqL (k : Keep S H H1) (n : a ∉ S) (e : SqL K H a xs) : SqL K H1 a xs := by
  rcases e with e | e
  · rcases e with e | ⟨o, e⟩
    · exact Or.inl (Or.inl (k.1 _ _ n e))
    · exact Or.inl (Or.inr ⟨o, k.1 _ _ n e⟩)
  · exact Or.inr e
theorem Keep.seqT (k : Keep S H H1) (n : a ∉ S) (e : SqT K H a xs) : SqT K H1 a xs := by
  rcases e with e | e
  · rcases e with e | ⟨o, e⟩
    · exact Or.inl (Or.inl (k.1 _ _ n e))
    · exact Or.inl (Or.inr ⟨o, k.1 _ _ n e⟩)
  · exact Or.inr e
theorem nin_nil : a ∉ ([] : List Addr) := List.not_mem_nil
theorem nin_cons {b : Addr} (h : a ≠ b) (t : a ∉ S) : a ∉ b :: S := fun m => by
  rcases List.mem_cons.mp m with z | z
  · exact h z
  · exact t z
theorem ne_new {b : Addr} (h' : H b = none) (h : H a = some o) : a ≠ b := ne_of_none h h'
theorem sub_nil : ∀ b : Addr, b ∈ ([] : List Addr) → b ∈ S := fun _ m => absurd m List.not_mem_nil
theorem sub_cons {b : Addr} (h : b ∈ S) (t : ∀ c, c ∈ T → c ∈ S) : ∀ c, c ∈ b :: T → c ∈ S := fun c m => by
  rcases List.mem_cons.mp m with z | z
  · exact z ▸ h
  · exact t c z
theorem at_upd (h : a ≠ p) (e : H a = some o) {u : HO} : upd H p u a = some o := (upd_ne h).trans e
theorem at_new (n : H p = none) (e : H a = some o) {u : HO} : upd H p u a = some o := (upd_ne (ne_of_none e n)).trans e
theorem free_upd {u : HO} (e : upd H p u a = none) : H a = none := by
  by_cases q : a = p
  · rw [q, upd_same] at e; cases e
  · rw [upd_ne q] at e; exact e
theorem SqL.upd {u : HO} (h : SqL K H a xs) (n : H p = none) : SqL K (upd H p u) a xs := Keep.seqL (S := []) (Keep.refl.new n) nin_nil h
theorem SqT.upd {u : HO} (h : SqT K H a xs) (n : H p = none) : SqT K (upd H p u) a xs := Keep.seqT (S := []) (Keep.refl.new n) nin_nil h
end

/-! ### general operators -/
section
variable {X : Cx}
def rPlus (K : PySem.W.Frag) : R2 := fun x y H Q => rI0 (fun i j => .int (i + j)) x y H Q ∨ rCat x y H Q ∨ (∃ i j, x = .str i ∧ y = .str j ∧ i.length + j.length ≤ sizeLine ∧ Q (.str (i ++ j)) H) ∨ rCatT K x y H Q
theorem op_plus : OpR X (binaryOp .Add) (rPlus X.K) := OpR.or op_add (OpR.or op_cat (OpR.or op_add_str op_catT))
abbrev rMinus : R2 := rI0 fun i j => .int (i - j)
def rTimes : R2 := fun x y H Q => rI CMul (fun i j => .int (i * j)) x y H Q ∨ rRep x y H Q
theorem op_times : OpR X (binaryOp .Mult) rTimes := OpR.or op_mul op_rep
abbrev rMod : R2 := rI (fun _ j => 0 < j) fun i j => .int (i % j)
abbrev rDiv : R2 := rI CDiv fun i j => .int (i / j)
abbrev rPow : R2 := rI CPow fun i j => .int (i ^ j.toNat)
def rEqX (K : PySem.W.Frag) : R2 := fun x y H Q => rEq x y H Q ∨ rEqD K x y H Q
theorem op_eqX (hu : X.A.units + 64 < cLine) : OpR X (compareOp .Eq) (rEqX X.K) := OpR.or op_eq (op_eqD hu)
def rNeX (K : PySem.W.Frag) : R2 := fun x y H Q => rNe x y H Q ∨ rNeD K x y H Q
theorem op_neX (hu : X.A.units + 64 < cLine) : OpR X (compareOp .NotEq) (rNeX X.K) := OpR.or op_ne (op_neD hu)
abbrev rLt : R2 := rI0 fun i j => .bl (decide (i < j))
abbrev rLe : R2 := rI0 fun i j => .bl (decide (i ≤ j))
abbrev rGt : R2 := rI0 fun i j => .bl (decide (j < i))
abbrev rGe : R2 := rI0 fun i j => .bl (decide (j ≤ i))
def tTru (K : PySem.W.Frag) (ta : TE) : TT := fun σ H Q => ta σ H fun x H' => ∃ k, TruV K x H' k ∧ Q k H'
theorem pt_tru {a : Expr} {ta : TE} (ha : PE X a ta) (he : ∀ whole, isTrue a X.env whole = (do let v ← whole; standAt a.pos; holding [v] (truthy v)) := by intro _; rfl) : PT X a (tTru X.K ta) := pt_truth ha he
def rIsNon : R2 := fun x y H Q => y = .non ∧ Q (.bl (decide (x = .non))) H
def rNotNon : R2 := fun x y H Q => y = .non ∧ Q (.bl (!decide (x = .non))) H
theorem op_isNon : OpR X (compareOp .Is) rIsNon := op_isN
theorem op_notNon : OpR X (compareOp .IsNot) rNotNon := op_notN
def rInX (K : PySem.W.Frag) : R2 := fun x y H Q => rIn K false x y H Q ∨ ∃ (c : Nat) (z : Str), x = .str ⟨#[c]⟩ ∧ y = .str z ∧ Q (.bl (decide (c ∈ z.cps.toList))) H
theorem op_inX : OpR X (compareOp .In) (rInX X.K) := OpR.or op_in_seq op_in_sign
def rNinX (K : PySem.W.Frag) : R2 := fun x y H Q => rIn K true x y H Q ∨ ∃ (c : Nat) (z : Str), x = .str ⟨#[c]⟩ ∧ y = .str z ∧ Q (.bl (!decide (c ∈ z.cps.toList))) H
theorem op_ninX : OpR X (compareOp .NotIn) (rNinX X.K) := OpR.or op_notIn_seq op_notIn_sign
/-- len, max, min, int, tuple, list, isinstance -/
def rLenX (K : PySem.W.Frag) : List V → Hp → VK → Prop := fun xs H Q => ∃ x n, xs = [x] ∧ LenV K x H n ∧ Q (.int (n : Nat)) H
theorem cr_lenX : CallR X (.builtin "len") (rLenX X.K) := call_len
def rMaxX (K : PySem.W.Frag) : List V → Hp → VK → Prop := fun xs H Q => (∃ i j, xs = [.int i, .int j] ∧ Q (.int (if j > i then j else i)) H) ∨ rMax K xs H Q
theorem cr_maxX (hc : X.calm = true) : CallR X (.builtin "max") (rMaxX X.K) := CallR.or (call_max2 hc) (cr_max hc)
def rMinX (K : PySem.W.Frag) : List V → Hp → VK → Prop := fun xs H Q => (∃ i j, xs = [.int i, .int j] ∧ Q (.int (if j < i then j else i)) H) ∨ rMin K xs H Q
theorem cr_minX (hc : X.calm = true) : CallR X (.builtin "min") (rMinX X.K) := CallR.or (call_min2 hc) (cr_min hc)
def rIntX : List V → Hp → VK → Prop := fun xs H Q => (∃ i, xs = [.int i] ∧ Q (.int i) H) ∨ ∃ k, xs = [.bl k] ∧ Q (.int (if k then 1 else 0)) H
theorem cr_intX : CallR X (.type "int") rIntX := call_int1
def rTupX (K : PySem.W.Frag) : List V → Hp → VK → Prop := fun xs H Q => ∃ p ys, xs = [.ref p] ∧ ((SqL K H p ys ∧ ∀ l, H l = none → Q (.ref l) (upd H l (.tup ys))) ∨ (SqT K H p ys ∧ Q (.ref p) H))
theorem cr_tupX : CallR X (.type "tuple") (rTupX X.K) := call_tuple_of
def rLisX (K : PySem.W.Frag) : List V → Hp → VK → Prop := fun xs H Q => ∃ p ys, xs = [.ref p] ∧ (SqL K H p ys ∨ SqT K H p ys) ∧ ∀ l, H l = none → Q (.ref l) (upd H l (.lst ys))
theorem cr_lisX : CallR X (.type "list") (rLisX X.K) := call_list_of
end

/-! ### calls of defs of the text: what they let out goes to W -/
def tCallX (sp : Sp) (W : WX) (t : TA) : TE := fun σ H Q => t σ H fun vs H1 => sp vs H1 Q (WE W σ)
def tMethX (C : Addr) (m : Str) (sp : Sp) (W : WX) (ta : TE) (t : TA) : TE := fun σ H Q => ta σ H fun x H1 => ∃ a dx fs, x = .ref a ∧ H1 a = some (.ins C dx fs) ∧ fs.lookup m = none ∧ t σ H1 fun vs H2 => sp (x :: vs) H2 Q (WE W σ)
def tMakeX (C : Addr) (sp : Sp) (W : WX) (t : TA) : TE := fun σ H Q => t σ H fun vs H1 => ∀ x dx, H1 x = none → H1 dx = none → dx ≠ x →
  sp (.ref x :: vs) (upd (upd H1 dx (.own x)) x (.ins C dx [])) (fun v H2 => v = .non ∧ Q (.ref x) H2) (WE W σ)
structure CalX (P : Program) (w : World) (K : PySem.W.Frag) (mg : Str → Option Value) (base : Heap) (k : Nat) (x : Str) (sp : Sp) : Prop where
  ex : ∃ (f : Addr) (fd : FuncData) (ps : List Str), FnOk P w K mg base (L2.CX P w) k f fd ps sp ∧ mg x = some (.ref f) ∧ PySem.W.keepIn K (.ref f) = true ∧ Binds K fd ps []
structure MetX (P : Program) (w : World) (K : PySem.W.Frag) (mg : Str → Option Value) (base : Heap) (k : Nat) (C : Addr) (m : Str) (sp : Sp) : Prop where
  ex : ∃ (f : Addr) (fd : FuncData) (ps : List Str), Cls K C ∧ Meth K C m f ∧ FnOk P w K mg base (L2.CX P w) k f fd ps sp ∧ Binds K fd ps []
structure MakX (P : Program) (w : World) (K : PySem.W.Frag) (mg : Str → Option Value) (base : Heap) (k : Nat) (x : Str) (C : Addr) (sp : Sp) : Prop where
  ex : ∃ (f : Addr) (fd : FuncData) (ps : List Str), Mk K C f ∧ FnOk P w K mg base (L2.CX P w) k f fd ps sp ∧ mg x = some (.ref C) ∧ Binds K fd ps []
section
variable {X : Cx} {W : WX} {k j : Nat} {C : Addr} {x m : Str} {sp : Sp} {p pos apos : Pos} {e o : Expr} {es : List Expr} {ta : TE} {t : TA}
theorem pe_cx (c : CalX X.prog X.w X.K X.mg X.base k x sp) (hr : Room j X.A) (hk : k ≤ j) (hg : Gl X x) (tk : Takes X W) (ha : PA X (e :: es) t)
    (hdb : (x == ("__debug__" : Str)) = false := by decide) (he : starEach (e :: es) X.env = (false, eval e X.env) :: starEach es X.env := by rfl)
    (hpl : (backTo pos (starEach es X.env)).any (·.1) = false := by rfl) : PE X (.Call (.Name x p) (e :: es) [] pos) (tCallX sp W t) := by
  obtain ⟨f, fd, ps, F, hm, hkp, hb⟩ := c.ex
  exact pe_callS F (hr.mono hk) hg hm hkp hb (fun σ => passAt tk σ) ha hdb he hpl
theorem pe_cx0 (c : CalX X.prog X.w X.K X.mg X.base k x sp) (hr : Room j X.A) (hk : k ≤ j) (hg : Gl X x) (tk : Takes X W)
    (hdb : (x == ("__debug__" : Str)) = false := by decide) : PE X (.Call (.Name x p) [] [] pos) (tCallX sp W tNil) := by
  obtain ⟨f, fd, ps, F, hm, hkp, hb⟩ := c.ex
  refine ⟨fun pn s₀ σ₀ H₀ Q₀ I₀ q₀ => ?_⟩
  refine wpAny_Call_Name_kw (ld_glob I₀ hg hm ?_ hdb)
  exact PySem.W.callWith_K0 I₀.kIn hkp (run_fnS (us := []) F (hr.mono hk) hb (passAt tk σ₀) I₀ .nil q₀)
theorem pe_mx {pl : Sem Bool} (he : PE X o ta) (c : MetX X.prog X.w X.K X.mg X.base k C m sp) (hr : Room j X.A) (hk : k ≤ j) (tk : Takes X W) (ha : PA X (e :: es) t)
    (hst : starEach (e :: es) X.env = (false, eval e X.env) :: starEach es X.env := by rfl) (hpl : (backTo pos (starEach es X.env)).any (·.1) = false := by rfl)
    (ht : eval (.Call (.Attribute o m apos) (e :: es) [] pos) X.env = (do
      let ov ← eval o X.env
      standAt apos.atName
      let (f, first) ← holding [ov] (getMethod ov m pl)
      callWith pos f first (backTo pos (starEach (e :: es) X.env)) (backToKw pos (keywordEach [] X.env))) := by rfl) :
    PE X (.Call (.Attribute o m apos) (e :: es) [] pos) (tMethX C m sp W ta t) := by
  obtain ⟨f, fd, ps, c, hm, F, hb⟩ := c.ex
  refine ⟨fun pn s₀ σ₀ H₀ Q₀ I₀ q₀ => ?_⟩
  refine PySem.W.methodCall_KW (pl := pl) (thn (he.run pn s₀ σ₀ H₀ _ I₀ q₀) fun u₀ s₁ ⟨x₁, H₁, I₁, rx, a₀, dx₀, fs₀, ex, ea, l₀, q₁⟩ => ?_) ht
  subst ex
  obtain rfl : u₀ = Value.ref a₀ := rx
  refine getmeth_ok I₁ ea c hm l₀ ?_
  refine PySem.W.callWith_K (first := [.ref a₀]) (h₀ := X.base) I₁.ok.mod.kin hm.kp (thn (ha.run pos pn s₁ σ₀ H₁ _ I₁ q₁) fun us s₂ ⟨vs, H₂, I₂, r₂, q₂⟩ => ⟨I₂.kIn, ?_⟩) hst hpl
  exact run_fnS (us := .ref a₀ :: us) (vs := .ref a₀ :: vs) F (hr.mono hk) hb (passAt tk σ₀) I₂ (.cons rfl r₂) q₂
theorem pe_mx0 {pl : Sem Bool} (he : PE X o ta) (c : MetX X.prog X.w X.K X.mg X.base k C m sp) (hr : Room j X.A) (hk : k ≤ j) (tk : Takes X W)
    (ht : eval (.Call (.Attribute o m apos) [] [] pos) X.env = (do
      let ov ← eval o X.env
      standAt apos.atName
      let (f, first) ← holding [ov] (getMethod ov m pl)
      callWith pos f first (backTo pos (starEach [] X.env)) (backToKw pos (keywordEach [] X.env))) := by rfl) :
    PE X (.Call (.Attribute o m apos) [] [] pos) (tMethX C m sp W ta tNil) := by
  obtain ⟨f, fd, ps, c, hm, F, hb⟩ := c.ex
  refine ⟨fun pn s₀ σ₀ H₀ Q₀ I₀ q₀ => ?_⟩
  refine PySem.W.methodCall_KW (pl := pl) (thn (he.run pn s₀ σ₀ H₀ _ I₀ q₀) fun u₀ s₁ ⟨x₁, H₁, I₁, rx, a₀, dx₀, fs₀, ex, ea, l₀, q₁⟩ => ?_) ht
  subst ex
  obtain rfl : u₀ = Value.ref a₀ := rx
  refine getmeth_ok I₁ ea c hm l₀ ?_
  exact PySem.W.callWith_K0 (first := [.ref a₀]) I₁.kIn hm.kp (run_fnS (us := [.ref a₀]) (vs := [.ref a₀]) F (hr.mono hk) hb (passAt tk σ₀) I₁ (.cons rfl .nil) q₁)
theorem pe_kx (c : MakX X.prog X.w X.K X.mg X.base k x C sp) (hr : Room j X.A) (hk : k + 1 ≤ j) (hg : Gl X x) (tk : Takes X W) (ha : PA X (e :: es) t)
    (hdb : (x == ("__debug__" : Str)) = false := by decide) (he : starEach (e :: es) X.env = (false, eval e X.env) :: starEach es X.env := by rfl)
    (hpl : (backTo pos (starEach es X.env)).any (·.1) = false := by rfl) : PE X (.Call (.Name x p) (e :: es) [] pos) (tMakeX C sp W t) := by
  obtain ⟨f, fd, ps, M, F, hm, hb⟩ := c.ex
  refine ⟨fun pn s₀ σ₀ H₀ Q₀ I₀ q₀ => ?_⟩
  refine wpAny_Call_Name_kw (ld_glob I₀ hg hm ?_ hdb)
  refine PySem.W.callWith_K (h₀ := X.base) I₀.ok.mod.kin M.kp (thn (ha.run pos pn s₀ σ₀ H₀ _ I₀ q₀) fun us s₁ ⟨vs, H₁, I₁, r₁, q₁⟩ => ⟨I₁.kIn, ?_⟩) he hpl
  have hq := q₁ (s₁.heap.objs.size + 1) s₁.heap.objs.size (I₁.hok.fresh (Nat.le_succ _)) (I₁.hok.fresh (Nat.le_refl _)) (Nat.ne_of_lt (Nat.lt_succ_self _))
  have I₂ := Inv.made (C := C) I₁
  have r₂ : Vals (V.ref (s₁.heap.objs.size + 1) :: vs) (Value.ref (s₁.heap.objs.size + 1) :: us) := .cons rfl r₁
  have hl : (Value.ref (s₁.heap.objs.size + 1) :: us).length = ps.length := by rw [← r₂.length]; exact F.len _ _ _ _ hq
  have b := hb { s₁ with heap := (s₁.heap.push PySem.W.emptyDict).push (PySem.W.instObj C s₁.heap.objs.size) } (Value.ref (s₁.heap.objs.size + 1) :: us) I₂.kIn (by rw [List.append_nil]; exact hl)
  rw [List.append_nil] at b
  refine wpAny_call (make_map (f := f) I₁.kIn M.makes M.init (beq_iff_eq.mp M.fn) (codeAny_mono (F.run _ X.stack _ _ ⟨Value.ref (s₁.heap.objs.size + 1) :: us, []⟩ (Value.ref (s₁.heap.objs.size + 1) :: us) _ _ (WE W σ₀) ((hr.mono hk).make C us [])
    (I₂.env0.make C us []) b r₂ hq) fun r s' hq' => ?_))
  cases r with
  | error e => exact passAt tk σ₀ pn _ _ e s' I₂ hq'
  | ok fl =>
    cases fl with
    | ret u =>
      obtain ⟨v, H', I₃, rv, ev, q₃⟩ := I₂.after hq'
      subst ev
      exact ⟨rv, ⟨V.ref (s₁.heap.objs.size + 1), H', I₃, rfl, q₃⟩⟩
    | next => exact False.elim hq'
    | brk => exact False.elim hq'
    | cont => exact False.elim hq'
end

abbrev wOut (E : XK) : WX := fun cls d _ H => E cls d H

/-! ### readings, one step each -/
section
variable {K : PySem.W.Frag} {σ : L2.St} {H H1 : Hp} {Q : VK} {QT : Bool → Hp → Prop} {QA : List V → Hp → Prop} {D : Ends} {ta tb te tv : TE} {tt tu : TT} {t u : TS} {tr : TA} {g : TG} {gs : TGs} {r : R2} {v x y z : V} {i j : Int} {n : Nat} {a b p : Addr} {xs ys : List V} {f : Str} {W : WX} {sp : Sp}
theorem w_seq (h : t { D with nx := u D } σ H) : tSeq t u D σ H := h
theorem w_asg (h : te σ H fun x H1 => g x σ H1 D.nx) : tAsg te g D σ H := h
theorem w_name {R : L2.St → Hp → Prop} (h : R (σ.set n (some v)) H) : gName n v σ H R := h
theorem w_ret (h : te σ H D.rt) : tRet te D σ H := h
theorem w_retN (h : D.rt .non H) : tRetN D σ H := h
theorem w_drop (h : te σ H fun _ H1 => D.nx σ H1) : tDrop te D σ H := h
theorem w_next (h : D.nx σ H) : tNext D σ H := h
theorem w_brk (h : D.bk σ H) : tBreak D σ H := h
theorem w_cont (h : D.ct σ H) : tCont D σ H := h
theorem w_if (h : tt σ H fun b H1 => if b = true then t D σ H1 else u D σ H1) : tIfS tt t u D σ H := h
theorem w_ite {c : Prop} [Decidable c] {A B : Prop} (h1 : c → A) (h2 : ¬ c → B) : if decide c = true then A else B := by
  by_cases q : c
  · rw [if_pos (decide_eq_true q)]; exact h1 q
  · rw [if_neg (by rw [decide_eq_false q]; exact Bool.false_ne_true)]; exact h2 q
theorem w_iteN {c : Prop} [Decidable c] {A B : Prop} (h1 : ¬ c → A) (h2 : c → B) : if (!decide c) = true then A else B := by
  by_cases q : c
  · rw [if_neg (by rw [decide_eq_true q]; exact Bool.false_ne_true)]; exact h2 q
  · rw [if_pos (by rw [decide_eq_false q]; rfl)]; exact h1 q
theorem w_iteT {b : Bool} {A B : Prop} (e : b = true) (h : A) : if b = true then A else B := by rw [if_pos e]; exact h
theorem w_iteF {b : Bool} {A B : Prop} (e : b = false) (h : B) : if b = true then A else B := by rw [if_neg (by rw [e]; exact Bool.false_ne_true)]; exact h
theorem w_iteB {b : Bool} {A B : Prop} (h1 : b = true → A) (h2 : b = false → B) : if b = true then A else B := by cases b with | true => exact h1 rfl | false => exact h2 rfl
theorem w_var (e : σ[n]? = some (some v)) (h : Q v H) : tVar n σ H Q := ⟨v, e, h⟩
theorem w_c (h : Q v H) : tC v σ H Q := h
theorem w_op (h : ta σ H fun x H1 => tb σ H1 fun y H2 => r x y H2 Q) : tOp r ta tb σ H Q := h
theorem w_un {q : V → Hp → VK → Prop} (h : ta σ H fun x H1 => q x H1 Q) : tUn q ta σ H Q := h
theorem w_I0 {gi : Int → Int → V} (h : Q (gi i j) H) : rI0 gi (.int i) (.int j) H Q := ⟨i, j, rfl, rfl, h⟩
theorem w_I {C : Int → Int → Prop} {gi : Int → Int → V} (c : C i j) (h : Q (gi i j) H) : rI C gi (.int i) (.int j) H Q := ⟨i, j, rfl, rfl, c, h⟩
theorem w_U {gi : Int → V} (h : Q (gi i) H) : rU gi (.int i) H Q := ⟨i, rfl, h⟩
theorem w_plusI (h : Q (.int (i + j)) H) : rPlus K (.int i) (.int j) H Q := Or.inl ⟨i, j, rfl, rfl, h⟩
theorem w_plusL (ha : H a = some (.lst xs)) (hb : H b = some (.lst ys)) (hl : xs.length + ys.length ≤ sizeLine) (h : ∀ p, H p = none → Q (.ref p) (upd H p (.lst (xs ++ ys)))) : rPlus K (.ref a) (.ref b) H Q := Or.inr (Or.inl ⟨a, b, xs, ys, rfl, rfl, ha, hb, hl, h⟩)
theorem w_plusS {s z : Str} (hl : s.length + z.length ≤ sizeLine) (h : Q (.str (s ++ z)) H) : rPlus K (.str s) (.str z) H Q := Or.inr (Or.inr (Or.inl ⟨s, z, rfl, rfl, hl, h⟩))
theorem w_timesI (c : CMul i j) (h : Q (.int (i * j)) H) : rTimes (.int i) (.int j) H Q := Or.inl ⟨i, j, rfl, rfl, c, h⟩
theorem w_timesL (ha : H a = some (.lst xs)) (h1 : -(2 ^ 63) ≤ i) (h2 : i < 2 ^ 63) (hl : xs.length * i.toNat ≤ sizeLine) (h : ∀ p, H p = none → Q (.ref p) (upd H p (.lst (List.replicate i.toNat xs).flatten))) : rTimes (.ref a) (.int i) H Q := Or.inr ⟨a, i, xs, rfl, rfl, ha, h1, h2, hl, h⟩
theorem w_test (h : te σ H fun x H' => ∃ k, x = .bl k ∧ QT k H') : tTest te σ H QT := h
theorem w_tB (h : te σ H fun x H' => ∃ k, x = .bl k ∧ QT k H') : tB te σ H QT := h
theorem w_bl {k : Bool} {R : Bool → Prop} (h : R k) : ∃ k', V.bl k = .bl k' ∧ R k' := ⟨k, rfl, h⟩
theorem w_tru (h : te σ H fun x H' => ∃ k, TruV K x H' k ∧ QT k H') : tTru K te σ H QT := h
theorem w_truB {k : Bool} {R : Bool → Prop} (h : R k) : ∃ k', TruV K (.bl k) H k' ∧ R k' := ⟨k, rfl, h⟩
theorem w_truI {R : Bool → Prop} (h : R (i != 0)) : ∃ k', TruV K (.int i) H k' ∧ R k' := ⟨_, rfl, h⟩
theorem w_truL {R : Bool → Prop} (e : SqL K H a xs) (h : R (!xs.isEmpty)) : ∃ k', TruV K (.ref a) H k' ∧ R k' := ⟨_, Or.inl ⟨xs, e, rfl⟩, h⟩
theorem w_truT {R : Bool → Prop} (e : SqT K H a xs) (h : R (!xs.isEmpty)) : ∃ k', TruV K (.ref a) H k' ∧ R k' := ⟨_, Or.inr (Or.inl ⟨xs, e, rfl⟩), h⟩
theorem w_and (h : tt σ H fun c H1 => if c = true then tu σ H1 QT else QT false H1) : tAnd tt tu σ H QT := h
theorem w_or (h : tt σ H fun c H1 => if c = true then QT true H1 else tu σ H1 QT) : tOr tt tu σ H QT := h
theorem w_not (h : tt σ H fun c H1 => QT (!c) H1) : tNot tt σ H QT := h
theorem w_andV (h : ta σ H fun x H1 => ∃ c, x = .bl c ∧ if c = true then tb σ H1 Q else Q (.bl false) H1) : tAndV ta tb σ H Q := h
theorem w_orV (h : ta σ H fun x H1 => ∃ c, x = .bl c ∧ if c = true then Q (.bl true) H1 else tb σ H1 Q) : tOrV ta tb σ H Q := h
theorem w_notV (h : ta σ H fun x H1 => ∃ c, x = .bl c ∧ Q (.bl (!c)) H1) : tNotV ta σ H Q := h
theorem w_ifx (h : tt σ H fun c H1 => if c = true then ta σ H1 Q else tb σ H1 Q) : tIf tt ta tb σ H Q := h
theorem w_eq (s : scal x y = true) (h : Q (.bl (decide (x = y))) H) : rEqX K x y H Q := Or.inl ⟨s, h⟩
theorem w_ne (s : scal x y = true) (h : Q (.bl (!decide (x = y))) H) : rNeX K x y H Q := Or.inl ⟨s, h⟩
theorem w_eqI (h : Q (.bl (decide (i = j))) H) : rEqX K (.int i) (.int j) H Q := w_eq rfl (by
  have e : decide (V.int i = V.int j) = decide (i = j) := by
    by_cases q : i = j
    · subst q; rw [decide_eq_true rfl, decide_eq_true rfl]
    · rw [decide_eq_false q, decide_eq_false (fun z => q (V.int.inj z))]
  rw [e]; exact h)
theorem w_neI (h : Q (.bl (!decide (i = j))) H) : rNeX K (.int i) (.int j) H Q := w_ne rfl (by
  have e : decide (V.int i = V.int j) = decide (i = j) := by
    by_cases q : i = j
    · subst q; rw [decide_eq_true rfl, decide_eq_true rfl]
    · rw [decide_eq_false q, decide_eq_false (fun z => q (V.int.inj z))]
  rw [e]; exact h)
theorem w_eqS {s z : Str} (h : Q (.bl (decide (s = z))) H) : rEqX K (.str s) (.str z) H Q := w_eq rfl (by
  have e : decide (V.str s = V.str z) = decide (s = z) := by
    by_cases q : s = z
    · subst q; rw [decide_eq_true rfl, decide_eq_true rfl]
    · rw [decide_eq_false q, decide_eq_false (fun w => q (V.str.inj w))]
  rw [e]; exact h)
theorem w_neS {s z : Str} (h : Q (.bl (!decide (s = z))) H) : rNeX K (.str s) (.str z) H Q := w_ne rfl (by
  have e : decide (V.str s = V.str z) = decide (s = z) := by
    by_cases q : s = z
    · subst q; rw [decide_eq_true rfl, decide_eq_true rfl]
    · rw [decide_eq_false q, decide_eq_false (fun w => q (V.str.inj w))]
  rw [e]; exact h)
theorem w_eqB {s z : Bool} (h : Q (.bl (decide (s = z))) H) : rEqX K (.bl s) (.bl z) H Q := w_eq rfl (by
  have e : decide (V.bl s = V.bl z) = decide (s = z) := by cases s <;> cases z <;> rfl
  rw [e]; exact h)
theorem w_neB {s z : Bool} (h : Q (.bl (!decide (s = z))) H) : rNeX K (.bl s) (.bl z) H Q := w_ne rfl (by
  have e : decide (V.bl s = V.bl z) = decide (s = z) := by cases s <;> cases z <;> rfl
  rw [e]; exact h)
theorem w_eqD {d e : PyData} (hd : Dp K H x d) (he : Dp K H y e) (s1 : SeqAt.shaped d = true) (s2 : SeqAt.shaped e = true) (h : Q (.bl (PyData.eqv d e)) H) : rEqX K x y H Q := Or.inr ⟨d, e, hd, he, s1, s2, h⟩
theorem w_neD {d e : PyData} (hd : Dp K H x d) (he : Dp K H y e) (s1 : SeqAt.shaped d = true) (s2 : SeqAt.shaped e = true) (h : Q (.bl (!PyData.eqv d e)) H) : rNeX K x y H Q := Or.inr ⟨d, e, hd, he, s1, s2, h⟩
theorem w_isN (h : Q (.bl (decide (x = .non))) H) : rIsNon x .non H Q := ⟨rfl, h⟩
theorem w_notN (h : Q (.bl (!decide (x = .non))) H) : rNotNon x .non H Q := ⟨rfl, h⟩
theorem w_inL (e : SqL K H a xs) (fx : flatV x = true) (fa : xs.all flatV = true) (h : Q (.bl (inV x xs)) H) : rInX K x (.ref a) H Q := Or.inl ⟨a, xs, rfl, Or.inl e, fx, fa, h⟩
theorem w_inT (e : SqT K H a xs) (fx : flatV x = true) (fa : xs.all flatV = true) (h : Q (.bl (inV x xs)) H) : rInX K x (.ref a) H Q := Or.inl ⟨a, xs, rfl, Or.inr e, fx, fa, h⟩
theorem w_ninL (e : SqL K H a xs) (fx : flatV x = true) (fa : xs.all flatV = true) (h : Q (.bl (!inV x xs)) H) : rNinX K x (.ref a) H Q := Or.inl ⟨a, xs, rfl, Or.inl e, fx, fa, h⟩
theorem w_ninT (e : SqT K H a xs) (fx : flatV x = true) (fa : xs.all flatV = true) (h : Q (.bl (!inV x xs)) H) : rNinX K x (.ref a) H Q := Or.inl ⟨a, xs, rfl, Or.inr e, fx, fa, h⟩
theorem w_ixL (e : SqL K H a xs) (q : atI xs i = some v) (h : Q v H) : rIx K (.ref a) (.int i) H Q := Or.inl ⟨a, xs, i, v, rfl, rfl, e, q, h⟩
theorem w_ixT (e : SqT K H a xs) (q : atI xs i = some v) (h : Q v H) : rIx K (.ref a) (.int i) H Q := Or.inr (Or.inl ⟨a, xs, i, v, rfl, rfl, e, q, h⟩)
theorem w_nil (h : QA [] H) : tNil σ H QA := h
theorem w_cons (h : ta σ H fun x H1 => tr σ H1 fun xs H2 => QA (x :: xs) H2) : tCons ta tr σ H QA := h
theorem w_tup (h : tr σ H fun xs H1 => xs.length ≤ sizeLine ∧ ∀ p, H1 p = none → Q (.ref p) (upd H1 p (.tup xs))) : tTup tr σ H Q := h
theorem w_lst (h : tr σ H fun xs H1 => xs.length ≤ sizeLine ∧ ∀ p, H1 p = none → Q (.ref p) (upd H1 p (.lst xs))) : tLst tr σ H Q := h
theorem w_cb {q : List V → Hp → VK → Prop} (h : tr σ H fun vs H1 => q vs H1 Q) : tCB q tr σ H Q := h
theorem w_lenL (e : SqL K H a xs) (h : Q (.int xs.length) H) : rLenX K [.ref a] H Q := ⟨_, _, rfl, Or.inl ⟨xs, e, rfl⟩, h⟩
theorem w_lenT (e : SqT K H a xs) (h : Q (.int xs.length) H) : rLenX K [.ref a] H Q := ⟨_, _, rfl, Or.inr ⟨xs, e, rfl⟩, h⟩
theorem w_lenS {s : Str} (e : s.length ≤ sizeLine) (h : Q (.int (s.length : Nat)) H) : rLenX K [.str s] H Q := ⟨_, _, rfl, ⟨e, rfl⟩, h⟩
theorem w_max2 (h : Q (.int (max i j)) H) : rMaxX K [.int i, .int j] H Q := Or.inl ⟨i, j, rfl, by
  have e : (if j > i then j else i) = max i j := by rw [Int.max_def]; split <;> split <;> omega
  rw [e]; exact h⟩
theorem w_min2 (h : Q (.int (min i j)) H) : rMinX K [.int i, .int j] H Q := Or.inl ⟨i, j, rfl, by
  have e : (if j < i then j else i) = min i j := by rw [Int.min_def]; split <;> split <;> omega
  rw [e]; exact h⟩
theorem w_maxL {ns : List Int} (e : SqL K H a (ns.map V.int)) (q : 0 < ns.length) (h : ∀ m, m ∈ ns → (∀ y, y ∈ ns → y ≤ m) → Q (.int m) H) : rMaxX K [.ref a] H Q := Or.inr ⟨a, ns, rfl, e, q, h⟩
theorem w_minL {ns : List Int} (e : SqL K H a (ns.map V.int)) (q : 0 < ns.length) (h : ∀ m, m ∈ ns → (∀ y, y ∈ ns → m ≤ y) → Q (.int m) H) : rMinX K [.ref a] H Q := Or.inr ⟨a, ns, rfl, e, q, h⟩
theorem w_intI (h : Q (.int i) H) : rIntX [.int i] H Q := Or.inl ⟨i, rfl, h⟩
theorem w_intB {k : Bool} (h : Q (.int (if k then 1 else 0)) H) : rIntX [.bl k] H Q := Or.inr ⟨k, rfl, h⟩
theorem w_tupL (e : SqL K H a xs) (h : ∀ p, H p = none → Q (.ref p) (upd H p (.tup xs))) : rTupX K [.ref a] H Q := ⟨a, xs, rfl, Or.inl ⟨e, h⟩⟩
theorem w_tupT (e : SqT K H a xs) (h : Q (.ref a) H) : rTupX K [.ref a] H Q := ⟨a, xs, rfl, Or.inr ⟨e, h⟩⟩
theorem w_lisL (e : SqL K H a xs) (h : ∀ p, H p = none → Q (.ref p) (upd H p (.lst xs))) : rLisX K [.ref a] H Q := ⟨a, xs, rfl, Or.inl e, h⟩
theorem w_lisT (e : SqT K H a xs) (h : ∀ p, H p = none → Q (.ref p) (upd H p (.lst xs))) : rLisX K [.ref a] H Q := ⟨a, xs, rfl, Or.inr e, h⟩
theorem w_isi {c : V} {cu ty : Value} {k : Bool} (hc : ClsV c cu) (ht : TyX K H x ty) (hk : PySem.W.kitOne K ty cu = some k) (h : Q (.bl k) H) : rIsi K [x, c] H Q := ⟨x, c, ty, cu, k, rfl, hc, ht, hk, h⟩
def kFld (K : PySem.W.Frag) (f : Str) (x : V) (H1 : Hp) (Q : VK) : Prop := ∃ a C dx fs v, x = .ref a ∧ H1 a = some (.ins C dx fs) ∧ Cls K C ∧ NoAttr K C f ∧ fs.lookup f = some v ∧ Q v H1
theorem w_fldE (h : ta σ H fun x H1 => kFld K f x H1 Q) : tFld K ta f σ H Q := h
theorem w_fldK {C dx : Addr} {fs : List (Str × V)} (e : H a = some (.ins C dx fs)) (c : Cls K C) (nn : NoAttr K C f) (l : fs.lookup f = some v) (h : Q v H) : kFld K f (.ref a) H Q := ⟨a, C, dx, fs, v, rfl, e, c, nn, l, h⟩
def kSFld (K : PySem.W.Frag) (f : Str) (y : V) (x : V) (H2 : Hp) (R : Hp → Prop) : Prop := ∃ a C dx fs, x = .ref a ∧ H2 a = some (.ins C dx fs) ∧ Cls K C ∧ NoAttr K C f ∧ fs.length < 1000 ∧ R (upd H2 a (.ins C dx (putF f y fs)))
theorem w_sfld (h : tv σ H fun y H1 => ta σ H1 fun x H2 => kSFld K f y x H2 (D.nx σ)) : sFld K ta tv f D σ H := h
theorem w_sfldK {C dx : Addr} {fs : List (Str × V)} {R : Hp → Prop} (e : H a = some (.ins C dx fs)) (c : Cls K C) (nn : NoAttr K C f) (l : fs.length < 1000) (h : R (upd H a (.ins C dx (putF f y fs)))) : kSFld K f y (.ref a) H R := ⟨a, C, dx, fs, rfl, e, c, nn, l, h⟩
theorem w_call (h : tr σ H fun vs H1 => sp vs H1 Q (WE W σ)) : tCallX sp W tr σ H Q := h
def kMeth (C : Addr) (m : Str) (x : V) (H1 : Hp) (R : Prop) : Prop := ∃ a dx fs, x = .ref a ∧ H1 a = some (.ins C dx fs) ∧ fs.lookup m = none ∧ R
theorem w_meth {C : Addr} {m : Str} (h : ta σ H fun x H1 => kMeth C m x H1 (tr σ H1 fun vs H2 => sp (x :: vs) H2 Q (WE W σ))) : tMethX C m sp W ta tr σ H Q := h
theorem w_methK {C dx : Addr} {m : Str} {fs : List (Str × V)} {R : Prop} (e : H a = some (.ins C dx fs)) (l : fs.lookup m = none) (h : R) : kMeth C m (.ref a) H R := ⟨a, dx, fs, rfl, e, l, h⟩
theorem w_make {C : Addr} (h : tr σ H fun vs H1 => ∀ x dx, H1 x = none → H1 dx = none → dx ≠ x → sp (.ref x :: vs) (upd (upd H1 dx (.own x)) x (.ins C dx [])) (fun v H2 => v = .non ∧ Q (.ref x) H2) (WE W σ)) : tMakeX C sp W tr σ H Q := h
theorem w_gtup {R : L2.St → Hp → Prop} (e : SqT K H a xs) (l : xs.length = n) (h : gs xs σ H R) : gTup K n gs (.ref a) σ H R := ⟨a, xs, rfl, e, l, h⟩
theorem w_gnil {R : L2.St → Hp → Prop} (h : R σ H) : gNil [] σ H R := ⟨rfl, h⟩
theorem w_gcons {R : L2.St → Hp → Prop} (h : g v σ H fun σ' H' => gs xs σ' H' R) : gCons g gs (v :: xs) σ H R := ⟨v, xs, rfl, h⟩
theorem w_gsub {ts : TSet} {R : L2.St → Hp → Prop} (h : ta σ H fun o H1 => tb σ H1 fun i H2 => ts o i v H2 fun H3 => R σ H3) : gSub ta tb ts v σ H R := h
theorem w_setL {R : Hp → Prop} {m : Nat} (e : H a = some (.lst xs)) (q : ixN xs.length i = some m) (h : R (upd H a (.lst (xs.set m v)))) : rSetL (.ref a) (.int i) v H R := ⟨a, xs, i, m, rfl, rfl, e, q, h⟩
/-! dicts -/
def kDGet (x y : V) (H : Hp) (Q : VK) : Prop := ∃ a v, x = .ref a ∧ DGet H a y (some v) ∧ Q v H
theorem w_dget (h : ta σ H fun x H1 => tb σ H1 fun y H2 => kDGet x y H2 Q) : tDGet ta tb σ H Q := h
theorem w_dgetS {kvs : List (Key × V)} {s : Str} (e : H a = some (.dK kvs)) (q : valV kvs (Sum.inr s) = some v) (h : Q v H) : kDGet (.ref a) (.str s) H Q := ⟨a, v, rfl, q ▸ DGet.k (k := Sum.inr s) e, h⟩
theorem w_dgetI {kvs : List (Key × V)} (e : H a = some (.dK kvs)) (q : valV kvs (Sum.inl i) = some v) (h : Q v H) : kDGet (.ref a) (.int i) H Q := ⟨a, v, rfl, q ▸ DGet.k (k := Sum.inl i) e, h⟩
def kDPut (v x y : V) (H : Hp) (R : Hp → Prop) : Prop := ∃ a H4, x = .ref a ∧ DPut H a y v H4 ∧ R H4
theorem w_dput (h : tv σ H fun v H1 => ta σ H1 fun x H2 => tb σ H2 fun y H3 => kDPut v x y H3 (D.nx σ)) : sDPut ta tb tv D σ H := h
theorem w_dputS {R : Hp → Prop} {kvs : List (Key × V)} {s : Str} (e : H a = some (.dK kvs)) (l : kvs.length < sizeLine) (h : R (upd H a (.dK (putK kvs (Sum.inr s) v)))) : kDPut v (.ref a) (.str s) H R := ⟨a, _, rfl, DPut.k (k := Sum.inr s) e l, h⟩
theorem w_dputI {R : Hp → Prop} {kvs : List (Key × V)} (e : H a = some (.dK kvs)) (l : kvs.length < sizeLine) (h : R (upd H a (.dK (putK kvs (Sum.inl i) v)))) : kDPut v (.ref a) (.int i) H R := ⟨a, _, rfl, DPut.k (k := Sum.inl i) e l, h⟩
/-! methods of built-in values -/
theorem w_bm {T : String} {q : V → List V → Hp → VK → Prop} (h : ta σ H fun x H1 => tyV K T x H1 ∧ tr σ H1 fun xs H2 => q x xs H2 Q) : tBM K T q ta tr σ H Q := h
theorem w_bm0 {T : String} {q : V → List V → Hp → VK → Prop} (h : ta σ H fun x H1 => tyV K T x H1 ∧ q x [] H1 Q) : tBM0 K T q ta σ H Q := h
theorem w_app (e : H a = some (.lst xs)) (l : xs.length < sizeLine) (h : Q .non (upd H a (.lst (xs ++ [v])))) : rAppend (.ref a) [v] H Q := ⟨a, xs, v, rfl, rfl, e, l, h⟩
theorem w_clear (e : H a = some (.lst xs)) (h : Q .non (upd H a (.lst []))) : rClear (.ref a) [] H Q := ⟨a, xs, rfl, rfl, e, h⟩
theorem tyL (e : H a = some (.lst xs)) : tyV K "list" (.ref a) H := Or.inl ⟨rfl, xs, SqL.of e⟩
/-! loops -/
def kForL (K : PySem.W.Frag) (g : TG) (t : TS) (D : Ends) (σ : L2.St) (x : V) (H1 : Hp) : Prop := ∃ a, x = .ref a ∧ (∃ xs, SqL K H1 a xs) ∧ ∃ W : Nat → Nat → L2.St → Hp → Prop, (∃ m, W 0 m σ H1) ∧ ∀ i m σ H, W i m σ H →
      ((Itl K a).stop i H ∧ D.nx σ H) ∨ ((Itl K a).go i H ∧ ∃ N : L2.St → Hp → Prop, (∀ σ' H', N σ' H' → ∃ m', m' < m ∧ W (i + 1) m' σ' H') ∧ ∀ x H', (Itl K a).yld i H x H' → g x σ H' fun σ2 H2 => t { D with nx := N, ct := N, bk := D.nx } σ2 H2)
theorem w_forList (h : te σ H fun x H1 => kForL K g t D σ x H1) : tFor (iList K te) g t D σ H := h
theorem l_forList (e : SqL K H a xs) (Pv : Nat → L2.St → Hp → Prop) (h0 : Pv 0 σ H) (hl : ∀ i σ' H', i ≤ xs.length → Pv i σ' H' → SqL K H' a xs)
    (hs : ∀ i x σ' H', xs[i]? = some x → Pv i σ' H' → g x σ' H' fun σ2 H2 => t { D with nx := Pv (i + 1), ct := Pv (i + 1), bk := D.nx } σ2 H2) (hd : ∀ σ' H', Pv xs.length σ' H' → D.nx σ' H') : kForL K g t D σ (.ref a) H :=
  ⟨a, rfl, ⟨xs, e⟩, for_list Pv h0 hl hs hd⟩
def kForR1 (g : TG) (t : TS) (D : Ends) (σ : L2.St) (vs : List V) (H1 : Hp) : Prop := ∃ j : Int, vs = [.int j] ∧ -(2 ^ 62) ≤ j ∧ j < 2 ^ 62 ∧ ∃ W : Nat → Nat → L2.St → Hp → Prop, (∃ m, W 0 m σ H1) ∧ ∀ i m σ H, W i m σ H →
  ((Itr 0 j.toNat).stop i H ∧ D.nx σ H) ∨ ((Itr 0 j.toNat).go i H ∧ ∃ N : L2.St → Hp → Prop, (∀ σ' H', N σ' H' → ∃ m', m' < m ∧ W (i + 1) m' σ' H') ∧ ∀ x H', (Itr 0 j.toNat).yld i H x H' → g x σ H' fun σ2 H2 => t { D with nx := N, ct := N, bk := D.nx } σ2 H2)
theorem w_forR1 (h : tr σ H fun vs H1 => kForR1 g t D σ vs H1) : tFor (iRng1 tr) g t D σ H := h
theorem l_forR1 (lo : -(2 ^ 62) ≤ j) (hi : j < 2 ^ 62) (Pv : Nat → L2.St → Hp → Prop) (h0 : Pv 0 σ H)
    (hs : ∀ i σ' H', i < j.toNat → Pv i σ' H' → g (.int i) σ' H' fun σ2 H2 => t { D with nx := Pv (i + 1), ct := Pv (i + 1), bk := D.nx } σ2 H2) (hd : ∀ σ' H', Pv j.toNat σ' H' → D.nx σ' H') : kForR1 g t D σ [.int j] H :=
  ⟨j, rfl, lo, hi, for_range Pv h0 (fun i σ' H' hi q => by rw [Int.zero_add]; exact hs i σ' H' hi q) hd⟩
def kForR2 (g : TG) (t : TS) (D : Ends) (σ : L2.St) (vs : List V) (H1 : Hp) : Prop := ∃ i j : Int, vs = [.int i, .int j] ∧ (-(2 ^ 62) ≤ i ∧ i < 2 ^ 62 ∧ -(2 ^ 62) ≤ j ∧ j < 2 ^ 62) ∧ ∃ W : Nat → Nat → L2.St → Hp → Prop, (∃ m, W 0 m σ H1) ∧ ∀ k m σ H, W k m σ H →
  ((Itr i (j - i).toNat).stop k H ∧ D.nx σ H) ∨ ((Itr i (j - i).toNat).go k H ∧ ∃ N : L2.St → Hp → Prop, (∀ σ' H', N σ' H' → ∃ m', m' < m ∧ W (k + 1) m' σ' H') ∧ ∀ x H', (Itr i (j - i).toNat).yld k H x H' → g x σ H' fun σ2 H2 => t { D with nx := N, ct := N, bk := D.nx } σ2 H2)
theorem w_forR2 (h : tr σ H fun vs H1 => kForR2 g t D σ vs H1) : tFor (iRng2 tr) g t D σ H := h
theorem l_forR2 (b : -(2 ^ 62) ≤ i ∧ i < 2 ^ 62 ∧ -(2 ^ 62) ≤ j ∧ j < 2 ^ 62) (Pv : Nat → L2.St → Hp → Prop) (h0 : Pv 0 σ H)
    (hs : ∀ k σ' H', k < (j - i).toNat → Pv k σ' H' → g (.int (i + k)) σ' H' fun σ2 H2 => t { D with nx := Pv (k + 1), ct := Pv (k + 1), bk := D.nx } σ2 H2) (hd : ∀ σ' H', Pv (j - i).toNat σ' H' → D.nx σ' H') : kForR2 g t D σ [.int i, .int j] H :=
  ⟨i, j, rfl, b, for_range Pv h0 hs hd⟩
end
theorem sz_of {n : Nat} (h : Nat.ble n sizeLine = true) : n ≤ sizeLine := Nat.le_of_ble_eq_true h
theorem sz_lt {n : Nat} (h : Nat.ble (n + 1) sizeLine = true) : n < sizeLine := Nat.le_of_ble_eq_true h
theorem look_hd {k : Str} {v : V} {l : List (Str × V)} : List.lookup k ((k, v) :: l) = some v := by simp [List.lookup]
theorem look_tl {k j : Str} {v : V} {l : List (Str × V)} (h : (k == j) = false) : List.lookup k ((j, v) :: l) = List.lookup k l := by simp [List.lookup, h]
theorem look_nil {k : Str} : List.lookup k ([] : List (Str × V)) = none := rfl
theorem putF_hd {k : Str} {v x : V} {l : List (Str × V)} : putF k v ((k, x) :: l) = (k, v) :: l := by simp [putF]
theorem putF_tl {k j : Str} {v x : V} {l : List (Str × V)} (h : ¬ j = k) : putF k v ((j, x) :: l) = (j, x) :: putF k v l := by simp [putF, h]
theorem putF_nil {k : Str} {v : V} : putF k v [] = [(k, v)] := rfl
section
variable {κ : Type} [DecidableEq κ] {k j : κ} {v x : V} {l : List (κ × V)}
theorem val_hd : valV ((k, v) :: l) k = some v := by simp [valV]
theorem val_tl (h : ¬ j = k) : valV ((j, x) :: l) k = valV l k := by simp [valV, h]
theorem val_nil : valV ([] : List (κ × V)) k = none := rfl
end
/-! ### all but tables are as in H0 -/
abbrev Ext0 (H0 H : Hp) : Prop := LamX.ExtN H0 H
section
variable {K : PySem.W.Frag} {H0 H H1 : Hp} {a p : Addr} {xs : List V} {o : HO} {S : List Addr}
theorem Ext0.refl : Ext0 H H := LamX.ExtN.refl H
theorem Ext0.seqL (h : SqL K H0 a xs) (e : Ext0 H0 H) : SqL K H a xs := by
  rcases h with h | h
  · rcases h with h | ⟨o, h⟩
    · exact Or.inl (Or.inl (e _ _ h (fun _ z => by cases z)))
    · exact Or.inl (Or.inr ⟨o, e _ _ h (fun _ z => by cases z)⟩)
  · exact Or.inr h
theorem Ext0.seqT (h : SqT K H0 a xs) (e : Ext0 H0 H) : SqT K H a xs := by
  rcases h with h | h
  · rcases h with h | ⟨o, h⟩
    · exact Or.inl (Or.inl (e _ _ h (fun _ z => by cases z)))
    · exact Or.inl (Or.inr ⟨o, e _ _ h (fun _ z => by cases z)⟩)
  · exact Or.inr h
theorem Ext0.keep (e : Ext0 H0 H) (k : Keep S H H1) (n : ∀ b, b ∈ S → H0 b = none) : Ext0 H0 H1 := fun b o h nt =>
  k.1 b o (fun m => by rw [n b m] at h; cases h) (e b o h nt)
theorem Ext0.kept (k : Keep S H H1) (e : Ext0 H0 H) (n : ∀ b, b ∈ S → H0 b = none) : Ext0 H0 H1 := e.keep k n
theorem Ext0.set (e : Ext0 H0 H) (n : H0 p = none) : Ext0 H0 (upd H p o) := fun b u h nt => by
  rw [upd_ne (ne_of_none h n)]
  exact e b u h nt
theorem Ext0.new (e : Ext0 H0 H) (n : H p = none) : Ext0 H0 (upd H p o) := fun b u h nt => by
  rw [upd_ne (ne_of_none (e b u h nt) n)]
  exact e b u h nt
/-- fresh behind is fresh ahead, but for tables -/
theorem Ext0.at (e : Ext0 H0 H) (h : H0 a = some o) (nt : ∀ ps, o ≠ .tbl ps) : H a = some o := e a o h nt
theorem none_in {b : Addr} (h : ∀ c, c ∈ S → H0 c = none) (n : H0 b = none) : ∀ c, c ∈ b :: S → H0 c = none := fun c m => by
  rcases List.mem_cons.mp m with z | z
  · rw [z]; exact n
  · exact h c z
theorem none_nil : ∀ c, c ∈ ([] : List Addr) → H0 c = none := fun _ m => absurd m List.not_mem_nil
end
/-! ### the dice -/
structure Dice (K : PySem.W.Frag) (H0 H : Hp) (d : Addr) : Prop where
  at_ : ∃ (a : Addr) (ns : List Int) (i m r : Int), H d = some (.lst [.ref a, .int i, .int m, .int r]) ∧ SqL K H0 a (ns.map V.int) ∧ ns.length ≤ 63 ∧ 0 ≤ i
  new : H0 d = none
  ext : Ext0 H0 H
theorem Dice.keep {K : PySem.W.Frag} {H0 H H1 : Hp} {d : Addr} {S : List Addr} (x : Dice K H0 H d) (k : Keep S H H1) (nd : d ∉ S) (n : ∀ b, b ∈ S → H0 b = none) : Dice K H0 H1 d := by
  obtain ⟨⟨a, ns, i, m, r, h1, h2⟩, h3, h4⟩ := x
  exact ⟨⟨a, ns, i, m, r, k.1 _ _ nd h1, h2⟩, h3, h4.keep k n⟩
theorem Dice.lst {K : PySem.W.Frag} {H0 H : Hp} {d : Addr} (x : Dice K H0 H d) : ∃ xs, H d = some (.lst xs) := by
  obtain ⟨⟨a, ns, i, m, r, h1, h2⟩, h3, h4⟩ := x
  exact ⟨_, h1⟩
def spNext (K : PySem.W.Frag) : Sp := fun vs H Q _ => ∃ (H0 : Hp) (d : Addr) (n : Int), vs = [.ref d, .int n] ∧ 0 < n ∧ n < 1073741824 ∧ Dice K H0 H d ∧
  ∀ r H', 0 ≤ r → r < n → Dice K H0 H' d → Keep [d] H H' → Q (.int r) H'
def spDice (K : PySem.W.Frag) : Sp := fun vs H Q _ => ∃ (a : Addr) (ns : List Int), vs = [.ref a] ∧ SqL K H a (ns.map V.int) ∧ ns.length ≤ 63 ∧ ∀ d H', H d = none → Dice K H H' d → Keep [] H H' → Q (.ref d) H'
theorem next_go {K : PySem.W.Frag} {H0 H : Hp} {d : Addr} {n : Int} {Q : VK} {E : XK} (x : Dice K H0 H d) (h0 : 0 < n) (h1 : n < 1073741824) (h : ∀ r H' xs, 0 ≤ r → r < n → Dice K H0 H' d → H' d = some (.lst xs) → Keep [d] H H' → Q (.int r) H') : spNext K [.ref d, .int n] H Q E :=
  ⟨H0, d, n, rfl, h0, h1, x, fun r H' a b c k => by
    obtain ⟨xs, e⟩ := c.lst
    exact h r H' xs a b c e k⟩
theorem pickP {K : PySem.W.Frag} {H : Hp} {p : Addr} {i : Int} {xs : List V} {Q : VK} (Pr : Int → Prop) (e : SqL K H p xs) (i0 : 0 ≤ i) (i1 : i < xs.length) (hp : ∀ x, x ∈ xs → ∃ v, x = .int v ∧ Pr v) (h : ∀ v, Pr v → Q (.int v) H) : rIx K (.ref p) (.int i) H Q := by
  have hl : i.toNat < xs.length := by omega
  obtain ⟨v, ev, pv⟩ := hp _ (List.getElem_mem hl)
  have e2 : i = ((i.toNat : Nat) : Int) := by omega
  refine w_ixL e (v := .int v) ?_ (h v pv)
  rw [e2]
  refine atI_nat ?_
  rw [List.getElem?_eq_getElem hl, ev]
/-! ### settings -/
structure SetOk (m w l a : Int) : Prop where
  m0 : 2 ≤ m
  m1 : m ≤ 64
  w0 : 0 ≤ w
  w1 : w ≤ 16
  l0 : 0 ≤ l
  l1 : l ≤ 8
  a0 : 1 ≤ a
  a1 : a ≤ 16
def spSetting (K : PySem.W.Frag) : Sp := fun vs H Q _ => ∃ (H0 : Hp) (d : Addr), vs = [.ref d] ∧ Dice K H0 H d ∧
  ∀ p m w l a H', SetOk m w l a → H p = none → H' p = some (.tup [.int m, .int w, .int l, .int a]) → Dice K H0 H' d → Keep [d] H H' → Q (.ref p) H'
/-! ### _law_like: the same data -/
def Alike (K : PySem.W.Frag) (H : Hp) : Nat → V → V → Prop
  | 0, _, _ => False
  | n + 1, x, y => (∃ b, x = .bl b ∧ y = .bl b) ∨ (∃ i, x = .int i ∧ y = .int i) ∨ (∃ s, x = .str s ∧ y = .str s) ∨ (x = .non ∧ y = .non) ∨
      (∃ a b xs ys, x = .ref a ∧ y = .ref b ∧ SqT K H a xs ∧ SqT K H b ys ∧ xs.length = ys.length ∧ xs.length ≤ 16777216 ∧ ∀ (k : Nat) u v, xs[k]? = some u → ys[k]? = some v → Alike K H n u v) ∨
      (∃ a b xs ys, x = .ref a ∧ y = .ref b ∧ SqL K H a xs ∧ SqL K H b ys ∧ xs.length = ys.length ∧ xs.length ≤ 16777216 ∧ ∀ (k : Nat) u v, xs[k]? = some u → ys[k]? = some v → Alike K H n u v)
def spLike (K : PySem.W.Frag) (n : Nat) : Sp := fun vs H Q _ => ∃ x y, vs = [x, y] ∧ Alike K H n x y ∧ Q (.bl true) H
theorem like_go {K : PySem.W.Frag} {H : Hp} {n : Nat} {x y : V} {Q : VK} {E : XK} (a : Alike K H n x y) (h : Q (.bl true) H) : spLike K n [x, y] H Q E := ⟨x, y, rfl, a, h⟩
theorem tyT {K : PySem.W.Frag} {H : Hp} {a : Addr} {xs : List V} (h : SqT K H a xs) : TyX K H (.ref a) (.type "tuple") := by
  rcases h with (h | ⟨o, h⟩) | ⟨o, its, n, h, c, _⟩
  · exact .base (.tup h)
  · exact .fTuple h
  · exact .kTuple h c
theorem tyLs {K : PySem.W.Frag} {H : Hp} {a : Addr} {xs : List V} (h : SqL K H a xs) : TyX K H (.ref a) (.type "list") := by
  rcases h with (h | ⟨o, h⟩) | ⟨o, its, n, h, c, _⟩
  · exact .base (.lst h)
  · exact .base (.frz h)
  · exact .kList h c
theorem w_isiB {K : PySem.W.Frag} {H : Hp} {x : V} {t u : String} {k : Bool} {Q : VK} (ht : TyX K H x (.type t)) (hk : kitB t u = some k) (h : Q (.bl k) H) : rIsi K [x, .ty u] H Q := w_isi (.ty u) ht (kit_ty hk) h
/-! ### any sequence that is tracked -/
def seqOf : HO → Option (List V)
  | .lst xs => some xs
  | .tup xs => some xs
  | .frz _ (.lst xs) => some xs
  | .frz _ (.tup xs) => some xs
  | _ => none
section
variable {K : PySem.W.Frag} {H : Hp} {Q : VK} {a : Addr} {xs : List V} {o : HO} {i : Int} {v x : V}
theorem seqOf_sq (e : H a = some o) (q : seqOf o = some xs) : SqL K H a xs ∨ SqT K H a xs := by
  cases o with
  | lst ys => cases q; exact Or.inl (SqL.of e)
  | tup ys => cases q; exact Or.inr (SqT.of e)
  | frz ob u =>
    cases u with
    | lst ys => cases q; exact Or.inl (Or.inl (Or.inr ⟨ob, e⟩))
    | tup ys => cases q; exact Or.inr (Or.inl (Or.inr ⟨ob, e⟩))
    | _ => cases q
  | _ => cases q
theorem w_ixO (e : H a = some o) (q : seqOf o = some xs) (r : atI xs i = some v) (h : Q v H) : rIx K (.ref a) (.int i) H Q := by
  rcases seqOf_sq (K := K) e q with s | s
  · exact w_ixL s r h
  · exact w_ixT s r h
theorem w_ixO2 (r : atI xs i = some v) (e : H a = some o) (q : seqOf o = some xs) (h : Q v H) : rIx K (.ref a) (.int i) H Q := w_ixO e q r h
theorem w_ixL2 (r : atI xs i = some v) (e : SqL K H a xs) (h : Q v H) : rIx K (.ref a) (.int i) H Q := w_ixL e r h
theorem w_ixT2 (r : atI xs i = some v) (e : SqT K H a xs) (h : Q v H) : rIx K (.ref a) (.int i) H Q := w_ixT e r h
theorem w_lenO (e : H a = some o) (q : seqOf o = some xs) (h : Q (.int xs.length) H) : rLenX K [.ref a] H Q := by
  rcases seqOf_sq (K := K) e q with s | s
  · exact w_lenL s h
  · exact w_lenT s h
theorem w_gtupO {n : Nat} {gs : TGs} {σ : L2.St} {R : L2.St → Hp → Prop} (e : H a = some (.tup xs)) (l : xs.length = n) (h : gs xs σ H R) : gTup K n gs (.ref a) σ H R := w_gtup (SqT.of e) l h
theorem w_lisO (e : H a = some o) (q : seqOf o = some xs) (h : ∀ p, H p = none → Q (.ref p) (upd H p (.lst xs))) : rLisX K [.ref a] H Q := by
  rcases seqOf_sq (K := K) e q with s | s
  · exact w_lisL s h
  · exact w_lisT s h
theorem w_inO (e : H a = some o) (q : seqOf o = some xs) (fx : flatV x = true) (fa : xs.all flatV = true) (h : Q (.bl (inV x xs)) H) : rInX K x (.ref a) H Q := by
  rcases seqOf_sq (K := K) e q with s | s
  · exact w_inL s fx fa h
  · exact w_inT s fx fa h
theorem w_ninO (e : H a = some o) (q : seqOf o = some xs) (fx : flatV x = true) (fa : xs.all flatV = true) (h : Q (.bl (!inV x xs)) H) : rNinX K x (.ref a) H Q := by
  rcases seqOf_sq (K := K) e q with s | s
  · exact w_ninL s fx fa h
  · exact w_ninT s fx fa h
theorem chkL {H1 : Hp} {ys : List V} (_ : SqL K H1 a ys) (g : SqL K H a xs) : SqL K H a xs := g
theorem chkT {H1 : Hp} {ys : List V} (_ : SqT K H1 a ys) (g : SqT K H a xs) : SqT K H a xs := g
end
theorem fresh_of (S : List Addr) {H H1 : Hp} {p : Addr} (n : H1 p = none) (k : Keep S H H1) : H p = none := k.2 p n
theorem w_iT {A B : Prop} (h : A) : if true = true then A else B := by rw [if_pos rfl]; exact h
theorem w_iF {A B : Prop} (h : B) : if false = true then A else B := by rw [if_neg Bool.false_ne_true]; exact h
theorem w_nT {A B : Prop} (h : B) : if (!true) = true then A else B := by rw [if_neg (by decide)]; exact h
theorem w_nF {A B : Prop} (h : A) : if (!false) = true then A else B := by rw [if_pos (by decide)]; exact h
def tyOf : HO → Option String
  | .lst _ => some "list"
  | .tup _ => some "tuple"
  | .dK _ => some "dict"
  | .frz _ (.lst _) => some "list"
  | .frz _ (.tup _) => some "tuple"
  | _ => none
theorem tyO {K : PySem.W.Frag} {H : Hp} {a : Addr} {o : HO} {t : String} (e : H a = some o) (q : tyOf o = some t) : TyX K H (.ref a) (.type t) := by
  cases o with
  | lst ys => cases q; exact .base (.lst e)
  | tup ys => cases q; exact .base (.tup e)
  | dK ys => cases q; exact .base (.dK e)
  | frz ob u =>
    cases u with
    | lst ys => cases q; exact .base (.frz e)
    | tup ys => cases q; exact .fTuple e
    | _ => cases q
  | _ => cases q
theorem pe_ty {X : Cx} {x : Str} {T : String} {pos : Pos} (hg : Gl X x) (hm : X.mg x = none) (hv : bootBuiltins x = some (.type T)) (hn : x ≠ "__name__" := by decide) (hd : (x == ("__debug__" : Str)) = false := by decide) : PE X (.Name x pos) (tC (.ty T)) := pe_bltn (v := .ty T) hg hm hv rfl hn hd
section
variable {H : Hp} {Q : VK} {a : Addr} {i : Int} {b : Bool} {s : Str}
theorem w_isNN (h : Q (.bl true) H) : rIsNon .non .non H Q := ⟨rfl, h⟩
theorem w_isNR (h : Q (.bl false) H) : rIsNon (.ref a) .non H Q := ⟨rfl, h⟩
theorem w_isNI (h : Q (.bl false) H) : rIsNon (.int i) .non H Q := ⟨rfl, h⟩
theorem w_isNB (h : Q (.bl false) H) : rIsNon (.bl b) .non H Q := ⟨rfl, h⟩
theorem w_isNS (h : Q (.bl false) H) : rIsNon (.str s) .non H Q := ⟨rfl, h⟩
theorem w_ntNN (h : Q (.bl false) H) : rNotNon .non .non H Q := ⟨rfl, h⟩
theorem w_ntNR (h : Q (.bl true) H) : rNotNon (.ref a) .non H Q := ⟨rfl, h⟩
theorem w_ntNI (h : Q (.bl true) H) : rNotNon (.int i) .non H Q := ⟨rfl, h⟩
/-- two bools that are told -/
theorem w_neTT {K : PySem.W.Frag} (h : Q (.bl false) H) : rNeX K (.bl b) (.bl b) H Q := w_ne rfl (by rw [decide_eq_true rfl]; exact h)
end
/-! ### stores into an instance -/
theorem lt_of {n m : Nat} (h : Nat.blt n m = true) : n < m := by simpa using h
theorem w_sfldP {K : PySem.W.Frag} {H : Hp} {a C dx : Addr} {f : Str} {y : V} {fs fs' : List (Str × V)} {R : Hp → Prop} (e : H a = some (.ins C dx fs)) (c : Cls K C) (nn : NoAttr K C f) (l : fs.length < 1000) (pf : putF f y fs = fs') (h : R (upd H a (.ins C dx fs'))) : kSFld K f y (.ref a) H R :=
  w_sfldK e c nn l (by rw [pf]; exact h)
theorem Keep.own {S : List Addr} {H H1 : Hp} {p : Addr} {o : HO} (k : Keep S H H1) (n : H p = none) : Keep S H (upd H1 p o) := ⟨fun b u m e => by
  rw [upd_ne (ne_of_none e n)]
  exact k.1 b u m e, fun b e => by
  by_cases q : b = p
  · rw [q, upd_same] at e; cases e
  · rw [upd_ne q] at e; exact k.2 b e⟩
theorem Keep.own' {S : List Addr} {H H1 : Hp} {p : Addr} {o : HO} (n : H p = none) (k : Keep S H H1) : Keep S H (upd H1 p o) := k.own n
/-! ### list comprehensions: out i is what is made behind i items -/
def PvOf (H : Hp) (D : Addr) (out : Nat → List V) (i : Nat) (H' : Hp) : Prop := Keep [] H H' ∧ H' D = some (.lst (out i))
def kIn (H : Hp) (D : Addr) (out : Nat → List V) (i : Nat) (y : V) (H4 : Hp) : Prop := ∃ acc, H4 D = some (.lst acc) ∧ acc.length < sizeLine ∧ PvOf H D out (i + 1) (upd H4 D (.lst (acc ++ [y])))
section
variable {K : PySem.W.Frag} {σ : L2.St} {H H4 : Hp} {Q : VK} {D a : Addr} {out : Nat → List V} {i : Nat} {x y : V} {xs : List V} {g : TG} {tt : TT} {te tl : TE} {tr : TA} {vs : List Nat}
theorem kIn_go (n : H D = none) (e : H4 D = some (.lst (out i))) (k : Keep [] H H4) (l : (out i).length < sizeLine) (o : out (i + 1) = out i ++ [y]) : kIn H D out i y H4 :=
  ⟨out i, e, l, k.own n, by rw [upd_same, o]⟩
theorem kOut_go (e : H4 D = some (.lst (out i))) (k : Keep [] H H4) (o : out (i + 1) = out i) : PvOf H D out (i + 1) H4 := ⟨k, by rw [o]; exact e⟩
theorem w_yes {QT : Bool → Hp → Prop} (h : QT true H) : tYes σ H QT := h
/-- a turn -/
abbrev LcTurn (H : Hp) (g : TG) (tt : TT) (te : TE) (vs : List Nat) (σ : L2.St) (D : Addr) (out : Nat → List V) (i : Nat) (x : V) (H' : Hp) : Prop :=
  g x (wipe σ vs) H' fun σ2 H2 => wipe σ2 vs = wipe σ vs ∧ tt σ2 H2 fun b H3 => if b = true then te σ2 H3 fun y H4 => kIn H D out i y H4 else PvOf H D out (i + 1) H3
def kLcL (K : PySem.W.Frag) (g : TG) (tt : TT) (te : TE) (vs : List Nat) (σ : L2.St) (x : V) (H1 : Hp) (Q : VK) : Prop := ∃ a, x = .ref a ∧ (∃ xs, SqL K H1 a xs) ∧ ∀ D, H1 D = none → ∃ W : Nat → Nat → Hp → Prop, (∃ m, W 0 m (upd H1 D (.lst []))) ∧ ∀ i m H, W i m H →
  ((Itl K a).stop i H ∧ Q (.ref D) H) ∨ ((Itl K a).go i H ∧ ∃ Nx : Hp → Prop, (∀ H', Nx H' → ∃ m', m' < m ∧ W (i + 1) m' H') ∧ ∀ x H', (Itl K a).yld i H x H' → g x (wipe σ vs) H' fun σ2 H2 => wipe σ2 vs = wipe σ vs ∧ tt σ2 H2 fun b H3 =>
    if b = true then te σ2 H3 fun y H4 => ∃ acc, H4 D = some (.lst acc) ∧ acc.length < sizeLine ∧ Nx (upd H4 D (.lst (acc ++ [y]))) else Nx H3)
theorem w_lcL (h : tl σ H fun x H1 => kLcL K g tt te vs σ x H1 Q) : tLc (iList K tl) g tt te vs σ H Q := h
theorem l_lcL (e : SqL K H a xs) (out : Nat → List V) (o0 : out 0 = [])
    (hs : ∀ D i x H', H D = none → xs[i]? = some x → Keep [] H H' → H' D = some (.lst (out i)) → LcTurn H g tt te vs σ D out i x H') (hd : ∀ D H', H D = none → Keep [] H H' → H' D = some (.lst (out xs.length)) → Q (.ref D) H') : kLcL K g tt te vs σ (.ref a) H Q :=
  ⟨a, rfl, ⟨xs, e⟩, fun D hD => lc_list (xs := xs) (PvOf H D out) ⟨Keep.refl.own hD, by rw [upd_same, o0]⟩ (fun _ _ _ q => q.1.seqL nin_nil e) (fun i x H' hx q => hs D i x H' hD hx q.1 q.2) fun H' q => hd D H' hD q.1 q.2⟩
def kLcT (K : PySem.W.Frag) (g : TG) (tt : TT) (te : TE) (vs : List Nat) (σ : L2.St) (x : V) (H1 : Hp) (Q : VK) : Prop := ∃ a, x = .ref a ∧ (∃ xs, SqT K H1 a xs) ∧ ∀ D, H1 D = none → ∃ W : Nat → Nat → Hp → Prop, (∃ m, W 0 m (upd H1 D (.lst []))) ∧ ∀ i m H, W i m H →
  ((Itt K a).stop i H ∧ Q (.ref D) H) ∨ ((Itt K a).go i H ∧ ∃ Nx : Hp → Prop, (∀ H', Nx H' → ∃ m', m' < m ∧ W (i + 1) m' H') ∧ ∀ x H', (Itt K a).yld i H x H' → g x (wipe σ vs) H' fun σ2 H2 => wipe σ2 vs = wipe σ vs ∧ tt σ2 H2 fun b H3 =>
    if b = true then te σ2 H3 fun y H4 => ∃ acc, H4 D = some (.lst acc) ∧ acc.length < sizeLine ∧ Nx (upd H4 D (.lst (acc ++ [y]))) else Nx H3)
theorem w_lcT (h : tl σ H fun x H1 => kLcT K g tt te vs σ x H1 Q) : tLc (iTup K tl) g tt te vs σ H Q := h
theorem l_lcT (e : SqT K H a xs) (out : Nat → List V) (o0 : out 0 = [])
    (hs : ∀ D i x H', H D = none → xs[i]? = some x → Keep [] H H' → H' D = some (.lst (out i)) → LcTurn H g tt te vs σ D out i x H') (hd : ∀ D H', H D = none → Keep [] H H' → H' D = some (.lst (out xs.length)) → Q (.ref D) H') : kLcT K g tt te vs σ (.ref a) H Q :=
  ⟨a, rfl, ⟨xs, e⟩, fun D hD => lc_tup (xs := xs) (PvOf H D out) ⟨Keep.refl.own hD, by rw [upd_same, o0]⟩ (fun _ _ _ q => q.1.seqT nin_nil e) (fun i x H' hx q => hs D i x H' hD hx q.1 q.2) fun H' q => hd D H' hD q.1 q.2⟩
def LcR (lo : Int) (n : Nat) (g : TG) (tt : TT) (te : TE) (vs : List Nat) (σ : L2.St) (H1 : Hp) (Q : VK) : Prop := ∀ D, H1 D = none → ∃ W : Nat → Nat → Hp → Prop, (∃ m, W 0 m (upd H1 D (.lst []))) ∧ ∀ i m H, W i m H →
  ((Itr lo n).stop i H ∧ Q (.ref D) H) ∨ ((Itr lo n).go i H ∧ ∃ Nx : Hp → Prop, (∀ H', Nx H' → ∃ m', m' < m ∧ W (i + 1) m' H') ∧ ∀ x H', (Itr lo n).yld i H x H' → g x (wipe σ vs) H' fun σ2 H2 => wipe σ2 vs = wipe σ vs ∧ tt σ2 H2 fun b H3 =>
    if b = true then te σ2 H3 fun y H4 => ∃ acc, H4 D = some (.lst acc) ∧ acc.length < sizeLine ∧ Nx (upd H4 D (.lst (acc ++ [y]))) else Nx H3)
def kLcR1 (g : TG) (tt : TT) (te : TE) (vs : List Nat) (σ : L2.St) (ws : List V) (H1 : Hp) (Q : VK) : Prop := ∃ j : Int, ws = [.int j] ∧ -(2 ^ 62) ≤ j ∧ j < 2 ^ 62 ∧ LcR 0 j.toNat g tt te vs σ H1 Q
def kLcR2 (g : TG) (tt : TT) (te : TE) (vs : List Nat) (σ : L2.St) (ws : List V) (H1 : Hp) (Q : VK) : Prop := ∃ i j : Int, ws = [.int i, .int j] ∧ (-(2 ^ 62) ≤ i ∧ i < 2 ^ 62 ∧ -(2 ^ 62) ≤ j ∧ j < 2 ^ 62) ∧ LcR i (j - i).toNat g tt te vs σ H1 Q
theorem w_lcR1 (h : tr σ H fun ws H1 => kLcR1 g tt te vs σ ws H1 Q) : tLc (iRng1 tr) g tt te vs σ H Q := h
theorem w_lcR2 (h : tr σ H fun ws H1 => kLcR2 g tt te vs σ ws H1 Q) : tLc (iRng2 tr) g tt te vs σ H Q := h
theorem l_lcR {lo : Int} {n : Nat} (out : Nat → List V) (o0 : out 0 = [])
    (hs : ∀ D i H', H D = none → i < n → Keep [] H H' → H' D = some (.lst (out i)) → LcTurn H g tt te vs σ D out i (.int (lo + i)) H') (hd : ∀ D H', H D = none → Keep [] H H' → H' D = some (.lst (out n)) → Q (.ref D) H') : LcR lo n g tt te vs σ H Q :=
  fun D hD => lc_range (PvOf H D out) ⟨Keep.refl.own hD, by rw [upd_same, o0]⟩ (fun i H' hi q => hs D i H' hD hi q.1 q.2) fun H' q => hd D H' hD q.1 q.2
theorem l_lcR1 {j : Int} (b : -(2 ^ 62) ≤ j ∧ j < 2 ^ 62) (out : Nat → List V) (o0 : out 0 = [])
    (hs : ∀ D i H', H D = none → i < j.toNat → Keep [] H H' → H' D = some (.lst (out i)) → LcTurn H g tt te vs σ D out i (.int i) H') (hd : ∀ D H', H D = none → Keep [] H H' → H' D = some (.lst (out j.toNat)) → Q (.ref D) H') : kLcR1 g tt te vs σ [.int j] H Q :=
  ⟨j, rfl, b.1, b.2, l_lcR out o0 (fun D i H' a b c d => by rw [Int.zero_add]; exact hs D i H' a b c d) hd⟩
theorem l_lcR2 {k j : Int} (b : -(2 ^ 62) ≤ k ∧ k < 2 ^ 62 ∧ -(2 ^ 62) ≤ j ∧ j < 2 ^ 62) (out : Nat → List V) (o0 : out 0 = [])
    (hs : ∀ D i H', H D = none → i < (j - k).toNat → Keep [] H H' → H' D = some (.lst (out i)) → LcTurn H g tt te vs σ D out i (.int (k + i)) H') (hd : ∀ D H', H D = none → Keep [] H H' → H' D = some (.lst (out (j - k).toNat)) → Q (.ref D) H') : kLcR2 g tt te vs σ [.int k, .int j] H Q :=
  ⟨k, j, rfl, b, l_lcR out o0 hs hd⟩
end
/-! ### lists of ints -/
theorem flat_ints (ns : List Int) : (ns.map V.int).all flatV = true := by
  induction ns with
  | nil => rfl
  | cons n r ih => simpa [flatV] using ih
theorem inV_ints (i : Int) (ns : List Int) : inV (.int i) (ns.map V.int) = decide (i ∈ ns) := by
  induction ns with
  | nil => simp [inV]
  | cons n r ih =>
    unfold inV at ih ⊢
    rw [List.map_cons, List.any_cons, ih]
    by_cases e : n = i
    · subst e; simp [eqV]
    · have e2 : ¬ i = n := fun z => e z.symm
      simp [eqV, e, e2]
section
variable {K : PySem.W.Frag} {H : Hp} {Q : VK} {a : Addr} {i : Int} {ns : List Int}
theorem w_inI (e : H a = some (.lst (ns.map V.int))) (h : Q (.bl (decide (i ∈ ns))) H) : rInX K (.int i) (.ref a) H Q := w_inL (SqL.of e) rfl (flat_ints ns) (by rw [inV_ints]; exact h)
theorem w_ninI (e : H a = some (.lst (ns.map V.int))) (h : Q (.bl (!decide (i ∈ ns))) H) : rNinX K (.int i) (.ref a) H Q := w_ninL (SqL.of e) rfl (flat_ints ns) (by rw [inV_ints]; exact h)
theorem map_at {x : V} {k : Nat} (h : (ns.map V.int)[k]? = some x) : ∃ c, ns[k]? = some c ∧ x = .int c := by
  rw [List.getElem?_map] at h
  cases e : ns[k]? with
  | none => rw [e] at h; cases h
  | some c => rw [e] at h; exact ⟨c, rfl, (Option.some.inj h).symm⟩
end
/-! ### zip of two tuples -/
def kForZ (K : PySem.W.Frag) (g : TG) (t : TS) (D : Ends) (σ : L2.St) (vs : List V) (H1 : Hp) : Prop := ∃ a b xs ys, vs = [.ref a, .ref b] ∧ ((SqL K H1 a xs ∧ SqL K H1 b ys ∧ ∃ W : Nat → Nat → L2.St → Hp → Prop, (∃ m, W 0 m σ H1) ∧ ∀ i m σ H, W i m σ H →
      ((Itz K a b).stop i H ∧ D.nx σ H) ∨ ((Itz K a b).go i H ∧ ∃ N : L2.St → Hp → Prop, (∀ σ' H', N σ' H' → ∃ m', m' < m ∧ W (i + 1) m' σ' H') ∧ ∀ v H', (Itz K a b).yld i H v H' → g v σ H' fun σ2 H2 => t { D with nx := N, ct := N, bk := D.nx } σ2 H2)) ∨
    (SqT K H1 a xs ∧ SqT K H1 b ys ∧ ∃ W : Nat → Nat → L2.St → Hp → Prop, (∃ m, W 0 m σ H1) ∧ ∀ i m σ H, W i m σ H →
      ((RZ.ItzT K a b).stop i H ∧ D.nx σ H) ∨ ((RZ.ItzT K a b).go i H ∧ ∃ N : L2.St → Hp → Prop, (∀ σ' H', N σ' H' → ∃ m', m' < m ∧ W (i + 1) m' σ' H') ∧ ∀ v H', (RZ.ItzT K a b).yld i H v H' → g v σ H' fun σ2 H2 => t { D with nx := N, ct := N, bk := D.nx } σ2 H2)))
section
variable {K : PySem.W.Frag} {σ : L2.St} {H : Hp} {a b : Addr} {xs ys : List V} {g : TG} {t : TS} {D : Ends} {tr : TA}
theorem w_forZ (h : tr σ H fun vs H1 => kForZ K g t D σ vs H1) : tFor (RZ.iZipA K tr) g t D σ H := h
theorem l_forZT (ea : SqT K H a xs) (eb : SqT K H b ys) (hl : xs.length = ys.length) (Pv : Nat → L2.St → Hp → Prop) (h0 : Pv 0 σ H) (hq : ∀ i σ' H', Pv i σ' H' → SqT K H' a xs ∧ SqT K H' b ys)
    (hs : ∀ (i : Nat) (x y : V) (T : Addr) (σ' : L2.St) (H' : Hp), xs[i]? = some x → ys[i]? = some y → Pv i σ' H' → H' T = none → g (.ref T) σ' (upd H' T (.tup [x, y])) fun σ2 H2 => t { D with nx := Pv (i + 1), ct := Pv (i + 1), bk := D.nx } σ2 H2)
    (hd : ∀ σ' H', Pv xs.length σ' H' → D.nx σ' H') : kForZ K g t D σ [.ref a, .ref b] H := ⟨a, b, xs, ys, rfl, Or.inr ⟨ea, eb, RZ.for_zipT hl Pv h0 hq hs hd⟩⟩
end
section
variable {α β : Type} {l : List α} {i : Nat} {c : α} {p : α → Bool} {f : α → β}
theorem take_at (h : l[i]? = some c) : l.take (i + 1) = l.take i ++ [c] := by rw [List.take_succ, h]; rfl
theorem filt_yes (h : l[i]? = some c) (q : p c = true) : ((l.take (i + 1)).filter p).map f = ((l.take i).filter p).map f ++ [f c] := by rw [take_at h, List.filter_append, List.map_append, List.filter_cons, if_pos q]; rfl
theorem filt_no (h : l[i]? = some c) (q : ¬ p c = true) : ((l.take (i + 1)).filter p).map f = ((l.take i).filter p).map f := by
  rw [take_at h, List.filter_append, List.map_append, List.filter_cons, if_neg q]
  simp
theorem filt_len : (((l.take i).filter p).map f).length ≤ l.length := by
  rw [List.length_map]
  exact Nat.le_trans (List.length_filter_le _ _) (by rw [List.length_take]; exact Nat.min_le_right _ _)
theorem map_succ (h : l[i]? = some c) : (l.take (i + 1)).map f = (l.take i).map f ++ [f c] := by rw [take_at h, List.map_append]; rfl
theorem range_succ {g : Nat → β} : (List.range (i + 1)).map g = (List.range i).map g ++ [g i] := by rw [List.range_succ, List.map_append]; rfl
theorem range_len {g : Nat → β} : ((List.range i).map g).length = i := by rw [List.length_map, List.length_range]
end
/-! ### the rules, the written part named -/
section
variable {X : Cx} {K : PySem.W.Frag} {a e o l value tg : Expr} {ta tv tl to : TE} {tr : TA} {f : Str} {pos pos' p tpos : Pos} {es elts : List Expr} {k kk n : Nat} {t : TGs}
theorem op_plusK (h : X.K = K) : OpR X (binaryOp .Add) (rPlus K) := h ▸ op_plus
theorem op_eqK (h : X.K = K) (hu : X.A.units + 64 < cLine) : OpR X (compareOp .Eq) (rEqX K) := h ▸ op_eqX hu
theorem op_neK (h : X.K = K) (hu : X.A.units + 64 < cLine) : OpR X (compareOp .NotEq) (rNeX K) := h ▸ op_neX hu
theorem op_inK (h : X.K = K) : OpR X (compareOp .In) (rInX K) := h ▸ op_inX
theorem op_ninK (h : X.K = K) : OpR X (compareOp .NotIn) (rNinX K) := h ▸ op_ninX
theorem cr_lenK (h : X.K = K) : CallR X (.builtin "len") (rLenX K) := h ▸ cr_lenX
theorem cr_maxK (h : X.K = K) (hc : X.calm = true) : CallR X (.builtin "max") (rMaxX K) := h ▸ cr_maxX hc
theorem cr_minK (h : X.K = K) (hc : X.calm = true) : CallR X (.builtin "min") (rMinX K) := h ▸ cr_minX hc
theorem cr_tupK (h : X.K = K) : CallR X (.type "tuple") (rTupX K) := h ▸ cr_tupX
theorem cr_lisK (h : X.K = K) : CallR X (.type "list") (rLisX K) := h ▸ cr_lisX
theorem cr_isiK (h : X.K = K) : CallR X (.builtin "isinstance") (rIsi K) := h ▸ call_isi
theorem ix_K (h : X.K = K) : IxR X (rIx K) := h ▸ ix_seq
theorem pe_fldK (h : X.K = K) (he : PE X e ta) (hb : attributeBase e f X.env (eval e X.env) = eval e X.env) : PE X (.Attribute e f pos) (tFld K ta f) := h ▸ pe_fld he hb
theorem ps_fldK (h : X.K = K) (ha : PE X o ta) (hv : PE X value tv) (hs : swapsWith value (some (.Attribute o f pos')) pos.line X.env = pure false) : PS X (.Assign [.Attribute o f pos'] value pos) (sFld K ta tv f) := h ▸ ps_fld ha hv hs
theorem pt_truK (h : X.K = K) (ha : PE X a ta) (he : ∀ whole, isTrue a X.env whole = (do let v ← whole; standAt a.pos; holding [v] (truthy v)) := by intro _; rfl) : PT X a (tTru K ta) := h ▸ pt_tru ha he
theorem pi_listK (h : X.K = K) (hl : PE X l tl) : PI X tg l (iList K tl) := h ▸ pi_list hl
theorem pi_tupK (h : X.K = K) (hl : PE X l tl) : PI X tg l (iTup K tl) := h ▸ pi_tup hl
theorem pi_zipK {e2 : Expr} (h : X.K = K) (hg : Gl X "zip") (hm : X.mg "zip" = none) (ha : PA X [e, e2] tr)
    (hs : starEach [e, e2] X.env = (false, eval e X.env) :: starEach [e2] X.env := by rfl) (hpl : (backTo pos (starEach [e2] X.env)).any (·.1) = false := by rfl) :
    PI X (.Tuple elts kk tpos) (.Call (.Name "zip" p) [e, e2] [] pos) (RZ.iZipA K tr) := h ▸ RZ.pi_zipA hg hm ha hs hpl
theorem pg_tupK (h : X.K = K) (hc : X.calm = true) (hg : PGs X es t) (hn : (assignEach es X.env).length = n := by rfl) (hst : (assignEach es X.env).findIdx? (·.1) = none := by rfl) : PG X (.Tuple es k pos) (gTup K n t) := h ▸ pg_tup hc hg hn hst
theorem pe_bm0K {T id : String} {name : Str} {apos cpos : Pos} {r : V → List V → Hp → VK → Prop} (h : X.K = K) (pa : PlainAttrs T) (slot : Slot T name id) (hty : typeOf (.builtin id) = pure (.type "method_descriptor")) (hm : MtR X id r) (ho : PE X o to)
    (hbase : attributeBase o name X.env (eval o X.env) = eval o X.env := by rfl) (hline : (apos.endLine == cpos.line) = true := by rfl) : PE X (.Call (.Attribute o name apos) [] [] cpos) (tBM0 K T r to) := h ▸ pe_bm0 pa slot hty hm ho hbase hline
theorem pe_bmK {T id : String} {name : Str} {apos cpos : Pos} {r : V → List V → Hp → VK → Prop} (h : X.K = K) (pa : PlainAttrs T) (slot : Slot T name id) (hty : typeOf (.builtin id) = pure (.type "method_descriptor")) (hm : MtR X id r) (ho : PE X o to) (ha : PA X (e :: es) tr)
    (hbase : attributeBase o name X.env (eval o X.env) = eval o X.env := by rfl)
    (hfew : ((backTo cpos (starEach (e :: es) X.env)).all (fun x => !x.1) && (backToKw cpos (keywordEach [] X.env)).all (fun x => x.1.isSome)
      && decide ((e :: es).length + ([] : List Keyword).length + (if ([] : List Keyword).isEmpty then 0 else 1) < 30)) = true := by rfl)
    (hline : (apos.endLine == cpos.line) = true := by rfl) (hs : starEach (e :: es) X.env = (false, eval e X.env) :: starEach es X.env := by rfl) (hplain : (backTo cpos (starEach es X.env)).any (·.1) = false := by rfl) :
    PE X (.Call (.Attribute o name apos) (e :: es) [] cpos) (tBM K T r to tr) := h ▸ pe_bm pa slot hty hm ho ha hbase hfew hline hs hplain
end
/-! ### while -/
def kTurn (W : Nat → L2.St → Hp → Prop) (tb : TS) (D : Ends) (m : Nat) (σ : L2.St) (H1 : Hp) : Prop := ∃ N : L2.St → Hp → Prop, (∀ σ' H', N σ' H' → ∃ m', m' < m ∧ W m' σ' H') ∧ tb { D with nx := N, ct := N, bk := D.nx } σ H1
theorem w_turn {W : Nat → L2.St → Hp → Prop} {tb : TS} {D : Ends} {m : Nat} {σ : L2.St} {H1 : Hp} (h : tb { D with nx := fun σ2 H2 => ∃ m', m' < m ∧ W m' σ2 H2, ct := fun σ2 H2 => ∃ m', m' < m ∧ W m' σ2 H2, bk := D.nx } σ H1) : kTurn W tb D m σ H1 := ⟨_, fun _ _ q => q, h⟩
theorem l_while {c : TT} {tb : TS} {D : Ends} {σ : L2.St} {H : Hp} (W : Nat → L2.St → Hp → Prop) (m0 : Nat) (h0 : W m0 σ H)
    (hs : ∀ m σ' H', W m σ' H' → c σ' H' fun b H1 => if b = true then kTurn W tb D m σ' H1 else D.nx σ' H1) : tWhile c tb D σ H := ⟨W, ⟨m0, h0⟩, hs⟩
/-! ### count of flat items -/
theorem countP_eqU {x : V} : ∀ {xs : List V} {us : List Value}, Vals xs us → xs.all flatV = true → us.countP (eqU x) = xs.countP fun y => eqV y x
  | _, _, .nil, _ => rfl
  | _, _, .cons r t, f => by
    rw [List.all_cons, Bool.and_eq_true] at f
    rw [List.countP_cons, List.countP_cons, countP_eqU t f.2, eqU_of r f.1]
def rCntX (K : PySem.W.Frag) : V → List V → Hp → VK → Prop := fun x xs H Q => ∃ (p : Addr) (ys : List V) (y : V), x = .ref p ∧ xs = [y] ∧ SqL K H p ys ∧ flatV y = true ∧ ys.all flatV = true ∧ Q (.int ((ys.countP fun z => eqV z y : Nat) : Int)) H
theorem mt_countX {X : Cx} : MtR X "list.count" (rCntX X.K) := by
  intro pn s₀ σ₀ H₀ x₀ xs₀ v₀ us₀ Q₀ I₀ rx rxs hq
  obtain ⟨p, ys, y, rfl, rfl, hs, fy, fa, q⟩ := hq
  cases rx
  obtain ⟨u, rfl, ru⟩ := rxs.one
  obtain ⟨its, rv, ⟨⟨cls, dd, data, sl⟩, n, ho, hc, hdn, hd⟩, hlen⟩ := I₀.list hs
  simp only at hc hd
  subst hc hd
  refine call_meets PySem.F.slot_list_count ⟨_, ho, rfl⟩ PySem.F.entry_list_count (PySem.F.args_list_count_2 _ _)
    (SeqAt.list_countAt p its.toArray n dd sl u (eqU y)) ⟨ho, fun z hz => mem_eqAt ru fy rv fa z (by simpa using hz), ?_⟩
  have ec : its.toArray.toList.countP (eqU y) = ys.countP fun z => eqV z y := countP_eqU rv fa
  refine ⟨.int ((ys.countP fun z => eqV z y : Nat) : Int), H₀, I₀.tok _, ⟨s₀.toks, ?_⟩, q⟩
  show Value.int ((its.toArray.toList.countP (eqU y) : Nat) : Int) s₀.toks = Value.int ((ys.countP fun z => eqV z y : Nat) : Int) s₀.toks
  rw [ec]
theorem mt_countK {X : Cx} {K : PySem.W.Frag} (h : X.K = K) : MtR X "list.count" (rCntX K) := h ▸ mt_countX
theorem mt_indexK {X : Cx} {K : PySem.W.Frag} (h : X.K = K) : MtR X "list.index" (rIndex K) := h ▸ mt_index
/-! ### an exception that is caught -/
theorem pe_never {X : Cx} {e : Expr} : PE X e (fun _ _ _ => False) := ⟨fun _ _ _ _ _ _ h => False.elim h⟩
def rIsE2 (K : PySem.W.Frag) (cls : Value) (d : Option Addr) (a : Addr) : List V → Hp → VK → Prop := fun xs H Q => ∃ D, cls = .ref D ∧ d = none ∧ ExcC K D ∧ rIsE K D a xs H Q
theorem call_isE2 {X : Cx} {K : PySem.W.Frag} {a : Addr} {cls : Value} {d : Option Addr} {oe : Obj} {pn : List (Addr × Obj)} (h : X.K = K) (hz : Zc cls d oe) (hf : ∃ vs, oe.data = .fields vs) : CallR (X.suite a ((a, oe) :: pn)) (.builtin "isinstance") (rIsE2 K cls d a) := by
  subst h
  intro pins s σ H xs us Q I r q
  obtain ⟨D, rfl, rfl, C, q⟩ := q
  exact call_isE C hz hf pins s σ H xs us Q I r q
theorem takesLen {X : Cx} {W : WX} (tk : Takes X W) : Takes X (fun cls d σ H => σ.length = X.N.length → W cls d σ H) := fun u s' x => by
  obtain ⟨a, B, sI, pins, σ, H, cls, d, e1, I, r1, r2, r3, r4, r5, r6, q⟩ := x
  exact tk u s' ⟨a, B, sI, pins, σ, H, cls, d, e1, I, r1, r2, r3, r4, r5, r6, q I.len⟩
/-! ### displays of dicts -/
theorem w_pairs0 {σ : L2.St} {H : Hp} {R : List (V × V) → Hp → Prop} (h : R [] H) : tPairs [] σ H R := h
theorem w_pairs {tk tv : TE} {r : List (TE × TE)} {σ : L2.St} {H : Hp} {R : List (V × V) → Hp → Prop} (h : tk σ H fun k H1 => tv σ H1 fun v H2 => tPairs r σ H2 fun ps H3 => R ((k, v) :: ps) H3) : tPairs ((tk, tv) :: r) σ H R := h
def kDisp (p : Addr) (ps : List (V × V)) (H2 : Hp) (Q : VK) : Prop := H2 p = some (.dK []) ∧ ∃ kvs : List (Key × V), ps = kvs.map (fun kv => (kV kv.1, kv.2)) ∧ kvs.length ≤ 15 ∧ Q (.ref p) (upd H2 p (.dK (mergeK [] kvs)))
theorem w_disp {trs : List (TE × TE)} {σ : L2.St} {H : Hp} {Q : VK} (h : ∀ p, H p = none → tPairs trs σ (upd H p (.dK [])) fun ps H2 => kDisp p ps H2 Q) : tDisp trs σ H Q := h
theorem l_disp {p : Addr} {H2 : Hp} {Q : VK} (kvs : List (Key × V)) (e : H2 p = some (.dK [])) (l : kvs.length ≤ 15) (m : mergeK [] kvs = kvs) (h : Q (.ref p) (upd H2 p (.dK kvs))) : kDisp p (kvs.map (fun kv => (kV kv.1, kv.2))) H2 Q :=
  ⟨e, kvs, rfl, l, by rw [m]; exact h⟩
theorem putK_new {kvs : List (Key × V)} {k : Key} {v : V} (h : k ∉ kvs.map (·.1)) : putK kvs k v = kvs ++ [(k, v)] := by
  unfold putK
  rw [if_neg]
  intro z
  rw [List.any_eq_true] at z
  obtain ⟨x, hx, e⟩ := z
  exact h (List.mem_map.mpr ⟨x, hx, of_decide_eq_true e⟩)
theorem merge_nd : ∀ (more kvs : List (Key × V)), ((kvs ++ more).map (·.1)).Nodup → mergeK kvs more = kvs ++ more
  | [], kvs, _ => by rw [List.append_nil]; rfl
  | (k, v) :: r, kvs, h => by
    have hk : k ∉ kvs.map (·.1) := fun m => by
      rw [List.map_append, List.map_cons, List.nodup_append] at h
      exact h.2.2 k m k List.mem_cons_self rfl
    show mergeK (putK kvs k v) r = _
    rw [putK_new hk, merge_nd r (kvs ++ [(k, v)]) (by rw [List.append_assoc]; exact h), List.append_assoc]
    rfl
theorem merge_ok (kvs : List (Key × V)) (h : (kvs.map (·.1)).Nodup) : mergeK [] kvs = kvs := merge_nd kvs [] h
theorem put_hd {κ : Type} [DecidableEq κ] {k : κ} {v x : V} {l : List (κ × V)} (h : k ∉ l.map (·.1)) : putK ((k, x) :: l) k v = (k, v) :: l := by
  unfold putK
  rw [if_pos (by rw [List.any_cons]; simp)]
  rw [List.map_cons, if_pos rfl]
  congr 1
  have e : ∀ y, y ∈ l → (if y.1 = k then (y.1, v) else y) = y := fun y hy => if_neg fun z => h (List.mem_map.mpr ⟨y, hy, z⟩)
  rw [List.map_congr_left e, List.map_id']
theorem put_tl {κ : Type} [DecidableEq κ] {k j : κ} {v x : V} {l : List (κ × V)} (h : ¬ j = k) : putK ((j, x) :: l) k v = (j, x) :: putK l k v := by
  unfold putK
  rw [List.any_cons, decide_eq_false h, Bool.false_or, List.map_cons, if_neg h]
  split <;> rfl
theorem w_dputP {H : Hp} {a : Addr} {v : V} {R : Hp → Prop} {kvs kvs' : List (Key × V)} {s : Str} (e : H a = some (.dK kvs)) (l : kvs.length < sizeLine) (p : putK kvs (Sum.inr s) v = kvs') (h : R (upd H a (.dK kvs'))) : kDPut v (.ref a) (.str s) H R := w_dputS e l (by rw [p]; exact h)
/-- == of scalars alone -/
theorem w_eq0S {s z : Str} {H : Hp} {Q : VK} (h : Q (.bl (decide (s = z))) H) : rEq (.str s) (.str z) H Q := ⟨rfl, by
  have e : decide (V.str s = V.str z) = decide (s = z) := by
    by_cases q : s = z
    · subst q; rw [decide_eq_true rfl, decide_eq_true rfl]
    · rw [decide_eq_false q, decide_eq_false (fun w => q (V.str.inj w))]
  rw [e]; exact h⟩
theorem w_ne0I {i j : Int} {H : Hp} {Q : VK} (h : Q (.bl (!decide (i = j))) H) : rNe (.int i) (.int j) H Q := ⟨rfl, by
  have e : decide (V.int i = V.int j) = decide (i = j) := by
    by_cases q : i = j
    · subst q; rw [decide_eq_true rfl, decide_eq_true rfl]
    · rw [decide_eq_false q, decide_eq_false (fun z => q (V.int.inj z))]
  rw [e]; exact h⟩
section
variable {κ : Type} {k j : κ} {x : V} {l : List (κ × V)}
theorem nk_nil : k ∉ ([] : List (κ × V)).map (·.1) := List.not_mem_nil
theorem nk_cons (h : ¬ k = j) (t : k ∉ l.map (·.1)) : k ∉ ((j, x) :: l).map (·.1) := fun m => by
  rw [List.map_cons] at m
  rcases List.mem_cons.mp m with z | z
  · exact h z
  · exact t z
theorem nd_nil : (([] : List (κ × V)).map (·.1)).Nodup := List.nodup_nil
theorem nd_cons (h : j ∉ l.map (·.1)) (t : (l.map (·.1)).Nodup) : (((j, x) :: l).map (·.1)).Nodup := by
  rw [List.map_cons]
  exact List.nodup_cons.mpr ⟨h, t⟩
end
theorem pe_cls {X : Cx} {x : Str} {C : Addr} {pos : Pos} (hg : Gl X x) (hm : X.mg x = some (.ref C)) (hd : (x == ("__debug__" : Str)) = false := by decide) : PE X (.Name x pos) (tC (.ref C)) := pe_glob (v := .ref C) hg hm rfl hd
section
variable {K : PySem.W.Frag} {H : Hp} {Q : VK} {a : Addr} {ys : List V} {y z : V} {cls : Value} {d : Option Addr}
theorem w_cnt {n : Nat} (e : H a = some (.lst ys)) (fy : flatV y = true) (fa : ys.all flatV = true) (hn : (ys.countP fun z => eqV z y) = n) (h : Q (.int (n : Nat)) H) : rCntX K (.ref a) [y] H Q := ⟨a, ys, y, rfl, rfl, SqL.of e, fy, fa, by rw [hn]; exact h⟩
theorem w_idx (j : Nat) (e : H a = some (.lst ys)) (fy : flatV y = true) (fa : ys.all flatV = true) (hz : ys[j]? = some z) (hy : eqV z y = true) (ha : ∀ (m : Nat) (z' : V), m < j → ys[m]? = some z' → eqV z' y = false) (h : Q (.int (j : Nat)) H) : rIndex K (.ref a) [y] H Q :=
  ⟨a, ys, y, j, z, rfl, rfl, SqL.of e, fy, fa, hz, hy, ha, h⟩
theorem w_isE {D C : Addr} {k : Bool} (hc : cls = .ref D) (hd : d = none) (x : ExcC K D) (hk : PySem.W.kitOne K (.ref D) (.ref C) = some k) (h : Q (.bl k) H) : rIsE2 K cls d a [.ref a, .ref C] H Q := ⟨D, hc, hd, x, .ref C, .ref C, k, rfl, fun _ r => r, hk, h⟩
theorem w_isET {D : Addr} {T : String} {k : Bool} (hc : cls = .ref D) (hd : d = none) (x : ExcC K D) (hk : PySem.W.kitOne K (.ref D) (.type T) = some k) (h : Q (.bl k) H) : rIsE2 K cls d a [.ref a, .ty T] H Q := ⟨D, hc, hd, x, .ty T, .type T, k, rfl, fun _ r => r, hk, h⟩
end
/-- what the text knows of an error class of its own (of six), without an __init__: which of the six it is -/
structure OneBad (K : PySem.W.Frag) (C0 C1 C2 C3 C4 C5 C6 D : Addr) (b1 b2 b3 b4 b5 b6 : Bool) : Prop where
  m : PySem.W.exmOne K (.ref D) (.ref C0) = some true
  x : ExcC K D
  k1 : PySem.W.kitOne K (.ref D) (.ref C1) = some b1
  k2 : PySem.W.kitOne K (.ref D) (.ref C2) = some b2
  k3 : PySem.W.kitOne K (.ref D) (.ref C3) = some b3
  k4 : PySem.W.kitOne K (.ref D) (.ref C4) = some b4
  k5 : PySem.W.kitOne K (.ref D) (.ref C5) = some b5
  k6 : PySem.W.kitOne K (.ref D) (.ref C6) = some b6
  kv : PySem.W.kitOne K (.ref D) (.type "ValueError") = some true
/-- told: what is returned, or the word of the refusal -/
def TTold2 (tab : Value → Str → Prop) : (XK → Hp → VK → Prop) → Hp → VK → Prop := fun tl H Q =>
  tl (fun cls d H' => d = none ∧ ∃ wd, tab cls wd ∧ ∀ p H2, H' p = none → Keep [] H' H2 → H2 p = some (.tup [.str wd]) → Q (.ref p) H2) H Q
theorem w_idxI {K : PySem.W.Frag} {H : Hp} {Q : VK} {a : Addr} {ys : List V} {y z : V} (j : Nat) (jj : Int) (ej : ((j : Nat) : Int) = jj) (e : H a = some (.lst ys)) (fy : flatV y = true) (fa : ys.all flatV = true) (hz : ys[j]? = some z) (hy : eqV z y = true)
    (ha : ∀ (m : Nat) (z' : V), m < j → ys[m]? = some z' → eqV z' y = false) (h : Q (.int jj) H) : rIndex K (.ref a) [y] H Q := w_idx j e fy fa hz hy ha (by rw [ej]; exact h)
/-- no True ahead of the j-th -/
theorem bl_ahead (bs : List Bool) (j : Nat) (h : (bs.take j).all (fun b => !b) = true) : ∀ (m : Nat) (z' : V), m < j → (bs.map V.bl)[m]? = some z' → eqV z' (.bl true) = false := fun m z' hm hz => by
  rw [List.getElem?_map] at hz
  cases e : bs[m]? with
  | none => rw [e] at hz; cases hz
  | some b =>
    rw [e] at hz
    cases hz
    have hb : b ∈ bs.take j := by
      rw [List.mem_iff_getElem?]
      exact ⟨m, by rw [List.getElem?_take, if_pos hm, e]⟩
    have := List.all_eq_true.mp h b hb
    cases b with
    | true => cases this
    | false => rfl
/-- a tuple of the written part -/
theorem sqT_of {K : PySem.W.Frag} {a : Addr} {xs : List V} {o : Obj} {its : Array Value} {n : Nat} (l : K.lookup a = some o) (c : o.cls = .type "tuple") (d : o.data = .seq its n) (z : its.size ≤ sizeLine) (v : Vals xs its.toList) : ∀ H, SqT K H a xs := fun _ => Or.inr ⟨o, its, n, l, c, d, z, v⟩
theorem cx_none {P : Program} {w : World} {H : Hp} {s : Shared} {e : Value} {s' : Shared} (h : L2.CX P w [] H s (fun _ _ _ => False) e s') : False := by
  obtain ⟨_, _, _, _, _, _, _, _, _, _, _, _, z⟩ := h
  exact z
end Ak
namespace Ak
open PySem PySem.Spec PyProof.Rows L2
/-! ### a built-in class called with keywords -/
theorem callWith_typeK {M : Model} {A : Around} {Eb : Value → Shared → Prop} {s : Shared} {env : Env} {pos : Pos} {T : String} {e : Expr} {rest : List Expr} {kws : List Keyword} {Q : Value → Shared → Prop}
    (h : wpAny M A (spliced (backTo pos (starEach (e :: rest) env))) (fun us s1 => wpAny M A (evalAll ((backToKw pos (keywordEach kws env)).map (·.2)))
      (fun ws s2 => wpAny M A (call (.type T) us (((backToKw pos (keywordEach kws env)).filterMap (·.1)).zip ws)) Q Eb s2) Eb s1) Eb s)
    (he : backTo pos (starEach (e :: rest) env) = (false, eval e env) :: backTo pos (starEach rest env) := by rfl) (hp : (backTo pos (starEach (e :: rest) env)).any (·.1) = false := by rfl)
    (ha : (backToKw pos (keywordEach kws env)).all (·.1.isSome) = true := by rfl) (hn : (backToKw pos (keywordEach kws env)).any (·.1.isNone) = false := by rfl) :
    wpAny M A (callWith pos (.type T) [] (backTo pos (starEach (e :: rest) env)) (backToKw pos (keywordEach kws env))) Q Eb s := by
  unfold callWith
  rw [he] at h
  have h2 := evalArgs_kwB (f := .type T) (Q := fun a s1 => wpAny M A (call (.type T) a.pos a.kw) Q Eb s1) ha h
  rw [← he] at h2
  refine wpAny_bind (wpAny_holding (wpAny_mono h2 (fun a s1 h1 => wpAny_bind (wpAny_standAt ?_)) fun _ _ z => z))
  simp only [hp, hn, Bool.or_false]
  refine wpAny_bind (wpAny_pure ?_)
  exact wpAny_bind (wpAny_mono h1 (fun r s2 hr => wpAny_bind (wpAny_holding (wpAny_point (wpAny_pure hr)))) fun _ _ z => z)
/-! ### enumerate(a tuple, start=c) -/
def IteT (K : PySem.W.Frag) (a : Addr) (c : Int) : It :=
  ⟨fun i H => ∃ (xs : List V) (x : V), SqT K H a xs ∧ xs[i]? = some x, fun i H v H' => ∃ T x, v = .ref T ∧ H T = none ∧ H' = upd H T (.tup [.int (c + (i : Int)), x]) ∧ ∀ xs, SqT K H a xs → xs[i]? = some x, fun i H => ∃ xs : List V, SqT K H a xs ∧ xs.length = i⟩
theorem turn_enumT {P : Program} {w : World} {K : PySem.W.Frag} {elts : List Expr} {kk : Nat} {tpos : Pos} (a e it : Addr) (c : Int) :
    Turn P w K (.Tuple elts kk tpos) (IteT K a c) [e, it] e (fun i h => (∃ old, IsEnum h e it (c + (i : Int)) old) ∧ h.IsTupleIter it a i ∧ e ≠ it) where
  mem := by simp
  obj := fun i h st b hb => by
    obtain ⟨⟨old, he⟩, ⟨o, ho, hc, hd⟩, _⟩ := st
    have e' : b = e ∨ b = it := by simpa using hb
    rcases e' with rfl | rfl
    · exact ⟨_, he, fun v q => nomatch q⟩
    · exact ⟨o, ho, fun v q => by rw [hd] at q; cases q⟩
  keep := fun i h h' st k => by
    obtain ⟨⟨old, he⟩, hi, hne⟩ := st
    exact ⟨⟨old, k e (by simp) _ he⟩, hi.at fun o q => k it (by simp) o q, hne⟩
  item := by
    intro X hP hw hK hc i pins s σ H E I hf st hg
    subst hP hw hK
    obtain ⟨⟨old, he⟩, hit, hne⟩ := st
    obtain ⟨xs, x, hq, hx⟩ := hg
    obtain ⟨its, rv, p, hz⟩ := I.tuple hq
    obtain ⟨u, hu, ru⟩ := rv.get hx
    have hel : e < s.heap.objs.size := Heap.lt_size he
    have hil : it < s.heap.objs.size := by obtain ⟨_, q, _⟩ := hit; exact Heap.lt_size q
    obtain ⟨ot, hot, hoc, n, hod⟩ := id p
    have hai : a ≠ it := fun z => by
      obtain ⟨o2, q2, q3, q4⟩ := hit
      rw [z, q2] at hot
      cases hot
      rw [q4] at hod
      cases hod
    have hea : e ≠ a := fun z => by
      rw [← z, show s.heap.get? e = _ from he] at hot
      cases hot
      cases hod
    have hi : i < its.toArray.size := by
      rw [List.size_toArray]
      exact (List.getElem?_eq_some_iff.mp hu).1
    refine wpAny_pyNext_enum_itemC (Draws.tuple (A := X.A.in1) (I.ok.hd hc) it a hai its.toArray) he ⟨hit, p⟩ hi hne (by simp [hne, hea]) fun u' h' tk hP ho hit' hT hsz hk => ?_
    obtain rfl : u' = u := by
      have hP' : its.toArray[i]? = some u' := hP
      rw [List.getElem?_toArray, hu] at hP'
      exact (Option.some.inj hP').symm
    refine ⟨_, rfl, wpAny_letOwnedTupleGo_enum (s := { s with heap := h', toks := tk + 1 }) ho fun h'' he' sb => ?_⟩
    have hT2 : h''.get? s.heap.objs.size = some { cls := .type "tuple", data := .seq #[.int (c + (i : Int)) tk, u'] } := (sb.2 _ (Nat.ne_of_gt hel)).trans hT
    have made : ObjOk X.prog X.w (upd H s.heap.objs.size (.tup [.int (c + (i : Int)), x])) h'' s.heap.objs.size (.tup [.int (c + (i : Int)), x]) :=
      ⟨by show 2 ≤ sizeLine; decide, [.int (c + (i : Int)) tk, u'], .cons ⟨_, rfl⟩ (.cons ru .nil), ⟨_, hT2, rfl, _, rfl⟩⟩
    have I1 : Inv X pins σ (upd H s.heap.objs.size (.tup [.int (c + (i : Int)), x])) { s with heap := h'', toks := tk + 1 } :=
      I.turnedNew (ch := [e, it]) (fun b ob hb q => (sb.2 b (fun z => hb (by simp [z]))).trans (hk b ob (fun z => hb (by simp [z])) (fun z => hb (by simp [z])) q)) hf (Nat.le_refl _) made
    refine ⟨.ref s.heap.objs.size, _, I1, rfl, ⟨_, x, rfl, I.hok.fresh (Nat.le_refl _), rfl, fun ys hy => by rw [I.tuple_inj hy hq]; exact hx⟩, ⟨⟨u', ?_⟩, hit'.1.at fun o q => (sb.2 it (Ne.symm hne)).trans q, hne⟩, fun b hb => ?_⟩
    · have e1 : c + ((i + 1 : Nat) : Int) = c + (i : Int) + 1 := by omega
      rw [e1]
      exact he'
    · have hlt : b < s.heap.objs.size := by
        have e' : b = e ∨ b = it := by simpa using hb
        rcases e' with rfl | rfl
        · exact hel
        · exact hil
      rw [upd_ne (Nat.ne_of_lt hlt)]
      exact (hf b hb).1
  done := by
    intro X hP hw hK hc i pins s σ H E I hf st hg
    subst hP hw hK
    obtain ⟨⟨old, he⟩, hit, hne⟩ := st
    obtain ⟨xs, hq, hx⟩ := hg
    obtain ⟨its, rv, p, hz⟩ := I.tuple hq
    obtain ⟨f0, f1, f2, f3, f4, f5⟩ := hf it (by simp)
    obtain ⟨ot, hot, hoc, n, hod⟩ := id p
    have hai : a ≠ it := fun z => by
      obtain ⟨o2, q2, q3, q4⟩ := hit
      rw [z, q2] at hot
      cases hot
      rw [q4] at hod
      cases hod
    have hi : i = its.toArray.size := by
      rw [List.size_toArray, ← rv.length]
      exact hx.symm
    rw [hi] at hit
    exact wpAny_pyNext_enum_endD (Draws.tuple (A := X.A.in1) (I.ok.hd hc) it a hai its.toArray) he ⟨hit, p⟩ fun h' eb => ⟨rfl, I.turned (t' := s.toks) (fun b o hb q => eb b o hb q) f0 f1 f3 f4 f5⟩
  self := fun A i s Q E st h => by
    obtain ⟨⟨_, he⟩, _⟩ := st
    exact wpAny_pyIter_enum he h
def iEnumTS (K : PySem.W.Frag) (ta tk : TA) : TI := fun σ H R => ta σ H fun vs H1 => tk σ H1 fun ks H2 => ∃ a xs c, vs = [.ref a] ∧ ks = [.int c] ∧ -(2 ^ 63) ≤ c ∧ c < 2 ^ 63 ∧ SqT K H2 a xs ∧ R (IteT K a c) H2
theorem pi_enumTS {X : Cx} {K : PySem.W.Frag} {e ke : Expr} {ta tk : TA} {p pos tpos kp : Pos} {elts : List Expr} {kk : Nat} (hX : X.K = K) (hg : Gl X "enumerate") (hm : X.mg "enumerate" = none) (ha : PA X [e] ta) (hk : PK X [⟨some "start", ke, kp⟩] tk)
    (he : backTo pos (starEach [e] X.env) = (false, eval e X.env) :: backTo pos (starEach [] X.env) := by rfl) (hs : (backTo pos (starEach [e] X.env)).any (·.1) = false := by rfl) :
    PI X (.Tuple elts kk tpos) (.Call (.Name "enumerate" p) [e] [⟨some "start", ke, kp⟩] pos) (iEnumTS K ta tk) := by
  subst hX
  refine ⟨fun pins s σ H R I h => ?_⟩
  refine wpAny_Call_Name_kw (ld_blt I hg hm PyProof.Rows.boot_enumerate (callWith_typeK (thn (ha.run pos pins s σ H _ I h) fun us s1 ⟨vs, H1, I1, r1, q1⟩ => thn (hk.run pos pins s1 σ H1 _ I1 q1) fun ws s2 ⟨ks, H2, I2, r2, q2⟩ => ?_) he hs))
  obtain ⟨a, xs, c, rfl, rfl, c0, c1, hq, q⟩ := q2
  obtain rfl := Vals.ref1 r1
  obtain ⟨w1, rfl, t, rfl⟩ := vals1 r2
  obtain ⟨its, rv, p', hz⟩ := I2.tuple hq
  show wpAny _ _ (call (.type "enumerate") [.ref a] [(Str.ofString "start", .int c t)]) _ _ s2
  refine enum_begins_start (begins_tuple a its.toArray) p' c0 c1 fun h' hen hit hsz hkp => wpAny_pyIter_enum hen ?_
  have I3 : Inv X pins σ H2 { s2 with heap := h' } := I2.kept (t' := s2.toks) hkp
  refine ⟨s2.heap.objs.size + 1, [s2.heap.objs.size + 1, s2.heap.objs.size], _, _, H2, rfl, I3, turn_enumT a (s2.heap.objs.size + 1) s2.heap.objs.size c, ⟨⟨.none, by rw [show c + ((0 : Nat) : Int) = c by omega]; exact hen⟩, ⟨_, hit, rfl, rfl⟩, Nat.succ_ne_self _⟩, fun b hb => ?_, q⟩
  have e' : b = s2.heap.objs.size + 1 ∨ b = s2.heap.objs.size := by simpa using hb
  have hle : s2.heap.objs.size ≤ b := by
    rcases e' with rfl | rfl
    · exact Nat.le_add_right _ _
    · exact Nat.le_refl _
  exact I2.fpOk hle (I2.hok.fresh hle)
end Ak
namespace Ak
open PySem PySem.Spec PyProof.Rows L2
/-! ### sorted ints -/
def srt (ns : List Int) : List Int := ns.mergeSort fun a b => decide (a ≤ b)
theorem srt_perm (ns : List Int) : (srt ns).Perm ns := List.mergeSort_perm _ _
theorem srt_le (ns : List Int) : (srt ns).Pairwise (· ≤ ·) := by
  have h := List.pairwise_mergeSort (le := fun (a b : Int) => decide (a ≤ b)) (fun a b c h1 h2 => by
    rw [decide_eq_true_eq] at h1 h2 ⊢
    omega) (fun a b => by
    rw [Bool.or_eq_true, decide_eq_true_eq, decide_eq_true_eq]
    omega) ns
  exact h.imp fun h1 => of_decide_eq_true h1
theorem srt_eq {ns ms : List Int} (p : ms.Perm ns) (s : ms.Pairwise (· ≤ ·)) : ms = srt ns :=
  List.Perm.eq_of_pairwise (le := fun (a b : Int) => a ≤ b) (fun a b _ _ h1 h2 => Int.le_antisymm h1 h2) s (srt_le ns) (p.trans (srt_perm ns).symm)
theorem srt_of {ns : List Int} (s : ns.Pairwise (· ≤ ·)) : srt ns = ns := (srt_eq (List.Perm.refl ns) s).symm
theorem srt_congr {ns ms : List Int} (p : ms.Perm ns) : srt ms = srt ns := srt_eq ((srt_perm ms).trans p) (srt_le ms)
theorem srt_mem {ns : List Int} {x : Int} : x ∈ srt ns ↔ x ∈ ns := (srt_perm ns).mem_iff
theorem srt_len {ns : List Int} : (srt ns).length = ns.length := (srt_perm ns).length_eq
theorem srt_filter {ns : List Int} (q : Int → Bool) : (srt ns).filter q = srt (ns.filter q) := srt_eq ((srt_perm ns).filter q) ((srt_le ns).filter q)
theorem srt_nodup {ns : List Int} (h : ns.Nodup) : (srt ns).Nodup := (srt_perm ns).nodup_iff.mpr h
/-- sorted: of a list of ints, of a dict's int keys, of any length -/
def rSortDI : List V → Hp → VK → Prop := fun xs H Q => ∃ (a : Addr) (kvs : List (Key × V)) (ks : List Int), xs = [.ref a] ∧ H a = some (.dK kvs) ∧ kvs.map (·.1) = ks.map Sum.inl ∧ ∀ (ys : List Int) (p : Addr), ys.Perm ks → ys.Pairwise (· ≤ ·) → H p = none → Q (.ref p) (upd H p (.lst (ys.map V.int)))
theorem cr_sortDI {X : Cx} (hcalm : X.calm = true) : CallR X (.builtin "sorted") rSortDI := by
  intro pins s σ H xs us Q I r q
  obtain ⟨a, kvs, ks, rfl, hd, hks, q⟩ := q
  obtain rfl := Vals.ref1 r
  obtain ⟨z, lo, vs, rel, dd⟩ := dk_rd I.hok (Or.inl hd)
  obtain ⟨ep, hat⟩ := dd.dictAt
  have hkeys : vs.map (·.1) = ks.map Sum.inl := rel.keys.symm.trans hks
  have hl : vs.length = ks.length := by
    have e := congrArg List.length hkeys
    rwa [List.length_map, List.length_map] at e
  have hz : vs.length ≤ sizeLine := by
    have e := congrArg List.length hks
    rw [List.length_map, List.length_map] at e
    omega
  refine Calls.call_function_entry PyProof.Rows.kind_sorted PyProof.Rows.plain_sorted PyProof.Rows.entry_sorted (PyProof.Rows.args_sorted1 _) ?_
  unfold Builtin.«sorted»
  refine wpAny_bind (m := checkCount "sorted" 1 1 _) (wpAny_pure ?_)
  refine wpAny_bind (PySem.W.kdu_collect (A := X.A.in1) (PySem.W.kdl_dict (knd := mixKind X.prog X.w) (kvs := vs) (ep := ep) lo) (I.ok.hd hcalm) hat hz fun h1 tk acc hk hacc => ?_)
  have hal : acc.toList.length = ks.length := by rw [Array.length_toList, hacc.1, hl]
  have hS : IntsAre acc.toList ks := ints_each hal fun j v e => by
    obtain ⟨k, x, e1, e2⟩ := hacc.2 j v (by rw [← Array.getElem?_toList]; exact e)
    have e3 : (vs.map (·.1))[j]? = some k := by rw [List.getElem?_map, e1]; rfl
    rw [hkeys, List.getElem?_map] at e3
    cases e4 : ks[j]? with
    | none => rw [e4] at e3; cases e3
    | some y =>
      rw [e4] at e3
      obtain rfl : Sum.inl y = k := Option.some.inj e3
      rcases keyIs_shape (show keyIs (Sum.inl y) v = true from e2) with ⟨i, t, ek, ev⟩ | ⟨z, t, ek, ev⟩
      · cases ek
        exact ⟨y, t, rfl, ev⟩
      · cases ek
  have I1 : Inv X pins σ H { s with heap := h1, toks := tk } := I.kept hk
  have hal2 : acc.toList.length ≤ sizeLine := by rw [hal, ← hl]; exact hz
  refine wpAny_bind (wpAny_newList ?_ hal2)
  have hoL : (h1.push (seqObj "list" acc.toList.toArray 0)).get? h1.objs.size = some (seqObj "list" acc.toList.toArray 0) := Heap.get?_push_size _ rfl
  show wpAny _ _ _ _ _ { s with heap := h1.push (seqObj "list" acc.toList.toArray 0), toks := tk }
  refine wpAny_bind (wpAny_holding (wpAny_call_entry PyProof.Rows.slot_list_sort ⟨_, hoL, rfl⟩ PyProof.Rows.entry_list_sort
    (SrtO.list_sort_ord (s := { s with heap := h1.push (seqObj "list" acc.toList.toArray 0), toks := tk }) SrtO.swo_int hoL hal2 (fun h2 => SrtO.ints_sortable hS h2) fun out g1 g2 => ⟨_, rfl, ?_⟩) (PyProof.Rows.args_list_sort _)))
  obtain ⟨k1, k2, k3⟩ := SrtO.ints_out hS g1 g2
  obtain ⟨e', he'⟩ := PyProof.Rows.sortedHeap_at (vs := acc.toList) (out := out.toArray) hoL
  have hlen : ((out.map SrtO.iv).map V.int).length ≤ sizeLine := by
    rw [List.length_map, k2.length_eq, ← hl]
    exact hz
  refine wpAny_pure ⟨_, rfl, .ref h1.objs.size, upd H h1.objs.size (.lst ((out.map SrtO.iv).map V.int)), I1.laid (t' := tk) (fun b u e => ?_) (Nat.le_refl _)
    (show ObjOk X.prog X.w _ _ _ (.lst ((out.map SrtO.iv).map V.int)) from ⟨hlen, out, e', vals_of_ints k1, he'⟩), rfl, q _ _ k2 k3 (I1.hok.fresh (Nat.le_refl _))⟩
  have hb : b < h1.objs.size := Heap.lt_size e
  rw [PyProof.Rows.sortedHeap_old (Nat.ne_of_lt hb) (by rw [size_push']; exact Nat.lt_succ_of_lt hb)]
  exact Heap.get?_push_of_some _ e
def rSortX (K : PySem.W.Frag) : List V → Hp → VK → Prop := fun xs H Q => rSortedI K xs H Q ∨ rSortDI xs H Q
theorem cr_sortK {X : Cx} {K : PySem.W.Frag} (h : X.K = K) (hc : X.calm = true) : CallR X (.builtin "sorted") (rSortX K) := by
  subst h
  exact CallR.or cr_sortedI (cr_sortDI hc)
/-! ### dicts whose keys are ints, each True -/
def sureD (ks : List Int) : List (Key × V) := ks.map fun k => (Sum.inl k, V.bl true)
section
variable {K : PySem.W.Frag} {H : Hp} {Q : VK} {a : Addr} {ns ks : List Int} {k : Int} {R : Hp → Prop}
theorem w_sortL (e : SqL K H a (ns.map V.int)) (h : ∀ p, H p = none → Q (.ref p) (upd H p (.lst ((srt ns).map V.int)))) : rSortX K [.ref a] H Q := Or.inl ⟨a, ns, rfl, e, fun ys p hp hs n => by rw [srt_eq hp hs]; exact h p n⟩
theorem w_sortO (e : H a = some (.lst (ns.map V.int))) (h : ∀ p, H p = none → Q (.ref p) (upd H p (.lst ((srt ns).map V.int)))) : rSortX K [.ref a] H Q := w_sortL (SqL.of e) h
theorem sureD_keys : (sureD ks).map (·.1) = ks.map Sum.inl := by unfold sureD; rw [List.map_map]; rfl
theorem w_sortD (e : H a = some (.dK (sureD ks))) (h : ∀ p, H p = none → Q (.ref p) (upd H p (.lst ((srt ks).map V.int)))) : rSortX K [.ref a] H Q := Or.inr ⟨a, _, ks, rfl, e, sureD_keys, fun ys p hp hs n => by rw [srt_eq hp hs]; exact h p n⟩
theorem val_sure : (valV (sureD ks) (Sum.inl k)).isSome = decide (k ∈ ks) := by
  unfold sureD
  induction ks with
  | nil => rfl
  | cons j r ih =>
    rw [List.map_cons]
    by_cases e : j = k
    · subst e
      rw [val_hd, decide_eq_true List.mem_cons_self]
      rfl
    · rw [val_tl (fun z => e (Sum.inl.inj z)), ih]
      by_cases m : k ∈ r
      · rw [decide_eq_true m, decide_eq_true (List.mem_cons_of_mem _ m)]
      · rw [decide_eq_false m, decide_eq_false (fun z => (List.mem_cons.mp z).elim (fun z => e z.symm) m)]
theorem sure_put (n : k ∉ ks) : putK (sureD ks) (Sum.inl k) (.bl true) = sureD (ks ++ [k]) := by
  rw [putK_new]
  · unfold sureD
    rw [List.map_append]
    rfl
  · rw [sureD_keys]
    intro m
    obtain ⟨j, hj, e⟩ := List.mem_map.mp m
    exact n (Sum.inl.inj e ▸ hj)
def kDNot (y x : V) (H : Hp) (Q : VK) : Prop := ∃ a o, x = .ref a ∧ DGet H a y o ∧ Q (.bl (!o.isSome)) H
theorem w_dnot {ty td : TE} {σ : L2.St} (h : ty σ H fun y H1 => td σ H1 fun x H2 => kDNot y x H2 Q) : tDNotIn ty td σ H Q := h
theorem w_dnotS (e : H a = some (.dK (sureD ks))) (h : Q (.bl (!decide (k ∈ ks))) H) : kDNot (.int k) (.ref a) H Q := ⟨a, _, rfl, DGet.k (k := Sum.inl k) e, by rw [val_sure]; exact h⟩
theorem sureD_len : (sureD ks).length = ks.length := by unfold sureD; rw [List.length_map]
theorem w_dputN (e : H a = some (.dK (sureD ks))) (n : k ∉ ks) (l : ks.length < sizeLine) (h : R (upd H a (.dK (sureD (ks ++ [k]))))) : kDPut (.bl true) (.ref a) (.int k) H R := w_dputI e (by rw [sureD_len]; exact l) (by rw [sure_put n]; exact h)
end
/-! ### o.f += e -/
section
variable {K : PySem.W.Frag} {σ : L2.St} {H : Hp} {D : Ends} {ta tv : TE} {rd : V → V → Hp → VK → Prop} {f : Str} {x v : V} {a C dx : Addr} {fs : List (Str × V)} {i j : Int} {Q : VK}
def kFA (K : PySem.W.Frag) (f : Str) (tv : TE) (rd : V → V → Hp → VK → Prop) (D : Ends) (σ : L2.St) (x : V) (H1 : Hp) : Prop := ∃ a C dx fs v, x = .ref a ∧ H1 a = some (.ins C dx fs) ∧ Cls K C ∧ NoAttr K C f ∧ fs.lookup f = some v ∧
  tv σ H1 fun y H2 => rd v y H2 fun z H3 => ∃ dx' fs', H3 a = some (.ins C dx' fs') ∧ fs'.length < 1000 ∧ D.nx σ (upd H3 a (.ins C dx' (putF f z fs')))
def kFS (f : Str) (a C : Addr) (D : Ends) (σ : L2.St) (z : V) (H3 : Hp) : Prop := ∃ dx' fs', H3 a = some (.ins C dx' fs') ∧ fs'.length < 1000 ∧ D.nx σ (upd H3 a (.ins C dx' (putF f z fs')))
theorem w_fldaug (h : ta σ H fun x H1 => kFA K f tv rd D σ x H1) : sFldAug K ta tv rd f D σ H := h
theorem w_fa (e : H a = some (.ins C dx fs)) (c : Cls K C) (nn : NoAttr K C f) (l : fs.lookup f = some v) (h : tv σ H fun y H2 => rd v y H2 fun z H3 => kFS f a C D σ z H3) : kFA K f tv rd D σ (.ref a) H := ⟨a, C, dx, fs, v, rfl, e, c, nn, l, h⟩
theorem w_fs {z : V} {fs' : List (Str × V)} (e : H a = some (.ins C dx fs)) (l : fs.length < 1000) (p : putF f z fs = fs') (h : D.nx σ (upd H a (.ins C dx fs'))) : kFS f a C D σ z H := ⟨dx, fs, e, l, by rw [p]; exact h⟩
theorem w_addI (h : Q (.int (i + j)) H) : rAdd (.int i) (.int j) H Q := ⟨i, j, rfl, rfl, h⟩
theorem w_subI (h : Q (.int (i - j)) H) : rSub (.int i) (.int j) H Q := ⟨i, j, rfl, rfl, h⟩
end
/-! ### comprehensions over enumerate(a tuple, start=c) -/
section
variable {K : PySem.W.Frag} {σ : L2.St} {H : Hp} {Q : VK} {a : Addr} {xs : List V} {g : TG} {tt : TT} {te : TE} {ta tk : TA} {vs : List Nat} {c : Int}
def kLcE (K : PySem.W.Frag) (g : TG) (tt : TT) (te : TE) (vs : List Nat) (σ : L2.St) (ws ks : List V) (H1 : Hp) (Q : VK) : Prop := ∃ a xs c, ws = [.ref a] ∧ ks = [.int c] ∧ -(2 ^ 63) ≤ c ∧ c < 2 ^ 63 ∧ SqT K H1 a xs ∧ ∀ D, H1 D = none → ∃ W : Nat → Nat → Hp → Prop, (∃ m, W 0 m (upd H1 D (.lst []))) ∧ ∀ i m H, W i m H →
  ((IteT K a c).stop i H ∧ Q (.ref D) H) ∨ ((IteT K a c).go i H ∧ ∃ Nx : Hp → Prop, (∀ H', Nx H' → ∃ m', m' < m ∧ W (i + 1) m' H') ∧ ∀ x H', (IteT K a c).yld i H x H' → g x (wipe σ vs) H' fun σ2 H2 => wipe σ2 vs = wipe σ vs ∧ tt σ2 H2 fun b H3 =>
    if b = true then te σ2 H3 fun y H4 => ∃ acc, H4 D = some (.lst acc) ∧ acc.length < sizeLine ∧ Nx (upd H4 D (.lst (acc ++ [y]))) else Nx H3)
theorem w_lcE (h : ta σ H fun ws H1 => tk σ H1 fun ks H2 => kLcE K g tt te vs σ ws ks H2 Q) : tLc (iEnumTS K ta tk) g tt te vs σ H Q := h
theorem l_lcE (e : SqT K H a xs) (c0 : -(2 ^ 63) ≤ c) (c1 : c < 2 ^ 63) (out : Nat → List V) (o0 : out 0 = [])
    (hs : ∀ D i x T H', H D = none → xs[i]? = some x → Keep [] H H' → H' D = some (.lst (out i)) → H' T = none → LcTurn H g tt te vs σ D out i (.ref T) (upd H' T (.tup [.int (c + (i : Int)), x])))
    (hd : ∀ D H', H D = none → Keep [] H H' → H' D = some (.lst (out xs.length)) → Q (.ref D) H') : kLcE K g tt te vs σ [.ref a] [.int c] H Q := by
  refine ⟨a, xs, c, rfl, rfl, c0, c1, e, fun D hD => ⟨fun i m H' => PvOf H D out i H' ∧ m + i = xs.length, ⟨xs.length, ⟨Keep.refl.own hD, by rw [upd_same, o0]⟩, rfl⟩, fun i m H' ⟨pv, hm⟩ => ?_⟩⟩
  have eH : SqT K H' a xs := pv.1.seqT nin_nil e
  by_cases hi : i < xs.length
  · refine Or.inr ⟨⟨xs, xs[i], eH, List.getElem?_eq_getElem hi⟩, PvOf H D out (i + 1), fun H2 q => ⟨m - 1, by omega, q, by omega⟩, fun x H2 hy => ?_⟩
    obtain ⟨T, y, rfl, nT, rfl, hx⟩ := hy
    exact hs D i y T H' hD (hx xs eH) pv.1 pv.2 nT
  · obtain rfl : i = xs.length := by omega
    exact Or.inl ⟨⟨xs, eH, rfl⟩, hd D H' hD pv.1 pv.2⟩
end
/-! for over a tuple -/
section
variable {K : PySem.W.Frag} {σ : L2.St} {H : Hp} {a : Addr} {xs : List V} {g : TG} {t : TS} {D : Ends} {te : TE} {Q : VK} {i : Int}
def kForT (K : PySem.W.Frag) (g : TG) (t : TS) (D : Ends) (σ : L2.St) (x : V) (H1 : Hp) : Prop := ∃ a, x = .ref a ∧ (∃ xs, SqT K H1 a xs) ∧ ∃ W : Nat → Nat → L2.St → Hp → Prop, (∃ m, W 0 m σ H1) ∧ ∀ i m σ H, W i m σ H →
      ((Itt K a).stop i H ∧ D.nx σ H) ∨ ((Itt K a).go i H ∧ ∃ N : L2.St → Hp → Prop, (∀ σ' H', N σ' H' → ∃ m', m' < m ∧ W (i + 1) m' σ' H') ∧ ∀ x H', (Itt K a).yld i H x H' → g x σ H' fun σ2 H2 => t { D with nx := N, ct := N, bk := D.nx } σ2 H2)
theorem w_forTup (h : te σ H fun x H1 => kForT K g t D σ x H1) : tFor (iTup K te) g t D σ H := h
theorem l_forTup (e : SqT K H a xs) (Pv : Nat → L2.St → Hp → Prop) (h0 : Pv 0 σ H) (hl : ∀ i σ' H', i ≤ xs.length → Pv i σ' H' → SqT K H' a xs)
    (hs : ∀ i x σ' H', xs[i]? = some x → Pv i σ' H' → g x σ' H' fun σ2 H2 => t { D with nx := Pv (i + 1), ct := Pv (i + 1), bk := D.nx } σ2 H2) (hd : ∀ σ' H', Pv xs.length σ' H' → D.nx σ' H') : kForT K g t D σ (.ref a) H :=
  ⟨a, rfl, ⟨xs, e⟩, for_tup Pv h0 hl hs hd⟩
end
theorem w_dnewK {σ : L2.St} {H : Hp} {Q : VK} (h : ∀ p, H p = none → Q (.ref p) (upd H p (.dK []))) : tDNewK σ H Q := h
end Ak
namespace Ak
open PySem PySem.Spec PyProof.Rows L2
/-! ### slices -/
def rSlX (K : PySem.W.Frag) : V → Option Int → Option Int → Hp → VK → Prop := fun x lo hi H Q => rSlL K x lo hi H Q ∨ rSlS x lo hi H Q
theorem sl_K {X : Cx} {K : PySem.W.Frag} (h : X.K = K) : SlR X (rSlX K) := by
  subst h
  intro pins s σ H x v vl vu lo hi sl Q I rx h1 h2 h3 q
  rcases q with q | q
  · exact sl_list pins s σ H x v vl vu lo hi sl Q I rx h1 h2 h3 q
  · exact sl_str pins s σ H x v vl vu lo hi sl Q I rx h1 h2 h3 q
section
variable {K : PySem.W.Frag} {σ : L2.St} {H : Hp} {Q : VK} {te : TE} {tl th : TO} {r : V → Option Int → Option Int → Hp → VK → Prop} {R : Option Int → Hp → Prop} {i j : Int} {a : Addr} {xs ys : List V} {S : Hp → Prop}
theorem w_slice (h : te σ H fun x H1 => tl σ H1 fun l H2 => th σ H2 fun u H3 => r x l u H3 Q) : tSl r te tl th σ H Q := h
theorem w_noP (h : R none H) : tNoPart σ H R := h
theorem w_part (h : te σ H fun x H1 => ∃ i, x = .int i ∧ R (some i) H1) : tPart te σ H R := h
theorem w_isI {R : Int → Prop} (h : R i) : ∃ j, V.int i = .int j ∧ R j := ⟨i, rfl, h⟩
theorem cut_take (h : 0 ≤ i) : cutV xs none (some i) = xs.take i.toNat := by
  unfold cutV HT.sIx
  simp only [List.drop_zero, Nat.sub_zero]
  rw [if_neg (by omega)]
  by_cases q : i.toNat ≤ xs.length
  · rw [Nat.min_eq_left q]
  · rw [Nat.min_eq_right (by omega), List.take_length, List.take_of_length_le (by omega)]
theorem cut_drop (h : 0 ≤ i) : cutV xs (some i) none = xs.drop i.toNat := by
  unfold cutV HT.sIx
  simp only []
  rw [if_neg (by omega)]
  by_cases q : i.toNat ≤ xs.length
  · rw [Nat.min_eq_left q, List.take_of_length_le (by rw [List.length_drop]; omega)]
  · rw [Nat.min_eq_right (by omega), List.drop_length, List.drop_of_length_le (by omega), List.take_nil]
theorem w_slTake (e : SqL K H a xs) (i0 : 0 ≤ i) (h : ∀ p, H p = none → Q (.ref p) (upd H p (.lst (xs.take i.toNat)))) : rSlX K (.ref a) none (some i) H Q := Or.inl ⟨a, xs, rfl, e, by rw [cut_take i0]; exact h⟩
theorem w_slDrop (e : SqL K H a xs) (i0 : 0 ≤ i) (h : ∀ p, H p = none → Q (.ref p) (upd H p (.lst (xs.drop i.toNat)))) : rSlX K (.ref a) (some i) none H Q := Or.inl ⟨a, xs, rfl, e, by rw [cut_drop i0]; exact h⟩
/-! ### extend -/
theorem w_ext {b : Addr} (e : H a = some (.lst xs)) (e2 : H b = some (.lst ys)) (l : xs.length + ys.length ≤ sizeLine) (h : Q .non (upd H a (.lst (xs ++ ys)))) : rExtend (.ref a) [.ref b] H Q := ⟨a, b, xs, ys, rfl, rfl, e, e2, l, h⟩
end
/-! ### dicts of int keys, each with a value by a function -/
def dOf (ks : List Int) (f : Int → V) : List (Key × V) := ks.map fun k => (Sum.inl k, f k)
section
variable {K : PySem.W.Frag} {H : Hp} {Q : VK} {a : Addr} {ns ks : List Int} {k : Int} {R : Hp → Prop} {f g : Int → V} {v x : V} {σ : L2.St} {D : Ends} {td ty : TE}
theorem dOf_keys : (dOf ks f).map (·.1) = ks.map Sum.inl := by unfold dOf; rw [List.map_map]; rfl
theorem dOf_len : (dOf ks f).length = ks.length := by unfold dOf; rw [List.length_map]
theorem dOf_congr (h : ∀ k, k ∈ ks → f k = g k) : dOf ks f = dOf ks g := by
  unfold dOf
  exact List.map_congr_left fun k hk => by rw [h k hk]
theorem val_dOf (h : k ∈ ks) : valV (dOf ks f) (Sum.inl k) = some (f k) := by
  unfold dOf
  induction ks with
  | nil => exact absurd h List.not_mem_nil
  | cons j r ih =>
    rw [List.map_cons]
    by_cases e : j = k
    · subst e
      exact val_hd
    · rw [val_tl (fun z => e (Sum.inl.inj z))]
      exact ih ((List.mem_cons.mp h).elim (fun z => absurd z.symm e) id)
theorem val_dOfN (h : k ∉ ks) : valV (dOf ks f) (Sum.inl k) = none := by
  unfold dOf
  induction ks with
  | nil => rfl
  | cons j r ih =>
    rw [List.map_cons, val_tl (fun z => h (by rw [Sum.inl.inj z]; exact List.mem_cons_self))]
    exact ih fun m => h (List.mem_cons_of_mem _ m)
theorem val_dOfS : (valV (dOf ks f) (Sum.inl k)).isSome = decide (k ∈ ks) := by
  by_cases h : k ∈ ks
  · rw [val_dOf h, decide_eq_true h]; rfl
  · rw [val_dOfN h, decide_eq_false h]; rfl
theorem put_dOf (h : k ∈ ks) : putK (dOf ks f) (Sum.inl k) v = dOf ks fun q => if q = k then v else f q := by
  unfold putK
  have e : ((dOf ks f).any fun kv => decide (kv.1 = Sum.inl k)) = true := by
    rw [List.any_eq_true]
    exact ⟨(Sum.inl k, f k), List.mem_map.mpr ⟨k, h, rfl⟩, decide_eq_true rfl⟩
  rw [if_pos e]
  unfold dOf
  rw [List.map_map]
  refine List.map_congr_left fun q _ => ?_
  show (if (Sum.inl q : Key) = Sum.inl k then ((Sum.inl q : Key), v) else (Sum.inl q, f q)) = (Sum.inl q, if q = k then v else f q)
  by_cases z : q = k
  · subst z; rw [if_pos rfl, if_pos rfl]
  · rw [if_neg (fun y => z (Sum.inl.inj y)), if_neg z]
theorem put_dOfN (h : k ∉ ks) : putK (dOf ks f) (Sum.inl k) v = dOf ks f ++ [(Sum.inl k, v)] := putK_new (by
  rw [dOf_keys]
  intro m
  obtain ⟨j, hj, e⟩ := List.mem_map.mp m
  exact h (Sum.inl.inj e ▸ hj))
theorem dOf_app : dOf (ns ++ ks) f = dOf ns f ++ dOf ks f := by unfold dOf; rw [List.map_append]
theorem drop_dOf : dropK (dOf ks f) (Sum.inl k) = dOf (ks.filter fun q => !decide (q = k)) f := by
  unfold dropK dOf
  rw [List.filter_map]
  congr 1
  refine List.filter_congr fun q _ => ?_
  show decide ((Sum.inl q : Key) ≠ Sum.inl k) = !decide (q = k)
  by_cases z : q = k
  · subst z; simp
  · simp [z]
theorem w_dgetO (e : H a = some (.dK (dOf ks f))) (h : k ∈ ks) (q : Q (f k) H) : kDGet (.ref a) (.int k) H Q := w_dgetI e (val_dOf h) q
theorem w_dputO (e : H a = some (.dK (dOf ks f))) (l : ks.length < sizeLine) (h : k ∈ ks) (q : R (upd H a (.dK (dOf ks fun q => if q = k then v else f q)))) : kDPut v (.ref a) (.int k) H R := w_dputI e (by rw [dOf_len]; exact l) (by rw [put_dOf h]; exact q)
theorem w_dputON (e : H a = some (.dK (dOf ks f))) (l : ks.length < sizeLine) (h : k ∉ ks) (hf : ∀ q, q ∈ ks → g q = f q) (hv : g k = v) (q : R (upd H a (.dK (dOf (ks ++ [k]) g)))) : kDPut v (.ref a) (.int k) H R :=
  w_dputI e (by rw [dOf_len]; exact l) (by
    rw [put_dOfN h]
    rw [dOf_app, dOf_congr hf, show dOf [k] g = [(Sum.inl k, v)] by unfold dOf; rw [← hv]; rfl] at q
    exact q)
def kDIn (y x : V) (H : Hp) (Q : VK) : Prop := ∃ a o, x = .ref a ∧ DGet H a y o ∧ Q (.bl o.isSome) H
theorem w_din (h : ty σ H fun y H1 => td σ H1 fun x H2 => kDIn y x H2 Q) : tDIn ty td σ H Q := h
theorem w_dinO (e : H a = some (.dK (dOf ks f))) (h : Q (.bl (decide (k ∈ ks))) H) : kDIn (.int k) (.ref a) H Q := ⟨a, _, rfl, DGet.k (k := Sum.inl k) e, by rw [val_dOfS]; exact h⟩
def kDDel (x y : V) (H : Hp) (R : Hp → Prop) : Prop := ∃ a kvs k, x = .ref a ∧ H a = some (.dK kvs) ∧ y = kV k ∧ (valV kvs k).isSome = true ∧ R (upd H a (.dK (dropK kvs k)))
theorem w_ddel (h : td σ H fun x H1 => ty σ H1 fun y H2 => kDDel x y H2 (D.nx σ)) : sDDel td ty D σ H := h
theorem w_ddelO (e : H a = some (.dK (dOf ks f))) (h : k ∈ ks) (q : R (upd H a (.dK (dOf (ks.filter fun q => !decide (q = k)) f)))) : kDDel (.ref a) (.int k) H R :=
  ⟨a, _, Sum.inl k, rfl, e, rfl, by rw [val_dOfS, decide_eq_true h], by rw [drop_dOf]; exact q⟩
theorem w_sortO2 (e : H a = some (.dK (dOf ks f))) (h : ∀ p, H p = none → Q (.ref p) (upd H p (.lst ((srt ks).map V.int)))) : rSortX K [.ref a] H Q := Or.inr ⟨a, _, ks, rfl, e, dOf_keys, fun ys p hp hs n => by rw [srt_eq hp hs]; exact h p n⟩
end
/-! ### the ints 0 .. n - 1 -/
def upTo (n : Nat) : List Int := (List.range n).map fun k : Nat => ((k : Nat) : Int)
theorem upTo_mem {n : Nat} {x : Int} : x ∈ upTo n ↔ 0 ≤ x ∧ x < n := by
  unfold upTo
  rw [List.mem_map]
  constructor
  · rintro ⟨k, hk, rfl⟩
    have := List.mem_range.mp hk
    omega
  · rintro ⟨h0, h1⟩
    exact ⟨x.toNat, List.mem_range.mpr (by omega), by omega⟩
theorem upTo_succ (n : Nat) : upTo (n + 1) = upTo n ++ [(n : Int)] := by unfold upTo; rw [List.range_succ, List.map_append]; rfl
theorem upTo_len (n : Nat) : (upTo n).length = n := by unfold upTo; rw [List.length_map, List.length_range]
theorem upTo_lt (n : Nat) : (upTo n).Pairwise (· < ·) := by
  unfold upTo
  rw [List.pairwise_map]
  exact List.pairwise_lt_range.imp fun h => Int.ofNat_lt.mpr h
theorem upTo_srt {n : Nat} {p : Int → Bool} : srt ((upTo n).filter p) = (upTo n).filter p := srt_of (((upTo_lt n).filter p).imp fun h => by omega)
/-- a list of ints that are told, in a list or a tuple -/
theorem w_inIT {K : PySem.W.Frag} {H : Hp} {Q : VK} {a : Addr} {i : Int} {ns : List Int} (e : SqT K H a (ns.map V.int)) (h : Q (.bl (decide (i ∈ ns))) H) : rInX K (.int i) (.ref a) H Q := w_inT e rfl (flat_ints ns) (by rw [inV_ints]; exact h)
/-! ### lists of ints that are the same -/
theorem dp_ints {K : PySem.W.Frag} {H : Hp} : ∀ {ns : List Int}, DpAll K H (ns.map V.int) (ns.map PyData.int)
  | [] => .nil
  | n :: r => .cons (.int n) dp_ints
theorem eqvAll_ints : ∀ ns : List Int, PyData.eqvAll (ns.map PyData.int) (ns.map PyData.int) = true
  | [] => by simp [PyData.eqvAll]
  | n :: r => by simp [PyData.eqvAll, PyData.eqv, eqvAll_ints r]
theorem eqv_ints (ns : List Int) : PyData.eqv (.list (ns.map PyData.int)) (.list (ns.map PyData.int)) = true := by
  simp [PyData.eqv, eqvAll_ints]
theorem depthAll_ints : ∀ ns : List Int, PyData.depthAll (ns.map PyData.int) ≤ 1
  | [] => by simp [PyData.depthAll]
  | n :: r => by
    have := depthAll_ints r
    simp [PyData.depthAll, PyData.depth]; omega
theorem layAll_ints : ∀ ns : List Int, PyData.canLayAll0 (ns.map PyData.int) = true
  | [] => by simp [PyData.canLayAll0]
  | n :: r => by simp [PyData.canLayAll0, PyData.canLay0, layAll_ints r]
theorem shaped_ints (ns : List Int) : SeqAt.shaped (.list (ns.map PyData.int)) = true := by
  unfold SeqAt.shaped
  simp [PyData.canLay0, PyData.depth, layAll_ints]
  have := depthAll_ints ns
  omega
theorem w_neLI {K : PySem.W.Frag} {H : Hp} {Q : VK} {a b : Addr} {ns : List Int} (ha : SqL K H a (ns.map V.int)) (hb : SqL K H b (ns.map V.int)) (h : Q (.bl false) H) : rNeX K (.ref a) (.ref b) H Q :=
  w_neD (Dp.lst ha dp_ints) (Dp.lst hb dp_ints) (shaped_ints ns) (shaped_ints ns) (by rw [eqv_ints]; exact h)
theorem atI_last {α : Type} {xs : List α} {x : α} (h : xs[xs.length - 1]? = some x) : atI xs (-1) = some x := by
  have hl : 0 < xs.length := by
    have := (List.getElem?_eq_some_iff.mp h).1
    omega
  unfold atI ixN
  rw [if_neg (by omega), if_pos (by omega)]
  show xs[_]? = some x
  rw [← h]
  congr 1
  omega
theorem eqv_intsE : ∀ ns : List Int, PyData.eqv (.list (ns.map PyData.int)) (.list []) = decide (ns = [])
  | [] => by simp [PyData.eqv, PyData.eqvAll]
  | n :: r => by simp [PyData.eqv, PyData.eqvAll]
theorem w_neE {K : PySem.W.Frag} {H : Hp} {Q : VK} {a b : Addr} {ns : List Int} (ha : SqL K H a (ns.map V.int)) (hb : SqL K H b []) (h : Q (.bl (!decide (ns = []))) H) : rNeX K (.ref a) (.ref b) H Q :=
  w_neD (Dp.lst ha dp_ints) (Dp.lst hb .nil) (shaped_ints ns) (shaped_ints []) (by rw [eqv_intsE]; exact h)
theorem w_eqE {K : PySem.W.Frag} {H : Hp} {Q : VK} {a b : Addr} {ns : List Int} (ha : SqL K H a (ns.map V.int)) (hb : SqL K H b []) (h : Q (.bl (decide (ns = []))) H) : rEqX K (.ref a) (.ref b) H Q :=
  w_eqD (Dp.lst ha dp_ints) (Dp.lst hb .nil) (shaped_ints ns) (shaped_ints []) (by rw [eqv_intsE]; exact h)
theorem w_chain {r r' : R2} {ta tb tc : TE} {σ : L2.St} {H : Hp} {Q : VK} (h : ta σ H fun x H1 => tb σ H1 fun y H2 => r x y H2 fun z H3 => ∃ k, z = V.bl k ∧ if k = true then tc σ H3 fun w' H4 => r' y w' H4 Q else Q (V.bl false) H3) : tChain r r' ta tb tc σ H Q := h
theorem w_par {i j : Nat} {ta : TA} {D : Ends} {σ : L2.St} {H : Hp} (h : ta σ H fun vs H1 => ∃ v w, vs = [v, w] ∧ D.nx ((List.set σ i (some v)).set j (some w)) H1) : tPar i j ta D σ H := h
theorem w_par2 {x y : V} {R : V → V → Prop} (h : R x y) : ∃ v w, [x, y] = [v, w] ∧ R v w := ⟨x, y, rfl, h⟩
def pdA : V → PyData
  | .str s => .str s
  | .int i => .int i
  | .bl b => .bool b
  | _ => .none
def atomV : V → Bool
  | .str s => PyData.strOk s
  | .int _ => true
  | _ => false
theorem dp_atom {K : PySem.W.Frag} {H : Hp} {x : V} (h : atomV x = true) : Dp K H x (pdA x) := by
  cases x with
  | str s => exact .str s
  | int i => exact .int i
  | _ => cases h
theorem dp_atoms {K : PySem.W.Frag} {H : Hp} : ∀ {xs : List V}, xs.all atomV = true → DpAll K H xs (xs.map pdA)
  | [], _ => .nil
  | x :: r, h => by
    rw [List.all_cons, Bool.and_eq_true] at h
    exact .cons (dp_atom h.1) (dp_atoms h.2)
theorem eqv_atom {x y : V} (hx : atomV x = true) (hy : atomV y = true) : PyData.eqv (pdA x) (pdA y) = decide (x = y) := by
  cases x <;> cases y <;> first | (cases hx; done) | (cases hy; done) | skip
  all_goals simp [pdA, PyData.eqv]
  all_goals first | rfl | (rw [Bool.eq_iff_iff]; simp)
theorem eqvAll_atoms : ∀ {xs ys : List V}, xs.all atomV = true → ys.all atomV = true → PyData.eqvAll (xs.map pdA) (ys.map pdA) = decide (xs = ys)
  | [], [], _, _ => by simp [PyData.eqvAll]
  | [], _ :: _, _, _ => by simp [PyData.eqvAll]
  | _ :: _, [], _, _ => by simp [PyData.eqvAll]
  | x :: r, y :: q, hx, hy => by
    rw [List.all_cons, Bool.and_eq_true] at hx hy
    simp [PyData.eqvAll, eqv_atom hx.1 hy.1, eqvAll_atoms hx.2 hy.2]
theorem depthAll_atoms : ∀ {xs : List V}, xs.all atomV = true → PyData.depthAll (xs.map pdA) ≤ 1
  | [], _ => by simp [PyData.depthAll]
  | x :: r, h => by
    rw [List.all_cons, Bool.and_eq_true] at h
    have := depthAll_atoms h.2
    have : PyData.depth (pdA x) ≤ 1 := by
      cases x <;> first | (cases h.1; done) | skip
      all_goals simp [pdA, PyData.depth]
    simp [PyData.depthAll]
    omega
theorem layAll_atoms : ∀ {xs : List V}, xs.all atomV = true → PyData.canLayAll0 (xs.map pdA) = true
  | [], _ => by simp [PyData.canLayAll0]
  | x :: r, h => by
    rw [List.all_cons, Bool.and_eq_true] at h
    have : PyData.canLay0 (pdA x) = true := by
      cases x <;> first | (cases h.1; done) | skip
      all_goals first | (simp [pdA, PyData.canLay0]; done) | (simpa [pdA, PyData.canLay0, atomV] using h.1)
    simp [PyData.canLayAll0, this, layAll_atoms h.2]
theorem shaped_atoms {xs : List V} (h : xs.all atomV = true) : SeqAt.shaped (.tuple (xs.map pdA)) = true := by
  unfold SeqAt.shaped
  simp [PyData.canLay0, PyData.depth, layAll_atoms h]
  have := depthAll_atoms h
  omega
theorem w_eqT {K : PySem.W.Frag} {H : Hp} {Q : VK} {a b : Addr} {xs ys : List V} (ha : SqT K H a xs) (hb : SqT K H b ys) (hx : xs.all atomV = true) (hy : ys.all atomV = true) (h : Q (.bl (decide (xs = ys))) H) : rEqX K (.ref a) (.ref b) H Q :=
  w_eqD (Dp.tup ha (dp_atoms hx)) (Dp.tup hb (dp_atoms hy)) (shaped_atoms hx) (shaped_atoms hy) (by
    have e : PyData.eqv (.tuple (xs.map pdA)) (.tuple (ys.map pdA)) = decide (xs = ys) := by simp [PyData.eqv, eqvAll_atoms hx hy]
    rw [e]; exact h)
theorem w_neT {K : PySem.W.Frag} {H : Hp} {Q : VK} {a b : Addr} {xs ys : List V} (ha : SqT K H a xs) (hb : SqT K H b ys) (hx : xs.all atomV = true) (hy : ys.all atomV = true) (h : Q (.bl (!decide (xs = ys))) H) : rNeX K (.ref a) (.ref b) H Q :=
  w_neD (Dp.tup ha (dp_atoms hx)) (Dp.tup hb (dp_atoms hy)) (shaped_atoms hx) (shaped_atoms hy) (by
    have e : PyData.eqv (.tuple (xs.map pdA)) (.tuple (ys.map pdA)) = decide (xs = ys) := by simp [PyData.eqv, eqvAll_atoms hx hy]
    rw [e]; exact h)
/-! ### for .. in enumerate(a list) -/
section
variable {K : PySem.W.Frag} {σ : L2.St} {H : Hp} {a : Addr} {xs : List V} {g : TG} {t : TS} {D : Ends} {ta : TA}
def kForEn (K : PySem.W.Frag) (g : TG) (t : TS) (D : Ends) (σ : L2.St) (vs : List V) (H1 : Hp) : Prop := ∃ a xs, vs = [V.ref a] ∧ SqL K H1 a xs ∧ ∃ W : Nat → Nat → L2.St → Hp → Prop, (∃ m, W 0 m σ H1) ∧ ∀ i m σ H, W i m σ H →
      ((Ite K a).stop i H ∧ D.nx σ H) ∨ ((Ite K a).go i H ∧ ∃ N : L2.St → Hp → Prop, (∀ σ' H', N σ' H' → ∃ m', m' < m ∧ W (i + 1) m' σ' H') ∧ ∀ x H', (Ite K a).yld i H x H' → g x σ H' fun σ2 H2 => t { D with nx := N, ct := N, bk := D.nx } σ2 H2)
theorem w_forEn (h : ta σ H fun vs H1 => kForEn K g t D σ vs H1) : tFor (iEnum K ta) g t D σ H := h
theorem l_forEn (e : SqL K H a xs) (Pv : Nat → L2.St → Hp → Prop) (h0 : Pv 0 σ H) (hl : ∀ i σ' H', Pv i σ' H' → SqL K H' a xs)
    (hs : ∀ i x T σ' H', xs[i]? = some x → Pv i σ' H' → H' T = none → g (.ref T) σ' (upd H' T (.tup [.int (i : Nat), x])) fun σ2 H2 => t { D with nx := Pv (i + 1), ct := Pv (i + 1), bk := D.nx } σ2 H2) (hd : ∀ σ' H', Pv xs.length σ' H' → D.nx σ' H') : kForEn K g t D σ [.ref a] H := by
  refine ⟨a, xs, rfl, e, fun i m σ' H' => Pv i σ' H' ∧ m + i = xs.length, ⟨xs.length, h0, rfl⟩, fun i m σ' H' ⟨pv, hm⟩ => ?_⟩
  have eH := hl i σ' H' pv
  by_cases hi : i < xs.length
  · refine Or.inr ⟨⟨xs, xs[i], eH, List.getElem?_eq_getElem hi⟩, Pv (i + 1), fun σ2 H2 q => ⟨m - 1, by omega, q, by omega⟩, fun x H2 hy => ?_⟩
    obtain ⟨T, y, rfl, nT, rfl, hx⟩ := hy
    exact hs i y T σ' H' (hx xs eH) pv nT
  · obtain rfl : i = xs.length := by omega
    exact Or.inl ⟨⟨xs, eH, Nat.le_refl _⟩, hd _ _ pv⟩
end
theorem pe_gint {X : Cx} {x : Str} {i : Int} {t : Tok} {pos : Pos} (hg : Gl X x) (hm : X.mg x = some (.int i t)) (hd : (x == ("__debug__" : Str)) = false := by decide) : PE X (.Name x pos) (tC (.int i)) := pe_glob (v := .int i) hg hm ⟨_, rfl⟩ hd
end Ak
local macro_rules | `(tactic| walk_at "as") => `(tactic| with_reducible assumption)
local macro_rules | `(tactic| walk_at "lkl") => `(tactic| first
  | walk_at "as"
  | with_reducible exact L2.upd_same
  | ((with_reducible show L2.upd _ _ _ _ = _); exact Ak.at_new (by walk_at "as") (by walk_at "lkl")))
local macro_rules | `(tactic| walk_at "nel") => `(tactic| first
  | walk_at "as"
  | exact Ne.symm (by walk_at "as")
  | exact Ne.symm (Ak.ne_new (by walk_at "as") (by walk_at "lkl"))
  | exact Ak.ne_new (by walk_at "as") (by walk_at "lkl")
  | exact L2.ne_of (by walk_at "as") (by walk_at "as") (by intro z; cases z))
local macro_rules | `(tactic| walk_at "ninl") => `(tactic| first | with_reducible exact Ak.nin_nil | walk_at "as" | ((with_reducible show ¬ (_ ∈ _ :: _)); exact Ak.nin_cons (by walk_at "nel") (by walk_at "ninl")))
local macro_rules | `(tactic| walk_at "lk") => `(tactic| first
  | walk_at "as"
  | with_reducible exact L2.upd_same
  | ((with_reducible show L2.upd _ _ _ _ = _); first | exact Ak.at_new (by walk_at "as") (by walk_at "lk") | exact Ak.at_upd (by walk_at "nel") (by walk_at "lk"))
  | exact Ak.Keep.at (by walk_at "as") (by walk_at "ninl") (by walk_at "lk"))
local macro_rules | `(tactic| walk_at "ne") => `(tactic| first
  | walk_at "nel"
  | exact Ne.symm (Ak.ne_new (by walk_at "as") (by walk_at "lk"))
  | exact Ak.ne_new (by walk_at "as") (by walk_at "lk"))
local macro_rules | `(tactic| walk_at "nin") => `(tactic| first | with_reducible exact Ak.nin_nil | walk_at "as" | ((with_reducible show ¬ (_ ∈ _ :: _)); exact Ak.nin_cons (by walk_at "ne") (by walk_at "nin")))
local macro_rules | `(tactic| walk_at "mem") => `(tactic| ((with_reducible show _ ∈ _ :: _); first | with_reducible exact List.mem_cons_self | exact List.mem_cons_of_mem _ (by walk_at "mem")))
local macro_rules | `(tactic| walk_at "sub") => `(tactic| first | with_reducible exact fun _ m => m | with_reducible exact Ak.sub_nil | ((with_reducible show ∀ b, b ∈ _ :: _ → _); exact Ak.sub_cons (by walk_at "mem") (by walk_at "sub")))
local macro_rules | `(tactic| walk_at "kp") => `(tactic| first
  | with_reducible exact Ak.Keep.refl
  | walk_at "as"
  | ((with_reducible show Ak.Keep _ _ (L2.upd _ _ _)); first | exact Ak.Keep.new' (by walk_at "as") (by walk_at "kp") | exact Ak.Keep.set' (by walk_at "mem") (by walk_at "kp") | exact Ak.Keep.own' (by walk_at "as") (by walk_at "kp"))
  | exact Ak.Keep.call (by walk_at "as") (by walk_at "sub") (by walk_at "kp"))
local macro_rules | `(tactic| walk_at "sqd") => `(tactic| first
  | walk_at "as"
  | ((with_reducible show L2.SqL _ (L2.upd _ _ _) _ _); exact Ak.SqL.upd (by walk_at "sqd") (by walk_at "as"))
  | ((with_reducible show L2.SqL _ _ _ _); exact Ak.Keep.seqL (by walk_at "as") (by walk_at "nin") (by walk_at "sqd"))
  | ((with_reducible show L2.SqT _ (L2.upd _ _ _) _ _); exact Ak.SqT.upd (by walk_at "sqd") (by walk_at "as"))
  | ((with_reducible show L2.SqT _ _ _ _); exact Ak.Keep.seqT (by walk_at "as") (by walk_at "nin") (by walk_at "sqd")))
local macro_rules | `(tactic| walk_at "sqh") => `(tactic| first
  | walk_at "as"
  | ((with_reducible show L2.SqL _ _ _ _); first | exact Ak.Ext0.seqL (by walk_at "as") (by walk_at "xt") | exact Ak.chkL (by walk_at "as") (by walk_at "sqd"))
  | ((with_reducible show L2.SqT _ _ _ _); first | exact Ak.Ext0.seqT (by walk_at "as") (by walk_at "xt") | exact Ak.chkT (by walk_at "as") (by walk_at "sqd")))
local macro_rules | `(tactic| walk_at "sq") => `(tactic| first
  | walk_at "sqh"
  | ((with_reducible show L2.SqL _ _ _ _); exact L2.SqL.of (by walk_at "lk"))
  | ((with_reducible show L2.SqT _ _ _ _); exact L2.SqT.of (by walk_at "lk")))
local macro_rules | `(tactic| walk_at "xt") => `(tactic| first
  | walk_at "as"
  | with_reducible exact Ak.Ext0.refl
  | ((with_reducible show LamX.ExtN _ (L2.upd _ _ _)); first | exact Ak.Ext0.set (by walk_at "xt") (by walk_at "as") | exact Ak.Ext0.new (by walk_at "xt") (by walk_at "as"))
  | exact Ak.Ext0.kept (by walk_at "as") (by walk_at "xt") (by walk_at "n0"))
local macro_rules | `(tactic| walk_at "n0") => `(tactic| first | exact Ak.none_nil | exact Ak.none_in (by walk_at "n0") (by walk_at "as"))
local macro_rules | `(tactic| walk_at "sz") => `(tactic| first | walk_at "as" | exact Ak.sz_of rfl | exact Ak.sz_lt rfl | (rw [PySem.sizeLine_eq]; omega) | (simp only [List.length_append, List.length_cons, List.length_nil, List.length_map, PySem.sizeLine_eq]; omega))
local macro_rules | `(tactic| walk_at "ix") => `(tactic| first | walk_at "as" | ((with_reducible show L2.atI _ (OfNat.ofNat _) = _); exact rfl))
local macro_rules | `(tactic| walk_at "fl") => `(tactic| first | walk_at "as" | with_reducible exact Ak.look_hd | with_reducible exact Ak.look_nil | ((with_reducible show List.lookup _ (_ :: _) = _); exact Eq.trans (Ak.look_tl (by decide +kernel)) (by walk_at "fl")))
local macro_rules | `(tactic| walk_at "dv") => `(tactic| first | walk_at "as" | with_reducible exact Ak.val_hd | with_reducible exact Ak.val_nil | ((with_reducible show L2.valV (_ :: _) _ = _); exact Eq.trans (Ak.val_tl (by decide +kernel)) (by walk_at "dv")))
local macro_rules | `(tactic| walk_at "s") => `(tactic| first
  | with_reducible refine Ak.w_seq ?_
  | with_reducible refine Ak.w_asg ?_
  | with_reducible refine Ak.w_name ?_
  | with_reducible refine Ak.w_op ?_
  | ((with_reducible show L2.tVar _ _ _ _); refine Ak.w_var (by exact rfl) ?_)
  | with_reducible refine Ak.w_c ?_
  | with_reducible refine Ak.w_plusI ?_
  | with_reducible refine Ak.w_I0 ?_
  | with_reducible refine Ak.w_fldE ?_
  | with_reducible refine Ak.w_if ?_
  | with_reducible refine Ak.w_iT ?_
  | with_reducible refine Ak.w_iF ?_
  | with_reducible refine Ak.w_nT ?_
  | with_reducible refine Ak.w_nF ?_
  | with_reducible refine Ak.w_test ?_
  | with_reducible refine Ak.w_eqI ?_
  | with_reducible refine Ak.w_neI ?_
  | with_reducible refine Ak.w_eqS ?_
  | with_reducible refine Ak.w_neS ?_
  | with_reducible refine Ak.w_neTT ?_
  | with_reducible refine Ak.w_eqB ?_
  | with_reducible refine Ak.w_neB ?_
  | with_reducible refine Ak.w_isNN ?_
  | with_reducible refine Ak.w_isNR ?_
  | with_reducible refine Ak.w_isNI ?_
  | with_reducible refine Ak.w_isNB ?_
  | with_reducible refine Ak.w_isNS ?_
  | with_reducible refine Ak.w_ntNN ?_
  | with_reducible refine Ak.w_ntNR ?_
  | with_reducible refine Ak.w_ntNI ?_
  | with_reducible refine Ak.w_isN ?_
  | with_reducible refine Ak.w_notN ?_
  | with_reducible refine Ak.w_bl ?_
  | with_reducible refine Ak.w_tru ?_
  | with_reducible refine Ak.w_truB ?_
  | with_reducible refine Ak.w_truI ?_
  | with_reducible refine Ak.w_tB ?_
  | with_reducible refine Ak.w_cons ?_
  | with_reducible refine Ak.w_nil ?_
  | with_reducible refine Ak.w_call ?_
  | with_reducible refine Ak.w_meth ?_
  | with_reducible refine Ak.w_cb ?_
  | with_reducible refine Ak.w_ret ?_
  | with_reducible refine Ak.w_retN ?_
  | with_reducible refine Ak.w_drop ?_
  | with_reducible refine Ak.w_next ?_
  | with_reducible refine Ak.w_cont ?_
  | with_reducible refine Ak.w_brk ?_
  | with_reducible refine Ak.w_and ?_
  | with_reducible refine Ak.w_or ?_
  | with_reducible refine Ak.w_not ?_
  | with_reducible refine Ak.w_andV ?_
  | with_reducible refine Ak.w_orV ?_
  | with_reducible refine Ak.w_notV ?_
  | with_reducible refine Ak.w_ifx ?_
  | with_reducible refine Ak.w_max2 ?_
  | with_reducible refine Ak.w_min2 ?_
  | with_reducible refine Ak.w_intI ?_
  | with_reducible refine Ak.w_intB ?_
  | with_reducible refine Ak.w_un ?_
  | with_reducible refine Ak.w_U ?_
  | with_reducible refine Ak.w_dget ?_
  | with_reducible refine Ak.w_dput ?_
  | with_reducible refine Ak.w_sfld ?_
  | with_reducible refine Ak.w_bm ?_
  | with_reducible refine Ak.w_bm0 ?_
  | with_reducible refine Ak.w_tup ?_
  | with_reducible refine Ak.w_lst ?_
  | with_reducible refine Ak.w_make ?_
  | with_reducible refine Ak.w_gnil ?_
  | with_reducible refine Ak.w_gcons ?_
  | with_reducible refine Ak.w_gsub ?_
  | with_reducible refine Ak.w_forList ?_
  | with_reducible refine Ak.w_forR1 ?_
  | with_reducible refine Ak.w_forR2 ?_
  | with_reducible refine Ak.w_forZ ?_
  | with_reducible refine Ak.w_lcL ?_
  | with_reducible refine Ak.w_lcT ?_
  | with_reducible refine Ak.w_lcR1 ?_
  | with_reducible refine Ak.w_lcR2 ?_
  | with_reducible refine Ak.w_yes ?_
  | with_reducible refine Ak.w_turn ?_
  | with_reducible refine Ak.w_pairs0 ?_
  | with_reducible refine Ak.w_pairs ?_
  | with_reducible refine Ak.w_eq0S ?_
  | with_reducible refine Ak.w_ne0I ?_
  | with_reducible refine Ak.w_disp fun _ _ => ?_
  | ((with_reducible show L2.wipe _ _ = L2.wipe _ _ ∧ _); refine ⟨by exact rfl, ?_⟩)
  | ((with_reducible show Ak.kFld _ _ _ _ _); refine Ak.w_fldK (by walk_at "lk") (by walk_at "as") (by walk_at "as") (by walk_at "fl") ?_)
  | ((with_reducible show Ak.kMeth _ _ _ _ _); refine Ak.w_methK (by walk_at "lk") (by walk_at "fl") ?_)
  | ((with_reducible show Ak.rPlus _ (L2.V.ref _) (L2.V.ref _) _ _); refine Ak.w_plusL (by walk_at "lk") (by walk_at "lk") (by walk_at "sz") fun _ _ => ?_)
  | ((with_reducible show Ak.rTimes (L2.V.int _) (L2.V.int _) _ _); refine Ak.w_timesI (by first | exact Or.inl (by omega) | exact Or.inr (by omega)) ?_)
  | ((with_reducible show L2.rI _ _ _ _ _ _); refine Ak.w_I (by walk_at "ci") ?_)
  | ((with_reducible show L2.rIx _ _ (L2.V.int (OfNat.ofNat _)) _ _); first | refine Ak.w_ixO (by walk_at "lk") (by exact rfl) (by exact rfl) ?_ | refine Ak.w_ixL (by walk_at "sqh") (by exact rfl) ?_ | refine Ak.w_ixT (by walk_at "sqh") (by exact rfl) ?_)
  | ((with_reducible show L2.rIx _ _ (L2.V.int _) _ _); first | refine Ak.w_ixL (by walk_at "sqh") (by walk_at "as") ?_ | refine Ak.w_ixT (by walk_at "sqh") (by walk_at "as") ?_ | refine Ak.w_ixO (by walk_at "lk") (by exact rfl) (by walk_at "as") ?_)
  | ((with_reducible show Ak.rLenX _ [L2.V.ref _] _ _); first | refine Ak.w_lenL (by walk_at "sqh") ?_ | refine Ak.w_lenT (by walk_at "sqh") ?_ | refine Ak.w_lenO (by walk_at "lk") (by exact rfl) ?_)
  | ((with_reducible show Ak.rTupX _ [L2.V.ref _] _ _); refine Ak.w_tupL (by walk_at "sq") fun _ _ => ?_)
  | ((with_reducible show L2.rSetL (L2.V.ref _) (L2.V.int _) _ _ _); (with_reducible show L2.rSetL (L2.V.ref _) (L2.V.int (OfNat.ofNat _)) _ _ _); refine Ak.w_setL (by walk_at "lk") (by exact rfl) ?_)
  | ((with_reducible show Ak.kDGet _ (L2.V.str _) _ _); refine Ak.w_dgetS (by walk_at "lk") (by walk_at "dv") ?_)
  | ((with_reducible show L2.rAppend _ _ _ _); refine Ak.w_app (by walk_at "lk") (by walk_at "sz") ?_)
  | ((with_reducible show L2.gTup _ _ _ _ _ _ _); first | refine Ak.w_gtup (by walk_at "sqh") (by exact rfl) ?_ | refine Ak.w_gtupO (by walk_at "lk") (by exact rfl) ?_)
  | ((with_reducible show L2.tyV _ _ _ _ ∧ _); refine ⟨Ak.tyL (by walk_at "lk"), ?_⟩)
  | ((with_reducible show _ ≤ PySem.sizeLine ∧ ∀ _, _); refine ⟨by walk_at "sz", fun _ _ => ?_⟩))
local macro_rules | `(tactic| walk_at "ty") => `(tactic| first | with_reducible exact L2.TyX.base (.int _) | with_reducible exact L2.TyX.base (.bl _) | with_reducible exact L2.TyX.base (.str _) | with_reducible exact L2.TyX.base .non | exact Ak.tyT (by walk_at "sqh") | exact Ak.tyLs (by walk_at "sqh") | exact Ak.tyO (by walk_at "lk") (by exact rfl))
local macro_rules | `(tactic| walk_at "s") => `(tactic| ((with_reducible show L2.rIsi _ [_, L2.V.ty _] _ _); first | refine Ak.w_isiB (k := true) (by walk_at "ty") (by decide +kernel) ?_ | refine Ak.w_isiB (k := false) (by walk_at "ty") (by decide +kernel) ?_))
local macro_rules | `(tactic| walk_at "pf") => `(tactic| first | with_reducible exact Ak.putF_hd | with_reducible exact Ak.putF_nil | ((with_reducible show L2.putF _ _ (_ :: _) = _); exact Eq.trans (Ak.putF_tl (by decide +kernel)) (congrArg (List.cons _) (by walk_at "pf"))))
local macro_rules | `(tactic| walk_at "s") => `(tactic| ((with_reducible show Ak.kSFld _ _ _ _ _ _); refine Ak.w_sfldP (by walk_at "lk") (by walk_at "as") (by walk_at "as") (Ak.lt_of rfl) (by walk_at "pf") ?_))
local macro_rules | `(tactic| walk_at "s") => `(tactic| ((with_reducible show Ak.rInX _ (L2.V.int _) (L2.V.ref _) _ _); refine Ak.w_inI (by walk_at "lk") ?_))
local macro_rules | `(tactic| walk_at "s") => `(tactic| ((with_reducible show Ak.rNinX _ (L2.V.int _) (L2.V.ref _) _ _); refine Ak.w_ninI (by walk_at "lk") ?_))
local macro_rules | `(tactic| walk_at "nk") => `(tactic| first | exact Ak.nk_nil | exact Ak.nk_cons (by decide +kernel) (by walk_at "nk"))
local macro_rules | `(tactic| walk_at "nd") => `(tactic| first | exact Ak.nd_nil | exact Ak.nd_cons (by walk_at "nk") (by walk_at "nd"))
local macro_rules | `(tactic| walk_at "dp") => `(tactic| ((with_reducible show L2.putK (_ :: _) _ _ = _); first | exact Ak.put_hd (by walk_at "nk") | exact Eq.trans (Ak.put_tl (by decide +kernel)) (congrArg (List.cons _) (by walk_at "dp"))))
local macro_rules | `(tactic| walk_at "s") => `(tactic| ((with_reducible show Ak.kDPut _ (L2.V.ref _) (L2.V.str _) _ _); refine Ak.w_dputP (by walk_at "lk") (Ak.sz_lt rfl) (by walk_at "dp") ?_))
local macro_rules | `(tactic| walk_at "s") => `(tactic| ((with_reducible show Ak.rIsE2 _ _ _ _ _ _ _); first | refine Ak.w_isE (by exact rfl) (by exact rfl) (by walk_at "as") (by walk_at "as") ?_ | refine Ak.w_isET (by exact rfl) (by exact rfl) (by walk_at "as") (by walk_at "as") ?_))
local macro_rules | `(tactic| walk_at "s") => `(tactic| ((with_reducible show Ak.rCntX _ _ _ _ _); refine Ak.w_cnt (by walk_at "lk") (by exact rfl) (by exact rfl) (by exact rfl) ?_))
local macro_rules | `(tactic| walk_at "s") => `(tactic| first
  | with_reducible refine Ak.w_fldaug ?_
  | with_reducible refine Ak.w_addI ?_
  | with_reducible refine Ak.w_dnot ?_
  | with_reducible refine Ak.w_lcE ?_
  | ((with_reducible show L2.rClear (L2.V.ref _) _ _ _); refine Ak.w_clear (by walk_at "lk") ?_)
  | with_reducible refine Ak.w_dnewK fun _ _ => ?_
  | with_reducible refine Ak.w_forTup ?_
  | ((with_reducible show Ak.kFA _ _ _ _ _ _ _ _); refine Ak.w_fa (by walk_at "lk") (by walk_at "as") (by walk_at "as") (by walk_at "fl") ?_)
  | ((with_reducible show Ak.kFS _ _ _ _ _ _ _); refine Ak.w_fs (by walk_at "lk") (Ak.lt_of rfl) (by walk_at "pf") ?_)
  | ((with_reducible show Ak.kDNot (L2.V.int _) (L2.V.ref _) _ _); refine Ak.w_dnotS (by walk_at "lk") ?_)
  | ((with_reducible show Ak.rSortX _ [L2.V.ref _] _ _); first | refine Ak.w_sortO (by walk_at "lk") fun _ _ => ?_ | refine Ak.w_sortD (by walk_at "lk") fun _ _ => ?_))
local macro_rules | `(tactic| walk_at "ci") => `(tactic| first | decide | omega | (constructor <;> first | decide | omega) | exact ⟨by decide, by decide, by decide⟩)
local macro_rules | `(tactic| walk_at "dc") => `(tactic| first | walk_at "as" | exact Ak.Dice.keep (S := []) (by walk_at "as") (by walk_at "kp") Ak.nin_nil Ak.none_nil)
local macro_rules | `(tactic| walk_at "s") => `(tactic| ((with_reducible show Ak.spNext _ _ _ _ _); refine Ak.next_go (by walk_at "dc") (by omega) (by omega) fun _ _ _ _ _ _ _ _ => ?_))
local macro_rules | `(tactic| walk_at "pk") => `(tactic| (intro x hx; (repeat (rcases List.mem_cons.mp hx with rfl | hx; · exact ⟨_, rfl, by omega⟩)); exact absurd hx List.not_mem_nil))
local macro_rules | `(tactic| walk_at "rd") => `(tactic| repeat (walk_at "s"))
local macro_rules | `(tactic| walk_at "lv") => `(tactic| first | decide | omega)
local macro_rules | `(tactic| walk_at "s") => `(tactic| first
  | with_reducible refine Ak.w_slice ?_
  | with_reducible refine Ak.w_forEn ?_
  | with_reducible refine Ak.w_par ?_
  | with_reducible refine Ak.w_par2 ?_
  | with_reducible refine Ak.w_chain ?_
  | with_reducible refine Ak.w_noP ?_
  | with_reducible refine Ak.w_part ?_
  | with_reducible refine Ak.w_isI ?_
  | with_reducible refine Ak.w_din ?_
  | with_reducible refine Ak.w_ddel ?_
  | ((with_reducible show L2.rExtend (L2.V.ref _) [L2.V.ref _] _ _); refine Ak.w_ext (by walk_at "lk") (by walk_at "lk") (by walk_at "sz") ?_)
  | ((with_reducible show Ak.kDGet _ (L2.V.int _) _ _); refine Ak.w_dgetO (by walk_at "lk") (by walk_at "as") ?_)
  | ((with_reducible show Ak.kDIn (L2.V.int _) (L2.V.ref _) _ _); refine Ak.w_dinO (by walk_at "lk") ?_)
  | ((with_reducible show Ak.rSortX _ [L2.V.ref _] _ _); refine Ak.w_sortO2 (by walk_at "lk") fun _ _ => ?_))
namespace Ak
open PySem PySem.Spec PyProof.Rows L2
def top (i : Nat) : Stmt := PySem.Challenge.pw_ackbits_k09_whole_pieces_come.main.body.getD i (.Pass ⟨0, 0, 0, 0⟩)
abbrev s_l_next : Stmt := top 21
abbrev N_l_next : List Str := ["_law_dice_here", "_law_many", "_law_found", "_law_cell"]
theorem sc_l_next : FnScope N_l_next ["_law_dice_here", "_law_many"] (defScope s_l_next) := ⟨rfl, rfl, rfl, by decide +kernel, rfl, by decide +kernel, by decide +kernel⟩
abbrev s_l_dice : Stmt := top 20
abbrev N_l_dice : List Str := ["_law_script", "_law_mixed", "_law_cell"]
theorem sc_l_dice : FnScope N_l_dice ["_law_script"] (defScope s_l_dice) := ⟨rfl, rfl, rfl, by decide +kernel, rfl, by decide +kernel, by decide +kernel⟩
abbrev s_l_setting : Stmt := top 22
abbrev N_l_setting : List Str := ["_law_d", "_law_late", "_law_ahead", "_law_wide", "_law_marks"]
theorem sc_l_setting : FnScope N_l_setting ["_law_d"] (defScope s_l_setting) := ⟨rfl, rfl, rfl, by decide +kernel, rfl, by decide +kernel, by decide +kernel⟩
abbrev s_l_safe : Stmt := top 23
abbrev N_l_safe : List Str := ["_law_d", "_law_marks", "_law_wide", "_law_late", "_law_ahead"]
theorem sc_l_safe : FnScope N_l_safe ["_law_d"] (defScope s_l_safe) := ⟨rfl, rfl, rfl, by decide +kernel, rfl, by decide +kernel, by decide +kernel⟩
abbrev s_check_mark : Stmt := top 10
abbrev N_check_mark : List Str := ["mark", "marks"]
theorem sc_check_mark : FnScope N_check_mark ["mark", "marks"] (defScope s_check_mark) := ⟨rfl, rfl, rfl, by decide +kernel, rfl, by decide +kernel, by decide +kernel⟩
abbrev s_check_number : Stmt := top 8
abbrev N_check_number : List Str := ["word", "number", "least", "most"]
theorem sc_check_number : FnScope N_check_number ["word", "number"] (defScope s_check_number) := ⟨rfl, rfl, rfl, by decide +kernel, rfl, by decide +kernel, by decide +kernel⟩
abbrev s_check_setting : Stmt := top 9
abbrev N_check_setting : List Str := ["setting", "marks", "wide", "late", "ahead"]
theorem sc_check_setting : FnScope N_check_setting ["setting"] (defScope s_check_setting) := ⟨rfl, rfl, rfl, by decide +kernel, rfl, by decide +kernel, by decide +kernel⟩
abbrev s_check_bits : Stmt := top 11
abbrev N_check_bits : List Str := ["bits", "wide", "bit"]
theorem sc_check_bits : FnScope N_check_bits ["bits", "wide"] (defScope s_check_bits) := ⟨rfl, rfl, rfl, by decide +kernel, rfl, by decide +kernel, by decide +kernel⟩
abbrev s_check_telling : Stmt := top 12
abbrev N_check_telling : List Str := ["told", "marks", "wide", "mark", "bits"]
theorem sc_check_telling : FnScope N_check_telling ["told", "marks", "wide"] (defScope s_check_telling) := ⟨rfl, rfl, rfl, by decide +kernel, rfl, by decide +kernel, by decide +kernel⟩
abbrev s_Ear___init : Stmt := inClass (top 16) 0
abbrev N_Ear___init : List Str := ["self", "setting", "marks", "wide", "late", "_"]
theorem sc_Ear___init : FnScope N_Ear___init ["self", "setting"] (defScope s_Ear___init) := ⟨rfl, rfl, rfl, by decide +kernel, rfl, by decide +kernel, by decide +kernel⟩
abbrev s_Ear_come : Stmt := inClass (top 16) 1
abbrev N_Ear_come : List Str := ["self", "mark", "number", "word"]
theorem sc_Ear_come : FnScope N_Ear_come ["self", "mark"] (defScope s_Ear_come) := ⟨rfl, rfl, rfl, by decide +kernel, rfl, by decide +kernel, by decide +kernel⟩
abbrev s_Ear_tell : Stmt := inClass (top 16) 2
abbrev N_Ear_tell : List Str := ["self"]
theorem sc_Ear_tell : FnScope N_Ear_tell ["self"] (defScope s_Ear_tell) := ⟨rfl, rfl, rfl, by decide +kernel, rfl, by decide +kernel, by decide +kernel⟩
abbrev s_Ear_last : Stmt := inClass (top 16) 3
abbrev N_Ear_last : List Str := ["self"]
theorem sc_Ear_last : FnScope N_Ear_last ["self"] (defScope s_Ear_last) := ⟨rfl, rfl, rfl, by decide +kernel, rfl, by decide +kernel, by decide +kernel⟩
abbrev s_Ear__number_of : Stmt := inClass (top 16) 4
abbrev N_Ear__number_of : List Str := ["self", "mark", "least"]
theorem sc_Ear__number_of : FnScope N_Ear__number_of ["self", "mark"] (defScope s_Ear__number_of) := ⟨rfl, rfl, rfl, by decide +kernel, rfl, by decide +kernel, by decide +kernel⟩
abbrev s_Ear__word_of : Stmt := inClass (top 16) 5
abbrev N_Ear__word_of : List Str := ["self", "number"]
theorem sc_Ear__word_of : FnScope N_Ear__word_of ["self", "number"] (defScope s_Ear__word_of) := ⟨rfl, rfl, rfl, by decide +kernel, rfl, by decide +kernel, by decide +kernel⟩
abbrev s_Ear__oldest : Stmt := inClass (top 16) 6
abbrev N_Ear__oldest : List Str := ["self"]
theorem sc_Ear__oldest : FnScope N_Ear__oldest ["self"] (defScope s_Ear__oldest) := ⟨rfl, rfl, rfl, by decide +kernel, rfl, by decide +kernel, by decide +kernel⟩
abbrev s_Ear__keep : Stmt := inClass (top 16) 7
abbrev N_Ear__keep : List Str := ["self", "number", "oldest", "kept"]
theorem sc_Ear__keep : FnScope N_Ear__keep ["self", "number"] (defScope s_Ear__keep) := ⟨rfl, rfl, rfl, by decide +kernel, rfl, by decide +kernel, by decide +kernel⟩
abbrev s_Ear__bits : Stmt := inClass (top 16) 8
abbrev N_Ear__bits : List Str := ["self", "numbers", "back", "number"]
theorem sc_Ear__bits : FnScope N_Ear__bits ["self"] (defScope s_Ear__bits) := ⟨rfl, rfl, rfl, by decide +kernel, rfl, by decide +kernel, by decide +kernel⟩
abbrev s_Mouth___init : Stmt := inClass (top 18) 0
abbrev N_Mouth___init : List Str := ["self", "setting", "marks", "wide", "_", "ahead"]
theorem sc_Mouth___init : FnScope N_Mouth___init ["self", "setting"] (defScope s_Mouth___init) := ⟨rfl, rfl, rfl, by decide +kernel, rfl, by decide +kernel, by decide +kernel⟩
abbrev s_Mouth_send : Stmt := inClass (top 18) 1
abbrev N_Mouth_send : List Str := ["self"]
theorem sc_Mouth_send : FnScope N_Mouth_send ["self"] (defScope s_Mouth_send) := ⟨rfl, rfl, rfl, by decide +kernel, rfl, by decide +kernel, by decide +kernel⟩
abbrev s_Mouth_is_full : Stmt := inClass (top 18) 2
abbrev N_Mouth_is_full : List Str := ["self"]
theorem sc_Mouth_is_full : FnScope N_Mouth_is_full ["self"] (defScope s_Mouth_is_full) := ⟨rfl, rfl, rfl, by decide +kernel, rfl, by decide +kernel, by decide +kernel⟩
abbrev s_Mouth_hear : Stmt := inClass (top 18) 3
abbrev N_Mouth_hear : List Str := ["self", "told", "numbers", "found", "number", "fresh"]
theorem sc_Mouth_hear : FnScope N_Mouth_hear ["self", "told"] (defScope s_Mouth_hear) := ⟨rfl, rfl, rfl, by decide +kernel, rfl, by decide +kernel, by decide +kernel⟩
abbrev s_Mouth_sure : Stmt := inClass (top 18) 4
abbrev N_Mouth_sure : List Str := ["self"]
theorem sc_Mouth_sure : FnScope N_Mouth_sure ["self"] (defScope s_Mouth_sure) := ⟨rfl, rfl, rfl, by decide +kernel, rfl, by decide +kernel, by decide +kernel⟩
abbrev s_Mouth_last : Stmt := inClass (top 18) 5
abbrev N_Mouth_last : List Str := ["self"]
theorem sc_Mouth_last : FnScope N_Mouth_last ["self"] (defScope s_Mouth_last) := ⟨rfl, rfl, rfl, by decide +kernel, rfl, by decide +kernel, by decide +kernel⟩
abbrev s_Mouth__numbers_of : Stmt := inClass (top 18) 6
abbrev N_Mouth__numbers_of : List Str := ["self", "told", "mark", "bits", "newest", "others", "back", "bit"]
theorem sc_Mouth__numbers_of : FnScope N_Mouth__numbers_of ["self", "told"] (defScope s_Mouth__numbers_of) := ⟨rfl, rfl, rfl, by decide +kernel, rfl, by decide +kernel, by decide +kernel⟩
abbrev s_Load___init : Stmt := inClass (top 14) 0
abbrev N_Load___init : List Str := ["self", "room", "wait"]
theorem sc_Load___init : FnScope N_Load___init ["self", "room", "wait"] (defScope s_Load___init) := ⟨rfl, rfl, rfl, by decide +kernel, rfl, by decide +kernel, by decide +kernel⟩
abbrev s_Load_put : Stmt := inClass (top 14) 1
abbrev N_Load_put : List Str := ["self", "piece"]
theorem sc_Load_put : FnScope N_Load_put ["self"] (defScope s_Load_put) := ⟨rfl, rfl, rfl, by decide +kernel, rfl, by decide +kernel, by decide +kernel⟩
abbrev s_Load_fill : Stmt := inClass (top 14) 2
abbrev N_Load_fill : List Str := ["self", "number", "ready", "piece", "pieces"]
theorem sc_Load_fill : FnScope N_Load_fill ["self"] (defScope s_Load_fill) := ⟨rfl, rfl, rfl, by decide +kernel, rfl, by decide +kernel, by decide +kernel⟩
abbrev s_Load_came : Stmt := inClass (top 14) 3
abbrev N_Load_came : List Str := ["self", "letters", "found", "number"]
theorem sc_Load_came : FnScope N_Load_came ["self", "letters"] (defScope s_Load_came) := ⟨rfl, rfl, rfl, by decide +kernel, rfl, by decide +kernel, by decide +kernel⟩
abbrev s_Load_waits : Stmt := inClass (top 14) 4
abbrev N_Load_waits : List Str := ["self"]
theorem sc_Load_waits : FnScope N_Load_waits ["self"] (defScope s_Load_waits) := ⟨rfl, rfl, rfl, by decide +kernel, rfl, by decide +kernel, by decide +kernel⟩
abbrev s_Load__is_ready : Stmt := inClass (top 14) 5
abbrev N_Load__is_ready : List Str := ["self", "piece", "number", "latest"]
theorem sc_Load__is_ready : FnScope N_Load__is_ready ["self", "piece", "number"] (defScope s_Load__is_ready) := ⟨rfl, rfl, rfl, by decide +kernel, rfl, by decide +kernel, by decide +kernel⟩
abbrev s_Load__free : Stmt := inClass (top 14) 6
abbrev N_Load__free : List Str := ["self", "number", "pieces", "piece"]
theorem sc_Load__free : FnScope N_Load__free ["self", "number"] (defScope s_Load__free) := ⟨rfl, rfl, rfl, by decide +kernel, rfl, by decide +kernel, by decide +kernel⟩
abbrev s_l_sent : Stmt := top 24
abbrev N_l_sent : List Str := ["_law_mouth", "_law_load", "_law_rows", "_law_number", "_law_mark"]
theorem sc_l_sent : FnScope N_l_sent ["_law_mouth", "_law_load", "_law_rows"] (defScope s_l_sent) := ⟨rfl, rfl, rfl, by decide +kernel, rfl, by decide +kernel, by decide +kernel⟩
abbrev s_l_good : Stmt := top 25
abbrev N_l_good : List Str := ["_law_rows", "_law_sure", "_law_room", "_law_wait", "_law_last", "_law_piece", "_law_near", "_law_row"]
theorem sc_l_good : FnScope N_l_good ["_law_rows", "_law_sure", "_law_room", "_law_wait"] (defScope s_l_good) := ⟨rfl, rfl, rfl, by decide +kernel, rfl, by decide +kernel, by decide +kernel⟩
abbrev s_law : Stmt := top 26
abbrev N_law : List Str := ["_law_script", "_law_d", "_law_setting_here", "_law_room", "_law_wait", "_law_mouth", "_law_ear", "_law_load", "_law_rows", "_law_here", "_law_sure", "_law_often", "_law_turn", "_law_number", "_law_mark", "_law_piece", "_law_left"]
theorem sc_law : FnScope N_law ["_law_script"] (defScope s_law) := ⟨rfl, rfl, rfl, by decide +kernel, rfl, by decide +kernel, by decide +kernel⟩
end Ak
namespace Ak
open PySem PySem.Spec PyProof.Rows L2
def spCheckMark : Sp := fun vs H Q _ => ∃ k m, vs = [.int k, .int m] ∧ 0 ≤ k ∧ k < m ∧ Q .non H
/-- what is raised as a class of one's own, without __init__ -/
structure RaiseC (K : PySem.W.Frag) (mg : Str → Option Value) (x : Str) (C : Addr) : Prop where
  q : PySem.W.excIn K C [.type "ValueError", .type "Exception", .type "BaseException", .type "object"] "ValueError.__new__" = true
  g : mg x = some (.ref C)
  k : PySem.W.keepIn K (.ref C) = true
  s : PySem.W.subIn K (.ref C) (.type "BaseException") = some true
  t : PySem.W.typeIn K (.ref C) = some (.type "type")
theorem RaiseC.r {X : Cx} {x : Str} {C : Addr} (R : RaiseC X.K X.mg x C) : Raises X (.ref C) := raises_own R.s R.t
/-- the bounds of each number, by its word -/
inductive BoundOf : Str → Int → Int → Prop
  | marks : BoundOf "marks" 2 64
  | wide : BoundOf "wide" 0 16
  | late : BoundOf "late" 0 8
  | ahead : BoundOf "ahead" 1 16
  | room : BoundOf "room" 1 8
  | wait : BoundOf "wait" 1 20
structure BoundsT (K : PySem.W.Frag) (w : World) (mg : Str → Option Value) (b : Addr) : Prop where
  g : mg "BOUNDS" = some (.ref b)
  get : ∀ wd lo hi, BoundOf wd lo hi → ∃ t, KDct K w b wd (.ref t) ∧ ∀ H, SqT K H t [.int lo, .int hi]
theorem bounds_mk {K : PySem.W.Frag} {w : World} {mg : Str → Option Value} {b t1 t2 t3 t4 t5 t6 : Addr} {es : Array DictEntry} {n : Nat} (g : mg "BOUNDS" = some (.ref b))
    (lk : K.lookup b = some { cls := .type "dict", data := .dict es n }) (kl : PySem.W.KeysLit w.params es.toList)
    (n1 : PySem.W.nsIn K b "marks" = some (some (.ref t1))) (n2 : PySem.W.nsIn K b "wide" = some (some (.ref t2))) (n3 : PySem.W.nsIn K b "late" = some (some (.ref t3)))
    (n4 : PySem.W.nsIn K b "ahead" = some (some (.ref t4))) (n5 : PySem.W.nsIn K b "room" = some (some (.ref t5))) (n6 : PySem.W.nsIn K b "wait" = some (some (.ref t6)))
    (s1 : ∀ H, SqT K H t1 [.int 2, .int 64]) (s2 : ∀ H, SqT K H t2 [.int 0, .int 16]) (s3 : ∀ H, SqT K H t3 [.int 0, .int 8])
    (s4 : ∀ H, SqT K H t4 [.int 1, .int 16]) (s5 : ∀ H, SqT K H t5 [.int 1, .int 8]) (s6 : ∀ H, SqT K H t6 [.int 1, .int 20]) : BoundsT K w mg b :=
  ⟨g, fun wd lo hi h => by
    cases h with
    | marks => exact ⟨t1, ⟨es, n, _, lk, kl, n1, rfl⟩, s1⟩
    | wide => exact ⟨t2, ⟨es, n, _, lk, kl, n2, rfl⟩, s2⟩
    | late => exact ⟨t3, ⟨es, n, _, lk, kl, n3, rfl⟩, s3⟩
    | ahead => exact ⟨t4, ⟨es, n, _, lk, kl, n4, rfl⟩, s4⟩
    | room => exact ⟨t5, ⟨es, n, _, lk, kl, n5, rfl⟩, s5⟩
    | wait => exact ⟨t6, ⟨es, n, _, lk, kl, n6, rfl⟩, s6⟩⟩
theorem ix_kd {X : Cx} {K : PySem.W.Frag} {w : World} (h : X.K = K) (hw : X.w = w) : IxR X (rIxD K w) := by
  subst h hw
  exact ix_kdict
def spCheckNumber : Sp := fun vs H Q _ => ∃ wd n lo hi, vs = [.str wd, .int n] ∧ BoundOf wd lo hi ∧ lo ≤ n ∧ n ≤ hi ∧ Q .non H
def spCheckSetting (K : PySem.W.Frag) : Sp := fun vs H Q _ => ∃ q m w l a, vs = [.ref q] ∧ SqT K H q [.int m, .int w, .int l, .int a] ∧ SetOk m w l a ∧ ∀ H', Keep [] H H' → Q .non H'
end Ak

namespace Ak
open PySem PySem.Spec PyProof.Rows L2
/-! ### the ear -/
structure EarT (K : PySem.W.Frag) (C : Addr) : Prop where
  cl : Cls K C
  n1 : NoAttr K C "_marks"
  n2 : NoAttr K C "_wide"
  n3 : NoAttr K C "_late"
  n4 : NoAttr K C "_greatest"
  n5 : NoAttr K C "_came"
abbrev earF (m w l g : Int) (c : Addr) : List (Str × V) := [("_marks", .int m), ("_wide", .int w), ("_late", .int l), ("_greatest", .int g), ("_came", .ref c)]
/-- an ear stands at p -/
def EarAt (C : Addr) (H : Hp) (p c : Addr) (m w l g : Int) (cs : List Int) : Prop := ∃ dx, H p = some (.ins C dx (earF m w l g c)) ∧ H c = some (.lst (cs.map V.int))
theorem EarAt.keep {C : Addr} {S : List Addr} {H H' : Hp} {p c : Addr} {m w l g : Int} {cs : List Int} (x : EarAt C H p c m w l g cs) (k : Keep S H H') (np : p ∉ S) (nc : c ∉ S) : EarAt C H' p c m w l g cs := by
  obtain ⟨dx, h1, h2⟩ := x
  exact ⟨dx, k.1 _ _ np h1, k.1 _ _ nc h2⟩
theorem EarAt.ne {C : Addr} {H : Hp} {p c : Addr} {m w l g : Int} {cs : List Int} (x : EarAt C H p c m w l g cs) : p ≠ c := by
  obtain ⟨dx, h1, h2⟩ := x
  exact ne_of h1 h2 (by intro z; cases z)
/-- what is kept where n has come -/
def keptOf (w g : Int) (cs : List Int) (n : Int) : List Int := (cs ++ [n]).filter fun k => decide (max g n - w ≤ k)
def wordOf (w g : Int) (cs : List Int) (n : Int) : Str := if n < g - w then "old" else if n ∈ cs then "again" else "new"
def numOf (m l g k : Int) : Int := max 0 (g - l) + (k - max 0 (g - l)) % m
def spOldest (C : Addr) : Sp := fun vs H Q _ => ∃ p c m w l g cs, vs = [.ref p] ∧ EarAt C H p c m w l g cs ∧ Q (.int (g - w)) H
def spNumberOf (C : Addr) : Sp := fun vs H Q _ => ∃ p c k m w l g cs, vs = [.ref p, .int k] ∧ EarAt C H p c m w l g cs ∧ 0 < m ∧ Q (.int (numOf m l g k)) H
def spWordOf (C : Addr) : Sp := fun vs H Q _ => ∃ p c n m w l g cs, vs = [.ref p, .int n] ∧ EarAt C H p c m w l g cs ∧ Q (.str (wordOf w g cs n)) H
def spKeep (C : Addr) : Sp := fun vs H Q _ => ∃ p c n m w l g cs, vs = [.ref p, .int n] ∧ EarAt C H p c m w l g cs ∧ cs.length < 1000000 ∧ ∀ c' H', EarAt C H' p c' m w l (max g n) (keptOf w g cs n) → H c' = none → Keep [p] H H' → Q .non H'
def spLast (C : Addr) : Sp := fun vs H Q _ => ∃ p c m w l g cs, vs = [.ref p] ∧ EarAt C H p c m w l g cs ∧ Q (.int g) H
def bitsOf (w g : Int) (cs : List Int) : List V := (List.range w.toNat).map fun (k : Nat) => V.int (if g - (1 + (k : Int)) ∈ cs then 1 else 0)
def spBits (C : Addr) : Sp := fun vs H Q _ => ∃ p c m w l g cs, vs = [.ref p] ∧ EarAt C H p c m w l g cs ∧ 0 ≤ w ∧ w ≤ 16 ∧ ∀ q H', H q = none → H' q = some (.tup (bitsOf w g cs)) → Keep [] H H' → Q (.ref q) H'
def spTell (C CB : Addr) : Sp := fun vs H Q E => ∃ p c m w l g cs, vs = [.ref p] ∧ EarAt C H p c m w l g cs ∧ 0 < m ∧ 0 ≤ w ∧ w ≤ 16 ∧ (g < 0 → E (.ref CB) none H) ∧
  (0 ≤ g → ∀ q b H', H q = none → H b = none → H' q = some (.tup [.int (g % m), .ref b]) → H' b = some (.tup (bitsOf w g cs)) → Keep [] H H' → Q (.ref q) H')
def spCome (C : Addr) : Sp := fun vs H Q _ => ∃ p c k m w l g cs, vs = [.ref p, .int k] ∧ EarAt C H p c m w l g cs ∧ 0 ≤ k ∧ k < m ∧ cs.length < 1000000 ∧
  ∀ q H' n word g' cs' c', n = numOf m l g k → word = wordOf w g cs n → (g', cs') = (if word = "new" then (max g n, keptOf w g cs n) else (g, cs)) → H q = none → H' q = some (.tup [.int n, .str word]) → EarAt C H' p c' m w l g' cs' → c' = c ∨ H c' = none → Keep [p] H H' → Q (.ref q) H'
def spEarInit (K : PySem.W.Frag) (C : Addr) : Sp := fun vs H Q _ => ∃ p q m w l a dx, vs = [.ref p, .ref q] ∧ SqT K H q [.int m, .int w, .int l, .int a] ∧ SetOk m w l a ∧ H p = some (.ins C dx []) ∧
  ∀ c H', EarAt C H' p c m w l (-1) [] → H c = none → Keep [p] H H' → Q .non H'
end Ak

namespace Ak
open PySem PySem.Spec PyProof.Rows L2
/-! ### the mouth -/
structure MouthT (K : PySem.W.Frag) (C : Addr) : Prop where
  cl : Cls K C
  n1 : NoAttr K C "_marks"
  n2 : NoAttr K C "_wide"
  n3 : NoAttr K C "_ahead"
  n4 : NoAttr K C "_last"
  n5 : NoAttr K C "_greatest"
  n6 : NoAttr K C "_sure"
abbrev mouthF (m w a l g : Int) (c : Addr) : List (Str × V) := [("_marks", .int m), ("_wide", .int w), ("_ahead", .int a), ("_last", .int l), ("_greatest", .int g), ("_sure", .ref c)]
/-- a mouth stands at p, its dict at c -/
def MouthAt (C : Addr) (H : Hp) (p c : Addr) (m w a l g : Int) (ks : List Int) : Prop := ∃ dx, H p = some (.ins C dx (mouthF m w a l g c)) ∧ H c = some (.dK (sureD ks))
theorem MouthAt.keep {C : Addr} {S : List Addr} {H H' : Hp} {p c : Addr} {m w a l g : Int} {ks : List Int} (x : MouthAt C H p c m w a l g ks) (k : Keep S H H') (np : p ∉ S) (nc : c ∉ S) : MouthAt C H' p c m w a l g ks := by
  obtain ⟨dx, h1, h2⟩ := x
  exact ⟨dx, k.1 _ _ np h1, k.1 _ _ nc h2⟩
theorem MouthAt.ne {C : Addr} {H : Hp} {p c : Addr} {m w a l g : Int} {ks : List Int} (x : MouthAt C H p c m w a l g ks) : p ≠ c := by
  obtain ⟨dx, h1, h2⟩ := x
  exact ne_of h1 h2 (by intro z; cases z)
def newestOf (m l k : Int) : Int := l - (l - k) % m
/-- what the first i bits tell of -/
def othersOf (n : Int) (bs : List Int) (i : Nat) : List Int := ((List.range i).filter fun j => decide (bs[j]? = some 1)).map fun (j : Nat) => n - (1 + (j : Int))
def allOf (n : Int) (bs : List Int) : List Int := n :: othersOf n bs bs.length
theorem others_yes {n : Int} {bs : List Int} {i : Nat} (h : bs[i]? = some 1) : othersOf n bs (i + 1) = othersOf n bs i ++ [n - (1 + (i : Int))] := by
  unfold othersOf
  rw [List.range_succ, List.filter_append, List.map_append, List.filter_cons, if_pos (decide_eq_true h)]
  rfl
theorem others_no {n : Int} {bs : List Int} {i : Nat} (h : ¬ bs[i]? = some 1) : othersOf n bs (i + 1) = othersOf n bs i := by
  unfold othersOf
  rw [List.range_succ, List.filter_append, List.map_append, List.filter_cons, if_neg (by rw [decide_eq_false h]; exact Bool.false_ne_true)]
  simp
theorem others_len {n : Int} {bs : List Int} {i : Nat} : (othersOf n bs i).length ≤ i := by
  unfold othersOf
  rw [List.length_map]
  exact Nat.le_trans (List.length_filter_le _ _) (by rw [List.length_range]; exact Nat.le_refl _)
theorem others_lt {n x : Int} {bs : List Int} {i : Nat} (h : x ∈ othersOf n bs i) : x < n := by
  obtain ⟨j, _, rfl⟩ := List.mem_map.mp h
  omega
theorem others_nd {n : Int} {bs : List Int} {i : Nat} : (othersOf n bs i).Nodup := by
  unfold othersOf
  refine List.pairwise_map.mpr ((List.nodup_range.filter _).imp fun {a b} h e => h ?_)
  omega
theorem all_nd {n : Int} {bs : List Int} : (allOf n bs).Nodup := List.nodup_cons.mpr ⟨fun m => by have := others_lt m; omega, others_nd⟩
theorem all_le {n x : Int} {bs : List Int} (h : x ∈ allOf n bs) : x ≤ n := by
  rcases List.mem_cons.mp h with rfl | h
  · exact Int.le_refl _
  · exact Int.le_of_lt (others_lt h)
theorem all_len {n : Int} {bs : List Int} : (allOf n bs).length ≤ bs.length + 1 := Nat.succ_le_succ others_len
/-- the least and the greatest of what is sorted -/
theorem srt_first {ns : List Int} (h : ns ≠ []) : ∃ x, atI ((srt ns).map V.int) 0 = some (.int x) ∧ x ∈ ns ∧ ∀ y, y ∈ ns → x ≤ y := by
  have hl : 0 < (srt ns).length := by rw [srt_len]; exact List.length_pos_iff.mpr h
  refine ⟨(srt ns)[0], atI_nat ?_, srt_mem.mp (List.getElem_mem hl), fun y hy => ?_⟩
  · rw [List.getElem?_map, List.getElem?_eq_getElem hl]
    rfl
  · obtain ⟨i, hi, rfl⟩ := List.mem_iff_getElem.mp (srt_mem.mpr hy)
    rcases Nat.eq_zero_or_pos i with rfl | z
    · exact Int.le_refl _
    · exact List.pairwise_iff_getElem.mp (srt_le ns) 0 i hl hi z
theorem srt_last {ns : List Int} (h : ns ≠ []) : ∃ x, atI ((srt ns).map V.int) (-1) = some (.int x) ∧ x ∈ ns ∧ ∀ y, y ∈ ns → y ≤ x := by
  have hl : 0 < (srt ns).length := by rw [srt_len]; exact List.length_pos_iff.mpr h
  refine ⟨(srt ns)[(srt ns).length - 1], atI_last ?_, srt_mem.mp (List.getElem_mem _), fun y hy => ?_⟩
  · rw [List.length_map, List.getElem?_map, List.getElem?_eq_getElem (by omega)]
    rfl
  · obtain ⟨i, hi, rfl⟩ := List.mem_iff_getElem.mp (srt_mem.mpr hy)
    rcases Nat.lt_or_ge i ((srt ns).length - 1) with z | z
    · exact List.pairwise_iff_getElem.mp (srt_le ns) i _ hi (by omega) z
    · have e : i = (srt ns).length - 1 := by omega
      subst e
      exact Int.le_refl _
def Bits (bs : List Int) : Prop := ∀ x, x ∈ bs → x = 0 ∨ x = 1
def spCheckBits (K : PySem.W.Frag) : Sp := fun vs H Q _ => ∃ b bs w, vs = [.ref b, .int w] ∧ SqT K H b (bs.map V.int) ∧ (bs.length : Int) = w ∧ Bits bs ∧ bs.length ≤ 16 ∧ ∀ H', Keep [] H H' → Q .non H'
def spCheckTelling (K : PySem.W.Frag) : Sp := fun vs H Q _ => ∃ q b k bs m w, vs = [.ref q, .int m, .int w] ∧ SqT K H q [.int k, .ref b] ∧ SqT K H b (bs.map V.int) ∧ 0 ≤ k ∧ k < m ∧ (bs.length : Int) = w ∧ Bits bs ∧ bs.length ≤ 16 ∧ ∀ H', Keep [] H H' → Q .non H'
def spMouthInit (K : PySem.W.Frag) (C : Addr) : Sp := fun vs H Q _ => ∃ p q m w l a dx, vs = [.ref p, .ref q] ∧ SqT K H q [.int m, .int w, .int l, .int a] ∧ SetOk m w l a ∧ H p = some (.ins C dx []) ∧
  ∀ c H', MouthAt C H' p c m w a (-1) (-1) [] → H c = none → Keep [p] H H' → Q .non H'
def spIsFull (C : Addr) : Sp := fun vs H Q _ => ∃ p c m w a l g ks, vs = [.ref p] ∧ MouthAt C H p c m w a l g ks ∧ Q (.bl (decide (g + a < l + 1))) H
def spMLast (C : Addr) : Sp := fun vs H Q _ => ∃ p c m w a l g ks, vs = [.ref p] ∧ MouthAt C H p c m w a l g ks ∧ Q (.int l) H
def spSure (C : Addr) : Sp := fun vs H Q _ => ∃ p c m w a l g ks, vs = [.ref p] ∧ MouthAt C H p c m w a l g ks ∧ ∀ f H', H f = none → H' f = some (.lst ((srt ks).map V.int)) → Keep [] H H' → Q (.ref f) H'
def spSend (C CF : Addr) : Sp := fun vs H Q E => ∃ p c m w a l g ks, vs = [.ref p] ∧ MouthAt C H p c m w a l g ks ∧ 0 < m ∧ -1 ≤ l ∧ l < 1000000 ∧ (g + a < l + 1 → E (.ref CF) none H) ∧
  (¬ g + a < l + 1 → ∀ t H', H t = none → H' t = some (.tup [.int (l + 1), .int ((l + 1) % m)]) → MouthAt C H' p c m w a (l + 1) g ks → Keep [p] H H' → Q (.ref t) H')
def spNumbers (K : PySem.W.Frag) (C : Addr) : Sp := fun vs H Q _ => ∃ p c q b m w a l g ks k bs, vs = [.ref p, .ref q] ∧ MouthAt C H p c m w a l g ks ∧ SqT K H q [.int k, .ref b] ∧ SqT K H b (bs.map V.int) ∧ 0 < m ∧ bs.length ≤ 16 ∧
  ∀ f H', H f = none → H' f = some (.lst ((srt (allOf (newestOf m l k) bs)).map V.int)) → Keep [] H H' → Q (.ref f) H'
def foundOf (n : Int) (bs ks : List Int) : List Int := (srt (allOf n bs)).filter fun x => !decide (x ∈ ks)
def spHear (K : PySem.W.Frag) (C CB : Addr) : Sp := fun vs H Q E => ∃ p c q b m w a l g ks k bs, vs = [.ref p, .ref q] ∧ MouthAt C H p c m w a l g ks ∧ SqT K H q [.int k, .ref b] ∧ SqT K H b (bs.map V.int) ∧ 0 ≤ k ∧ k < m ∧ (bs.length : Int) = w ∧ Bits bs ∧ bs.length ≤ 16 ∧ ks.length < 1000000 ∧
  ((∃ x, x ∈ allOf (newestOf m l k) bs ∧ x < 0) → ∀ H', Keep [] H H' → E (.ref CB) none H') ∧
  ((∀ x, x ∈ allOf (newestOf m l k) bs → 0 ≤ x) → ∀ f H', H f = none → H' f = some (.lst ((foundOf (newestOf m l k) bs ks).map V.int)) → MouthAt C H' p c m w a l (max g (newestOf m l k)) (ks ++ foundOf (newestOf m l k) bs ks) → Keep [p, c] H H' → Q (.ref f) H')
end Ak

namespace Ak
open PySem PySem.Spec PyProof.Rows L2
/-! ### a load -/
abbrev loadF (room wait many : Int) (ls la : Addr) : List (Str × V) := [("_room", .int room), ("_wait", .int wait), ("_many", .int many), ("_letters", .ref ls), ("_latest", .ref la)]
structure LoadT (K : PySem.W.Frag) (C : Addr) : Prop where
  c : Cls K C
  n1 : NoAttr K C "_room"
  n2 : NoAttr K C "_wait"
  n3 : NoAttr K C "_many"
  n4 : NoAttr K C "_letters"
  n5 : NoAttr K C "_latest"
/-- the letters that p was put into -/
def inRows (rows : List (List Int)) (p : Int) : List Nat := (List.range rows.length).filter fun k => decide (p ∈ rows.getD k [])
def lastIn (rows : List (List Int)) (p : Int) : Option Nat := (inRows rows p).getLast?
def lastV (rows : List (List Int)) (p : Int) : V := match lastIn rows p with
  | none => .non
  | some k => .int (k : Nat)
def openL (many : Nat) (sure : List Int) : List Int := (upTo many).filter fun p => !decide (p ∈ sure)
def readyB (rows : List (List Int)) (wait k p : Int) : Bool := match lastIn rows p with
  | none => true
  | some j => decide (wait ≤ k - (j : Nat))
def fillOf (room wait : Int) (many : Nat) (rows : List (List Int)) (sure : List Int) : List Int := ((upTo many).filter fun p => !decide (p ∈ sure) && readyB rows wait rows.length p).take room.toNat
def freeOf (rows : List (List Int)) (sure : List Int) (k : Int) : List Int := if k < 0 ∨ (rows.length : Int) ≤ k then [] else (rows.getD k.toNat []).filter fun p => !decide (p ∈ sure)
def cameOf (rows : List (List Int)) (sure : List Int) (ks : List Int) : List Int := ks.foldl (fun acc k => acc ++ freeOf rows (sure ++ acc) k) []
theorem inRows_app {rows : List (List Int)} {r : List Int} {p : Int} : inRows (rows ++ [r]) p = inRows rows p ++ if p ∈ r then [rows.length] else [] := by
  unfold inRows
  rw [List.length_append, List.length_singleton, List.range_succ, List.filter_append]
  congr 1
  · refine List.filter_congr fun k hk => ?_
    have hl := List.mem_range.mp hk
    rw [List.getD_eq_getElem?_getD, List.getD_eq_getElem?_getD, List.getElem?_append_left hl]
  · rw [List.filter_cons, List.filter_nil, List.getD_eq_getElem?_getD, List.getElem?_append_right (Nat.le_refl _), Nat.sub_self]
    by_cases h : p ∈ r
    · rw [if_pos h, if_pos]
      exact decide_eq_true h
    · rw [if_neg h, if_neg]
      exact fun z => h (of_decide_eq_true z)
theorem lastIn_app {rows : List (List Int)} {r : List Int} {p : Int} : lastIn (rows ++ [r]) p = if p ∈ r then some rows.length else lastIn rows p := by
  unfold lastIn
  rw [inRows_app]
  by_cases h : p ∈ r
  · rw [if_pos h, if_pos h]
    simp
  · rw [if_neg h, if_neg h, List.append_nil]
theorem lastV_app {rows : List (List Int)} {r : List Int} {p : Int} : lastV (rows ++ [r]) p = if p ∈ r then .int (rows.length : Nat) else lastV rows p := by
  unfold lastV
  rw [lastIn_app]
  by_cases h : p ∈ r
  · rw [if_pos h, if_pos h]
  · rw [if_neg h, if_neg h]
theorem lastIn_none {rows : List (List Int)} {p : Int} (h : ∀ r, r ∈ rows → p ∉ r) : lastIn rows p = none := by
  unfold lastIn inRows
  have : ((List.range rows.length).filter fun k => decide (p ∈ rows.getD k [])) = [] := by
    rw [List.filter_eq_nil_iff]
    intro k hk z
    have hl := List.mem_range.mp hk
    have z2 := of_decide_eq_true z
    rw [List.getD_eq_getElem?_getD, List.getElem?_eq_getElem hl] at z2
    exact h _ (List.getElem_mem hl) z2
  rw [this]
  rfl
theorem openL_mem {many : Nat} {sure : List Int} {p : Int} : p ∈ openL many sure ↔ (0 ≤ p ∧ p < many) ∧ p ∉ sure := by
  unfold openL
  rw [List.mem_filter, upTo_mem]
  by_cases h : p ∈ sure
  · rw [decide_eq_true h]; simp [h]
  · rw [decide_eq_false h]; simp [h]
theorem openL_srt {many : Nat} {sure : List Int} : srt (openL many sure) = openL many sure := upTo_srt
theorem openL_len {many : Nat} {sure : List Int} : (openL many sure).length ≤ many := by
  unfold openL
  exact Nat.le_trans (List.length_filter_le _ _) (by rw [upTo_len]; exact Nat.le_refl _)
theorem openL_succ {many : Nat} {sure : List Int} (h : (many : Int) ∉ sure) : openL (many + 1) sure = openL many sure ++ [(many : Int)] := by
  unfold openL
  rw [upTo_succ, List.filter_append]
  congr 1
  rw [List.filter_cons, if_pos (by rw [decide_eq_false h]; rfl)]
  rfl
theorem fillOf_eq {room wait : Int} {many : Nat} {rows : List (List Int)} {sure : List Int} : fillOf room wait many rows sure = ((openL many sure).filter (readyB rows wait rows.length)).take room.toNat := by
  unfold fillOf openL
  rw [List.filter_filter]
  congr 1
  refine List.filter_congr fun x _ => ?_
  rw [Bool.and_comm]
theorem fillOf_mem {room wait : Int} {many : Nat} {rows : List (List Int)} {sure : List Int} {p : Int} (h : p ∈ fillOf room wait many rows sure) : p ∈ openL many sure := by
  rw [fillOf_eq] at h
  exact (List.mem_filter.mp (List.mem_of_mem_take h)).1
theorem fillOf_len {room wait : Int} {many : Nat} {rows : List (List Int)} {sure : List Int} : (fillOf room wait many rows sure).length ≤ room.toNat := by
  unfold fillOf
  rw [List.length_take]
  exact Nat.min_le_left _ _
theorem fillOf_nd {room wait : Int} {many : Nat} {rows : List (List Int)} {sure : List Int} : (fillOf room wait many rows sure).Nodup := by
  unfold fillOf
  exact (((upTo_lt many).filter _).imp (fun {a b} h => Int.ne_of_lt h)).sublist (List.take_sublist _ _)
theorem openL_app {many : Nat} {sure xs : List Int} : openL many (sure ++ xs) = (openL many sure).filter fun p => !decide (p ∈ xs) := by
  unfold openL
  rw [List.filter_filter]
  refine List.filter_congr fun x _ => ?_
  by_cases h : x ∈ sure
  · rw [decide_eq_true h, decide_eq_true (List.mem_append.mpr (Or.inl h))]; simp
  · by_cases h2 : x ∈ xs
    · rw [decide_eq_false h, decide_eq_true h2, decide_eq_true (List.mem_append.mpr (Or.inr h2))]; rfl
    · rw [decide_eq_false h, decide_eq_false h2, decide_eq_false (fun z => (List.mem_append.mp z).elim h h2)]; rfl
/-- the letters' tuples -/
inductive RowsAt (H : Hp) : List Addr → List (List Int) → Prop
  | nil : RowsAt H [] []
  | cons {t : Addr} {r : List Int} {ts : List Addr} {rows : List (List Int)} (h : H t = some (.tup (r.map V.int))) (x : RowsAt H ts rows) : RowsAt H (t :: ts) (r :: rows)
section
variable {H H' : Hp} {ts : List Addr} {rows : List (List Int)} {S : List Addr}
theorem RowsAt.len (x : RowsAt H ts rows) : ts.length = rows.length := by
  induction x with
  | nil => rfl
  | cons _ _ ih => rw [List.length_cons, List.length_cons, ih]
theorem RowsAt.at (x : RowsAt H ts rows) : ∀ {k : Nat}, k < rows.length → ∃ t, ts[k]? = some t ∧ H t = some (.tup ((rows.getD k []).map V.int)) := by
  induction x with
  | nil => intro k h; exact absurd h (Nat.not_lt_zero _)
  | cons h x ih =>
    intro k hk
    match k, hk with
    | 0, _ => exact ⟨_, rfl, h⟩
    | k + 1, hk =>
      obtain ⟨t, e1, e2⟩ := ih (k := k) (by rw [List.length_cons] at hk; omega)
      exact ⟨t, by simpa using e1, by simpa using e2⟩
theorem RowsAt.keepX (x : RowsAt H ts rows) (k : ∀ a o, a ∉ S → H a = some o → (∀ ps, o ≠ .tbl ps) → H' a = some o) (n : ∀ a, a ∈ ts → a ∉ S) : RowsAt H' ts rows := by
  induction x with
  | nil => exact .nil
  | cons h x ih => exact .cons (k _ _ (n _ List.mem_cons_self) h (fun _ z => by cases z)) (ih fun a ha => n a (List.mem_cons_of_mem _ ha))
theorem RowsAt.keepT (x : RowsAt H ts rows) (k : Keep S H H') (nt : ∀ b, b ∈ S → ∀ xs, H b ≠ some (.tup xs)) : RowsAt H' ts rows := by
  induction x with
  | nil => exact .nil
  | cons h x ih => exact .cons (k.1 _ _ (fun m => nt _ m _ h) h) ih
theorem RowsAt.add (x : RowsAt H ts rows) {t : Addr} {r : List Int} (h : H t = some (.tup (r.map V.int))) : RowsAt H (ts ++ [t]) (rows ++ [r]) := by
  induction x with
  | nil => exact .cons h .nil
  | cons h2 x ih => exact .cons h2 ih
theorem RowsAt.live (x : RowsAt H ts rows) : ∀ a, a ∈ ts → ∃ xs, H a = some (.tup xs) := by
  induction x with
  | nil => intro a h; exact absurd h List.not_mem_nil
  | cons h x ih =>
    intro a ha
    rcases List.mem_cons.mp ha with rfl | ha
    · exact ⟨_, h⟩
    · exact ih a ha
end
/-- what the letters hold are pieces that were put; what is sure too -/
structure Good (many : Nat) (rows : List (List Int)) (sure : List Int) : Prop where
  r : ∀ r, r ∈ rows → ∀ p, p ∈ r → 0 ≤ p ∧ p < many
  n : ∀ r, r ∈ rows → r.length ≤ 8
  d : ∀ r, r ∈ rows → r.Nodup
  s : ∀ p, p ∈ sure → 0 ≤ p ∧ p < many
structure LoadAt (C : Addr) (H : Hp) (p ls la : Addr) (ts : List Addr) (room wait : Int) (many : Nat) (rows : List (List Int)) (sure : List Int) : Prop where
  i : ∃ dx, H p = some (.ins C dx (loadF room wait many ls la))
  l : H ls = some (.lst (ts.map V.ref))
  t : RowsAt H ts rows
  d : H la = some (.dK (dOf (openL many sure) (lastV rows)))
  g : Good many rows sure
section
variable {C : Addr} {H H' : Hp} {p ls la : Addr} {ts : List Addr} {room wait : Int} {many : Nat} {rows : List (List Int)} {sure : List Int}
theorem LoadAt.keepX {S : List Addr} (x : LoadAt C H p ls la ts room wait many rows sure) (k : ∀ a o, a ∉ S → H a = some o → (∀ ps, o ≠ .tbl ps) → H' a = some o) (n : ∀ a, a ∈ p :: ls :: la :: ts → a ∉ S) : LoadAt C H' p ls la ts room wait many rows sure := by
  obtain ⟨⟨dx, hp⟩, hl, ht, hd, g⟩ := x
  exact ⟨⟨dx, k _ _ (n _ List.mem_cons_self) hp (fun _ z => by cases z)⟩, k _ _ (n _ (List.mem_cons_of_mem _ List.mem_cons_self)) hl (fun _ z => by cases z),
    ht.keepX k fun a ha => n a (List.mem_cons_of_mem _ (List.mem_cons_of_mem _ (List.mem_cons_of_mem _ ha))), k _ _ (n _ (List.mem_cons_of_mem _ (List.mem_cons_of_mem _ List.mem_cons_self))) hd (fun _ z => by cases z), g⟩
theorem LoadAt.keep (x : LoadAt C H p ls la ts room wait many rows sure) (k : Keep [] H H') : LoadAt C H' p ls la ts room wait many rows sure := x.keepX (S := []) (fun a o n h _ => k.1 a o n h) fun _ _ => nin_nil
end
theorem freeOf_mem {rows : List (List Int)} {sure : List Int} {k p : Int} (h : p ∈ freeOf rows sure k) : (∃ r, r ∈ rows ∧ p ∈ r) ∧ p ∉ sure := by
  unfold freeOf at h
  split at h
  · exact absurd h List.not_mem_nil
  · rename_i c
    have hk : k.toNat < rows.length := by omega
    obtain ⟨h1, h2⟩ := List.mem_filter.mp h
    rw [List.getD_eq_getElem?_getD, List.getElem?_eq_getElem hk] at h1
    refine ⟨⟨_, List.getElem_mem hk, h1⟩, fun z => ?_⟩
    rw [decide_eq_true z] at h2
    cases h2
theorem freeOf_len {many : Nat} {rows : List (List Int)} {sure sure' : List Int} {k : Int} (g : Good many rows sure') : (freeOf rows sure k).length ≤ 8 := by
  unfold freeOf
  split
  · exact Nat.zero_le _
  · rename_i c
    have hk : k.toNat < rows.length := by omega
    rw [List.getD_eq_getElem?_getD, List.getElem?_eq_getElem hk]
    exact Nat.le_trans (List.length_filter_le _ _) (g.n _ (List.getElem_mem hk))
theorem Good.free {many : Nat} {rows : List (List Int)} {sure : List Int} {k : Int} (g : Good many rows sure) : Good many rows (sure ++ freeOf rows sure k) := ⟨g.r, g.n, g.d, fun p hp => by
  rcases List.mem_append.mp hp with h | h
  · exact g.s p h
  · obtain ⟨⟨r, hr, hpr⟩, _⟩ := freeOf_mem h
    exact g.r r hr p hpr⟩
theorem cameOf_app {rows : List (List Int)} {sure ks : List Int} {k : Int} : cameOf rows sure (ks ++ [k]) = cameOf rows sure ks ++ freeOf rows (sure ++ cameOf rows sure ks) k := by
  unfold cameOf
  rw [List.foldl_append]
  rfl
theorem cameOf_take {rows : List (List Int)} {sure ks : List Int} {i : Nat} {k : Int} (h : ks[i]? = some k) : cameOf rows sure (ks.take (i + 1)) = cameOf rows sure (ks.take i) ++ freeOf rows (sure ++ cameOf rows sure (ks.take i)) k := by
  rw [take_at h, cameOf_app]
def spLoadInit (C : Addr) : Sp := fun vs H Q _ => ∃ p room wait dx, vs = [.ref p, .int room, .int wait] ∧ 1 ≤ room ∧ room ≤ 8 ∧ 1 ≤ wait ∧ wait ≤ 20 ∧ H p = some (.ins C dx []) ∧
  ∀ ls la H', H ls = none → H la = none → ls ≠ la → LoadAt C H' p ls la [] room wait 0 [] [] → Keep [p] H H' → Q .non H'
def spPut (C : Addr) : Sp := fun vs H Q _ => ∃ p ls la ts room wait many rows sure, vs = [.ref p] ∧ LoadAt C H p ls la ts room wait many rows sure ∧ many < 1000000 ∧
  ∀ H', LoadAt C H' p ls la ts room wait (many + 1) rows sure → Keep [p, la] H H' → Q (.int (many : Nat)) H'
def spWaits (C : Addr) : Sp := fun vs H Q _ => ∃ p ls la ts room wait many rows sure, vs = [.ref p] ∧ LoadAt C H p ls la ts room wait many rows sure ∧
  ∀ f H', H f = none → H' f = some (.lst ((openL many sure).map V.int)) → Keep [] H H' → Q (.ref f) H'
def spReady (C : Addr) : Sp := fun vs H Q _ => ∃ p ls la ts room wait many rows sure x k, vs = [.ref p, .int x, .int k] ∧ LoadAt C H p ls la ts room wait many rows sure ∧ x ∈ openL many sure ∧ Q (.bl (readyB rows wait k x)) H
def spFill (C : Addr) : Sp := fun vs H Q _ => ∃ p ls la ts room wait many rows sure, vs = [.ref p] ∧ LoadAt C H p ls la ts room wait many rows sure ∧ many < 1000000 ∧ rows.length < 1000000 ∧ 1 ≤ room ∧ room ≤ 8 ∧
  ∀ t H', H t = none → H' t = some (.tup ((fillOf room wait many rows sure).map V.int)) → LoadAt C H' p ls la (ts ++ [t]) room wait many (rows ++ [fillOf room wait many rows sure]) sure → Keep [ls, la] H H' → Q (.ref t) H'
def spFree (C : Addr) : Sp := fun vs H Q _ => ∃ p ls la ts room wait many rows sure k, vs = [.ref p, .int k] ∧ LoadAt C H p ls la ts room wait many rows sure ∧ many < 1000000 ∧
  ∀ f H', H f = none → H' f = some (.lst ((freeOf rows sure k).map V.int)) → LoadAt C H' p ls la ts room wait many rows (sure ++ freeOf rows sure k) → Keep [la] H H' → Q (.ref f) H'
def spCame (K : PySem.W.Frag) (C : Addr) : Sp := fun vs H Q _ => ∃ p ls la ts room wait many rows sure b ks, vs = [.ref p, .ref b] ∧ LoadAt C H p ls la ts room wait many rows sure ∧ many < 1000000 ∧ SqL K H b (ks.map V.int) ∧ b ≠ la ∧ ks.length ≤ 1000 ∧
  ∀ f H', H f = none → H' f = some (.lst ((srt (cameOf rows sure ks)).map V.int)) → LoadAt C H' p ls la ts room wait many rows (sure ++ cameOf rows sure ks) → Keep [la] H H' → Q (.ref f) H'
end Ak

namespace Ak
open PySem PySem.Spec PyProof.Rows L2
/-! ### numbers -/
def bitsI (w g : Int) (K : List Int) : List Int := (List.range w.toNat).map fun (k : Nat) => if g - (1 + (k : Int)) ∈ K then 1 else 0
theorem bitsI_map {w g : Int} {K : List Int} : (bitsI w g K).map V.int = bitsOf w g K := by
  unfold bitsI bitsOf
  rw [List.map_map]
  rfl
theorem bitsI_len {w g : Int} {K : List Int} : (bitsI w g K).length = w.toNat := by unfold bitsI; rw [List.length_map, List.length_range]
theorem bitsI_bits {w g : Int} {K : List Int} : Bits (bitsI w g K) := fun x hx => by
  obtain ⟨k, _, rfl⟩ := List.mem_map.mp hx
  split
  · exact Or.inr rfl
  · exact Or.inl rfl
theorem bitsI_at {w g : Int} {K : List Int} {j : Nat} (h : (bitsI w g K)[j]? = some 1) : g - (1 + (j : Int)) ∈ K := by
  unfold bitsI at h
  rw [List.getElem?_map] at h
  cases e : (List.range w.toNat)[j]? with
  | none => rw [e] at h; cases h
  | some k =>
    obtain ⟨hj, ek⟩ := List.getElem?_eq_some_iff.mp e
    rw [List.getElem_range] at ek
    rw [e] at h
    have h2 : (if g - (1 + (k : Int)) ∈ K then (1 : Int) else 0) = 1 := Option.some.inj h
    by_cases z : g - (1 + (k : Int)) ∈ K
    · rw [ek]; exact z
    · rw [if_neg z] at h2
      cases h2
theorem others_mem {n x : Int} {bs : List Int} (h : x ∈ othersOf n bs bs.length) : ∃ j : Nat, bs[j]? = some 1 ∧ x = n - (1 + (j : Int)) := by
  unfold othersOf at h
  obtain ⟨j, hj, rfl⟩ := List.mem_map.mp h
  exact ⟨j, of_decide_eq_true (List.mem_filter.mp hj).2, rfl⟩
theorem numOf_self {m late g n : Int} (m0 : 0 < m) (h0 : 0 ≤ n) (h1 : g - late ≤ n) (h2 : n < max 0 (g - late) + m) : numOf m late g (n % m) = n := by
  unfold numOf
  have e : (n % m - max 0 (g - late)) % m = (n - max 0 (g - late)) % m := by rw [Int.sub_emod, Int.emod_emod, ← Int.sub_emod]
  rw [e, Int.emod_eq_of_lt (by omega) (by omega)]
  omega
theorem newest_self {m l g : Int} (m0 : 0 < m) (h0 : g ≤ l) (h1 : l < g + m) : newestOf m l (g % m) = g := by
  unfold newestOf
  have e : (l - g % m) % m = (l - g) % m := by rw [Int.sub_emod, Int.emod_emod, ← Int.sub_emod]
  rw [e, Int.emod_eq_of_lt (by omega) (by omega)]
  omega
theorem found_mem {n x : Int} {bs ks : List Int} (h : x ∈ foundOf n bs ks) : x ∈ allOf n bs ∧ x ∉ ks := by
  have h2 := List.mem_filter.mp h
  refine ⟨srt_mem.mp h2.1, fun z => ?_⟩
  have := h2.2
  rw [decide_eq_true z] at this
  cases this
theorem found_in {n x : Int} {bs ks : List Int} (h : x ∈ allOf n bs) (nk : x ∉ ks) : x ∈ foundOf n bs ks := List.mem_filter.mpr ⟨srt_mem.mpr h, by rw [decide_eq_false nk]; rfl⟩
theorem found_len {n : Int} {bs ks : List Int} (h : bs.length ≤ 16) : (foundOf n bs ks).length ≤ 17 := by
  have e := List.length_filter_le (fun x => !decide (x ∈ ks)) (srt (allOf n bs))
  have e2 := all_len (n := n) (bs := bs)
  rw [srt_len] at e
  unfold foundOf
  omega
theorem kept_len {w g : Int} {cs : List Int} {n : Int} : (keptOf w g cs n).length ≤ cs.length + 1 := by
  unfold keptOf
  have := List.length_filter_le (fun k => decide (max g n - w ≤ k)) (cs ++ [n])
  rw [List.length_append, List.length_singleton] at this
  exact this
theorem kept_mem {w g n x : Int} {cs : List Int} (h : x ∈ keptOf w g cs n) : x ∈ cs ∨ x = n := by
  unfold keptOf at h
  exact (List.mem_append.mp (List.mem_filter.mp h).1).imp id List.mem_singleton.mp
/-! ### what is freed -/
theorem free_iff {rows : List (List Int)} {sure : List Int} {k p : Int} : p ∈ freeOf rows sure k ↔ (0 ≤ k ∧ k < rows.length) ∧ p ∈ rows.getD k.toNat [] ∧ p ∉ sure := by
  unfold freeOf
  by_cases c : k < 0 ∨ (rows.length : Int) ≤ k
  · rw [if_pos c]
    exact ⟨fun h => absurd h List.not_mem_nil, fun h => by omega⟩
  · rw [if_neg c, List.mem_filter]
    constructor
    · rintro ⟨h1, h2⟩
      refine ⟨by omega, h1, fun z => ?_⟩
      rw [decide_eq_true z] at h2
      cases h2
    · rintro ⟨_, h1, h2⟩
      exact ⟨h1, by rw [decide_eq_false h2]; rfl⟩
theorem came_acc {rows : List (List Int)} {sure : List Int} : ∀ {ks acc : List Int}, ks.foldl (fun acc k => acc ++ freeOf rows (sure ++ acc) k) acc = acc ++ cameOf rows (sure ++ acc) ks := by
  intro ks
  induction ks generalizing sure with
  | nil => intro acc; exact (List.append_nil _).symm
  | cons k r ih =>
    intro acc
    unfold cameOf
    rw [List.foldl_cons, List.foldl_cons, ih, List.nil_append, List.append_nil]
    have e := ih (sure := sure ++ acc) (acc := freeOf rows (sure ++ acc) k)
    rw [e, List.append_assoc, List.append_assoc]
theorem came_cons {rows : List (List Int)} {sure ks : List Int} {k : Int} : cameOf rows sure (k :: ks) = freeOf rows sure k ++ cameOf rows (sure ++ freeOf rows sure k) ks := by
  conv => lhs; unfold cameOf
  rw [List.foldl_cons, came_acc, List.nil_append, List.append_nil]
theorem came_mem {rows : List (List Int)} : ∀ {ks sure : List Int} {p : Int}, p ∈ cameOf rows sure ks → (∃ k, k ∈ ks ∧ (0 ≤ k ∧ k < rows.length) ∧ p ∈ rows.getD k.toNat []) ∧ p ∉ sure := by
  intro ks
  induction ks with
  | nil => intro sure p h; exact absurd h List.not_mem_nil
  | cons k r ih =>
    intro sure p h
    rw [came_cons] at h
    rcases List.mem_append.mp h with h | h
    · obtain ⟨h1, h2, h3⟩ := free_iff.mp h
      exact ⟨⟨k, List.mem_cons_self, h1, h2⟩, h3⟩
    · obtain ⟨⟨j, hj, h1, h2⟩, h3⟩ := ih h
      exact ⟨⟨j, List.mem_cons_of_mem _ hj, h1, h2⟩, fun z => h3 (List.mem_append.mpr (Or.inl z))⟩
theorem came_all {rows : List (List Int)} : ∀ {ks sure : List Int} {k p : Int}, k ∈ ks → 0 ≤ k → k < rows.length → p ∈ rows.getD k.toNat [] → p ∈ sure ++ cameOf rows sure ks := by
  intro ks
  induction ks with
  | nil => intro sure k p h; exact absurd h List.not_mem_nil
  | cons j r ih =>
    intro sure k p h h0 h1 hp
    rw [came_cons, ← List.append_assoc]
    rcases List.mem_cons.mp h with rfl | h
    · refine List.mem_append.mpr (Or.inl ?_)
      by_cases z : p ∈ sure
      · exact List.mem_append.mpr (Or.inl z)
      · exact List.mem_append.mpr (Or.inr (free_iff.mpr ⟨⟨h0, h1⟩, hp, z⟩))
    · exact ih h h0 h1 hp
theorem came_nd {rows : List (List Int)} (hr : ∀ r, r ∈ rows → r.Nodup) : ∀ {ks sure : List Int}, (cameOf rows sure ks).Nodup := by
  intro ks
  induction ks with
  | nil => intro sure; exact List.nodup_nil
  | cons k r ih =>
    intro sure
    rw [came_cons]
    refine List.nodup_append.mpr ⟨?_, ih, fun a ha b hb e => ?_⟩
    · unfold freeOf
      split
      · exact List.nodup_nil
      · rename_i c
        have hk : k.toNat < rows.length := by omega
        rw [List.getD_eq_getElem?_getD, List.getElem?_eq_getElem hk]
        exact (hr _ (List.getElem_mem hk)).filter _
    · exact (came_mem hb).2 (List.mem_append.mpr (Or.inr (e ▸ ha)))
/-! ### what is put into a letter -/
theorem lastIn_ge {rows : List (List Int)} {p : Int} {j : Nat} (hj : j < rows.length) (h : p ∈ rows.getD j []) : ∃ i, lastIn rows p = some i ∧ j ≤ i := by
  unfold lastIn
  have hm : j ∈ inRows rows p := List.mem_filter.mpr ⟨List.mem_range.mpr hj, decide_eq_true h⟩
  have hs : (inRows rows p).Pairwise (· < ·) := List.pairwise_lt_range.filter _
  generalize inRows rows p = L at hm hs
  cases L with
  | nil => exact absurd hm List.not_mem_nil
  | cons x r =>
    refine ⟨(x :: r).getLast (List.cons_ne_nil _ _), List.getLast?_eq_some_getLast (List.cons_ne_nil _ _), ?_⟩
    obtain ⟨i, hi, rfl⟩ := List.mem_iff_getElem.mp hm
    rw [List.getLast_eq_getElem]
    rcases Nat.lt_or_ge i ((x :: r).length - 1) with z | z
    · exact Nat.le_of_lt (List.pairwise_iff_getElem.mp hs i _ hi (by omega) z)
    · have e : i = (x :: r).length - 1 := by omega
      subst e
      exact Nat.le_refl _
theorem lastIn_in {rows : List (List Int)} {p : Int} {i : Nat} (h : lastIn rows p = some i) : i < rows.length ∧ p ∈ rows.getD i [] := by
  unfold lastIn at h
  have hm := List.mem_of_getLast? h
  obtain ⟨h1, h2⟩ := List.mem_filter.mp hm
  exact ⟨List.mem_range.mp h1, of_decide_eq_true h2⟩
theorem fill_ready {room wait : Int} {many : Nat} {rows : List (List Int)} {sure : List Int} {p : Int} (h : p ∈ fillOf room wait many rows sure) : readyB rows wait rows.length p = true := by
  rw [fillOf_eq] at h
  exact (List.mem_filter.mp (List.mem_of_mem_take h)).2
/-- none of the near letters has it -/
theorem fill_near {room wait : Int} {many : Nat} {rows : List (List Int)} {sure : List Int} {p : Int} {j : Nat} (h : p ∈ fillOf room wait many rows sure) (h1 : (rows.length : Int) + 1 - wait ≤ j) (h2 : j < rows.length) : p ∉ rows.getD j [] := fun z => by
  have r := fill_ready h
  obtain ⟨i, e, hi⟩ := lastIn_ge h2 z
  unfold readyB at r
  rw [e] at r
  have := of_decide_eq_true r
  omega
/-- all that is open is ready, where none of it was in a letter from n0 on -/
theorem fill_all {room wait : Int} {many n0 : Nat} {rows : List (List Int)} {sure : List Int} (ho : ∀ p, p ∈ openL many sure → ∀ j : Nat, n0 ≤ j → j < rows.length → p ∉ rows.getD j []) (hw : (n0 : Int) + wait ≤ rows.length + 1) : fillOf room wait many rows sure = (openL many sure).take room.toNat := by
  rw [fillOf_eq]
  congr 1
  rw [List.filter_eq_self]
  intro p hp
  unfold readyB
  cases e : lastIn rows p with
  | none => rfl
  | some i =>
    obtain ⟨h1, h2⟩ := lastIn_in e
    have : i < n0 := by
      rcases Nat.lt_or_ge i n0 with z | z
      · exact z
      · exact absurd h2 (ho p hp i z h1)
    exact decide_eq_true (by omega)
theorem filter_lt {α : Type} {p : α → Bool} {x : α} : ∀ {xs : List α}, x ∈ xs → p x = false → (xs.filter p).length + 1 ≤ xs.length := by
  intro xs
  induction xs with
  | nil => intro h; exact absurd h List.not_mem_nil
  | cons y r ih =>
    intro h hp
    rcases List.mem_cons.mp h with rfl | h
    · rw [List.filter_cons, if_neg (by rw [hp]; exact Bool.false_ne_true), List.length_cons]
      have := List.length_filter_le p r
      omega
    · have := ih h hp
      rw [List.filter_cons]
      split
      · rw [List.length_cons, List.length_cons]; omega
      · rw [List.length_cons]; omega
/-! ### the state by numbers -/
structure PS where
  l : Int
  mg : Int
  g : Int
  K : List Int
  cs : List Int
  ks : List Int
  many : Nat
  rows : List (List Int)
  sure : List Int
def ps0 : PS := ⟨-1, -1, -1, [], [], [], 0, [], []⟩
structure PInv (m w late ah : Int) (s : PS) (n : Nat) : Prop where
  l0 : s.l + 1 = s.rows.length
  g0 : -1 ≤ s.g
  g1 : s.g ≤ s.l
  m0 : -1 ≤ s.mg
  g2 : s.mg ≤ s.g
  la : s.l ≤ s.mg + ah
  kg : ∀ x, x ∈ s.K → 0 ≤ x ∧ x ≤ s.g
  gk : 0 ≤ s.g → s.g ∈ s.K
  ck : ∀ x, x ∈ s.cs → x ∈ s.K
  ks : ∀ x, x ∈ s.ks → x ∈ s.K
  nc : s.cs.length ≤ n
  nk : s.ks.length ≤ 17 * n
  nm : s.many ≤ n
  nr : s.rows.length ≤ n
theorem PInv.init {m w late ah : Int} (a0 : 0 ≤ ah) : PInv m w late ah ps0 0 := ⟨rfl, Int.le_refl _, Int.le_refl _, Int.le_refl _, Int.le_refl _, by show (-1 : Int) ≤ -1 + ah; omega, fun x hx => absurd hx List.not_mem_nil, fun h => (by cases h), fun x hx => absurd hx List.not_mem_nil, fun x hx => absurd hx List.not_mem_nil, Nat.le_refl _, Nat.le_refl _, Nat.le_refl _, Nat.le_refl _⟩
def PS.put (s : PS) : PS := { s with many := s.many + 1 }
def PS.send (room wait : Int) (s : PS) : PS := { s with l := s.l + 1, rows := s.rows ++ [fillOf room wait s.many s.rows s.sure] }
/-- the last letter comes -/
def PS.come (w : Int) (s : PS) : PS := if wordOf w s.g s.cs s.l = "new" then { s with g := max s.g s.l, cs := keptOf w s.g s.cs s.l, K := s.K ++ [s.l] } else s
def PS.found (w : Int) (s : PS) : List Int := foundOf s.g (bitsI w s.g s.cs) s.ks
def PS.free (w : Int) (s : PS) : List Int := cameOf s.rows s.sure (s.found w)
/-- the ear tells, the mouth hears it, the load is told -/
def PS.told (w : Int) (s : PS) : PS := { s with mg := max s.mg s.g, ks := s.ks ++ s.found w, sure := s.sure ++ s.free w }
section
variable {m w late ah room wait : Int} {s : PS} {n : Nat}
theorem PInv.put (x : PInv m w late ah s n) : PInv m w late ah s.put (n + 1) := by
  obtain ⟨l0, g0, g1, m0, g2, la, kg, gk, ck, ks, nc, nk, nm, nr⟩ := x
  exact ⟨l0, g0, g1, m0, g2, la, kg, gk, ck, ks, Nat.le_succ_of_le nc, by show s.ks.length ≤ _; omega, Nat.succ_le_succ nm, Nat.le_succ_of_le nr⟩
theorem PInv.succ (x : PInv m w late ah s n) : PInv m w late ah s (n + 1) := by
  obtain ⟨l0, g0, g1, m0, g2, la, kg, gk, ck, ks, nc, nk, nm, nr⟩ := x
  exact ⟨l0, g0, g1, m0, g2, la, kg, gk, ck, ks, Nat.le_succ_of_le nc, by omega, Nat.le_succ_of_le nm, Nat.le_succ_of_le nr⟩
theorem PInv.send (x : PInv m w late ah s n) (h : ¬ s.mg + ah < s.l + 1) : PInv m w late ah (s.send room wait) (n + 1) := by
  obtain ⟨l0, g0, g1, m0, g2, la, kg, gk, ck, ks, nc, nk, nm, nr⟩ := x
  refine ⟨?_, g0, by show s.g ≤ s.l + 1; omega, m0, g2, by show s.l + 1 ≤ s.mg + ah; omega, kg, gk, ck, ks, Nat.le_succ_of_le nc, by show s.ks.length ≤ _; omega, Nat.le_succ_of_le nm, ?_⟩
  · show s.l + 1 + 1 = ((s.rows ++ [_]).length : Int)
    rw [List.length_append, List.length_singleton]
    omega
  · show (s.rows ++ [_]).length ≤ _
    rw [List.length_append, List.length_singleton]
    omega
/-- behind the last one's coming the ear has it -/
theorem PS.come_g (x : PInv m w late ah s n) (w0 : 0 ≤ w) (l0 : 0 ≤ s.l) : (s.come w).g = s.l ∧ s.l ∈ (s.come w).K ∧ (wordOf w s.g s.cs s.l = "new" ∨ s.come w = s) := by
  unfold PS.come
  have g1 := x.g1
  by_cases z : wordOf w s.g s.cs s.l = "new"
  · rw [if_pos z]
    exact ⟨by show max s.g s.l = s.l; omega, List.mem_append.mpr (Or.inr List.mem_cons_self), Or.inl z⟩
  · rw [if_neg z]
    have hc : s.l ∈ s.cs := by
      by_cases c : s.l ∈ s.cs
      · exact c
      · exfalso
        apply z
        unfold wordOf
        rw [if_neg (by omega), if_neg c]
    have hk := x.ck _ hc
    have := (x.kg _ hk).2
    exact ⟨by omega, hk, Or.inr rfl⟩
theorem PInv.come (x : PInv m w late ah s n) (w0 : 0 ≤ w) (h0 : 0 ≤ s.l) : PInv m w late ah (s.come w) (n + 1) := by
  unfold PS.come
  by_cases z : wordOf w s.g s.cs s.l = "new"
  · rw [if_pos z]
    obtain ⟨l0, g0, g1, m0, g2, la, kg, gk, ck, ks, nc, nk, nm, nr⟩ := x
    have mx : max s.g s.l = s.l := by omega
    refine ⟨l0, by show -1 ≤ max s.g s.l; omega, by show max s.g s.l ≤ s.l; omega, m0, by show s.mg ≤ max s.g s.l; omega, la, fun y hy => ?_, fun _ => ?_, fun y hy => ?_, fun y hy => List.mem_append.mpr (Or.inl (ks y hy)), ?_, by show s.ks.length ≤ _; omega, Nat.le_succ_of_le nm, Nat.le_succ_of_le nr⟩
    · show 0 ≤ y ∧ y ≤ max s.g s.l
      rcases List.mem_append.mp hy with h | h
      · have := kg y h
        omega
      · rw [List.mem_singleton.mp h]
        omega
    · show max s.g s.l ∈ s.K ++ [s.l]
      rw [mx]
      exact List.mem_append.mpr (Or.inr List.mem_cons_self)
    · rcases kept_mem hy with h | h
      · exact List.mem_append.mpr (Or.inl (ck y h))
      · exact List.mem_append.mpr (Or.inr (List.mem_singleton.mpr h))
    · have := kept_len (w := w) (g := s.g) (cs := s.cs) (n := s.l)
      show (keptOf w s.g s.cs s.l).length ≤ _
      omega
  · rw [if_neg z]
    exact x.succ
theorem PInv.all (x : PInv m w late ah s n) (g0 : 0 ≤ s.g) : ∀ y, y ∈ allOf s.g (bitsI w s.g s.cs) → y ∈ s.K := fun y hy => by
  rcases List.mem_cons.mp hy with h | h
  · rw [h]; exact x.gk g0
  · obtain ⟨j, hj, rfl⟩ := others_mem h
    exact x.ck _ (bitsI_at hj)
theorem PInv.found (x : PInv m w late ah s n) (g0 : 0 ≤ s.g) : ∀ y, y ∈ s.found w → y ∈ s.K := fun y hy => x.all g0 y (found_mem hy).1
theorem PInv.told (x : PInv m w late ah s n) (g0 : 0 ≤ s.g) (w1 : w ≤ 16) : PInv m w late ah (s.told w) (n + 1) := by
  have hf := x.found g0
  have fl : (s.found w).length ≤ 17 := found_len (by rw [bitsI_len]; omega)
  obtain ⟨l0, g0', g1, m0, g2, la, kg, gk, ck, ks, nc, nk, nm, nr⟩ := x
  refine ⟨l0, g0', g1, by show -1 ≤ max s.mg s.g; omega, by show max s.mg s.g ≤ s.g; omega, by show s.l ≤ max s.mg s.g + ah; omega, kg, gk, ck, fun y hy => ?_, Nat.le_succ_of_le nc, ?_, Nat.le_succ_of_le nm, Nat.le_succ_of_le nr⟩
  · rcases List.mem_append.mp hy with h | h
    · exact ks y h
    · exact hf y h
  · show (s.ks ++ s.found w).length ≤ _
    rw [List.length_append]
    omega
end
/-! what the law keeps besides: what came, what is sure -/
structure PHere (s : PS) (here sl : List Int) : Prop where
  hk : ∀ x, x ∈ s.K → ∀ p, p ∈ s.rows.getD x.toNat [] → p ∈ here
  sh : ∀ p, p ∈ sl → p ∈ here
  se : ∀ p, p ∈ sl ↔ p ∈ s.sure
  nd : sl.Nodup
section
variable {m w late ah room wait : Int} {s : PS} {n : Nat} {here sl : List Int}
theorem PHere.init : PHere ps0 [] [] := ⟨fun x hx => absurd hx List.not_mem_nil, fun x hx => hx, fun p => Iff.rfl, List.nodup_nil⟩
theorem getD_app {rows : List (List Int)} {r : List Int} {j : Nat} (h : j < rows.length) : (rows ++ [r]).getD j [] = rows.getD j [] := by
  rw [List.getD_eq_getElem?_getD, List.getD_eq_getElem?_getD, List.getElem?_append_left h]
theorem getD_last {rows : List (List Int)} {r : List Int} : (rows ++ [r]).getD rows.length [] = r := by
  rw [List.getD_eq_getElem?_getD, List.getElem?_append_right (Nat.le_refl _), Nat.sub_self]
  rfl
theorem PHere.send (x : PHere s here sl) (y : PInv m w late ah s n) : PHere (s.send room wait) here sl := ⟨fun k hk p hp => by
  have h1 := y.kg k hk
  have h2 := y.g1
  have h3 := y.l0
  have : k.toNat < s.rows.length := by omega
  exact x.hk k hk p (by rwa [show (s.send room wait).rows.getD k.toNat [] = s.rows.getD k.toNat [] from getD_app this] at hp), x.sh, x.se, x.nd⟩
theorem PHere.new (x : PHere s here sl) (z : wordOf w s.g s.cs s.l = "new") : PHere (s.come w) (here ++ s.rows.getD s.l.toNat []) sl := by
  unfold PS.come
  rw [if_pos z]
  refine ⟨fun k hk p hp => ?_, fun p hp => List.mem_append.mpr (Or.inl (x.sh p hp)), x.se, x.nd⟩
  rcases List.mem_append.mp hk with h | h
  · exact List.mem_append.mpr (Or.inl (x.hk k h p hp))
  · rw [List.mem_singleton.mp h] at hp
    exact List.mem_append.mpr (Or.inr hp)
theorem PHere.told (x : PHere s here sl) (y : PInv m w late ah s n) (g : Good s.many s.rows s.sure) (g0 : 0 ≤ s.g) : PHere (s.told w) here (sl ++ srt (s.free w)) := by
  refine ⟨x.hk, fun p hp => ?_, fun p => ?_, ?_⟩
  · rcases List.mem_append.mp hp with h | h
    · exact x.sh p h
    · obtain ⟨⟨k, hk, _, h2⟩, _⟩ := came_mem (srt_mem.mp h)
      exact x.hk k (y.found g0 k hk) p h2
  · show p ∈ sl ++ srt (s.free w) ↔ p ∈ s.sure ++ s.free w
    rw [List.mem_append, List.mem_append, srt_mem, x.se]
  · refine List.nodup_append.mpr ⟨x.nd, srt_nodup (came_nd g.d), fun a ha b hb e => ?_⟩
    exact (came_mem (srt_mem.mp hb)).2 ((x.se b).mp (e ▸ ha))
end
/-! at last all comes -/
structure FInv (wait : Int) (R0 left : Nat) (s : PS) (i : Nat) : Prop where
  rl : s.rows.length = R0 + i
  no : ∀ p, p ∈ openL s.many s.sure → ∀ j : Nat, R0 ≤ j → j < s.rows.length → p ∉ s.rows.getD j []
  le : (openL s.many s.sure).length ≤ left
  ok : wait ≤ (i : Int) + 1 → openL s.many s.sure = [] ∨ ((openL s.many s.sure).length : Int) + (i + 1) ≤ left + wait
section
variable {m w late ah room wait : Int} {s : PS} {n R0 left i : Nat}
theorem come_same : (s.come w).rows = s.rows ∧ (s.come w).sure = s.sure ∧ (s.come w).many = s.many ∧ (s.come w).ks = s.ks ∧ (s.come w).l = s.l ∧ (s.come w).mg = s.mg := by
  unfold PS.come
  split
  · exact ⟨rfl, rfl, rfl, rfl, rfl, rfl⟩
  · exact ⟨rfl, rfl, rfl, rfl, rfl, rfl⟩
theorem FInv.init (w1 : 1 ≤ wait) (hl : left = (openL s.many s.sure).length) : FInv wait s.rows.length left s 0 :=
  ⟨rfl, fun p _ j h1 h2 => by omega, by omega, fun h => Or.inr (by omega)⟩
/-- a letter that is sent, comes and is told -/
def PS.turn (w room wait : Int) (s : PS) : PS := ((s.send room wait).come w).told w
theorem turn_inv (I : PInv m w late ah s n) (nf : ¬ s.mg + ah < s.l + 1) (a0 : 1 ≤ ah) (w0 : 0 ≤ w) (w1 : w ≤ 16) : PInv m w late ah (s.turn w room wait) (n + 3) ∧ (s.turn w room wait).g = (s.turn w room wait).l ∧ ¬ (s.turn w room wait).mg + ah < (s.turn w room wait).l + 1 ∧ 0 ≤ ((s.send room wait).come w).g ∧ 0 ≤ (s.send room wait).l := by
  have I1 := I.send (room := room) (wait := wait) nf
  have l0 : 0 ≤ (s.send room wait).l := by
    show 0 ≤ s.l + 1
    have := I.l0
    omega
  obtain ⟨c1, c2, _⟩ := PS.come_g I1 w0 l0
  have I2 := I1.come w0 l0
  have g0 : 0 ≤ ((s.send room wait).come w).g := by omega
  have I3 := I2.told g0 w1
  obtain ⟨_, _, _, _, e1, e2⟩ := come_same (s := s.send room wait) (w := w)
  have h2 := I2.g2
  refine ⟨I3, ?_, ?_, g0, l0⟩
  · show ((s.send room wait).come w).g = ((s.send room wait).come w).l
    rw [c1, e1]
  · show ¬ max ((s.send room wait).come w).mg ((s.send room wait).come w).g + ah < ((s.send room wait).come w).l + 1
    rw [e1]
    omega
theorem FInv.step (x : FInv wait R0 left s i) (I : PInv m w late ah s n) (nf : ¬ s.mg + ah < s.l + 1) (w0 : 0 ≤ w) (r1 : 1 ≤ room) : FInv wait R0 left (s.turn w room wait) (i + 1) := by
  have I1 := I.send (room := room) (wait := wait) nf
  have il := I.l0
  have l0 : 0 ≤ (s.send room wait).l := by show 0 ≤ s.l + 1; omega
  obtain ⟨c1, c2, _⟩ := PS.come_g I1 w0 l0
  obtain ⟨e1, e2, e3, e4, e5, e6⟩ := come_same (s := s.send room wait) (w := w)
  have hin : (s.send room wait).l ∈ ((s.send room wait).come w).found w := by
    unfold PS.found
    rw [e4, c1]
    refine found_in List.mem_cons_self fun z => ?_
    have h1 := (I.kg _ (I.ks _ z)).2
    have h2 := I.g1
    have h3 : (s.send room wait).l = s.l + 1 := rfl
    omega
  have hR : ∀ p, p ∈ fillOf room wait s.many s.rows s.sure → p ∈ s.sure ++ ((s.send room wait).come w).free w := fun p hp => by
    unfold PS.free
    rw [e1, e2]
    refine came_all hin l0 ?_ ?_
    · show s.l + 1 < ((s.rows ++ [_]).length : Int)
      rw [List.length_append, List.length_singleton]
      omega
    · show p ∈ (s.rows ++ [fillOf room wait s.many s.rows s.sure]).getD (s.l + 1).toNat []
      rw [show (s.l + 1).toNat = s.rows.length by omega, getD_last]
      exact hp
  generalize hc : ((s.send room wait).come w).free w = c at hR
  have t1 : (s.turn w room wait).rows = s.rows ++ [fillOf room wait s.many s.rows s.sure] := e1
  have t2 : (s.turn w room wait).sure = s.sure ++ c := by
    show ((s.send room wait).come w).sure ++ ((s.send room wait).come w).free w = _
    rw [hc, e2]
    rfl
  have t3 : (s.turn w room wait).many = s.many := e3
  obtain ⟨rl, no, le, ok⟩ := x
  have fl := List.length_filter_le (fun p => !decide (p ∈ c)) (openL s.many s.sure)
  refine ⟨?_, ?_, ?_, ?_⟩
  · rw [t1, List.length_append, List.length_singleton]
    omega
  · rw [t1, t2, t3]
    intro p hp j h1 h2 hj
    rw [openL_app] at hp
    obtain ⟨q1, q2⟩ := List.mem_filter.mp hp
    rw [List.length_append, List.length_singleton] at h2
    by_cases z : j < s.rows.length
    · rw [getD_app z] at hj
      exact no p q1 j h1 z hj
    · rw [show j = s.rows.length by omega, getD_last] at hj
      rcases List.mem_append.mp (hR p hj) with y | y
      · exact (openL_mem.mp q1).2 y
      · rw [decide_eq_true y] at q2
        cases q2
  · rw [t2, t3, openL_app]
    omega
  · rw [t2, t3, openL_app]
    intro hw
    by_cases z : openL s.many s.sure = []
    · rw [z]
      exact Or.inl rfl
    by_cases hw2 : wait ≤ (i : Int) + 1
    · have fa := fill_all (room := room) (wait := wait) no (by rw [rl]; omega)
      rcases ok hw2 with y | y
      · exact absurd y z
      · obtain ⟨x0, xr, ex⟩ := List.exists_cons_of_ne_nil z
        have hx : x0 ∈ fillOf room wait s.many s.rows s.sure := by
          rw [fa, ex, show room.toNat = (room.toNat - 1) + 1 by omega, List.take_succ_cons]
          exact List.mem_cons_self
        have hxo : x0 ∈ openL s.many s.sure := by rw [ex]; exact List.mem_cons_self
        have hxc : x0 ∈ c := (List.mem_append.mp (hR x0 hx)).resolve_left (openL_mem.mp hxo).2
        have := filter_lt (p := fun p => !decide (p ∈ c)) hxo (by rw [decide_eq_true hxc]; rfl)
        exact Or.inr (by omega)
    · exact Or.inr (by omega)
end
end Ak

namespace Ak
open PySem PySem.Spec PyProof.Rows L2
section
variable {P : Program} {w : World} {K : PySem.W.Frag} {mg : Str → Option Value} {base : Heap}
theorem ok_next {f : Addr} {fd : FuncData} (F : L2.Fun K "_law_next" "_law_next" s_l_next f fd) (g_len : mg "len" = none) : FnOk P w K mg base (L2.CX P w) 1 f fd ["_law_dice_here", "_law_many"] (spNext K) := by
  refine Fun.okX F sc_l_next (fun vs H Q E h => ?_) (fun cdv A outer s H vs Q E hr h => ?_)
  · obtain ⟨_, _, _, rfl, _⟩ := h
    rfl
  · obtain ⟨H0, d, n, rfl, n0, n1, ⟨⟨a, ns, i, m, r, hd, ha, hl, i0⟩, dn, dx⟩, k⟩ := h
    refine ⟨_, (pss_cons (ps_if (pt_cmpR op_gt (pe_ix (Ak.ix_K (K := K) (by rfl)) (pv 0) pe_int (by intro _ _; rfl)) pe_int (nomark _))
      (pss_cons (ps_set (i := 2) sc_l_next.nd rfl (Or.inl rfl) (pe_op op_mod (pe_ix (Ak.ix_K (K := K) (by rfl)) (pv 0) pe_int (by intro _ _; rfl)) (pv 1)))
      (pss_cons (ps_asg (pe_op op_fdiv (pe_ix (Ak.ix_K (K := K) (by rfl)) (pv 0) pe_int (by intro _ _; rfl)) (pv 1)) (pg_sub (pv 0) pe_int set_list))
      (pss_one (ps_ret (pv 2)))))
      pss_nil)
      (pss_cons (ps_asg (pe_op (Ak.op_plusK (K := K) (by rfl)) (pe_ix (Ak.ix_K (K := K) (by rfl)) (pv 0) pe_int (by intro _ _; rfl)) pe_int) (pg_sub (pv 0) pe_int set_list))
      (pss_cons (ps_if (pt_cmpR op_le (pe_ix (Ak.ix_K (K := K) (by rfl)) (pv 0) pe_int (by intro _ _; rfl)) (pe_callB (Ak.cr_lenK (K := K) (by rfl)) (by rfl) g_len (by decide +kernel) (pa_cons (pe_ix (Ak.ix_K (K := K) (by rfl)) (pv 0) pe_int (by intro _ _; rfl)) pa_nil)) (nomark _))
      (pss_cons (ps_set (i := 3) sc_l_next.nd rfl (Or.inl rfl) (pe_ix (Ak.ix_K (K := K) (by rfl)) (pe_ix (Ak.ix_K (K := K) (by rfl)) (pv 0) pe_int (by intro _ _; rfl)) (pe_op op_sub (pe_ix (Ak.ix_K (K := K) (by rfl)) (pv 0) pe_int (by intro _ _; rfl)) pe_int) (by intro _ _; rfl)))
      (pss_cons (ps_asg (pe_ifExp (pt_cmpR op_ge (pv 3) (pe_op op_pow pe_int pe_int) (nomark _)) (pe_op op_fdiv (pv 3) (pv 1)) pe_int) (pg_sub (pv 0) pe_int set_list))
      (pss_one (ps_ret (pe_op op_mod (pv 3) (pv 1))))))
      pss_nil)
      (pss_cons (ps_asg (pe_op op_mod (pe_op Ak.op_times (pe_ix (Ak.ix_K (K := K) (by rfl)) (pv 0) pe_int (by intro _ _; rfl)) pe_int) pe_int) (pg_sub (pv 0) pe_int set_list))
      (pss_one (ps_ret (pe_op op_mod (pe_op op_fdiv (pe_ix (Ak.ix_K (K := K) (by rfl)) (pv 0) pe_int (by intro _ _; rfl)) pe_int) (pv 1)))))))), ?_⟩
    have e0 : L2.start N_l_next [V.ref d, V.int n] = [some (V.ref d), some (V.int n), none, none] := rfl
    rw [e0]
    try dsimp only [cxOf]
    walk_at "rd"
    have fin : ∀ (x y z u : Int), 0 ≤ y → 0 ≤ x → x < n → Q (.int x) (upd H d (.lst [.ref a, .int y, .int z, .int u])) := fun x y z u y0 x0 x1 =>
      k _ _ x0 x1 ⟨⟨a, ns, y, z, u, upd_same, ha, hl, y0⟩, dn, dx.keep (S := [d]) (by walk_at "kp") (fun b hb => by
        rw [List.mem_singleton.mp hb]
        exact dn)⟩ (by walk_at "kp")
    refine Ak.w_ite (fun h0 => ?_) (fun h0 => ?_)
    · walk_at "rd"
      exact fin _ _ _ _ i0 (Int.emod_nonneg _ (by omega)) (Int.emod_lt_of_pos _ n0)
    · walk_at "rd"
      refine Ak.w_ite (fun h1 => ?_) (fun h1 => ?_)
      · walk_at "rd"
        rw [List.length_map] at h1
        obtain ⟨c, hc⟩ : ∃ c, atI (ns.map V.int) (i + 1 - 1) = some (V.int c) := by
          have e : i + 1 - 1 = ((i.toNat : Nat) : Int) := by omega
          rw [e]
          refine ⟨ns[i.toNat]'(by omega), atI_nat ?_⟩
          rw [List.getElem?_map, List.getElem?_eq_getElem (by omega)]
          rfl
        walk_at "rd"
        refine Ak.w_ite (fun h2 => ?_) (fun h2 => ?_)
        all_goals
          walk_at "rd"
          rw [upd_upd]
          exact fin _ _ _ _ (by omega) (Int.emod_nonneg _ (by omega)) (Int.emod_lt_of_pos _ n0)
      · walk_at "rd"
        rw [upd_upd]
        exact fin _ _ _ _ (by omega) (Int.emod_nonneg _ (by omega)) (Int.emod_lt_of_pos _ n0)
theorem ok_dice {f : Addr} {fd : FuncData} (F : L2.Fun K "_law_dice" "_law_dice" s_l_dice f fd) (g_len : mg "len" = none) (g_int : mg "int" = none) : FnOk P w K mg base (L2.CX P w) 1 f fd ["_law_script"] (spDice K) := by
  refine Fun.okX F sc_l_dice (fun vs H Q E h => ?_) (fun cdv A outer s H vs Q E hr h => ?_)
  · obtain ⟨_, _, rfl, _⟩ := h
    rfl
  · obtain ⟨a, ns, rfl, ha, hl, k⟩ := h
    refine ⟨_, (pss_cons (ps_set (i := 1) sc_l_dice.nd rfl (Or.inl rfl) pe_int)
      (pss_cons (ps_for (passes_of rfl) rfl (Ak.pi_listK (K := K) (by rfl) (pv 0)) (pg_name (i := 2) sc_l_dice.nd rfl (Or.inl rfl))
      (pss_one (ps_set (i := 1) sc_l_dice.nd rfl (Or.inl rfl) (pe_op op_mod (pe_op (Ak.op_plusK (K := K) (by rfl)) (pe_op (Ak.op_plusK (K := K) (by rfl)) (pe_op Ak.op_times (pv 1) pe_int) (pe_op Ak.op_times (pe_op op_mod (pv 2) pe_int) pe_int)) pe_int) pe_int))))
      (pss_one (ps_ret (pe_lst (pa_cons (pv 0) (pa_cons pe_int (pa_cons (pe_op Ak.op_times (pv 1) (pe_callTy Ak.cr_intX (by rfl) g_int (by decide +kernel) (pa_cons (pe_cmpR op_gt (pe_callB (Ak.cr_lenK (K := K) (by rfl)) (by rfl) g_len (by decide +kernel) (pa_cons (pv 0) pa_nil)) pe_int (nomark _)) pa_nil))) (pa_cons pe_int pa_nil))))))))), ?_⟩
    have e0 : L2.start N_l_dice [V.ref a] = [some (V.ref a), none, none] := rfl
    rw [e0]
    try dsimp only [cxOf]
    walk_at "rd"
    refine Ak.l_forList ha (fun _ σ H' => ∃ m v, σ = [some (.ref a), some (.int m), v] ∧ H' = H) ⟨0, none, rfl, rfl⟩ (fun i σ' H' _ q => by obtain ⟨_, _, _, rfl⟩ := q; exact ha) (fun i x σ' H' hx q => ?_) (fun σ' H' q => ?_)
    · obtain ⟨m, v, rfl, rfl⟩ := q
      obtain ⟨c, rfl⟩ : ∃ c, x = V.int c := by
        rw [List.getElem?_map] at hx
        cases e : ns[i]? with
        | none => rw [e] at hx; cases hx
        | some c => rw [e] at hx; exact ⟨c, (Option.some.inj hx).symm⟩
      walk_at "rd"
      exact ⟨_, _, rfl, rfl⟩
    · obtain ⟨m, v, rfl, rfl⟩ := q
      walk_at "rd"
      exact k _ _ (by walk_at "as") ⟨⟨a, ns, 0, _, 0, upd_same, ha, hl, Int.le_refl 0⟩, by walk_at "as", by walk_at "xt"⟩ (by walk_at "kp")
end
end Ak

namespace Ak
open PySem PySem.Spec PyProof.Rows L2
section
variable {P : Program} {w : World} {K : PySem.W.Frag} {mg : Str → Option Value} {base : Heap}
theorem ok_setting {f : Addr} {fd : FuncData} (F : L2.Fun K "_law_setting" "_law_setting" s_l_setting f fd) (g_max : mg "max" = none) (g_min : mg "min" = none) (c_l_next : CalX P w K mg base 1 "_law_next" (spNext K)) : FnOk P w K mg base (L2.CX P w) 2 f fd ["_law_d"] (spSetting K) := by
  refine Fun.okX F sc_l_setting (fun vs H Q E h => ?_) (fun cdv A outer s H vs Q E hr h => ?_)
  · obtain ⟨_, _, rfl, _⟩ := h
    rfl
  · obtain ⟨H0, d, rfl, hd, k⟩ := h
    refine ⟨_, (pss_cons (ps_set (i := 1) sc_l_setting.nd rfl (Or.inl rfl) (pe_ix (Ak.ix_K (K := K) (by rfl)) (pe_lst (pa_cons (Ak.pe_cx c_l_next hr (by walk_at "lv") (by rfl) (takes_of rfl rfl rfl rfl) (pa_cons (pv 0) (pa_cons pe_int pa_nil))) (pa_cons (Ak.pe_cx c_l_next hr (by walk_at "lv") (by rfl) (takes_of rfl rfl rfl rfl) (pa_cons (pv 0) (pa_cons pe_int pa_nil))) pa_nil))) (Ak.pe_cx c_l_next hr (by walk_at "lv") (by rfl) (takes_of rfl rfl rfl rfl) (pa_cons (pv 0) (pa_cons pe_int pa_nil))) (by intro _ _; rfl)))
      (pss_cons (ps_set (i := 2) sc_l_setting.nd rfl (Or.inl rfl) (pe_op (Ak.op_plusK (K := K) (by rfl)) pe_int (pe_ix (Ak.ix_K (K := K) (by rfl)) (pe_lst (pa_cons (Ak.pe_cx c_l_next hr (by walk_at "lv") (by rfl) (takes_of rfl rfl rfl rfl) (pa_cons (pv 0) (pa_cons pe_int pa_nil))) (pa_cons (Ak.pe_cx c_l_next hr (by walk_at "lv") (by rfl) (takes_of rfl rfl rfl rfl) (pa_cons (pv 0) (pa_cons pe_int pa_nil))) pa_nil))) (Ak.pe_cx c_l_next hr (by walk_at "lv") (by rfl) (takes_of rfl rfl rfl rfl) (pa_cons (pv 0) (pa_cons pe_int pa_nil))) (by intro _ _; rfl))))
      (pss_cons (ps_set (i := 3) sc_l_setting.nd rfl (Or.inl rfl) (pe_ix (Ak.ix_K (K := K) (by rfl)) (pe_lst (pa_cons (Ak.pe_cx c_l_next hr (by walk_at "lv") (by rfl) (takes_of rfl rfl rfl rfl) (pa_cons (pv 0) (pa_cons pe_int pa_nil))) (pa_cons (Ak.pe_cx c_l_next hr (by walk_at "lv") (by rfl) (takes_of rfl rfl rfl rfl) (pa_cons (pv 0) (pa_cons pe_int pa_nil))) pa_nil))) (Ak.pe_cx c_l_next hr (by walk_at "lv") (by rfl) (takes_of rfl rfl rfl rfl) (pa_cons (pv 0) (pa_cons pe_int pa_nil))) (by intro _ _; rfl)))
      (pss_cons (ps_set (i := 4) sc_l_setting.nd rfl (Or.inl rfl) (pe_op (Ak.op_plusK (K := K) (by rfl)) (pe_op (Ak.op_plusK (K := K) (by rfl)) (pv 1) (pv 2)) (pe_ix (Ak.ix_K (K := K) (by rfl)) (pe_lst (pa_cons pe_int (pa_cons pe_int (pa_cons pe_int (pa_cons pe_int (pa_cons (pe_op op_sub (Ak.pe_cx c_l_next hr (by walk_at "lv") (by rfl) (takes_of rfl rfl rfl rfl) (pa_cons (pv 0) (pa_cons pe_int pa_nil))) pe_int) pa_nil)))))) (Ak.pe_cx c_l_next hr (by walk_at "lv") (by rfl) (takes_of rfl rfl rfl rfl) (pa_cons (pv 0) (pa_cons pe_int pa_nil))) (by intro _ _; rfl))))
      (pss_cons (ps_set (i := 4) sc_l_setting.nd rfl (Or.inl rfl) (pe_ix (Ak.ix_K (K := K) (by rfl)) (pe_lst (pa_cons (pv 4) (pa_cons (pe_op (Ak.op_plusK (K := K) (by rfl)) pe_int (Ak.pe_cx c_l_next hr (by walk_at "lv") (by rfl) (takes_of rfl rfl rfl rfl) (pa_cons (pv 0) (pa_cons pe_int pa_nil)))) (pa_cons pe_int pa_nil)))) (pe_callB (Ak.cr_maxK (K := K) (by rfl) rfl) (by rfl) g_max (by decide +kernel) (pa_cons pe_int (pa_cons (pe_op op_sub (Ak.pe_cx c_l_next hr (by walk_at "lv") (by rfl) (takes_of rfl rfl rfl rfl) (pa_cons (pv 0) (pa_cons pe_int pa_nil))) pe_int) pa_nil))) (by intro _ _; rfl)))
      (pss_one (ps_ret (pe_tup (pa_cons (pe_callB (Ak.cr_minK (K := K) (by rfl) rfl) (by rfl) g_min (by decide +kernel) (pa_cons pe_int (pa_cons (pe_callB (Ak.cr_maxK (K := K) (by rfl) rfl) (by rfl) g_max (by decide +kernel) (pa_cons pe_int (pa_cons (pv 4) pa_nil))) pa_nil))) (pa_cons (pv 3) (pa_cons (pv 1) (pa_cons (pv 2) pa_nil)))))))))))), ?_⟩
    have e0 : L2.start N_l_setting [V.ref d] = [some (V.ref d), none, none, none, none] := rfl
    rw [e0]
    try dsimp only [cxOf]
    walk_at "rd"
    refine Ak.pickP (fun v => 0 ≤ v ∧ v ≤ 8) (by walk_at "sq") (by omega) (by show _ < (2 : Int); omega) (by walk_at "pk") (fun late hlate => ?_)
    walk_at "rd"
    refine Ak.pickP (fun v => 0 ≤ v ∧ v ≤ 15) (by walk_at "sq") (by omega) (by show _ < (2 : Int); omega) (by walk_at "pk") (fun ah hah => ?_)
    walk_at "rd"
    refine Ak.pickP (fun v => 0 ≤ v ∧ v ≤ 16) (by walk_at "sq") (by omega) (by show _ < (2 : Int); omega) (by walk_at "pk") (fun wide hwide => ?_)
    walk_at "rd"
    refine Ak.pickP (fun v => True) (by walk_at "sq") (by omega) (by show _ < (5 : Int); omega) (by
      intro x hx
      (repeat (rcases List.mem_cons.mp hx with rfl | hx; · exact ⟨_, rfl, trivial⟩))
      exact absurd hx List.not_mem_nil) (fun mk _ => ?_)
    walk_at "rd"
    refine Ak.pickP (fun v => True) (by walk_at "sq") (by omega) (by show _ < (3 : Int); omega) (by
      intro x hx
      (repeat (rcases List.mem_cons.mp hx with rfl | hx; · exact ⟨_, rfl, trivial⟩))
      exact absurd hx List.not_mem_nil) (fun mk2 _ => ?_)
    walk_at "rd"
    exact k _ _ _ _ _ _ ⟨by omega, by omega, by omega, by omega, by omega, by omega, by omega, by omega⟩ (Ak.fresh_of [d] (by walk_at "as") (by walk_at "kp")) upd_same (by walk_at "dc") (by walk_at "kp")
end
end Ak

namespace Ak
open PySem PySem.Spec PyProof.Rows L2
section
variable {P : Program} {w : World} {K : PySem.W.Frag} {mg : Str → Option Value} {base : Heap} {C : Addr}
theorem ok_check_number {b : Addr} {f : Addr} {fd : FuncData} (F : L2.Fun K "check_number" "check_number" s_check_number f fd) (B : BoundsT K w mg b) : FnOk P w K mg base (L2.CX P w) 1 f fd ["word", "number"] spCheckNumber := by
  refine Fun.okX F sc_check_number (fun vs H Q E h => ?_) (fun cdv A outer s H vs Q E hr h => ?_)
  · obtain ⟨_, _, _, _, rfl, _⟩ := h
    rfl
  · obtain ⟨wd, n, lo, hi, rfl, hb, h0, h1, hQ⟩ := h
    refine ⟨_, (pss_cons (ps_asg (pe_ix (Ak.ix_kd (K := K) (w := w) (by rfl) (by rfl)) (Ak.pe_cls (by rfl) B.g) (pv 0) (by intro _ _; rfl)) (Ak.pg_tupK (K := K) (n := 2) (by rfl) rfl (pgs_cons (pg_name (i := 2) sc_check_number.nd rfl (Or.inl rfl)) (pgs_cons (pg_name (i := 3) sc_check_number.nd rfl (Or.inl rfl)) pgs_nil))))
      (pss_one (ps_if (PW.pt (pw_or (pt_cmpR op_lt (pv 1) (pv 2) (nomark _)) (pw_or1 (pt_cmpR op_gt (pv 1) (pv 3) (nomark _)))))
      (pss_one ps_never)
      pss_nil))), ?_⟩
    have e0 : L2.start N_check_number [V.str wd, V.int n] = [some (V.str wd), some (V.int n), none, none] := rfl
    rw [e0]
    try dsimp only [cxOf]
    obtain ⟨t, kt, st⟩ := B.get wd lo hi hb
    walk_at "rd"
    refine ⟨b, wd, _, rfl, rfl, kt, ?_⟩
    have st' := st H
    walk_at "rd"
    refine Ak.w_ite (fun z => by omega) (fun _ => ?_)
    walk_at "rd"
    refine Ak.w_ite (fun z => by omega) (fun _ => ?_)
    walk_at "rd"
    exact hQ
end
end Ak

namespace Ak
open PySem PySem.Spec PyProof.Rows L2
section
variable {P : Program} {w : World} {K : PySem.W.Frag} {mg : Str → Option Value} {base : Heap} {C : Addr}
theorem ok_check_mark {f : Addr} {fd : FuncData} (F : L2.Fun K "check_mark" "check_mark" s_check_mark f fd) : FnOk P w K mg base (L2.CX P w) 1 f fd ["mark", "marks"] spCheckMark := by
  refine Fun.okX F sc_check_mark (fun vs H Q E h => ?_) (fun cdv A outer s H vs Q E hr h => ?_)
  · obtain ⟨_, _, rfl, _⟩ := h
    rfl
  · obtain ⟨k, m, rfl, k0, k1, hQ⟩ := h
    refine ⟨_, (pss_one (ps_if (PW.pt (pw_or (pt_cmpR op_lt (pv 0) pe_int (nomark _)) (pw_or1 (pt_cmpR op_ge (pv 0) (pv 1) (nomark _)))))
      (pss_one ps_never)
      pss_nil)), ?_⟩
    have e0 : L2.start N_check_mark [V.int k, V.int m] = [some (V.int k), some (V.int m)] := rfl
    rw [e0]
    try dsimp only [cxOf]
    walk_at "rd"
    refine Ak.w_ite (fun z => by omega) (fun _ => ?_)
    walk_at "rd"
    refine Ak.w_ite (fun z => by omega) (fun _ => ?_)
    walk_at "rd"
    exact hQ
theorem ok_check_setting {f : Addr} {fd : FuncData} (F : L2.Fun K "check_setting" "check_setting" s_check_setting f fd) (c_check_number : CalX P w K mg base 1 "check_number" spCheckNumber) : FnOk P w K mg base (L2.CX P w) 2 f fd ["setting"] (spCheckSetting K) := by
  refine Fun.okX F sc_check_setting (fun vs H Q E h => ?_) (fun cdv A outer s H vs Q E hr h => ?_)
  · obtain ⟨_, _, _, _, _, rfl, _⟩ := h
    rfl
  · obtain ⟨q, m, w, l, a, rfl, hq, so, k⟩ := h
    obtain ⟨so1, so2, so3, so4, so5, so6, so7, so8⟩ := so
    refine ⟨_, (pss_cons (ps_asg (pv 0) (Ak.pg_tupK (K := K) (n := 4) (by rfl) rfl (pgs_cons (pg_name (i := 1) sc_check_setting.nd rfl (Or.inl rfl)) (pgs_cons (pg_name (i := 2) sc_check_setting.nd rfl (Or.inl rfl)) (pgs_cons (pg_name (i := 3) sc_check_setting.nd rfl (Or.inl rfl)) (pgs_cons (pg_name (i := 4) sc_check_setting.nd rfl (Or.inl rfl)) pgs_nil))))))
      (pss_cons (ps_expr (Ak.pe_cx c_check_number hr (by walk_at "lv") (by rfl) (takes_of rfl rfl rfl rfl) (pa_cons pe_str (pa_cons (pv 1) pa_nil))))
      (pss_cons (ps_expr (Ak.pe_cx c_check_number hr (by walk_at "lv") (by rfl) (takes_of rfl rfl rfl rfl) (pa_cons pe_str (pa_cons (pv 2) pa_nil))))
      (pss_cons (ps_expr (Ak.pe_cx c_check_number hr (by walk_at "lv") (by rfl) (takes_of rfl rfl rfl rfl) (pa_cons pe_str (pa_cons (pv 3) pa_nil))))
      (pss_one (ps_expr (Ak.pe_cx c_check_number hr (by walk_at "lv") (by rfl) (takes_of rfl rfl rfl rfl) (pa_cons pe_str (pa_cons (pv 4) pa_nil))))))))), ?_⟩
    have e0 : L2.start N_check_setting [V.ref q] = [some (V.ref q), none, none, none, none] := rfl
    rw [e0]
    try dsimp only [cxOf]
    walk_at "rd"
    refine ⟨_, _, _, _, rfl, .marks, so1, so2, ?_⟩
    walk_at "rd"
    refine ⟨_, _, _, _, rfl, .wide, so3, so4, ?_⟩
    walk_at "rd"
    refine ⟨_, _, _, _, rfl, .late, so5, so6, ?_⟩
    walk_at "rd"
    refine ⟨_, _, _, _, rfl, .ahead, so7, so8, ?_⟩
    walk_at "rd"
    exact k _ Keep.refl
end
end Ak

namespace Ak
open PySem PySem.Spec PyProof.Rows L2
section
variable {P : Program} {w : World} {K : PySem.W.Frag} {mg : Str → Option Value} {base : Heap} {C : Addr}
theorem ok_oldest {f : Addr} {fd : FuncData} (F : L2.Fun K "_oldest" "Ear._oldest" s_Ear__oldest f fd) (T : EarT K C) : FnOk P w K mg base (L2.CX P w) 1 f fd ["self"] (spOldest C) := by
  refine Fun.okX F sc_Ear__oldest (fun vs H Q E h => ?_) (fun cdv A outer s H vs Q E hr h => ?_)
  · obtain ⟨_, _, _, _, _, _, _, rfl, _⟩ := h
    rfl
  · obtain ⟨p, c, m, w, l, g, cs, rfl, ⟨dx, hp, hc⟩, hQ⟩ := h
    obtain ⟨cl, n1, n2, n3, n4, n5⟩ := T
    refine ⟨_, (pss_one (ps_ret (pe_op op_sub (Ak.pe_fldK (K := K) (by rfl) (pv 0) (by rfl)) (Ak.pe_fldK (K := K) (by rfl) (pv 0) (by rfl))))), ?_⟩
    have e0 : L2.start N_Ear__oldest [V.ref p] = [some (V.ref p)] := rfl
    rw [e0]
    try dsimp only [cxOf]
    walk_at "rd"
    exact hQ
theorem ok_last {f : Addr} {fd : FuncData} (F : L2.Fun K "last" "Ear.last" s_Ear_last f fd) (T : EarT K C) : FnOk P w K mg base (L2.CX P w) 1 f fd ["self"] (spLast C) := by
  refine Fun.okX F sc_Ear_last (fun vs H Q E h => ?_) (fun cdv A outer s H vs Q E hr h => ?_)
  · obtain ⟨_, _, _, _, _, _, _, rfl, _⟩ := h
    rfl
  · obtain ⟨p, c, m, w, l, g, cs, rfl, ⟨dx, hp, hc⟩, hQ⟩ := h
    obtain ⟨cl, n1, n2, n3, n4, n5⟩ := T
    refine ⟨_, (pss_one (ps_ret (Ak.pe_fldK (K := K) (by rfl) (pv 0) (by rfl)))), ?_⟩
    have e0 : L2.start N_Ear_last [V.ref p] = [some (V.ref p)] := rfl
    rw [e0]
    try dsimp only [cxOf]
    walk_at "rd"
    exact hQ
theorem ok_number_of {f : Addr} {fd : FuncData} (F : L2.Fun K "_number_of" "Ear._number_of" s_Ear__number_of f fd) (T : EarT K C) (g_max : mg "max" = none) : FnOk P w K mg base (L2.CX P w) 1 f fd ["self", "mark"] (spNumberOf C) := by
  refine Fun.okX F sc_Ear__number_of (fun vs H Q E h => ?_) (fun cdv A outer s H vs Q E hr h => ?_)
  · obtain ⟨_, _, _, _, _, _, _, _, rfl, _⟩ := h
    rfl
  · obtain ⟨p, c, k, m, w, l, g, cs, rfl, ⟨dx, hp, hc⟩, m0, hQ⟩ := h
    obtain ⟨cl, n1, n2, n3, n4, n5⟩ := T
    refine ⟨_, (pss_cons (ps_set (i := 2) sc_Ear__number_of.nd rfl (Or.inl rfl) (pe_callB (Ak.cr_maxK (K := K) (by rfl) rfl) (by rfl) g_max (by decide +kernel) (pa_cons pe_int (pa_cons (pe_op op_sub (Ak.pe_fldK (K := K) (by rfl) (pv 0) (by rfl)) (Ak.pe_fldK (K := K) (by rfl) (pv 0) (by rfl))) pa_nil))))
      (pss_one (ps_ret (pe_op (Ak.op_plusK (K := K) (by rfl)) (pv 2) (pe_op op_mod (pe_op op_sub (pv 1) (pv 2)) (Ak.pe_fldK (K := K) (by rfl) (pv 0) (by rfl))))))), ?_⟩
    have e0 : L2.start N_Ear__number_of [V.ref p, V.int k] = [some (V.ref p), some (V.int k), none] := rfl
    rw [e0]
    try dsimp only [cxOf]
    walk_at "rd"
    exact hQ
theorem ok_word_of {f : Addr} {fd : FuncData} (F : L2.Fun K "_word_of" "Ear._word_of" s_Ear__word_of f fd) (T : EarT K C) (m_Ear_oldest : MetX P w K mg base 1 C "_oldest" (spOldest C)) : FnOk P w K mg base (L2.CX P w) 2 f fd ["self", "number"] (spWordOf C) := by
  refine Fun.okX F sc_Ear__word_of (fun vs H Q E h => ?_) (fun cdv A outer s H vs Q E hr h => ?_)
  · obtain ⟨_, _, _, _, _, _, _, _, rfl, _⟩ := h
    rfl
  · obtain ⟨p, c, n, m, w, l, g, cs, rfl, hE, hQ⟩ := h
    obtain ⟨dx, hp, hc⟩ := id hE
    obtain ⟨cl, n1, n2, n3, n4, n5⟩ := T
    refine ⟨_, (pss_cons (ps_if (pt_cmpR op_lt (pv 1) (Ak.pe_mx0 (pv 0) m_Ear_oldest hr (by walk_at "lv") (takes_of rfl rfl rfl rfl)) (nomark _))
      (pss_one (ps_ret pe_str))
      pss_nil)
      (pss_cons (ps_if (pt_cmpR (Ak.op_inK (K := K) (by rfl)) (pv 1) (Ak.pe_fldK (K := K) (by rfl) (pv 0) (by rfl)) (by rfl))
      (pss_one (ps_ret pe_str))
      pss_nil)
      (pss_one (ps_ret pe_str)))), ?_⟩
    have e0 : L2.start N_Ear__word_of [V.ref p, V.int n] = [some (V.ref p), some (V.int n)] := rfl
    rw [e0]
    try dsimp only [cxOf]
    walk_at "rd"
    refine ⟨p, c, m, w, l, g, cs, rfl, hE, ?_⟩
    walk_at "rd"
    unfold wordOf at hQ
    refine Ak.w_ite (fun z => ?_) (fun z => ?_)
    · rw [if_pos z] at hQ
      walk_at "rd"
      exact hQ
    · rw [if_neg z] at hQ
      walk_at "rd"
      refine Ak.w_ite (fun z => ?_) (fun z => ?_)
      · rw [if_pos z] at hQ
        walk_at "rd"
        exact hQ
      · rw [if_neg z] at hQ
        walk_at "rd"
        exact hQ
theorem ok_keep {f : Addr} {fd : FuncData} (F : L2.Fun K "_keep" "Ear._keep" s_Ear__keep f fd) (T : EarT K C) (g_max : mg "max" = none) (m_Ear_oldest : MetX P w K mg base 1 C "_oldest" (spOldest C)) : FnOk P w K mg base (L2.CX P w) 2 f fd ["self", "number"] (spKeep C) := by
  refine Fun.okX F sc_Ear__keep (fun vs H Q E h => ?_) (fun cdv A outer s H vs Q E hr h => ?_)
  · obtain ⟨_, _, _, _, _, _, _, _, rfl, _⟩ := h
    rfl
  · obtain ⟨p, c, n, m, w, l, g, cs, rfl, ⟨dx, hp, hc⟩, hl, k⟩ := h
    obtain ⟨cl, n1, n2, n3, n4, n5⟩ := T
    have cp : c ≠ p := ne_of hc hp (by intro z; cases z)
    refine ⟨_, (pss_cons (Ak.ps_fldK (K := K) (by rfl) (pv 0) (pe_callB (Ak.cr_maxK (K := K) (by rfl) rfl) (by rfl) g_max (by decide +kernel) (pa_cons (Ak.pe_fldK (K := K) (by rfl) (pv 0) (by rfl)) (pa_cons (pv 1) pa_nil))) rfl)
      (pss_cons (ps_set (i := 2) sc_Ear__keep.nd rfl (Or.inr rfl) (Ak.pe_mx0 (pv 0) m_Ear_oldest hr (by walk_at "lv") (takes_of rfl rfl rfl rfl)))
      (pss_one (Ak.ps_fldK (K := K) (by rfl) (pv 0) (pe_lc (own := [("kept", 3)]) (g := (gName 3)) rfl sc_Ear__keep.nd (Ak.pi_listK (K := K) (by rfl) (pe_op (Ak.op_plusK (K := K) (by rfl)) (Ak.pe_fldK (K := K) (by rfl) (pv 0) (by rfl)) (pe_lst (pa_cons (pv 1) pa_nil)))) (blkOk_by (N := N_Ear__keep) (sc := defScope s_Ear__keep) (by decide +kernel)) (fun _ _ _ _ _ => by exact (pg_name (i := 3) sc_Ear__keep.nd rfl (Or.inl rfl))) (fun _ _ _ _ _ => by exact (pts_one (pt_cmpR op_ge (pv 3) (pv 2) (nomark _)))) (fun _ _ _ _ _ => by exact (pv 3))) rfl)))), ?_⟩
    have e0 : L2.start N_Ear__keep [V.ref p, V.int n] = [some (V.ref p), some (V.int n), none, none] := rfl
    rw [e0]
    try dsimp only [cxOf]
    walk_at "rd"
    refine ⟨p, c, m, w, l, max g n, cs, rfl, ⟨dx, upd_same, by walk_at "lk"⟩, ?_⟩
    walk_at "rd"
    refine Ak.l_lcL (xs := (cs ++ [n]).map V.int) (by rw [List.map_append]; exact SqL.of upd_same) (fun i => (((cs ++ [n]).take i).filter fun k => decide (max g n - w ≤ k)).map V.int) rfl (fun D i x H' hD hx hk hd => ?_) (fun D H' hD hk hd => ?_)
    · obtain ⟨c', hc', rfl⟩ := map_at hx
      walk_at "rd"
      refine Ak.w_ite (fun z => ?_) (fun z => ?_)
      · walk_at "rd"
        refine kIn_go hD hd hk ?_ (filt_yes hc' (decide_eq_true z))
        have e := filt_len (l := cs ++ [n]) (i := i) (p := fun k => decide (max g n - w ≤ k)) (f := V.int)
        rw [List.length_append, List.length_singleton] at e
        rw [sizeLine_eq]
        omega
      · exact kOut_go hd hk (filt_no hc' (by rw [decide_eq_false z]; exact Bool.false_ne_true))
    · rw [List.length_map, List.take_length] at hd
      have hp' : H' p = some (.ins C dx (earF m w l (max g n) c)) := by walk_at "lk"
      walk_at "rd"
      have nD : D ≠ p := by walk_at "nel"
      refine k D _ ⟨dx, upd_same, ?_⟩ ?_ ?_
      · unfold keptOf
        walk_at "lk"
      · exact fresh_of [p] hD (by walk_at "kp")
      · walk_at "kp"
theorem ok_bits {f : Addr} {fd : FuncData} (F : L2.Fun K "_bits" "Ear._bits" s_Ear__bits f fd) (T : EarT K C) (g_range : mg "range" = none) (g_tuple : mg "tuple" = none) : FnOk P w K mg base (L2.CX P w) 1 f fd ["self"] (spBits C) := by
  refine Fun.okX F sc_Ear__bits (fun vs H Q E h => ?_) (fun cdv A outer s H vs Q E hr h => ?_)
  · obtain ⟨_, _, _, _, _, _, _, rfl, _⟩ := h
    rfl
  · obtain ⟨p, c, m, w, l, g, cs, rfl, ⟨dx, hp, hc⟩, w0, w1, k⟩ := h
    obtain ⟨cl, n1, n2, n3, n4, n5⟩ := T
    refine ⟨_, (pss_cons (ps_setLc (i := 1) (own := [("back", 2)]) (g := (gName 2)) (tt := tYes) rfl sc_Ear__bits.nd rfl rfl (sw_true rfl rfl rfl (by decide +kernel)) (pi_range2 (by rfl) g_range (pa_cons pe_int (pa_cons (pe_op (Ak.op_plusK (K := K) (by rfl)) (Ak.pe_fldK (K := K) (by rfl) (pv 0) (by rfl)) pe_int) pa_nil))) (blkOk_by (N := N_Ear__bits) (sc := defScope s_Ear__bits) (by decide +kernel)) (fun _ _ _ _ _ => by exact (pg_name (i := 2) sc_Ear__bits.nd rfl (Or.inl rfl))) (fun _ _ _ _ _ => by exact pts_nil) (fun _ _ _ _ _ => by exact (pe_op op_sub (Ak.pe_fldK (K := K) (by rfl) (pv 0) (by rfl)) (pv 2))))
      (pss_one (ps_ret (pe_callTy (Ak.cr_tupK (K := K) (by rfl)) (by rfl) g_tuple (by decide +kernel) (pa_cons (pe_lc (own := [("number", 3)]) (g := (gName 3)) (tt := tYes) rfl sc_Ear__bits.nd (Ak.pi_listK (K := K) (by rfl) (pv 1)) (blkOk_by (N := N_Ear__bits) (sc := defScope s_Ear__bits) (by decide +kernel)) (fun _ _ _ _ _ => by exact (pg_name (i := 3) sc_Ear__bits.nd rfl (Or.inl rfl))) (fun _ _ _ _ _ => by exact pts_nil) (fun _ _ _ _ _ => by exact (pe_ifExp (pt_cmpR (Ak.op_inK (K := K) (by rfl)) (pv 3) (Ak.pe_fldK (K := K) (by rfl) (pv 0) (by rfl)) (by rfl)) pe_int pe_int))) pa_nil))))), ?_⟩
    have e0 : L2.start N_Ear__bits [V.ref p] = [some (V.ref p), none, none, none] := rfl
    rw [e0]
    try dsimp only [cxOf]
    walk_at "rd"
    refine Ak.l_lcR2 ⟨by decide, by decide, by omega, by omega⟩ (fun i => (List.range i).map fun (k : Nat) => V.int (g - (1 + (k : Int)))) rfl (fun D i H' hD hi hk hd => ?_) (fun D H' hD hk hd => ?_)
    · walk_at "rd"
      exact kIn_go hD hd hk (by rw [range_len, sizeLine_eq]; omega) range_succ
    · have e : (w + 1 - 1).toNat = w.toNat := by omega
      rw [e] at hd
      have hd2 : H' D = some (.lst (((List.range w.toNat).map fun (k : Nat) => g - (1 + (k : Int))).map V.int)) := by rw [hd, List.map_map]; rfl
      walk_at "rd"
      refine Ak.l_lcL (SqL.of hd2) (fun i => (List.range i).map fun (k : Nat) => V.int (if g - (1 + (k : Int)) ∈ cs then 1 else 0)) rfl (fun D2 i x H2 hD2 hx hk2 hd3 => ?_) (fun D2 H2 hD2 hk2 hd3 => ?_)
      · obtain ⟨n, hn, rfl⟩ := map_at hx
        obtain ⟨j, hj, rfl⟩ : ∃ j, (List.range w.toNat)[i]? = some j ∧ n = g - (1 + (j : Int)) := by
          rw [List.getElem?_map] at hn
          cases e : (List.range w.toNat)[i]? with
          | none => rw [e] at hn; cases hn
          | some j => rw [e] at hn; exact ⟨j, rfl, (Option.some.inj hn).symm⟩
        obtain ⟨hi, e2⟩ := List.getElem?_eq_some_iff.mp hj
        rw [List.length_range] at hi
        rw [List.getElem_range] at e2
        subst e2
        walk_at "rd"
        refine Ak.w_ite (fun z => ?_) (fun z => ?_)
        · walk_at "rd"
          exact kIn_go hD2 hd3 hk2 (by rw [range_len, sizeLine_eq]; omega) (by rw [range_succ, if_pos z])
        · walk_at "rd"
          exact kIn_go hD2 hd3 hk2 (by rw [range_len, sizeLine_eq]; omega) (by rw [range_succ, if_neg z])
      · rw [List.length_map, List.length_map, List.length_range] at hd3
        walk_at "rd"
        exact k _ _ (fresh_of [] (by walk_at "as") (by walk_at "kp")) upd_same (by walk_at "kp")
theorem ok_tell {CB : Addr} {f : Addr} {fd : FuncData} (F : L2.Fun K "tell" "Ear.tell" s_Ear_tell f fd) (T : EarT K C) (x_BadBits : RaiseC K mg "BadBits" CB) (m_Ear_bits : MetX P w K mg base 1 C "_bits" (spBits C)) : FnOk P w K mg base (L2.CX P w) 2 f fd ["self"] (spTell C CB) := by
  refine Fun.okX F sc_Ear_tell (fun vs H Q E h => ?_) (fun cdv A outer s H vs Q E hr h => ?_)
  · obtain ⟨_, _, _, _, _, _, _, rfl, _⟩ := h
    rfl
  · obtain ⟨p, c, m, w, l, g, cs, rfl, hE, m0, w0, w1, kE, k⟩ := h
    obtain ⟨dx, hp, hc⟩ := id hE
    obtain ⟨cl, n1, n2, n3, n4, n5⟩ := T
    refine ⟨_, (pss_cons (ps_if (pt_cmpR op_lt (Ak.pe_fldK (K := K) (by rfl) (pv 0) (by rfl)) pe_int (nomark _))
      (pss_one (ps_raise rfl (takes_of rfl rfl rfl rfl) (pmk_own PySem.F.excBase_ValueError x_BadBits.q x_BadBits.g x_BadBits.k x_BadBits.r rfl)))
      pss_nil)
      (pss_one (ps_ret (pe_tup (pa_cons (pe_op op_mod (Ak.pe_fldK (K := K) (by rfl) (pv 0) (by rfl)) (Ak.pe_fldK (K := K) (by rfl) (pv 0) (by rfl))) (pa_cons (Ak.pe_mx0 (pv 0) m_Ear_bits hr (by walk_at "lv") (takes_of rfl rfl rfl rfl)) pa_nil)))))), ?_⟩
    have e0 : L2.start N_Ear_tell [V.ref p] = [some (V.ref p)] := rfl
    rw [e0]
    try dsimp only [cxOf]
    walk_at "rd"
    refine Ak.w_ite (fun z => ?_) (fun z => ?_)
    · walk_at "rd"
      exact kE z
    · walk_at "rd"
      refine ⟨p, c, m, w, l, g, cs, rfl, hE, w0, w1, fun b H' hb hb2 hk => ?_⟩
      walk_at "rd"
      exact k (by omega) _ b _ (fresh_of [] (by walk_at "as") (by walk_at "kp")) hb upd_same (by walk_at "lk") (by walk_at "kp")
theorem ok_come {f : Addr} {fd : FuncData} (F : L2.Fun K "come" "Ear.come" s_Ear_come f fd) (T : EarT K C) (c_check_mark : CalX P w K mg base 1 "check_mark" spCheckMark) (m_Ear_number_of : MetX P w K mg base 1 C "_number_of" (spNumberOf C)) (m_Ear_word_of : MetX P w K mg base 2 C "_word_of" (spWordOf C))
    (m_Ear_keep : MetX P w K mg base 2 C "_keep" (spKeep C)) : FnOk P w K mg base (L2.CX P w) 3 f fd ["self", "mark"] (spCome C) := by
  refine Fun.okX F sc_Ear_come (fun vs H Q E h => ?_) (fun cdv A outer s H vs Q E hr h => ?_)
  · obtain ⟨_, _, _, _, _, _, _, _, rfl, _⟩ := h
    rfl
  · obtain ⟨p, c, mk, m, w, l, g, cs, rfl, hE, k0, k1, hl, k⟩ := h
    obtain ⟨dx, hp, hc⟩ := id hE
    obtain ⟨cl, n1, n2, n3, n4, n5⟩ := T
    refine ⟨_, (pss_cons (ps_expr (Ak.pe_cx c_check_mark hr (by walk_at "lv") (by rfl) (takes_of rfl rfl rfl rfl) (pa_cons (pv 1) (pa_cons (Ak.pe_fldK (K := K) (by rfl) (pv 0) (by rfl)) pa_nil))))
      (pss_cons (ps_set (i := 2) sc_Ear_come.nd rfl (Or.inl rfl) (Ak.pe_mx (pv 0) m_Ear_number_of hr (by walk_at "lv") (takes_of rfl rfl rfl rfl) (pa_cons (pv 1) pa_nil)))
      (pss_cons (ps_set (i := 3) sc_Ear_come.nd rfl (Or.inl rfl) (Ak.pe_mx (pv 0) m_Ear_word_of hr (by walk_at "lv") (takes_of rfl rfl rfl rfl) (pa_cons (pv 2) pa_nil)))
      (pss_cons (ps_if (pt_cmpR (Ak.op_eqK (K := K) (by rfl) hr.units) (pv 3) pe_str (nomark _))
      (pss_one (ps_expr (Ak.pe_mx (pv 0) m_Ear_keep hr (by walk_at "lv") (takes_of rfl rfl rfl rfl) (pa_cons (pv 2) pa_nil))))
      pss_nil)
      (pss_one (ps_ret (pe_tup (pa_cons (pv 2) (pa_cons (pv 3) pa_nil))))))))), ?_⟩
    have e0 : L2.start N_Ear_come [V.ref p, V.int mk] = [some (V.ref p), some (V.int mk), none, none] := rfl
    rw [e0]
    try dsimp only [cxOf]
    walk_at "rd"
    refine ⟨mk, m, rfl, k0, k1, ?_⟩
    walk_at "rd"
    refine ⟨p, c, mk, m, w, l, g, cs, rfl, hE, by omega, ?_⟩
    walk_at "rd"
    refine ⟨p, c, _, m, w, l, g, cs, rfl, hE, ?_⟩
    walk_at "rd"
    refine Ak.w_ite (fun z => ?_) (fun z => ?_)
    · walk_at "rd"
      refine ⟨p, c, _, m, w, l, g, cs, rfl, hE, hl, fun c' H' hE' nc' hk => ?_⟩
      walk_at "rd"
      exact k _ _ _ _ _ _ c' rfl rfl (by rw [if_pos z]) (fresh_of [p] (by walk_at "as") (by walk_at "kp")) upd_same (by
        obtain ⟨dx', a1, a2⟩ := hE'
        exact ⟨dx', by walk_at "lk", by walk_at "lk"⟩) (Or.inr nc') (by walk_at "kp")
    · walk_at "rd"
      exact k _ _ _ _ _ _ c rfl rfl (by rw [if_neg z]) (by walk_at "as") upd_same ⟨dx, by walk_at "lk", by walk_at "lk"⟩ (Or.inl rfl) (by walk_at "kp")
theorem ok_ear_init {f : Addr} {fd : FuncData} (F : L2.Fun K "__init__" "Ear.__init__" s_Ear___init f fd) (T : EarT K C) (c_check_setting : CalX P w K mg base 2 "check_setting" (spCheckSetting K)) : FnOk P w K mg base (L2.CX P w) 3 f fd ["self", "setting"] (spEarInit K C) := by
  refine Fun.okX F sc_Ear___init (fun vs H Q E h => ?_) (fun cdv A outer s H vs Q E hr h => ?_)
  · obtain ⟨_, _, _, _, _, _, _, rfl, _⟩ := h
    rfl
  · obtain ⟨p, q, m, w, l, a, dx, rfl, hq, so, hp, k⟩ := h
    obtain ⟨cl, n1, n2, n3, n4, n5⟩ := T
    refine ⟨_, (pss_cons (ps_expr (Ak.pe_cx c_check_setting hr (by walk_at "lv") (by rfl) (takes_of rfl rfl rfl rfl) (pa_cons (pv 1) pa_nil)))
      (pss_cons (ps_asg (pv 1) (Ak.pg_tupK (K := K) (n := 4) (by rfl) rfl (pgs_cons (pg_name (i := 2) sc_Ear___init.nd rfl (Or.inl rfl)) (pgs_cons (pg_name (i := 3) sc_Ear___init.nd rfl (Or.inl rfl)) (pgs_cons (pg_name (i := 4) sc_Ear___init.nd rfl (Or.inl rfl)) (pgs_cons (pg_name (i := 5) sc_Ear___init.nd rfl (Or.inl rfl)) pgs_nil))))))
      (pss_cons (Ak.ps_fldK (K := K) (by rfl) (pv 0) (pv 2) rfl)
      (pss_cons (Ak.ps_fldK (K := K) (by rfl) (pv 0) (pv 3) rfl)
      (pss_cons (Ak.ps_fldK (K := K) (by rfl) (pv 0) (pv 4) rfl)
      (pss_cons (Ak.ps_fldK (K := K) (by rfl) (pv 0) (pe_un un_neg pe_int) rfl)
      (pss_one (Ak.ps_fldK (K := K) (by rfl) (pv 0) (pe_lst pa_nil) rfl)))))))), ?_⟩
    have e0 : L2.start N_Ear___init [V.ref p, V.ref q] = [some (V.ref p), some (V.ref q), none, none, none, none] := rfl
    rw [e0]
    try dsimp only [cxOf]
    walk_at "rd"
    refine ⟨q, m, w, l, a, rfl, hq, so, fun H' hk => ?_⟩
    have hp' : H' p = some (.ins C dx []) := by walk_at "lk"
    walk_at "rd"
    refine k _ _ ⟨dx, upd_same, ?_⟩ ?_ (by walk_at "kp")
    · show _ = some (HO.lst [])
      walk_at "lk"
    · exact fresh_of [p] (by walk_at "as") (by walk_at "kp")
end
end Ak

namespace Ak
open PySem PySem.Spec PyProof.Rows L2
section
variable {P : Program} {w : World} {K : PySem.W.Frag} {mg : Str → Option Value} {base : Heap} {C : Addr}
theorem w_nin01 {H : Hp} {Q : VK} {t : Addr} {i : Int} (e : H t = some (.tup [.int 0, .int 1])) (h : i = 0 ∨ i = 1) (q : Q (.bl false) H) : rNinX K (.int i) (.ref t) H Q := by
  refine w_ninO e rfl rfl rfl ?_
  rcases h with rfl | rfl
  · exact q
  · exact q
theorem ok_check_bits {f : Addr} {fd : FuncData} (F : L2.Fun K "check_bits" "check_bits" s_check_bits f fd) (g_len : mg "len" = none) : FnOk P w K mg base (L2.CX P w) 1 f fd ["bits", "wide"] (spCheckBits K) := by
  refine Fun.okX F sc_check_bits (fun vs H Q E h => ?_) (fun cdv A outer s H vs Q E hr h => ?_)
  · obtain ⟨_, _, _, rfl, _⟩ := h
    rfl
  · obtain ⟨b, bs, wi, rfl, hb, hl, h01, h16, k⟩ := h
    refine ⟨_, (pss_cons (ps_if (pt_cmpR (Ak.op_neK (K := K) (by rfl) hr.units) (pe_callB (Ak.cr_lenK (K := K) (by rfl)) (by rfl) g_len (by decide +kernel) (pa_cons (pv 0) pa_nil)) (pv 1) (nomark _))
      (pss_one ps_never)
      pss_nil)
      (pss_one (ps_for (passes_of rfl) rfl (Ak.pi_tupK (K := K) (by rfl) (pv 0)) (pg_name (i := 2) sc_check_bits.nd rfl (Or.inl rfl))
      (pss_one (ps_if (pt_cmpR (Ak.op_ninK (K := K) (by rfl)) (pv 2) (pe_tup (pa_cons pe_int (pa_cons pe_int pa_nil))) (by rfl))
      (pss_one ps_never)
      pss_nil))))), ?_⟩
    have e0 : L2.start N_check_bits [V.ref b, V.int wi] = [some (V.ref b), some (V.int wi), none] := rfl
    rw [e0]
    try dsimp only [cxOf]
    walk_at "rd"
    refine Ak.w_iteN (fun z => absurd (by rw [List.length_map]; exact hl) z) (fun _ => ?_)
    walk_at "rd"
    refine l_forTup hb (fun _ σ' H' => ∃ v, σ' = [some (.ref b), some (.int wi), v] ∧ Keep [] H H') ⟨none, rfl, Keep.refl⟩ (fun i σ' H' _ pv => by obtain ⟨_, _, pv⟩ := pv; exact pv.seqT nin_nil hb) (fun i x σ' H' hx pv => ?_) (fun σ' H' pv => ?_)
    · obtain ⟨v, rfl, hk⟩ := pv
      obtain ⟨c, hc, rfl⟩ := map_at hx
      walk_at "rd"
      refine w_nin01 (by walk_at "lk") (h01 _ (List.mem_of_getElem? hc)) ?_
      walk_at "rd"
      exact ⟨_, rfl, by walk_at "kp"⟩
    · obtain ⟨v, rfl, hk⟩ := pv
      walk_at "rd"
      exact k _ hk
theorem ok_check_telling {f : Addr} {fd : FuncData} (F : L2.Fun K "check_telling" "check_telling" s_check_telling f fd) (c_check_mark : CalX P w K mg base 1 "check_mark" spCheckMark) (c_check_bits : CalX P w K mg base 1 "check_bits" (spCheckBits K)) : FnOk P w K mg base (L2.CX P w) 2 f fd ["told", "marks", "wide"] (spCheckTelling K) := by
  refine Fun.okX F sc_check_telling (fun vs H Q E h => ?_) (fun cdv A outer s H vs Q E hr h => ?_)
  · obtain ⟨_, _, _, _, _, _, rfl, _⟩ := h
    rfl
  · obtain ⟨q, b, mk, bs, m, wi, rfl, hq, hb, k0, k1, hl, h01, h16, k⟩ := h
    refine ⟨_, (pss_cons (ps_asg (pv 0) (Ak.pg_tupK (K := K) (n := 2) (by rfl) rfl (pgs_cons (pg_name (i := 3) sc_check_telling.nd rfl (Or.inl rfl)) (pgs_cons (pg_name (i := 4) sc_check_telling.nd rfl (Or.inl rfl)) pgs_nil))))
      (pss_cons (ps_expr (Ak.pe_cx c_check_mark hr (by walk_at "lv") (by rfl) (takes_of rfl rfl rfl rfl) (pa_cons (pv 3) (pa_cons (pv 1) pa_nil))))
      (pss_one (ps_expr (Ak.pe_cx c_check_bits hr (by walk_at "lv") (by rfl) (takes_of rfl rfl rfl rfl) (pa_cons (pv 4) (pa_cons (pv 2) pa_nil))))))), ?_⟩
    have e0 : L2.start N_check_telling [V.ref q, V.int m, V.int wi] = [some (V.ref q), some (V.int m), some (V.int wi), none, none] := rfl
    rw [e0]
    try dsimp only [cxOf]
    walk_at "rd"
    refine ⟨mk, m, rfl, k0, k1, ?_⟩
    walk_at "rd"
    refine ⟨b, bs, wi, rfl, hb, hl, h01, h16, fun H' hk => ?_⟩
    walk_at "rd"
    exact k _ hk
theorem ok_mouth_init {f : Addr} {fd : FuncData} (F : L2.Fun K "__init__" "Mouth.__init__" s_Mouth___init f fd) (T : MouthT K C) (c_check_setting : CalX P w K mg base 2 "check_setting" (spCheckSetting K)) : FnOk P w K mg base (L2.CX P w) 3 f fd ["self", "setting"] (spMouthInit K C) := by
  refine Fun.okX F sc_Mouth___init (fun vs H Q E h => ?_) (fun cdv A outer s H vs Q E hr h => ?_)
  · obtain ⟨_, _, _, _, _, _, _, rfl, _⟩ := h
    rfl
  · obtain ⟨p, q, m, wi, l, a, dx, rfl, hq, so, hp, k⟩ := h
    obtain ⟨cl, n1, n2, n3, n4, n5, n6⟩ := T
    refine ⟨_, (pss_cons (ps_expr (Ak.pe_cx c_check_setting hr (by walk_at "lv") (by rfl) (takes_of rfl rfl rfl rfl) (pa_cons (pv 1) pa_nil)))
      (pss_cons (ps_asg (pv 1) (Ak.pg_tupK (K := K) (n := 4) (by rfl) rfl (pgs_cons (pg_name (i := 2) sc_Mouth___init.nd rfl (Or.inl rfl)) (pgs_cons (pg_name (i := 3) sc_Mouth___init.nd rfl (Or.inl rfl)) (pgs_cons (pg_name (i := 4) sc_Mouth___init.nd rfl (Or.inl rfl)) (pgs_cons (pg_name (i := 5) sc_Mouth___init.nd rfl (Or.inl rfl)) pgs_nil))))))
      (pss_cons (Ak.ps_fldK (K := K) (by rfl) (pv 0) (pv 2) rfl)
      (pss_cons (Ak.ps_fldK (K := K) (by rfl) (pv 0) (pv 3) rfl)
      (pss_cons (Ak.ps_fldK (K := K) (by rfl) (pv 0) (pv 5) rfl)
      (pss_cons (Ak.ps_fldK (K := K) (by rfl) (pv 0) (pe_un un_neg pe_int) rfl)
      (pss_cons (Ak.ps_fldK (K := K) (by rfl) (pv 0) (pe_un un_neg pe_int) rfl)
      (pss_one (Ak.ps_fldK (K := K) (by rfl) (pv 0) pe_dnewK rfl))))))))), ?_⟩
    have e0 : L2.start N_Mouth___init [V.ref p, V.ref q] = [some (V.ref p), some (V.ref q), none, none, none, none] := rfl
    rw [e0]
    try dsimp only [cxOf]
    walk_at "rd"
    refine ⟨q, m, wi, l, a, rfl, hq, so, fun H' hk => ?_⟩
    have hp' : H' p = some (.ins C dx []) := by walk_at "lk"
    walk_at "rd"
    refine k _ _ ⟨dx, upd_same, ?_⟩ ?_ (by walk_at "kp")
    · show _ = some (HO.dK [])
      walk_at "lk"
    · exact fresh_of [p] (by walk_at "as") (by walk_at "kp")
theorem ok_is_full {f : Addr} {fd : FuncData} (F : L2.Fun K "is_full" "Mouth.is_full" s_Mouth_is_full f fd) (T : MouthT K C) : FnOk P w K mg base (L2.CX P w) 1 f fd ["self"] (spIsFull C) := by
  refine Fun.okX F sc_Mouth_is_full (fun vs H Q E h => ?_) (fun cdv A outer s H vs Q E hr h => ?_)
  · obtain ⟨_, _, _, _, _, _, _, _, rfl, _⟩ := h
    rfl
  · obtain ⟨p, c, m, wi, a, l, g, ks, rfl, ⟨dx, hp, hc⟩, hQ⟩ := h
    obtain ⟨cl, n1, n2, n3, n4, n5, n6⟩ := T
    refine ⟨_, (pss_one (ps_ret (pe_cmpR op_gt (pe_op (Ak.op_plusK (K := K) (by rfl)) (Ak.pe_fldK (K := K) (by rfl) (pv 0) (by rfl)) pe_int) (pe_op (Ak.op_plusK (K := K) (by rfl)) (Ak.pe_fldK (K := K) (by rfl) (pv 0) (by rfl)) (Ak.pe_fldK (K := K) (by rfl) (pv 0) (by rfl))) (nomark _)))), ?_⟩
    have e0 : L2.start N_Mouth_is_full [V.ref p] = [some (V.ref p)] := rfl
    rw [e0]
    try dsimp only [cxOf]
    walk_at "rd"
    exact hQ
theorem ok_mlast {f : Addr} {fd : FuncData} (F : L2.Fun K "last" "Mouth.last" s_Mouth_last f fd) (T : MouthT K C) : FnOk P w K mg base (L2.CX P w) 1 f fd ["self"] (spMLast C) := by
  refine Fun.okX F sc_Mouth_last (fun vs H Q E h => ?_) (fun cdv A outer s H vs Q E hr h => ?_)
  · obtain ⟨_, _, _, _, _, _, _, _, rfl, _⟩ := h
    rfl
  · obtain ⟨p, c, m, wi, a, l, g, ks, rfl, ⟨dx, hp, hc⟩, hQ⟩ := h
    obtain ⟨cl, n1, n2, n3, n4, n5, n6⟩ := T
    refine ⟨_, (pss_one (ps_ret (Ak.pe_fldK (K := K) (by rfl) (pv 0) (by rfl)))), ?_⟩
    have e0 : L2.start N_Mouth_last [V.ref p] = [some (V.ref p)] := rfl
    rw [e0]
    try dsimp only [cxOf]
    walk_at "rd"
    exact hQ
theorem ok_sure {f : Addr} {fd : FuncData} (F : L2.Fun K "sure" "Mouth.sure" s_Mouth_sure f fd) (T : MouthT K C) (g_sorted : mg "sorted" = none) : FnOk P w K mg base (L2.CX P w) 1 f fd ["self"] (spSure C) := by
  refine Fun.okX F sc_Mouth_sure (fun vs H Q E h => ?_) (fun cdv A outer s H vs Q E hr h => ?_)
  · obtain ⟨_, _, _, _, _, _, _, _, rfl, _⟩ := h
    rfl
  · obtain ⟨p, c, m, wi, a, l, g, ks, rfl, ⟨dx, hp, hc⟩, k⟩ := h
    obtain ⟨cl, n1, n2, n3, n4, n5, n6⟩ := T
    refine ⟨_, (pss_one (ps_ret (pe_callB (Ak.cr_sortK (K := K) (by rfl) rfl) (by rfl) g_sorted (by decide +kernel) (pa_cons (Ak.pe_fldK (K := K) (by rfl) (pv 0) (by rfl)) pa_nil)))), ?_⟩
    have e0 : L2.start N_Mouth_sure [V.ref p] = [some (V.ref p)] := rfl
    rw [e0]
    try dsimp only [cxOf]
    walk_at "rd"
    exact k _ _ (by walk_at "as") upd_same (by walk_at "kp")
theorem w_fmt {te : TE} {σ : L2.St} {H : Hp} {Q : VK} (h : te σ H fun x H1 => (∃ y : Str, x = .str y ∧ y.length ≤ sizeLine ∧ Q (.str y) H1) ∨ ∃ i : Int, x = .int i ∧ i.natAbs.log2 < 1920 ∧ Q (.str (toString i)) H1) : tFmt te σ H Q := h
theorem log2_small {n : Nat} (h : n < 1152921504606846976) : n.log2 < 60 := by
  rcases Nat.eq_zero_or_pos n with rfl | z
  · decide
  · exact (Nat.log2_lt (by omega)).mpr h
theorem fmt_len {acc : Str} {i : Int} (h1 : acc.length ≤ 1000) (h2 : i.natAbs.log2 < 60) : (acc ++ Str.ofString (toString i)).length ≤ 1100 := by
  have e := int_text_length_le (k := 60) (by decide) h2
  rw [Str.length_append, PySem.ofString_length]
  omega
theorem ok_send {CF : Addr} {f : Addr} {fd : FuncData} (F : L2.Fun K "send" "Mouth.send" s_Mouth_send f fd) (T : MouthT K C) (x_Full : RaiseC K mg "Full" CF) (m_Mouth_is_full : MetX P w K mg base 1 C "is_full" (spIsFull C)) : FnOk P w K mg base (L2.CX P w) 2 f fd ["self"] (spSend C CF) := by
  refine Fun.okX F sc_Mouth_send (fun vs H Q E h => ?_) (fun cdv A outer s H vs Q E hr h => ?_)
  · obtain ⟨_, _, _, _, _, _, _, _, rfl, _⟩ := h
    rfl
  · obtain ⟨p, c, m, wi, a, l, g, ks, rfl, hM, m0, l0, l1, kE, k⟩ := h
    obtain ⟨dx, hp, hc⟩ := id hM
    have pc := hM.ne
    obtain ⟨cl, n1, n2, n3, n4, n5, n6⟩ := T
    refine ⟨_, (pss_cons (ps_if (Ak.pt_truK (K := K) (by rfl) (Ak.pe_mx0 (pv 0) m_Mouth_is_full hr (by walk_at "lv") (takes_of rfl rfl rfl rfl)))
      (pss_one (ps_raise rfl (takes_of rfl rfl rfl rfl) (pmk_ownA PySem.F.excBase_ValueError x_Full.q x_Full.g x_Full.k x_Full.r rfl (pa_cons (pe_joined (.cons pe_str (.cons (pe_fmt (pe_op (Ak.op_plusK (K := K) (by rfl)) (Ak.pe_fldK (K := K) (by rfl) (pv 0) (by rfl)) pe_int)) (.cons pe_str .nil)))) pa_nil))))
      pss_nil)
      (pss_cons (ps_fldaug (pv 0) pe_int in_add)
      (pss_one (ps_ret (pe_tup (pa_cons (Ak.pe_fldK (K := K) (by rfl) (pv 0) (by rfl)) (pa_cons (pe_op op_mod (Ak.pe_fldK (K := K) (by rfl) (pv 0) (by rfl)) (Ak.pe_fldK (K := K) (by rfl) (pv 0) (by rfl))) pa_nil))))))), ?_⟩
    have e0 : L2.start N_Mouth_send [V.ref p] = [some (V.ref p)] := rfl
    rw [e0]
    try dsimp only [cxOf]
    walk_at "rd"
    refine ⟨p, c, m, wi, a, l, g, ks, rfl, hM, ?_⟩
    walk_at "rd"
    refine Ak.w_ite (fun z => ?_) (fun z => ?_)
    · walk_at "rd"
      refine ⟨_, rfl, by decide, ?_⟩
      show tFmt _ _ _ _
      refine w_fmt ?_
      walk_at "rd"
      have hb : (l + 1).natAbs.log2 < 60 := log2_small (by omega)
      have e1 := fmt_len (acc := Str.empty ++ "letter ") (i := l + 1) (by decide) hb
      refine Or.inr ⟨_, rfl, by omega, _, rfl, by rw [sizeLine_eq]; omega, ?_⟩
      refine ⟨_, rfl, ?_, ?_⟩
      · rw [Str.length_append, sizeLine_eq]
        have : (Str.ofString " is too far ahead").length = 17 := by decide +kernel
        omega
      · exact ⟨by show 1 ≤ sizeLine; decide, kE z⟩
    · walk_at "rd"
      exact k z _ _ (fresh_of [p] (by walk_at "as") (by walk_at "kp")) upd_same ⟨dx, by walk_at "lk", by walk_at "lk"⟩ (by walk_at "kp")
theorem ok_numbers {f : Addr} {fd : FuncData} (F : L2.Fun K "_numbers_of" "Mouth._numbers_of" s_Mouth__numbers_of f fd) (T : MouthT K C) (g_enumerate : mg "enumerate" = none) (g_sorted : mg "sorted" = none) : FnOk P w K mg base (L2.CX P w) 1 f fd ["self", "told"] (spNumbers K C) := by
  refine Fun.okX F sc_Mouth__numbers_of (fun vs H Q E h => ?_) (fun cdv A outer s H vs Q E hr h => ?_)
  · obtain ⟨_, _, _, _, _, _, _, _, _, _, _, _, rfl, _⟩ := h
    rfl
  · obtain ⟨p, c, q, b, m, wi, a, l, g, ks, mk, bs, rfl, ⟨dx, hp, hc⟩, hq, hb, m0, h16, k⟩ := h
    obtain ⟨cl, n1, n2, n3, n4, n5, n6⟩ := T
    refine ⟨_, (pss_cons (ps_asg (pv 1) (Ak.pg_tupK (K := K) (n := 2) (by rfl) rfl (pgs_cons (pg_name (i := 2) sc_Mouth__numbers_of.nd rfl (Or.inl rfl)) (pgs_cons (pg_name (i := 3) sc_Mouth__numbers_of.nd rfl (Or.inl rfl)) pgs_nil))))
      (pss_cons (ps_set (i := 4) sc_Mouth__numbers_of.nd rfl (Or.inr rfl) (pe_op op_sub (Ak.pe_fldK (K := K) (by rfl) (pv 0) (by rfl)) (pe_op op_mod (pe_op op_sub (Ak.pe_fldK (K := K) (by rfl) (pv 0) (by rfl)) (pv 2)) (Ak.pe_fldK (K := K) (by rfl) (pv 0) (by rfl)))))
      (pss_cons (ps_setLc (i := 5) (own := [("back", 6), ("bit", 7)])  rfl sc_Mouth__numbers_of.nd rfl rfl (sw_true rfl rfl rfl (by decide +kernel)) (Ak.pi_enumTS (K := K) (by rfl) (by rfl) g_enumerate (pa_cons (pv 3) pa_nil) (pk_cons pe_int pk_nil)) (blkOk_by (N := N_Mouth__numbers_of) (sc := defScope s_Mouth__numbers_of) (by decide +kernel)) (fun _ _ _ _ _ => by exact (Ak.pg_tupK (K := K) (n := 2) (by rfl) rfl (pgs_cons (pg_name (i := 6) sc_Mouth__numbers_of.nd rfl (Or.inl rfl)) (pgs_cons (pg_name (i := 7) sc_Mouth__numbers_of.nd rfl (Or.inl rfl)) pgs_nil)))) (fun _ _ _ _ _ => by exact (pts_one (pt_cmpR (Ak.op_eqK (K := K) (by rfl) hr.units) (pv 7) pe_int (nomark _)))) (fun _ _ _ _ _ => by exact (pe_op op_sub (pv 4) (pv 6))))
      (pss_one (ps_ret (pe_callB (Ak.cr_sortK (K := K) (by rfl) rfl) (by rfl) g_sorted (by decide +kernel) (pa_cons (pe_op (Ak.op_plusK (K := K) (by rfl)) (pe_lst (pa_cons (pv 4) pa_nil)) (pv 5)) pa_nil))))))), ?_⟩
    have e0 : L2.start N_Mouth__numbers_of [V.ref p, V.ref q] = [some (V.ref p), some (V.ref q), none, none, none, none, none, none] := rfl
    rw [e0]
    try dsimp only [cxOf]
    walk_at "rd"
    change kLcE _ _ _ _ _ _ _ _ _ _
    refine l_lcE hb (by decide) (by decide) (fun i => (othersOf (newestOf m l mk) bs i).map V.int) rfl (fun D i x t H' hD hx hk hd nt => ?_) (fun D H' hD hk hd => ?_)
    · obtain ⟨v, hv, rfl⟩ := map_at hx
      walk_at "rd"
      refine Ak.w_ite (fun z => ?_) (fun z => ?_)
      · subst z
        walk_at "rd"
        refine kIn_go hD (by walk_at "lk") (by walk_at "kp") ?_ (by rw [others_yes hv, List.map_append]; rfl)
        have := others_len (n := newestOf m l mk) (bs := bs) (i := i)
        have hi := (List.getElem?_eq_some_iff.mp hv).1
        rw [List.length_map, sizeLine_eq]
        omega
      · exact kOut_go (by walk_at "lk") (by walk_at "kp") (by rw [others_no (fun e => z (by rw [hv] at e; exact Option.some.inj e))])
    · rw [List.length_map] at hd
      have e1 : (othersOf (newestOf m l mk) bs bs.length).length ≤ 16 := Nat.le_trans others_len h16
      walk_at "rd"
      refine w_sortO (ns := allOf (newestOf m l mk) bs) upd_same fun r nr => ?_
      walk_at "rd"
      exact k _ _ (fresh_of [] (by walk_at "as") (by walk_at "kp")) upd_same (by walk_at "kp")
theorem hear_all {n : Int} {bs ks : List Int} {i : Nat} (h : i < (foundOf n bs ks).length) : (foundOf n bs ks)[i] ∉ ks ++ (foundOf n bs ks).take i := by
  intro m
  rcases List.mem_append.mp m with m | m
  · have := List.getElem_mem h
    unfold foundOf at this
    have q := (List.mem_filter.mp this).2
    unfold foundOf at m
    rw [decide_eq_true m] at q
    cases q
  · have nd : (foundOf n bs ks).Nodup := (srt_nodup all_nd).filter _
    obtain ⟨j, hj, e⟩ := List.mem_iff_getElem.mp m
    rw [List.length_take] at hj
    rw [List.getElem_take] at e
    have := List.pairwise_iff_getElem.mp nd j i (by omega) h (by omega)
    exact this e
theorem ok_hear {CB : Addr} {f : Addr} {fd : FuncData} (F : L2.Fun K "hear" "Mouth.hear" s_Mouth_hear f fd) (T : MouthT K C) (g_max : mg "max" = none) (x_BadBits : RaiseC K mg "BadBits" CB) (c_check_telling : CalX P w K mg base 2 "check_telling" (spCheckTelling K)) (m_Mouth_numbers_of : MetX P w K mg base 1 C "_numbers_of" (spNumbers K C)) : FnOk P w K mg base (L2.CX P w) 3 f fd ["self", "told"] (spHear K C CB) := by
  refine Fun.okX F sc_Mouth_hear (fun vs H Q E h => ?_) (fun cdv A outer s H vs Q E hr h => ?_)
  · obtain ⟨_, _, _, _, _, _, _, _, _, _, _, _, rfl, _⟩ := h
    rfl
  · obtain ⟨p, c, q, b, m, wi, a, l, g, ks, mk, bs, rfl, hM, hq, hb, k0, k1, hl, h01, h16, hks, kE, k⟩ := h
    obtain ⟨dx, hp, hc⟩ := id hM
    have pc := hM.ne
    obtain ⟨cl, n1, n2, n3, n4, n5, n6⟩ := T
    refine ⟨_, (pss_cons (ps_expr (Ak.pe_cx c_check_telling hr (by walk_at "lv") (by rfl) (takes_of rfl rfl rfl rfl) (pa_cons (pv 1) (pa_cons (Ak.pe_fldK (K := K) (by rfl) (pv 0) (by rfl)) (pa_cons (Ak.pe_fldK (K := K) (by rfl) (pv 0) (by rfl)) pa_nil)))))
      (pss_cons (ps_set (i := 2) sc_Mouth_hear.nd rfl (Or.inl rfl) (Ak.pe_mx (pv 0) m_Mouth_numbers_of hr (by walk_at "lv") (takes_of rfl rfl rfl rfl) (pa_cons (pv 1) pa_nil)))
      (pss_cons (ps_if (pt_cmpR op_lt (pe_ix (Ak.ix_K (K := K) (by rfl)) (pv 2) pe_int (by intro _ _; rfl)) pe_int (nomark _))
      (pss_one (ps_raise rfl (takes_of rfl rfl rfl rfl) (pmk_own PySem.F.excBase_ValueError x_BadBits.q x_BadBits.g x_BadBits.k x_BadBits.r rfl)))
      pss_nil)
      (pss_cons (ps_setLc (i := 3) (own := [("number", 4)]) (g := (gName 4)) rfl sc_Mouth_hear.nd rfl rfl (sw_true rfl rfl rfl (by decide +kernel)) (Ak.pi_listK (K := K) (by rfl) (pv 2)) (blkOk_by (N := N_Mouth_hear) (sc := defScope s_Mouth_hear) (by decide +kernel)) (fun _ _ _ _ _ => by exact (pg_name (i := 4) sc_Mouth_hear.nd rfl (Or.inl rfl))) (fun _ _ _ _ _ => by exact (pts_one (pt_cmp (pc_dnotin (hu_of hr) (pv 4) (Ak.pe_fldK (K := K) (by rfl) (pv 0) (by rfl))) rfl))) (fun _ _ _ _ _ => by exact (pv 4)))
      (pss_cons (ps_for (passes_of rfl) rfl (Ak.pi_listK (K := K) (by rfl) (pv 3)) (pg_name (i := 5) sc_Mouth_hear.nd rfl (Or.inl rfl))
      (pss_one (ps_dput (hu_of hr) (Ak.pe_fldK (K := K) (by rfl) (pv 0) (by rfl)) (pv 5) pe_bl rfl)))
      (pss_cons (Ak.ps_fldK (K := K) (by rfl) (pv 0) (pe_callB (Ak.cr_maxK (K := K) (by rfl) rfl) (by rfl) g_max (by decide +kernel) (pa_cons (Ak.pe_fldK (K := K) (by rfl) (pv 0) (by rfl)) (pa_cons (pe_ix (Ak.ix_K (K := K) (by rfl)) (pv 2) (pe_un un_neg pe_int) (by intro _ _; rfl)) pa_nil))) rfl)
      (pss_one (ps_ret (pv 3))))))))), ?_⟩
    have e0 : L2.start N_Mouth_hear [V.ref p, V.ref q] = [some (V.ref p), some (V.ref q), none, none, none, none] := rfl
    rw [e0]
    try dsimp only [cxOf]
    walk_at "rd"
    refine ⟨q, b, mk, bs, m, wi, rfl, hq, hb, k0, k1, hl, h01, h16, fun H1 hk1 => ?_⟩
    walk_at "rd"
    refine ⟨p, c, q, b, m, wi, a, l, g, ks, mk, bs, rfl, hM.keep hk1 nin_nil nin_nil, hk1.seqT nin_nil hq, hk1.seqT nin_nil hb, by omega, h16, fun f H2 hf hf2 hk2 => ?_⟩
    have hk12 := hk1.trans hk2
    have hM2 := hM.keep hk12 nin_nil nin_nil
    obtain ⟨dx2, hp2, hc2⟩ := id hM2
    obtain ⟨x0, ex0, hx0, hx0'⟩ := srt_first (ns := allOf (newestOf m l mk) bs) (List.cons_ne_nil _ _)
    obtain ⟨x9, ex9, hx9, hx9'⟩ := srt_last (ns := allOf (newestOf m l mk) bs) (List.cons_ne_nil _ _)
    have e9 : x9 = newestOf m l mk := Int.le_antisymm (all_le hx9) (hx9' _ List.mem_cons_self)
    walk_at "rd"
    refine Ak.w_ite (fun z => ?_) (fun z => ?_)
    · walk_at "rd"
      exact kE ⟨x0, hx0, z⟩ _ hk12
    · walk_at "rd"
      refine Ak.l_lcL (xs := (srt (allOf (newestOf m l mk) bs)).map V.int) (SqL.of hf2) (fun i => (((srt (allOf (newestOf m l mk) bs)).take i).filter fun x => !decide (x ∈ ks)).map V.int) rfl (fun D i x H' hD hx hk hd => ?_) (fun D H' hD hk hd => ?_)
      · obtain ⟨c', hc', rfl⟩ := map_at hx
        have hp' : H' p = some (.ins C dx2 (mouthF m wi a l g c)) := by walk_at "lk"
        walk_at "rd"
        refine Ak.w_iteN (fun z => ?_) (fun z => ?_)
        · walk_at "rd"
          refine kIn_go hD hd hk ?_ (filt_yes hc' (by rw [decide_eq_false z]; rfl))
          have e := filt_len (l := srt (allOf (newestOf m l mk) bs)) (i := i) (p := fun x => !decide (x ∈ ks)) (f := V.int)
          have e2 := all_len (n := newestOf m l mk) (bs := bs)
          rw [srt_len] at e
          rw [sizeLine_eq]
          omega
        · exact kOut_go hd hk (filt_no hc' (by rw [decide_eq_true z]; exact Bool.false_ne_true))
      · rw [List.length_map, List.take_length] at hd
        have hd' : H' D = some (.lst ((foundOf (newestOf m l mk) bs ks).map V.int)) := hd
        have hp3 : H' p = some (.ins C dx2 (mouthF m wi a l g c)) := by walk_at "lk"
        have hc3 : H' c = some (.dK (sureD ks)) := by walk_at "lk"
        have hf3 : H' f = some (.lst ((srt (allOf (newestOf m l mk) bs)).map V.int)) := by walk_at "lk"
        have fl : (foundOf (newestOf m l mk) bs ks).length ≤ 17 := by
          have e := List.length_filter_le (fun x => !decide (x ∈ ks)) (srt (allOf (newestOf m l mk) bs))
          have e2 := all_len (n := newestOf m l mk) (bs := bs)
          rw [srt_len] at e
          unfold foundOf
          omega
        have cD : D ≠ c := ne_of hd' hc3 (by intro z; cases z)
        have cf : f ≠ c := ne_of hf3 hc3 (by intro z; cases z)
        walk_at "rd"
        refine l_forList (xs := (foundOf (newestOf m l mk) bs ks).map V.int) (SqL.of hd') (fun i σ' H4 => ∃ v5, σ' = [some (.ref p), some (.ref q), some (.ref f), some (.ref D), none, v5] ∧ Keep [c] H' H4 ∧ H4 c = some (.dK (sureD (ks ++ (foundOf (newestOf m l mk) bs ks).take i))))
          ⟨none, rfl, Keep.refl, by rw [List.take_zero, List.append_nil]; exact hc3⟩ (fun i σ' H4 _ pv => by obtain ⟨_, _, pv, _⟩ := pv; exact pv.seqL (nin_cons cD nin_nil) (SqL.of hd')) (fun i x σ' H4 hx pv => ?_) (fun σ' H4 pv => ?_)
        · obtain ⟨v5, rfl, hk4, hc4⟩ := pv
          obtain ⟨y, hy, rfl⟩ := map_at hx
          obtain ⟨hi, ey⟩ := List.getElem?_eq_some_iff.mp hy
          have nin : y ∉ ks ++ (foundOf (newestOf m l mk) bs ks).take i := ey ▸ hear_all hi
          have hp4 : H4 p = some (.ins C dx2 (mouthF m wi a l g c)) := by walk_at "lk"
          walk_at "rd"
          refine w_dputN hc4 nin ?_ ⟨_, rfl, by walk_at "kp", ?_⟩
          · rw [List.length_append, List.length_take, sizeLine_eq]
            omega
          · rw [upd_same, take_at hy, List.append_assoc]
        · obtain ⟨v5, rfl, hk4, hc4⟩ := pv
          rw [List.length_map, List.take_length] at hc4
          have hp4 : H4 p = some (.ins C dx2 (mouthF m wi a l g c)) := by walk_at "lk"
          have hf4 : H4 f = some (.lst ((srt (allOf (newestOf m l mk) bs)).map V.int)) := by walk_at "lk"
          have hd4 : H4 D = some (.lst ((foundOf (newestOf m l mk) bs ks).map V.int)) := by walk_at "lk"
          have pD : D ≠ p := ne_of hd4 hp4 (by intro z; cases z)
          have hk14 : Keep [p, c] H H4 := ((hk12.trans hk).mono sub_nil).trans (hk4.mono (fun b hb => by rw [List.mem_singleton.mp hb]; exact List.mem_cons_of_mem _ List.mem_cons_self))
          walk_at "rd"
          rw [e9]
          refine k (fun x hx => by have := hx0' x hx; omega) _ _ (hk12.2 _ hD) ((upd_ne pD).trans hd4) ⟨dx2, upd_same, ?_⟩ (hk14.set List.mem_cons_self)
          exact (upd_ne (Ne.symm pc)).trans hc4
end
end Ak

namespace Ak
open PySem PySem.Spec PyProof.Rows L2
/-! ### the law's world: dice, a list of tuples, what each of them stands for -/
/-- not a list of ints -/
def NoInts (H : Hp) (b : Addr) : Prop := ∀ ns : List Int, H b ≠ some (.lst (ns.map V.int))
theorem NoInts.dice {K : PySem.W.Frag} {H0 H : Hp} {d : Addr} (x : Dice K H0 H d) : NoInts H d := by
  obtain ⟨⟨a, ns, i, m, r, h1, h2⟩, h3, h4⟩ := x
  intro ms e
  rw [h1] at e
  cases ms with
  | nil => cases e
  | cons n t => cases e
/-- no list, no tuple, no table, no code object -/
structure Solid (o : HO) : Prop where
  l : ∀ xs, o ≠ .lst xs
  t : ∀ xs, o ≠ .tup xs
  b : ∀ ps, o ≠ .tbl ps
  x : ∀ φ, o ≠ .ext φ
theorem Solid.ins {C dx : Addr} {fs : List (Str × V)} : Solid (.ins C dx fs) := ⟨fun _ z => (by cases z), fun _ z => (by cases z), fun _ z => (by cases z), fun _ z => (by cases z)⟩
theorem Solid.dK {kvs : List (Key × V)} : Solid (.dK kvs) := ⟨fun _ z => (by cases z), fun _ z => (by cases z), fun _ z => (by cases z), fun _ z => (by cases z)⟩
theorem NoInts.solid {H : Hp} {b : Addr} {o : HO} (h : H b = some o) (s : Solid o) : NoInts H b := fun ns e => s.l _ (Option.some.inj (h.symm.trans e))
theorem Dice.ext' {K : PySem.W.Frag} {H0 H H' : Hp} {d : Addr} (x : Dice K H0 H d) (e : Ext0 H H') : Dice K H0 H' d := by
  obtain ⟨⟨a, ns, i, m, r, h1, h2⟩, h3, h4⟩ := x
  exact ⟨⟨a, ns, i, m, r, e _ _ h1 (fun _ z => by cases z), h2⟩, h3, h4.trans e⟩
theorem Keep.ext {H H' : Hp} (k : Keep [] H H') : Ext0 H H' := fun b o h _ => k.1 b o nin_nil h
/-- neither a table nor a code object -/
def Plain (H : Hp) (b : Addr) : Prop := ∃ o, H b = some o ∧ (∀ ps, o ≠ .tbl ps) ∧ ∀ φ, o ≠ .ext φ
theorem Plain.lst {H : Hp} {b : Addr} {xs : List V} (h : H b = some (.lst xs)) : Plain H b := ⟨_, h, fun _ z => (by cases z), fun _ z => (by cases z)⟩
theorem Plain.solid {H : Hp} {b : Addr} {o : HO} (h : H b = some o) (s : Solid o) : Plain H b := ⟨o, h, s.b, s.x⟩
theorem Tabs.keep {T : List (Addr × Str)} {S : List Addr} {H H' : Hp} (t : LamX.Tabs T H) (k : Keep S H H') (n : ∀ b, b ∈ S → Plain H b) : LamX.Tabs T H' := by
  intro x hx
  obtain ⟨ps, h1, h2, h3⟩ := t x hx
  refine ⟨ps, k.1 _ _ (fun m => ?_) h1, h2, fun pos cv hcv => ?_⟩
  · obtain ⟨o, e, ne, _⟩ := n _ m
    rw [h1] at e
    exact ne ps (Option.some.inj e).symm
  · obtain ⟨c, e1, e2⟩ := h3 pos cv hcv
    refine ⟨c, e1, k.1 _ _ (fun m => ?_) e2⟩
    obtain ⟨o, e, _, ne⟩ := n _ m
    rw [e2] at e
    exact ne _ (Option.some.inj e).symm
theorem plain0 {H : Hp} : ∀ c, c ∈ ([] : List Addr) → Plain H c := fun _ m => absurd m List.not_mem_nil
theorem plain1 {H : Hp} {b : Addr} (h : Plain H b) : ∀ c, c ∈ [b] → Plain H c := fun c m => by rw [List.mem_singleton.mp m]; exact h
theorem Tabs.one {P : Addr} {q : Str} {H : Hp} (h : LamX.TabS H P q) : LamX.Tabs [(P, q)] H := fun p hp => by rw [List.mem_singleton.mp hp]; exact h
/-- behind a call that changed what is new alone -/
theorem Keep.fresh {S T : List Addr} {H H1 H2 : Hp} (l : Keep T H1 H2) (h : ∀ b, b ∈ T → H b = none) (k : Keep S H H1) : Keep S H H2 :=
  ⟨fun b u n e => l.1 b u (fun m => by rw [h b m] at e; cases e) (k.1 b u n e), fun b e => k.2 b (l.2 b e)⟩
theorem Keep.old {S : List Addr} {H0 H H' : Hp} (old : ∀ b, H b = none → H0 b = none) (k : Keep S H H') : ∀ b, H' b = none → H0 b = none := fun b e => old b (k.2 b e)
/-- all but S and the tables stay -/
def KeepX (S : List Addr) (H H' : Hp) : Prop := ∀ a o, a ∉ S → H a = some o → (∀ ps, o ≠ .tbl ps) → H' a = some o
theorem Keep.x {S : List Addr} {H H' : Hp} (k : Keep S H H') : KeepX S H H' := fun a o n h _ => k.1 a o n h
theorem KeepX.ext {H H' : Hp} (e : Ext0 H H') : KeepX [] H H' := fun a o _ h n => e a o h n
theorem KeepX.trans {S : List Addr} {H H1 H2 : Hp} (a : KeepX S H H1) (b : KeepX S H1 H2) : KeepX S H H2 := fun c o n h t => b c o n (a c o n h t) t
theorem KeepX.mono {S T : List Addr} {H H1 : Hp} (a : KeepX T H H1) (h : ∀ b, b ∈ T → b ∈ S) : KeepX S H H1 := fun c o n => a c o fun m => n (h c m)
theorem KeepX.mono0 {S : List Addr} {H H1 : Hp} (a : KeepX [] H H1) : KeepX S H H1 := a.mono sub_nil
theorem KeepX.fresh {S T : List Addr} {H H1 H2 : Hp} (l : KeepX T H1 H2) (h : ∀ b, b ∈ T → b ∈ S ∨ H b = none) (k : KeepX S H H1) : KeepX S H H2 := fun a o n e t => l a o (fun m => by
  rcases h a m with z | z
  · exact n z
  · rw [e] at z; cases z) (k a o n e t) t
theorem KeepX.fresh' {S T : List Addr} {H H1 H2 : Hp} (l : KeepX T H1 H2) (h : ∀ b, b ∈ T → b ∈ S ∨ ∀ o, H b = some o → ¬ ∀ ps, o ≠ .tbl ps) (k : KeepX S H H1) : KeepX S H H2 := fun a o n e t => l a o (fun m => by
  rcases h a m with z | z
  · exact n z
  · exact z o e t) (k a o n e t) t
theorem Dice.keepX {K : PySem.W.Frag} {H0 H H1 : Hp} {d : Addr} {S : List Addr} (x : Dice K H0 H d) (k : KeepX S H H1) (nd : d ∉ S) (n : ∀ b, b ∈ S → H0 b = none) : Dice K H0 H1 d := by
  obtain ⟨⟨a, ns, i, m, r, h1, h2⟩, h3, h4⟩ := x
  exact ⟨⟨a, ns, i, m, r, k _ _ nd h1 (fun _ z => by cases z), h2⟩, h3, fun b o h t => k b o (fun m => by rw [n b m] at h; cases h) (h4 b o h t) t⟩
theorem Dice.own {K : PySem.W.Frag} {H0 H1 H2 : Hp} {d D : Addr} {o : HO} (x : Dice K H0 H1 d) (y : Dice K H0 H2 d) (n : H1 D = none) (ne : d ≠ D) : Dice K H0 (upd H2 D o) d := by
  obtain ⟨⟨a, ns, i, m, r, h1, h2⟩, h3, h4⟩ := y
  exact ⟨⟨a, ns, i, m, r, (upd_ne ne).trans h1, h2⟩, h3, fun b u h t => by
    rw [upd_ne (fun z => by
      have := x.ext b u h t
      rw [z, n] at this
      cases this)]
    exact h4 b u h t⟩
/-- what follows an if, said once -/
theorem cut_if {c : Bool} {t u : TS} {D : Ends} {σ : L2.St} {H : Hp} (N : L2.St → Hp → Prop) (a : ∀ σ' H', N σ' H' → D.nx σ' H') (b : (∀ σ' H', N σ' H' → D.nx σ' H') → if c = true then t D σ H else u D σ H) : if c = true then t D σ H else u D σ H := b a
/-- the same, what follows kept closed -/
theorem cut_ifO {c : Bool} {t u : TS} {D : Ends} {σ : L2.St} {H : Hp} (N : L2.St → Hp → Prop) (a : ∀ σ' H', N σ' H' → D.nx σ' H') (b : ∀ R : L2.St → Hp → Prop, (∀ σ' H', N σ' H' → R σ' H') → if c = true then t { D with nx := R } σ H else u { D with nx := R } σ H) : if c = true then t D σ H else u D σ H := b D.nx a
theorem cut_isi {K : PySem.W.Frag} {vf c : V} {t u : TS} {D : Ends} {σ : L2.St} {H : Hp} (N : L2.St → Hp → Prop) (a : ∀ σ' H', N σ' H' → D.nx σ' H') (b : ∀ R : L2.St → Hp → Prop, (∀ σ' H', N σ' H' → R σ' H') → rIsi K [vf, c] H fun x H' => ∃ k, TruV K x H' k ∧ if k = true then t { D with nx := R } σ H' else u { D with nx := R } σ H') : rIsi K [vf, c] H fun x H' => ∃ k, TruV K x H' k ∧ if k = true then t D σ H' else u D σ H' := b D.nx a
theorem cut_seq {t u : TS} {D : Ends} {σ : L2.St} {H : Hp} (N : L2.St → Hp → Prop) (a : ∀ σ' H', N σ' H' → u D σ' H') (b : ∀ R : L2.St → Hp → Prop, (∀ σ' H', N σ' H' → R σ' H') → t { D with nx := R } σ H) : tSeq t u D σ H := b (u D) a
/-! alike -/
section
variable {K : PySem.W.Frag} {H : Hp} {n : Nat} {p q : Addr}
theorem al_int {i : Int} : Alike K H (n + 1) (.int i) (.int i) := Or.inr (Or.inl ⟨i, rfl, rfl⟩)
theorem al_bl {b : Bool} : Alike K H (n + 1) (.bl b) (.bl b) := Or.inl ⟨b, rfl, rfl⟩
theorem al_str {s : Str} : Alike K H (n + 1) (.str s) (.str s) := Or.inr (Or.inr (Or.inl ⟨s, rfl, rfl⟩))
theorem al_non : Alike K H (n + 1) .non .non := Or.inr (Or.inr (Or.inr (Or.inl ⟨rfl, rfl⟩)))
inductive AlL (K : PySem.W.Frag) (H : Hp) (n : Nat) : List V → List V → Prop
  | nil : AlL K H n [] []
  | cons {x y : V} {xs ys : List V} (h : Alike K H n x y) (t : AlL K H n xs ys) : AlL K H n (x :: xs) (y :: ys)
theorem AlL.len {xs ys : List V} (h : AlL K H n xs ys) : xs.length = ys.length := by
  induction h with
  | nil => rfl
  | cons _ _ ih => rw [List.length_cons, List.length_cons, ih]
theorem AlL.at {xs ys : List V} (h : AlL K H n xs ys) : ∀ (k : Nat) u v, xs[k]? = some u → ys[k]? = some v → Alike K H n u v := by
  induction h with
  | nil => intro k u v a _; simp at a
  | cons h t ih =>
    intro k u v a b
    match k, a, b with
    | 0, a, b => cases a; cases b; exact h
    | k + 1, a, b => exact ih k u v (by simpa using a) (by simpa using b)
theorem al_tup {xs ys : List V} (hx : H p = some (.tup xs)) (hy : H q = some (.tup ys)) (h : AlL K H n xs ys) (hl : xs.length ≤ 16777216) : Alike K H (n + 1) (.ref p) (.ref q) :=
  Or.inr (Or.inr (Or.inr (Or.inr (Or.inl ⟨p, q, _, _, rfl, rfl, SqT.of hx, SqT.of hy, h.len, hl, h.at⟩))))
theorem al_lst {xs ys : List V} (hx : H p = some (.lst xs)) (hy : H q = some (.lst ys)) (h : AlL K H n xs ys) (hl : xs.length ≤ 16777216) : Alike K H (n + 1) (.ref p) (.ref q) :=
  Or.inr (Or.inr (Or.inr (Or.inr (Or.inr ⟨p, q, _, _, rfl, rfl, SqL.of hx, SqL.of hy, h.len, hl, h.at⟩))))
theorem AlL.same {xs : List V} (h : ∀ x, x ∈ xs → Alike K H n x x) : AlL K H n xs xs := by
  induction xs with
  | nil => exact .nil
  | cons x r ih => exact .cons (h x List.mem_cons_self) (ih fun y hy => h y (List.mem_cons_of_mem _ hy))
theorem AlL.ints {ns : List Int} : AlL K H (n + 1) (ns.map V.int) (ns.map V.int) := AlL.same fun x hx => by
  obtain ⟨i, _, rfl⟩ := List.mem_map.mp hx
  exact al_int
end
def Fr (H0 : Hp) (a : Addr) : Prop := ∀ o, H0 a = some o → ∃ ps, o = .tbl ps
theorem Fr.of {H0 H : Hp} {a : Addr} (e : Ext0 H0 H) (n : H a = none) : Fr H0 a := fun o h => by
  by_cases q : ∃ ps, o = .tbl ps
  · exact q
  · have := e a o h fun ps z => q ⟨ps, z⟩
    rw [n] at this
    cases this
theorem Dice.keepF {K : PySem.W.Frag} {H0 H H1 : Hp} {d : Addr} {S : List Addr} (x : Dice K H0 H d) (k : KeepX S H H1) (nd : d ∉ S) (n : ∀ b, b ∈ S → Fr H0 b) : Dice K H0 H1 d := by
  obtain ⟨⟨a, ns, i, m, r, h1, h2⟩, h3, h4⟩ := x
  exact ⟨⟨a, ns, i, m, r, k _ _ nd h1 (fun _ z => by cases z), h2⟩, h3, fun b o h t => k b o (fun m => by
    obtain ⟨ps, z⟩ := n b m o h
    exact t ps z) (h4 b o h t) t⟩
end Ak

namespace Ak
open PySem PySem.Spec PyProof.Rows L2
section
variable {P : Program} {w : World} {K : PySem.W.Frag} {mg : Str → Option Value} {base : Heap} {C : Addr}
theorem ok_load_init {f : Addr} {fd : FuncData} (F : L2.Fun K "__init__" "Load.__init__" s_Load___init f fd) (T : LoadT K C) (c_check_number : CalX P w K mg base 1 "check_number" spCheckNumber) : FnOk P w K mg base (L2.CX P w) 2 f fd ["self", "room", "wait"] (spLoadInit C) := by
  refine Fun.okX F sc_Load___init (fun vs H Q E h => ?_) (fun cdv A outer s H vs Q E hr h => ?_)
  · obtain ⟨_, _, _, _, rfl, _⟩ := h
    rfl
  · obtain ⟨p, room, wait, dx, rfl, r0, r1, w0, w1, hp, k⟩ := h
    obtain ⟨cl, n1, n2, n3, n4, n5⟩ := T
    refine ⟨_, (pss_cons (ps_expr (Ak.pe_cx c_check_number hr (by walk_at "lv") (by rfl) (takes_of rfl rfl rfl rfl) (pa_cons pe_str (pa_cons (pv 1) pa_nil))))
      (pss_cons (ps_expr (Ak.pe_cx c_check_number hr (by walk_at "lv") (by rfl) (takes_of rfl rfl rfl rfl) (pa_cons pe_str (pa_cons (pv 2) pa_nil))))
      (pss_cons (Ak.ps_fldK (K := K) (by rfl) (pv 0) (pv 1) rfl)
      (pss_cons (Ak.ps_fldK (K := K) (by rfl) (pv 0) (pv 2) rfl)
      (pss_cons (Ak.ps_fldK (K := K) (by rfl) (pv 0) pe_int rfl)
      (pss_cons (Ak.ps_fldK (K := K) (by rfl) (pv 0) (pe_lst pa_nil) rfl)
      (pss_one (Ak.ps_fldK (K := K) (by rfl) (pv 0) pe_dnewK rfl)))))))), ?_⟩
    have e0 : L2.start N_Load___init [V.ref p, V.int room, V.int wait] = [some (V.ref p), some (V.int room), some (V.int wait)] := rfl
    rw [e0]
    try dsimp only [cxOf]
    walk_at "rd"
    refine ⟨_, _, _, _, rfl, .room, r0, r1, ?_⟩
    walk_at "rd"
    refine ⟨_, _, _, _, rfl, .wait, w0, w1, ?_⟩
    walk_at "rd"
    rename_i ls nls la nla
    have lp : ls ≠ p := fun z => by rw [z, upd_same] at nls; cases nls
    have ap : la ≠ p := fun z => by rw [z, upd_same] at nla; cases nla
    have lla : ls ≠ la := fun z => by rw [← z, upd_ne lp, upd_same] at nla; cases nla
    have fl := nls
    rw [upd_ne lp, upd_ne lp, upd_ne lp] at fl
    have fa := nla
    rw [upd_ne ap, upd_ne (Ne.symm lla), upd_ne ap, upd_ne ap, upd_ne ap] at fa
    refine k ls la _ fl fa lla ⟨⟨dx, upd_same⟩, ?_, .nil, ?_, ⟨fun r h => absurd h List.not_mem_nil, fun r h => absurd h List.not_mem_nil, fun r h => absurd h List.not_mem_nil, fun r h => absurd h List.not_mem_nil⟩⟩ ?_
    · rw [upd_ne lp, upd_ne lla, upd_ne lp, upd_same]
      rfl
    · rw [upd_ne ap, upd_same]
      rfl
    · walk_at "kp"
theorem ok_put {f : Addr} {fd : FuncData} (F : L2.Fun K "put" "Load.put" s_Load_put f fd) (T : LoadT K C) : FnOk P w K mg base (L2.CX P w) 1 f fd ["self"] (spPut C) := by
  refine Fun.okX F sc_Load_put (fun vs H Q E h => ?_) (fun cdv A outer s H vs Q E hr h => ?_)
  · obtain ⟨_, _, _, _, _, _, _, _, _, rfl, _⟩ := h
    rfl
  · obtain ⟨p, ls, la, ts, room, wait, many, rows, sure, rfl, hL, m1, k⟩ := h
    obtain ⟨⟨dx, hp⟩, hl, ht, hd, g⟩ := id hL
    obtain ⟨cl, n1, n2, n3, n4, n5⟩ := T
    refine ⟨_, (pss_cons (ps_set (i := 1) sc_Load_put.nd rfl (Or.inl rfl) (Ak.pe_fldK (K := K) (by rfl) (pv 0) (by rfl)))
      (pss_cons (ps_fldaug (pv 0) pe_int in_add)
      (pss_cons (ps_dput (hu_of hr) (Ak.pe_fldK (K := K) (by rfl) (pv 0) (by rfl)) (pv 1) pe_non rfl)
      (pss_one (ps_ret (pv 1)))))), ?_⟩
    have e0 : L2.start N_Load_put [V.ref p] = [some (V.ref p), none] := rfl
    rw [e0]
    try dsimp only [cxOf]
    walk_at "rd"
    have ns : (many : Int) ∉ sure := fun z => by have := g.s _ z; omega
    have pa : p ≠ la := ne_of hp hd (by intro z; cases z)
    have pl : p ≠ ls := ne_of hp hl (by intro z; cases z)
    have ll : ls ≠ la := ne_of hl hd (by intro z; cases z)
    refine w_dputON (ks := openL many sure) (f := lastV rows) (g := lastV rows) (by walk_at "lk") (by have := openL_len (many := many) (sure := sure); rw [sizeLine_eq]; omega) (fun z => by have := (openL_mem.mp z).1; omega) (fun _ _ => rfl) ?_ ?_
    · unfold lastV
      rw [lastIn_none]
      intro r hr z
      have := g.r r hr _ z
      omega
    · walk_at "rd"
      have kk : Keep [p, la] H (upd (upd H p (.ins C dx (loadF room wait ((many : Int) + 1) ls la))) la (.dK (dOf (openL many sure ++ [(many : Int)]) (lastV rows)))) := by walk_at "kp"
      refine k _ ⟨⟨dx, ?_⟩, ?_, ht.keepT kk ?_, ?_, ⟨fun r hr q hq => by have := g.r r hr q hq; omega, g.n, g.d, fun q hq => by have := g.s q hq; omega⟩⟩ kk
      · exact (upd_ne pa).trans upd_same
      · exact (upd_ne ll).trans ((upd_ne (Ne.symm pl)).trans hl)
      · intro b hb xs z
        rcases List.mem_cons.mp hb with rfl | hb
        · rw [hp] at z; cases z
        · rw [List.mem_singleton.mp hb, hd] at z; cases z
      · rw [upd_same, openL_succ ns]
theorem ok_waits {f : Addr} {fd : FuncData} (F : L2.Fun K "waits" "Load.waits" s_Load_waits f fd) (T : LoadT K C) (g_sorted : mg "sorted" = none) : FnOk P w K mg base (L2.CX P w) 1 f fd ["self"] (spWaits C) := by
  refine Fun.okX F sc_Load_waits (fun vs H Q E h => ?_) (fun cdv A outer s H vs Q E hr h => ?_)
  · obtain ⟨_, _, _, _, _, _, _, _, _, rfl, _⟩ := h
    rfl
  · obtain ⟨p, ls, la, ts, room, wait, many, rows, sure, rfl, hL, k⟩ := h
    obtain ⟨⟨dx, hp⟩, hl, ht, hd, g⟩ := id hL
    obtain ⟨cl, n1, n2, n3, n4, n5⟩ := T
    refine ⟨_, (pss_one (ps_ret (pe_callB (Ak.cr_sortK (K := K) (by rfl) rfl) (by rfl) g_sorted (by decide +kernel) (pa_cons (Ak.pe_fldK (K := K) (by rfl) (pv 0) (by rfl)) pa_nil)))), ?_⟩
    have e0 : L2.start N_Load_waits [V.ref p] = [some (V.ref p)] := rfl
    rw [e0]
    try dsimp only [cxOf]
    walk_at "rd"
    refine k _ _ (by walk_at "as") ?_ (by walk_at "kp")
    rw [upd_same, openL_srt]
theorem ok_ready {f : Addr} {fd : FuncData} (F : L2.Fun K "_is_ready" "Load._is_ready" s_Load__is_ready f fd) (T : LoadT K C) : FnOk P w K mg base (L2.CX P w) 1 f fd ["self", "piece", "number"] (spReady C) := by
  refine Fun.okX F sc_Load__is_ready (fun vs H Q E h => ?_) (fun cdv A outer s H vs Q E hr h => ?_)
  · obtain ⟨_, _, _, _, _, _, _, _, _, _, _, rfl, _⟩ := h
    rfl
  · obtain ⟨p, ls, la, ts, room, wait, many, rows, sure, x, n, rfl, hL, hx, hQ⟩ := h
    obtain ⟨⟨dx, hp⟩, hl, ht, hd, g⟩ := id hL
    obtain ⟨cl, n1, n2, n3, n4, n5⟩ := T
    refine ⟨_, (pss_cons (ps_set (i := 3) sc_Load__is_ready.nd rfl (Or.inl rfl) (pe_dget (hu_of hr) (Ak.pe_fldK (K := K) (by rfl) (pv 0) (by rfl)) (pv 1) (by intro _ _; rfl)))
      (pss_one (ps_ret (pe_or (pe_cmpR Ak.op_isNon (pv 3) pe_non (nomark _)) (pe_one (pe_cmpR op_ge (pe_op op_sub (pv 2) (pv 3)) (Ak.pe_fldK (K := K) (by rfl) (pv 0) (by rfl)) (nomark _))))))), ?_⟩
    have e0 : L2.start N_Load__is_ready [V.ref p, V.int x, V.int n] = [some (V.ref p), some (V.int x), some (V.int n), none] := rfl
    rw [e0]
    try dsimp only [cxOf]
    walk_at "rd"
    unfold readyB at hQ
    cases e : lastIn rows x with
    | none =>
      have hv : lastV rows x = .non := by unfold lastV; rw [e]
      rw [e] at hQ
      rw [hv, if_pos (decide_eq_true rfl)]
      walk_at "rd"
      exact hQ
    | some j =>
      have hv : lastV rows x = .int (j : Nat) := by unfold lastV; rw [e]
      rw [e] at hQ
      rw [hv, if_neg (fun z => by cases of_decide_eq_true z)]
      walk_at "rd"
      exact hQ
theorem ok_fill {f : Addr} {fd : FuncData} (F : L2.Fun K "fill" "Load.fill" s_Load_fill f fd) (T : LoadT K C) (g_len : mg "len" = none) (g_tuple : mg "tuple" = none) (m_Load_waits : MetX P w K mg base 1 C "waits" (spWaits C)) (m_Load_is_ready : MetX P w K mg base 1 C "_is_ready" (spReady C)) : FnOk P w K mg base (L2.CX P w) 2 f fd ["self"] (spFill C) := by
  refine Fun.okX F sc_Load_fill (fun vs H Q E h => ?_) (fun cdv A outer s H vs Q E hr h => ?_)
  · obtain ⟨_, _, _, _, _, _, _, _, _, rfl, _⟩ := h
    rfl
  · obtain ⟨p, ls, la, ts, room, wait, many, rows, sure, rfl, hL, m1, n1', r0, r1, k⟩ := h
    obtain ⟨⟨dx, hp⟩, hl, ht, hd, g⟩ := id hL
    obtain ⟨cl, n1, n2, n3, n4, n5⟩ := T
    have pa : p ≠ la := ne_of hp hd (by intro z; cases z)
    have pl : p ≠ ls := ne_of hp hl (by intro z; cases z)
    have ll : ls ≠ la := ne_of hl hd (by intro z; cases z)
    have tl : ts.length = rows.length := ht.len
    have ol := openL_len (many := many) (sure := sure)
    refine ⟨_, (pss_cons (ps_set (i := 1) sc_Load_fill.nd rfl (Or.inr rfl) (pe_callB (Ak.cr_lenK (K := K) (by rfl)) (by rfl) g_len (by decide +kernel) (pa_cons (Ak.pe_fldK (K := K) (by rfl) (pv 0) (by rfl)) pa_nil)))
      (pss_cons (ps_setLc (i := 2) (own := [("piece", 3)]) (g := (gName 3)) rfl sc_Load_fill.nd rfl rfl (sw_true rfl rfl rfl (by decide +kernel)) (Ak.pi_listK (K := K) (by rfl) (Ak.pe_mx0 (pv 0) m_Load_waits hr (by walk_at "lv") (takes_of rfl rfl rfl rfl))) (blkOk_by (N := N_Load_fill) (sc := defScope s_Load_fill) (by decide +kernel)) (fun _ _ _ _ _ => by exact (pg_name (i := 3) sc_Load_fill.nd rfl (Or.inl rfl))) (fun _ _ _ _ _ => by exact (pts_one (Ak.pt_truK (K := K) (by rfl) (Ak.pe_mx (pv 0) m_Load_is_ready hr (by walk_at "lv") L2.takes0 (pa_cons (pv 3) (pa_cons (pv 1) pa_nil)))))) (fun _ _ _ _ _ => by exact (pv 3)))
      (pss_cons (ps_set (i := 4) sc_Load_fill.nd rfl (Or.inl rfl) (pe_callTy (Ak.cr_tupK (K := K) (by rfl)) (by rfl) g_tuple (by decide +kernel) (pa_cons (pe_slice (Ak.sl_K (K := K) (by rfl)) (pv 2) po_none (po_some (Ak.pe_fldK (K := K) (by rfl) (pv 0) (by rfl)))) pa_nil)))
      (pss_cons (ps_for (passes_of rfl) rfl (Ak.pi_tupK (K := K) (by rfl) (pv 4)) (pg_name (i := 3) sc_Load_fill.nd rfl (Or.inl rfl))
      (pss_one (ps_dput (hu_of hr) (Ak.pe_fldK (K := K) (by rfl) (pv 0) (by rfl)) (pv 3) (pv 1) rfl)))
      (pss_cons (ps_expr (Ak.pe_bmK (K := K) (by rfl) PySem.F.plainAttrs_list PySem.F.slot_list_append PySem.F.type_list_append mt_append (Ak.pe_fldK (K := K) (by rfl) (pv 0) (by rfl)) (pa_cons (pv 4) pa_nil)))
      (pss_one (ps_ret (pv 4)))))))), ?_⟩
    have e0 : L2.start N_Load_fill [V.ref p] = [some (V.ref p), none, none, none, none] := rfl
    rw [e0]
    try dsimp only [cxOf]
    walk_at "rd"
    rw [List.length_map, tl]
    refine ⟨p, ls, la, ts, room, wait, many, rows, sure, rfl, hL, fun f H1 nf hf k1 => ?_⟩
    have hp1 := k1.1 _ _ nin_nil hp
    walk_at "rd"
    refine Ak.l_lcL (xs := (openL many sure).map V.int) (SqL.of hf) (fun i => (((openL many sure).take i).filter (readyB rows wait rows.length)).map V.int) rfl (fun D i x H' hD hx hk hdd => ?_) (fun D H' hD hk hdd => ?_)
    · obtain ⟨c, hc, rfl⟩ := map_at hx
      have hp2 := hk.1 _ _ nin_nil hp1
      walk_at "rd"
      refine ⟨p, ls, la, ts, room, wait, many, rows, sure, c, _, rfl, hL.keep (k1.trans hk), List.mem_of_getElem? hc, ?_⟩
      walk_at "rd"
      refine Ak.w_iteB (fun z => ?_) (fun z => ?_)
      · walk_at "rd"
        refine kIn_go hD hdd hk ?_ (filt_yes hc z)
        have e := filt_len (l := openL many sure) (i := i) (p := readyB rows wait rows.length) (f := V.int)
        rw [sizeLine_eq]
        omega
      · exact kOut_go hdd hk (filt_no hc (by rw [z]; exact Bool.false_ne_true))
    · rw [List.length_map, List.take_length] at hdd
      have hp2 := hk.1 _ _ nin_nil hp1
      have k2 := k1.trans hk
      walk_at "rd"
      have hl2 := k2.1 _ _ nin_nil hl
      have hd2 := k2.1 _ _ nin_nil hd
      have ht2 := ht.keepT k2 (fun b hb => absurd hb List.not_mem_nil)
      refine w_slTake (SqL.of hdd) (by omega) fun q nq => ?_
      rw [← List.map_take, ← fillOf_eq]
      have hq3 : upd H' q (.lst ((fillOf room wait many rows sure).map V.int)) q = some (.lst ((fillOf room wait many rows sure).map V.int)) := upd_same
      have k3 : Keep [] H (upd H' q (.lst ((fillOf room wait many rows sure).map V.int))) := k2.new nq
      have hp3 := k3.1 _ _ nin_nil hp
      have hl3 := k3.1 _ _ nin_nil hl
      have hd3 := k3.1 _ _ nin_nil hd
      have ht3 := ht.keepT k3 (fun b hb => absurd hb List.not_mem_nil)
      generalize upd H' q (.lst ((fillOf room wait many rows sure).map V.int)) = H3 at hq3 k3 hp3 hl3 hd3 ht3 ⊢
      walk_at "rd"
      rename_i t nt
      have k4 : Keep [] H (upd H3 t (.tup ((fillOf room wait many rows sure).map V.int))) := k3.new nt
      have ht4 : upd H3 t (.tup ((fillOf room wait many rows sure).map V.int)) t = some (.tup ((fillOf room wait many rows sure).map V.int)) := upd_same
      have nt0 : H t = none := k3.2 _ nt
      generalize upd H3 t (.tup ((fillOf room wait many rows sure).map V.int)) = H4 at k4 ht4 ⊢
      have hd4 := k4.1 _ _ nin_nil hd
      have fl := fillOf_len (room := room) (wait := wait) (many := many) (rows := rows) (sure := sure)
      refine l_forTup (xs := (fillOf room wait many rows sure).map V.int) (SqT.of ht4) (fun i σ' H' => ∃ v3, σ' = [some (.ref p), some (.int (rows.length : Nat)), some (.ref D), v3, some (.ref t)] ∧ Keep [la] H4 H' ∧ H' la = some (.dK (dOf (openL many sure) fun x => if x ∈ (fillOf room wait many rows sure).take i then .int (rows.length : Nat) else lastV rows x)))
        ⟨none, rfl, Keep.refl, by rw [hd4]; congr 2⟩ (fun i σ' H' _ pv => by obtain ⟨_, _, pv, _⟩ := pv; exact pv.seqT (nin_cons (ne_of ht4 hd4 (by intro z; cases z)) nin_nil) (SqT.of ht4)) (fun i x σ' H5 hx pv => ?_) (fun σ' H5 pv => ?_)
      · obtain ⟨v3, rfl, k5, hd5⟩ := pv
        obtain ⟨c, hc, rfl⟩ := map_at hx
        have hp5 : H5 p = some (.ins C dx (loadF room wait many ls la)) := k5.1 _ _ (nin_cons pa nin_nil) (k4.1 _ _ nin_nil hp)
        walk_at "rd"
        refine w_dputO hd5 (by rw [sizeLine_eq]; omega) (fillOf_mem (List.mem_of_getElem? hc)) ?_
        walk_at "rd"
        refine ⟨_, rfl, k5.set List.mem_cons_self, ?_⟩
        rw [upd_same]
        congr 2
        refine dOf_congr fun x _ => ?_
        rw [take_at hc]
        by_cases e1 : x = c
        · rw [if_pos e1, if_pos (List.mem_append.mpr (Or.inr (List.mem_singleton.mpr e1)))]
        · rw [if_neg e1]
          by_cases e2 : x ∈ (fillOf room wait many rows sure).take i
          · rw [if_pos e2, if_pos (List.mem_append.mpr (Or.inl e2))]
          · rw [if_neg e2, if_neg (fun z => (List.mem_append.mp z).elim e2 fun y => e1 (List.mem_singleton.mp y))]
      · obtain ⟨v3, rfl, k5, hd5⟩ := pv
        rw [List.length_map, List.take_length] at hd5
        have hp5 : H5 p = some (.ins C dx (loadF room wait many ls la)) := k5.1 _ _ (nin_cons pa nin_nil) (k4.1 _ _ nin_nil hp)
        have hl5 : H5 ls = some (.lst (ts.map V.ref)) := k5.1 _ _ (nin_cons ll nin_nil) (k4.1 _ _ nin_nil hl)
        have ht5 : H5 t = some (.tup ((fillOf room wait many rows sure).map V.int)) := k5.1 _ _ (nin_cons (ne_of ht4 hd4 (by intro z; cases z)) nin_nil) ht4
        have hr5 : RowsAt H5 ts rows := (ht.keepT k4 (fun b hb => absurd hb List.not_mem_nil)).keepT k5 (fun b hb xs z => by rw [List.mem_singleton.mp hb, hd4] at z; cases z)
        walk_at "rd"
        have k6 : Keep [ls, la] H (upd H5 ls (.lst (ts.map V.ref ++ [.ref t]))) := ((k4.mono sub_nil).trans (k5.mono fun b hb => by rw [List.mem_singleton.mp hb]; exact List.mem_cons_of_mem _ List.mem_cons_self)).set List.mem_cons_self
        have kU : Keep [ls] H5 (upd H5 ls (.lst (ts.map V.ref ++ [.ref t]))) := Keep.refl.set List.mem_cons_self
        have tne : t ≠ ls := ne_of ht5 hl5 (by intro z; cases z)
        refine k t _ nt0 ((upd_ne tne).trans ht5) ⟨⟨dx, (upd_ne pl).trans hp5⟩, ?_, ?_, ?_, ?_⟩ k6
        · rw [upd_same, List.map_append]
          rfl
        · exact (hr5.keepT kU (fun b hb xs z => by rw [List.mem_singleton.mp hb, hl5] at z; cases z)).add ((upd_ne tne).trans ht5)
        · rw [upd_ne (Ne.symm ll), hd5]
          congr 2
          exact dOf_congr fun x _ => by rw [lastV_app]
        · refine ⟨fun r hr q hq => ?_, fun r hr => ?_, fun r hr => ?_, g.s⟩
          · rcases List.mem_append.mp hr with h | h
            · exact g.r r h q hq
            · rw [List.mem_singleton.mp h] at hq
              exact (openL_mem.mp (fillOf_mem hq)).1
          · rcases List.mem_append.mp hr with h | h
            · exact g.n r h
            · rw [List.mem_singleton.mp h]
              omega
          · rcases List.mem_append.mp hr with h | h
            · exact g.d r h
            · rw [List.mem_singleton.mp h]
              exact fillOf_nd

theorem filt_take0 {l xs : List Int} : l.filter (fun p => !decide (p ∈ xs.take 0)) = l := List.filter_eq_self.mpr fun x _ => rfl
theorem free_loop {fs : List Int} {i : Nat} {c : Int} (h : fs[i]? = some c) {l : List Int} : (l.filter fun p => !decide (p ∈ fs.take i)).filter (fun q => !decide (q = c)) = l.filter fun p => !decide (p ∈ fs.take (i + 1)) := by
  rw [List.filter_filter]
  refine List.filter_congr fun x _ => ?_
  rw [take_at h]
  by_cases e1 : x = c
  · rw [decide_eq_true e1, decide_eq_true (List.mem_append.mpr (Or.inr (List.mem_singleton.mpr e1)))]
    rfl
  · by_cases e2 : x ∈ fs.take i
    · rw [decide_eq_true e2, decide_eq_true (List.mem_append.mpr (Or.inl e2))]
      simp
    · rw [decide_eq_false e1, decide_eq_false e2, decide_eq_false (fun z => (List.mem_append.mp z).elim e2 fun y => e1 (List.mem_singleton.mp y))]
      rfl
theorem ok_free {f : Addr} {fd : FuncData} (F : L2.Fun K "_free" "Load._free" s_Load__free f fd) (T : LoadT K C) (g_len : mg "len" = none) : FnOk P w K mg base (L2.CX P w) 1 f fd ["self", "number"] (spFree C) := by
  refine Fun.okX F sc_Load__free (fun vs H Q E h => ?_) (fun cdv A outer s H vs Q E hr h => ?_)
  · obtain ⟨_, _, _, _, _, _, _, _, _, _, rfl, _⟩ := h
    rfl
  · obtain ⟨p, ls, la, ts, room, wait, many, rows, sure, n, rfl, hL, m1, k⟩ := h
    obtain ⟨⟨dx, hp⟩, hl, ht, hd, g⟩ := id hL
    obtain ⟨cl, n1, n2, n3, n4, n5⟩ := T
    have pa : p ≠ la := ne_of hp hd (by intro z; cases z)
    have pl : p ≠ ls := ne_of hp hl (by intro z; cases z)
    have ll : ls ≠ la := ne_of hl hd (by intro z; cases z)
    have tl : ts.length = rows.length := ht.len
    have ol := openL_len (many := many) (sure := sure)
    refine ⟨_, (pss_cons (ps_if (PW.pt (pw_or (pt_cmpR op_lt (pv 1) pe_int (nomark _)) (pw_or1 (pt_cmpR op_ge (pv 1) (pe_callB (Ak.cr_lenK (K := K) (by rfl)) (by rfl) g_len (by decide +kernel) (pa_cons (Ak.pe_fldK (K := K) (by rfl) (pv 0) (by rfl)) pa_nil)) (nomark _)))))
      (pss_one (ps_ret (pe_lst pa_nil)))
      pss_nil)
      (pss_cons (ps_setLc (i := 2) (own := [("piece", 3)]) (g := (gName 3)) rfl sc_Load__free.nd rfl rfl (sw_true rfl rfl rfl (by decide +kernel)) (Ak.pi_tupK (K := K) (by rfl) (pe_ix (Ak.ix_K (K := K) (by rfl)) (Ak.pe_fldK (K := K) (by rfl) (pv 0) (by rfl)) (pv 1) (by intro _ _; rfl))) (blkOk_by (N := N_Load__free) (sc := defScope s_Load__free) (by decide +kernel)) (fun _ _ _ _ _ => by exact (pg_name (i := 3) sc_Load__free.nd rfl (Or.inl rfl))) (fun _ _ _ _ _ => by exact (pts_one (pt_cmp (pc_din (hu_of hr) (pv 3) (Ak.pe_fldK (K := K) (by rfl) (pv 0) (by rfl))) rfl))) (fun _ _ _ _ _ => by exact (pv 3)))
      (pss_cons (ps_for (passes_of rfl) rfl (Ak.pi_listK (K := K) (by rfl) (pv 2)) (pg_name (i := 3) sc_Load__free.nd rfl (Or.inl rfl))
      (pss_one (ps_ddel (Ak.pe_fldK (K := K) (by rfl) (pv 0) (by rfl)) (pv 3))))
      (pss_one (ps_ret (pv 2)))))), ?_⟩
    have e0 : L2.start N_Load__free [V.ref p, V.int n] = [some (V.ref p), some (V.int n), none, none] := rfl
    rw [e0]
    try dsimp only [cxOf]
    have out : n < 0 ∨ (rows.length : Int) ≤ n → ∀ f, H f = none → Q (.ref f) (upd H f (.lst [])) := fun c f nf => by
      have e : freeOf rows sure n = [] := by unfold freeOf; rw [if_pos c]
      have k1 : Keep [] H (upd H f (.lst [])) := Keep.refl.new nf
      refine k f _ nf (by rw [upd_same, e]; rfl) (by rw [e, List.append_nil]; exact hL.keep k1) (k1.mono sub_nil)
    walk_at "rd"
    refine Ak.w_ite (fun z => ?_) (fun z => ?_)
    · walk_at "rd"
      exact out (Or.inl z) _ (by walk_at "as")
    · walk_at "rd"
      rw [List.length_map, tl]
      refine Ak.w_ite (fun z2 => ?_) (fun z2 => ?_)
      · walk_at "rd"
        exact out (Or.inr z2) _ (by walk_at "as")
      · have hk : n.toNat < rows.length := by omega
        obtain ⟨t, et, htt⟩ := ht.at hk
        have eix : atI (ts.map V.ref) n = some (.ref t) := by
          rw [show n = ((n.toNat : Nat) : Int) by omega]
          refine atI_nat ?_
          rw [List.getElem?_map, et]
          rfl
        have ef : freeOf rows sure n = (rows.getD n.toNat []).filter fun p => !decide (p ∈ sure) := by unfold freeOf; rw [if_neg (by omega)]
        have rr : ∀ x, x ∈ rows.getD n.toNat [] → 0 ≤ x ∧ x < many := fun x hx => by
          rw [List.getD_eq_getElem?_getD, List.getElem?_eq_getElem hk] at hx
          exact g.r _ (List.getElem_mem hk) x hx
        have rd : (rows.getD n.toNat []).Nodup := by
          rw [List.getD_eq_getElem?_getD, List.getElem?_eq_getElem hk]
          exact g.d _ (List.getElem_mem hk)
        have rl : (rows.getD n.toNat []).length ≤ 8 := by
          rw [List.getD_eq_getElem?_getD, List.getElem?_eq_getElem hk]
          exact g.n _ (List.getElem_mem hk)
        generalize rows.getD n.toNat [] = row at htt ef rr rd rl
        walk_at "rd"
        refine Ak.l_lcT (xs := row.map V.int) (SqT.of htt) (fun i => ((row.take i).filter fun p => !decide (p ∈ sure)).map V.int) rfl (fun D i x H' hD hx hk hdd => ?_) (fun D H' hD hk hdd => ?_)
        · obtain ⟨c, hc, rfl⟩ := map_at hx
          have hp2 := hk.1 _ _ nin_nil hp
          have hd2 := hk.1 _ _ nin_nil hd
          walk_at "rd"
          have rc := rr c (List.mem_of_getElem? hc)
          refine Ak.w_ite (fun z => ?_) (fun z => ?_)
          · walk_at "rd"
            refine kIn_go hD hdd hk ?_ (filt_yes hc (by rw [decide_eq_false (openL_mem.mp z).2]; rfl))
            have e := filt_len (l := row) (i := i) (p := fun p => !decide (p ∈ sure)) (f := V.int)
            rw [sizeLine_eq]
            omega
          · refine kOut_go hdd hk (filt_no hc fun y => z (openL_mem.mpr ⟨rc, fun m => ?_⟩))
            rw [decide_eq_true m] at y
            cases y
        · rw [List.length_map, List.take_length, ← ef] at hdd
          have hp2 := hk.1 _ _ nin_nil hp
          have hd2 := hk.1 _ _ nin_nil hd
          have hl2 := hk.1 _ _ nin_nil hl
          have fo : ∀ x, x ∈ freeOf rows sure n → x ∈ openL many sure := fun x hx => by
            obtain ⟨⟨r, hr, hxr⟩, hs⟩ := freeOf_mem hx
            exact openL_mem.mpr ⟨g.r r hr x hxr, hs⟩
          have fn : (freeOf rows sure n).Nodup := by rw [ef]; exact rd.filter _
          walk_at "rd"
          refine l_forList (xs := (freeOf rows sure n).map V.int) (SqL.of hdd) (fun i σ' H4 => ∃ v3, σ' = [some (.ref p), some (.int n), some (.ref D), v3] ∧ Keep [la] H' H4 ∧ H4 la = some (.dK (dOf ((openL many sure).filter fun p => !decide (p ∈ (freeOf rows sure n).take i)) (lastV rows))))
            ⟨none, rfl, Keep.refl, by rw [hd2, filt_take0]⟩ (fun i σ' H4 _ pv => by obtain ⟨_, _, pv, _⟩ := pv; exact pv.seqL (nin_cons (ne_of hdd hd2 (by intro z; cases z)) nin_nil) (SqL.of hdd)) (fun i x σ' H4 hx pv => ?_) (fun σ' H4 pv => ?_)
          · obtain ⟨v3, rfl, k4, hd4⟩ := pv
            obtain ⟨c, hc, rfl⟩ := map_at hx
            have hp4 : H4 p = some (.ins C dx (loadF room wait many ls la)) := k4.1 _ _ (nin_cons pa nin_nil) hp2
            walk_at "rd"
            refine w_ddelO hd4 (List.mem_filter.mpr ⟨fo c (List.mem_of_getElem? hc), ?_⟩) ?_
            · rw [decide_eq_false]
              · rfl
              · intro m
                obtain ⟨hi, ec⟩ := List.getElem?_eq_some_iff.mp hc
                obtain ⟨j, hj, ej⟩ := List.mem_iff_getElem.mp m
                rw [List.length_take] at hj
                rw [List.getElem_take] at ej
                exact List.pairwise_iff_getElem.mp fn j i (by omega) hi (by omega) (ej.trans ec.symm)
            · refine ⟨_, rfl, k4.set List.mem_cons_self, ?_⟩
              rw [upd_same, free_loop hc]
          · obtain ⟨v3, rfl, k4, hd4⟩ := pv
            rw [List.length_map, List.take_length] at hd4
            have hp4 : H4 p = some (.ins C dx (loadF room wait many ls la)) := k4.1 _ _ (nin_cons pa nin_nil) hp2
            have hl4 : H4 ls = some (.lst (ts.map V.ref)) := k4.1 _ _ (nin_cons ll nin_nil) hl2
            have hdd4 := k4.1 _ _ (nin_cons (ne_of hdd hd2 (by intro z; cases z)) nin_nil) hdd
            have kk : Keep [la] H H4 := (hk.mono sub_nil).trans k4
            walk_at "rd"
            refine k D _ hD hdd4 ⟨⟨dx, hp4⟩, hl4, ht.keepT kk (fun b hb xs z => by rw [List.mem_singleton.mp hb, hd] at z; cases z), ?_, g.free⟩ kk
            rw [hd4, openL_app]
theorem ok_came {f : Addr} {fd : FuncData} (F : L2.Fun K "came" "Load.came" s_Load_came f fd) (T : LoadT K C) (g_sorted : mg "sorted" = none) (m_Load_free : MetX P w K mg base 1 C "_free" (spFree C)) : FnOk P w K mg base (L2.CX P w) 2 f fd ["self", "letters"] (spCame K C) := by
  refine Fun.okX F sc_Load_came (fun vs H Q E h => ?_) (fun cdv A outer s H vs Q E hr h => ?_)
  · obtain ⟨_, _, _, _, _, _, _, _, _, _, _, rfl, _⟩ := h
    rfl
  · obtain ⟨p, ls, la, ts, room, wait, many, rows, sure, b, ks, rfl, hL, m1, hb, bla, kl, k⟩ := h
    obtain ⟨⟨dx, hp⟩, hl, ht, hd, g⟩ := id hL
    obtain ⟨cl, n1, n2, n3, n4, n5⟩ := T
    refine ⟨_, (pss_cons (ps_set (i := 2) sc_Load_came.nd rfl (Or.inl rfl) (pe_lst pa_nil))
      (pss_cons (ps_for (passes_of rfl) rfl (Ak.pi_listK (K := K) (by rfl) (pv 1)) (pg_name (i := 3) sc_Load_came.nd rfl (Or.inl rfl))
      (pss_one (ps_expr (Ak.pe_bmK (K := K) (by rfl) PySem.F.plainAttrs_list PySem.F.slot_list_extend PySem.F.type_list_extend mt_extend (pv 2) (pa_cons (Ak.pe_mx (pv 0) m_Load_free hr (by walk_at "lv") (takes_of rfl rfl rfl rfl) (pa_cons (pv 3) pa_nil)) pa_nil)))))
      (pss_one (ps_ret (pe_callB (Ak.cr_sortK (K := K) (by rfl) rfl) (by rfl) g_sorted (by decide +kernel) (pa_cons (pv 2) pa_nil)))))), ?_⟩
    have e0 : L2.start N_Load_came [V.ref p, V.ref b] = [some (V.ref p), some (V.ref b), none, none] := rfl
    rw [e0]
    try dsimp only [cxOf]
    walk_at "rd"
    rename_i f nf
    have fl : f ≠ la := Ne.symm (ne_of_none hd nf)
    refine l_forList (Ak.SqL.upd hb nf) (fun i σ' H' => ∃ v3, σ' = [some (.ref p), some (.ref b), some (.ref f), v3] ∧ Keep [la] H H' ∧ H' f = some (.lst ((cameOf rows sure (ks.take i)).map V.int)) ∧ (cameOf rows sure (ks.take i)).length ≤ 8 * i ∧ LoadAt C H' p ls la ts room wait many rows (sure ++ cameOf rows sure (ks.take i)))
      ⟨none, rfl, Keep.refl.new nf, upd_same, Nat.zero_le _, by rw [show cameOf rows sure (ks.take 0) = [] from rfl, List.append_nil]; exact hL.keep (Keep.refl.new nf)⟩ (fun i σ' H4 _ pv => by obtain ⟨_, _, pv, _⟩ := pv; exact pv.seqL (nin_cons bla nin_nil) hb) (fun i x σ' H4 hx pv => ?_) (fun σ' H4 pv => ?_)
    · obtain ⟨v3, rfl, k4, hf4, len4, L4⟩ := pv
      obtain ⟨c, hc, rfl⟩ := map_at hx
      obtain ⟨⟨dx4, hp4⟩, hl4, ht4, hd4, g4⟩ := id L4
      walk_at "rd"
      refine ⟨p, ls, la, ts, room, wait, many, rows, _, c, rfl, L4, m1, fun e H5 ne he L5 k5 => ?_⟩
      have hf5 := k5.1 _ _ (nin_cons fl nin_nil) hf4
      have len5 := freeOf_len (k := c) (sure := sure ++ cameOf rows sure (ks.take i)) g4
      have hi := (List.getElem?_eq_some_iff.mp hc).1
      have fla : f ≠ e := ne_of_none hf4 ne
      have sz : ((cameOf rows sure (ks.take i)).map V.int).length + ((freeOf rows (sure ++ cameOf rows sure (ks.take i)) c).map V.int).length ≤ sizeLine := by rw [List.length_map, List.length_map, sizeLine_eq]; omega
      walk_at "rd"
      have kU : Keep [f] H5 (upd H5 f (.lst ((cameOf rows sure (ks.take i)).map V.int ++ (freeOf rows (sure ++ cameOf rows sure (ks.take i)) c).map V.int))) := Keep.refl.set List.mem_cons_self
      refine ⟨_, rfl, (k4.trans k5).own nf, ?_, ?_, ?_⟩
      · rw [upd_same, cameOf_take hc, List.map_append]
      · rw [cameOf_take hc, List.length_append]
        omega
      · rw [cameOf_take hc, ← List.append_assoc]
        refine L5.keepX (fun a o n h _ => kU.1 a o n h) fun a ha => nin_cons (fun z => ?_) nin_nil
        obtain ⟨⟨dx5, hp5⟩, hl5, ht5, hd5, g5⟩ := id L5
        rw [z] at ha
        rcases List.mem_cons.mp ha with h | ha
        · exact ne_of hf5 hp5 (by intro z; cases z) h
        · rcases List.mem_cons.mp ha with h | ha
          · rw [h, hl] at nf
            cases nf
          · rcases List.mem_cons.mp ha with h | ha
            · exact fl h
            · obtain ⟨xs, e⟩ := ht.live _ ha
              rw [nf] at e
              cases e
    · obtain ⟨v3, rfl, k4, hf4, len4, L4⟩ := pv
      rw [List.length_map, List.take_length] at hf4 L4
      walk_at "rd"
      rename_i r nr
      have k5 : Keep [] H4 (upd H4 r (.lst ((srt (cameOf rows sure ks)).map V.int))) := Keep.refl.new nr
      exact k r _ (k4.2 _ nr) upd_same (L4.keep k5) (k4.new nr)
end
end Ak

namespace Ak
open PySem PySem.Spec PyProof.Rows L2
theorem nd_ne {L : List Addr} (h : L.Nodup) {x y : Addr} (i j : Nat) (ij : i ≠ j) (hx : L[i]? = some x) (hy : L[j]? = some y) : x ≠ y := fun e => by
  obtain ⟨hi, rfl⟩ := List.getElem?_eq_some_iff.mp hx
  obtain ⟨hj, rfl⟩ := List.getElem?_eq_some_iff.mp hy
  rcases Nat.lt_or_ge i j with z | z
  · exact List.pairwise_iff_getElem.mp h i j hi hj z e
  · exact List.pairwise_iff_getElem.mp h j i hj hi (by omega) e.symm
theorem nd_swap {A B : List Addr} {b x : Addr} (h : (A ++ b :: B).Nodup) (hx : ∀ y, y ∈ A ++ b :: B → y ≠ x) : (A ++ x :: B).Nodup := by
  obtain ⟨h1, h2, h3⟩ := List.nodup_append.mp h
  obtain ⟨h4, h5⟩ := List.nodup_cons.mp h2
  refine List.nodup_append.mpr ⟨h1, List.nodup_cons.mpr ⟨fun m => hx x (List.mem_append.mpr (Or.inr (List.mem_cons_of_mem _ m))) rfl, h5⟩, fun a ha c hc => ?_⟩
  rcases List.mem_cons.mp hc with rfl | hc
  · exact hx a (List.mem_append.mpr (Or.inl ha))
  · exact h3 a ha c (List.mem_cons_of_mem _ hc)
theorem LoadAt.keepS {C : Addr} {H H' : Hp} {p ls la : Addr} {ts : List Addr} {room wait : Int} {many : Nat} {rows : List (List Int)} {sure : List Int} {S : List Addr} (x : LoadAt C H p ls la ts room wait many rows sure) (k : Keep S H H') (n1 : p ∉ S) (n2 : ls ∉ S) (n3 : la ∉ S) (nt : ∀ b, b ∈ S → ∀ xs, H b ≠ some (.tup xs)) : LoadAt C H' p ls la ts room wait many rows sure := by
  obtain ⟨⟨dx, hp⟩, hl, ht, hd, g⟩ := x
  exact ⟨⟨dx, k.1 _ _ n1 hp⟩, k.1 _ _ n2 hl, ht.keepT k nt, k.1 _ _ n3 hd, g⟩
structure PA where
  d : Addr
  mo : Addr
  mc : Addr
  ea : Addr
  ec : Addr
  lo : Addr
  ls : Addr
  la : Addr
  rw : Addr
  he : Addr
  su : Addr
  ts : List Addr
abbrev PA.L (a : PA) : List Addr := [a.d, a.mo, a.mc, a.ea, a.ec, a.lo, a.ls, a.la, a.rw, a.he, a.su]
structure PAt (CE CM CL : Addr) (K : PySem.W.Frag) (H0 H : Hp) (a : PA) (m w late ah room wait : Int) (s : PS) (here sl : List Int) : Prop where
  dc : Dice K H0 H a.d
  mo : MouthAt CM H a.mo a.mc m w ah s.l s.mg s.ks
  ea : EarAt CE H a.ea a.ec m w late s.g s.cs
  lo : LoadAt CL H a.lo a.ls a.la a.ts room wait s.many s.rows s.sure
  rw : H a.rw = some (.lst (a.ts.map V.ref))
  he : H a.he = some (.lst (here.map V.int))
  su : H a.su = some (.lst (sl.map V.int))
  fr : ∀ b, b ∈ a.L → Fr H0 b
  nd : a.L.Nodup
section
variable {CE CM CL : Addr} {K : PySem.W.Frag} {H0 H H' : Hp} {a : PA} {m w late ah room wait : Int} {s : PS} {here sl : List Int}
theorem PAt.live (x : PAt CE CM CL K H0 H a m w late ah room wait s here sl) : ∀ b, b ∈ a.L → ∃ o, H b = some o ∧ ∀ xs, o ≠ .tup xs := fun b hb => by
  obtain ⟨xs, hd⟩ := x.dc.lst
  obtain ⟨dx1, h1, h2⟩ := x.mo
  obtain ⟨dx2, h3, h4⟩ := x.ea
  obtain ⟨dx3, h5⟩ := x.lo.i
  simp only [List.mem_cons, List.not_mem_nil, or_false] at hb
  rcases hb with h | h | h | h | h | h | h | h | h | h | h <;> rw [h]
  · exact ⟨_, hd, fun _ z => (by cases z)⟩
  · exact ⟨_, h1, fun _ z => (by cases z)⟩
  · exact ⟨_, h2, fun _ z => (by cases z)⟩
  · exact ⟨_, h3, fun _ z => (by cases z)⟩
  · exact ⟨_, h4, fun _ z => (by cases z)⟩
  · exact ⟨_, h5, fun _ z => (by cases z)⟩
  · exact ⟨_, x.lo.l, fun _ z => (by cases z)⟩
  · exact ⟨_, x.lo.d, fun _ z => (by cases z)⟩
  · exact ⟨_, x.rw, fun _ z => (by cases z)⟩
  · exact ⟨_, x.he, fun _ z => (by cases z)⟩
  · exact ⟨_, x.su, fun _ z => (by cases z)⟩
theorem PAt.nt (x : PAt CE CM CL K H0 H a m w late ah room wait s here sl) {S : List Addr} (hS : ∀ b, b ∈ S → b ∈ a.L) : ∀ b, b ∈ S → ∀ xs, H b ≠ some (.tup xs) := fun b hb xs z => by
  obtain ⟨o, h1, h2⟩ := x.live b (hS b hb)
  rw [h1] at z
  exact h2 xs (Option.some.inj z)
theorem PAt.fresh (x : PAt CE CM CL K H0 H a m w late ah room wait s here sl) {c : Addr} (n : H c = none) : ∀ b, b ∈ a.L → b ≠ c := fun b hb z => by
  obtain ⟨o, h1, _⟩ := x.live b hb
  rw [z, n] at h1
  cases h1
theorem PAt.keep0 (x : PAt CE CM CL K H0 H a m w late ah room wait s here sl) (k : Keep [] H H') : PAt CE CM CL K H0 H' a m w late ah room wait s here sl :=
  ⟨x.dc.keep (S := []) k nin_nil none_nil, x.mo.keep k nin_nil nin_nil, x.ea.keep k nin_nil nin_nil, x.lo.keep k, k.1 _ _ nin_nil x.rw, k.1 _ _ nin_nil x.he, k.1 _ _ nin_nil x.su, x.fr, x.nd⟩
theorem PAt.dice (x : PAt CE CM CL K H0 H a m w late ah room wait s here sl) (k : Keep [a.d] H H') (dc : Dice K H0 H' a.d) : PAt CE CM CL K H0 H' a m w late ah room wait s here sl := by
  have n : ∀ j y, 0 ≠ j → a.L[j]? = some y → y ∉ [a.d] := fun j y ij h => nin_cons (nd_ne x.nd j 0 (Ne.symm ij) h rfl) nin_nil
  exact ⟨dc, x.mo.keep k (n 1 _ (by decide) rfl) (n 2 _ (by decide) rfl), x.ea.keep k (n 3 _ (by decide) rfl) (n 4 _ (by decide) rfl), x.lo.keepS k (n 5 _ (by decide) rfl) (n 6 _ (by decide) rfl) (n 7 _ (by decide) rfl) (x.nt fun b hb => by rw [List.mem_singleton.mp hb]; exact List.mem_cons_self), k.1 _ _ (n 8 _ (by decide) rfl) x.rw, k.1 _ _ (n 9 _ (by decide) rfl) x.he, k.1 _ _ (n 10 _ (by decide) rfl) x.su, x.fr, x.nd⟩
theorem PAt.put (x : PAt CE CM CL K H0 H a m w late ah room wait s here sl) (k : Keep [a.lo, a.la] H H') (lo : LoadAt CL H' a.lo a.ls a.la a.ts room wait (s.many + 1) s.rows s.sure) : PAt CE CM CL K H0 H' a m w late ah room wait s.put here sl := by
  have n : ∀ j y, j ≠ 5 → j ≠ 7 → a.L[j]? = some y → y ∉ [a.lo, a.la] := fun j y h1 h2 h => nin_cons (nd_ne x.nd j 5 h1 h rfl) (nin_cons (nd_ne x.nd j 7 h2 h rfl) nin_nil)
  exact ⟨x.dc.keepF k.x (n 0 _ (by decide) (by decide) rfl) (fun b hb => x.fr b (by simp only [List.mem_cons, List.not_mem_nil, or_false] at hb ⊢; rcases hb with h | h <;> simp [h])), x.mo.keep k (n 1 _ (by decide) (by decide) rfl) (n 2 _ (by decide) (by decide) rfl), x.ea.keep k (n 3 _ (by decide) (by decide) rfl) (n 4 _ (by decide) (by decide) rfl), lo, k.1 _ _ (n 8 _ (by decide) (by decide) rfl) x.rw, k.1 _ _ (n 9 _ (by decide) (by decide) rfl) x.he, k.1 _ _ (n 10 _ (by decide) (by decide) rfl) x.su, x.fr, x.nd⟩
theorem PAt.sent {t : Addr} (x : PAt CE CM CL K H0 H a m w late ah room wait s here sl) (k : Keep [a.mo, a.ls, a.la, a.rw] H H') (mo : MouthAt CM H' a.mo a.mc m w ah (s.l + 1) s.mg s.ks) (lo : LoadAt CL H' a.lo a.ls a.la (a.ts ++ [t]) room wait s.many (s.rows ++ [fillOf room wait s.many s.rows s.sure]) s.sure)
    (rw' : H' a.rw = some (.lst ((a.ts ++ [t]).map V.ref))) : PAt CE CM CL K H0 H' { a with ts := a.ts ++ [t] } m w late ah room wait (s.send room wait) here sl := by
  have n : ∀ j y, j ≠ 1 → j ≠ 6 → j ≠ 7 → j ≠ 8 → a.L[j]? = some y → y ∉ [a.mo, a.ls, a.la, a.rw] := fun j y h1 h2 h3 h4 h => nin_cons (nd_ne x.nd j 1 h1 h rfl) (nin_cons (nd_ne x.nd j 6 h2 h rfl) (nin_cons (nd_ne x.nd j 7 h3 h rfl) (nin_cons (nd_ne x.nd j 8 h4 h rfl) nin_nil)))
  have q : ∀ j y, j = 0 ∨ j = 3 ∨ j = 4 ∨ j = 9 ∨ j = 10 → a.L[j]? = some y → y ∉ [a.mo, a.ls, a.la, a.rw] := fun j y hj h => n j y (by omega) (by omega) (by omega) (by omega) h
  exact ⟨x.dc.keepF k.x (q 0 _ (by decide) rfl) (fun b hb => x.fr b (by simp only [List.mem_cons, List.not_mem_nil, or_false] at hb ⊢; rcases hb with h | h | h | h <;> simp [h])), mo, x.ea.keep k (q 3 _ (by decide) rfl) (q 4 _ (by decide) rfl), lo, rw', k.1 _ _ (q 9 _ (by decide) rfl) x.he, k.1 _ _ (q 10 _ (by decide) rfl) x.su, x.fr, x.nd⟩
theorem PAt.come {c : Addr} {g' : Int} {cs' K' : List Int} (x : PAt CE CM CL K H0 H a m w late ah room wait s here sl) (k : Keep [a.ea] H H') (ea : EarAt CE H' a.ea c m w late g' cs') (hc : c = a.ec ∨ H c = none) : PAt CE CM CL K H0 H' { a with ec := c } m w late ah room wait { s with g := g', cs := cs', K := K' } here sl := by
  have q : ∀ j y, j ≠ 3 → a.L[j]? = some y → y ∉ [a.ea] := fun j y h1 h => nin_cons (nd_ne x.nd j 3 h1 h rfl) nin_nil
  refine ⟨x.dc.keepF k.x (q 0 _ (by decide) rfl) (fun b hb => x.fr b (by rw [List.mem_singleton.mp hb]; simp)), x.mo.keep k (q 1 _ (by decide) rfl) (q 2 _ (by decide) rfl), ea, x.lo.keepS k (q 5 _ (by decide) rfl) (q 6 _ (by decide) rfl) (q 7 _ (by decide) rfl) (x.nt fun b hb => by rw [List.mem_singleton.mp hb]; simp), k.1 _ _ (q 8 _ (by decide) rfl) x.rw, k.1 _ _ (q 9 _ (by decide) rfl) x.he, k.1 _ _ (q 10 _ (by decide) rfl) x.su, fun b hb => ?_, ?_⟩
  · rcases hc with hc | hc
    · exact x.fr b (by rw [hc] at hb; exact hb)
    · by_cases z : b = c
      · rw [z]; exact Fr.of x.dc.ext hc
      · refine x.fr b ?_
        simp only [List.mem_cons, List.not_mem_nil, or_false] at hb ⊢
        rcases hb with h | h | h | h | h | h | h | h | h | h | h
        all_goals first | exact absurd h z | simp [h]
  · rcases hc with hc | hc
    · have := x.nd
      rw [hc]
      exact this
    · exact nd_swap (A := [a.d, a.mo, a.mc, a.ea]) (B := [a.lo, a.ls, a.la, a.rw, a.he, a.su]) (b := a.ec) x.nd (x.fresh hc)
theorem PAt.told {mg' : Int} {ks' su' : List Int} (x : PAt CE CM CL K H0 H a m w late ah room wait s here sl) (k : Keep [a.mo, a.mc, a.la] H H') (mo : MouthAt CM H' a.mo a.mc m w ah s.l mg' ks') (lo : LoadAt CL H' a.lo a.ls a.la a.ts room wait s.many s.rows su') : PAt CE CM CL K H0 H' a m w late ah room wait { s with mg := mg', ks := ks', sure := su' } here sl := by
  have n : ∀ j y, j ≠ 1 → j ≠ 2 → j ≠ 7 → a.L[j]? = some y → y ∉ [a.mo, a.mc, a.la] := fun j y h1 h2 h3 h => nin_cons (nd_ne x.nd j 1 h1 h rfl) (nin_cons (nd_ne x.nd j 2 h2 h rfl) (nin_cons (nd_ne x.nd j 7 h3 h rfl) nin_nil))
  have q : ∀ j y, j = 0 ∨ j = 3 ∨ j = 4 ∨ j = 8 ∨ j = 9 ∨ j = 10 → a.L[j]? = some y → y ∉ [a.mo, a.mc, a.la] := fun j y hj h => n j y (by omega) (by omega) (by omega) h
  exact ⟨x.dc.keepF k.x (q 0 _ (by decide) rfl) (fun b hb => x.fr b (by simp only [List.mem_cons, List.not_mem_nil, or_false] at hb ⊢; rcases hb with h | h | h <;> simp [h])), mo, x.ea.keep k (q 3 _ (by decide) rfl) (q 4 _ (by decide) rfl), lo, k.1 _ _ (q 8 _ (by decide) rfl) x.rw, k.1 _ _ (q 9 _ (by decide) rfl) x.he, k.1 _ _ (q 10 _ (by decide) rfl) x.su, x.fr, x.nd⟩
theorem PAt.hereN {c : Addr} {here' : List Int} (x : PAt CE CM CL K H0 H a m w late ah room wait s here sl) (k : Keep [] H H') (n : H c = none) (h : H' c = some (.lst (here'.map V.int))) : PAt CE CM CL K H0 H' { a with he := c } m w late ah room wait s here' sl := by
  obtain ⟨dc, mo, ea, lo, rw', he, su, fr, nd⟩ := x.keep0 k
  refine ⟨dc, mo, ea, lo, rw', h, su, fun b hb => ?_, nd_swap (A := [a.d, a.mo, a.mc, a.ea, a.ec, a.lo, a.ls, a.la, a.rw]) (B := [a.su]) (b := a.he) nd (x.fresh n)⟩
  by_cases z : b = c
  · rw [z]; exact Fr.of x.dc.ext n
  · refine fr b ?_
    simp only [List.mem_cons, List.not_mem_nil, or_false] at hb ⊢
    rcases hb with h | h | h | h | h | h | h | h | h | h | h
    all_goals first | exact absurd h z | simp [h]
theorem PAt.sureN {c : Addr} {sl' : List Int} (x : PAt CE CM CL K H0 H a m w late ah room wait s here sl) (k : Keep [] H H') (n : H c = none) (h : H' c = some (.lst (sl'.map V.int))) : PAt CE CM CL K H0 H' { a with su := c } m w late ah room wait s here sl' := by
  obtain ⟨dc, mo, ea, lo, rw', he, su, fr, nd⟩ := x.keep0 k
  refine ⟨dc, mo, ea, lo, rw', he, h, fun b hb => ?_, nd_swap (A := [a.d, a.mo, a.mc, a.ea, a.ec, a.lo, a.ls, a.la, a.rw, a.he]) (B := []) (b := a.su) nd (x.fresh n)⟩
  by_cases z : b = c
  · rw [z]; exact Fr.of x.dc.ext n
  · refine fr b ?_
    simp only [List.mem_cons, List.not_mem_nil, or_false] at hb ⊢
    rcases hb with h | h | h | h | h | h | h | h | h | h | h
    all_goals first | exact absurd h z | simp [h]
/-- load.came(mouth.hear(ear.tell())) -/
theorem told_go {CB : Addr} {W1 W2 W3 : WX} {σ : L2.St} {Q : VK} {il im ie : Nat} {n : Nat} (x : PAt CE CM CL K H0 H a m w late ah room wait s here sl) (y : PInv m w late ah s n) (hn : n ≤ 10000) (hm : late + ah < m) (hl : 0 ≤ late) (hm0 : 0 < m) (w0 : 0 ≤ w) (w1 : w ≤ 16) (g0 : 0 ≤ s.g)
    (el : σ[il]? = some (some (.ref a.lo))) (em : σ[im]? = some (some (.ref a.mo))) (ee : σ[ie]? = some (some (.ref a.ea)))
    (h : ∀ f H', H f = none → H' f = some (.lst ((srt (s.free w)).map V.int)) → PAt CE CM CL K H0 H' a m w late ah room wait (s.told w) here sl → Keep [a.mo, a.mc, a.la] H H' → Q (.ref f) H') :
    tMethX CL "came" (spCame K CL) W1 (tVar il) (tCons (tMethX CM "hear" (spHear K CM CB) W2 (tVar im) (tCons (tMethX CE "tell" (spTell CE CB) W3 (tVar ie) tNil) tNil)) tNil) σ H Q := by
  obtain ⟨dxl, hlo⟩ := x.lo.i
  obtain ⟨dxm, hmo, hmc⟩ := id x.mo
  obtain ⟨dxe, hea, hec⟩ := id x.ea
  have g1 := y.g1
  have g2 := y.g2
  have la := y.la
  refine Ak.w_meth ?_
  refine Ak.w_var el ?_
  refine Ak.w_methK hlo rfl ?_
  refine Ak.w_cons ?_
  refine Ak.w_meth ?_
  refine Ak.w_var em ?_
  refine Ak.w_methK hmo rfl ?_
  refine Ak.w_cons ?_
  refine Ak.w_meth ?_
  refine Ak.w_var ee ?_
  refine Ak.w_methK hea rfl ?_
  refine Ak.w_nil ?_
  refine ⟨a.ea, a.ec, m, w, late, s.g, s.cs, rfl, x.ea, hm0, w0, w1, fun z => by omega, fun _ q b H1 nq nb hq hb k1 => ?_⟩
  rw [← bitsI_map] at hb
  refine Ak.w_nil ?_
  have x1 := x.keep0 k1
  refine ⟨a.mo, a.mc, q, b, m, w, ah, s.l, s.mg, s.ks, s.g % m, bitsI w s.g s.cs, rfl, x1.mo, SqT.of hq, SqT.of hb, Int.emod_nonneg _ (by omega), Int.emod_lt_of_pos _ hm0, by rw [bitsI_len]; omega, bitsI_bits, by rw [bitsI_len]; omega, by have := y.nk; omega, ?_⟩
  rw [newest_self hm0 g1 (by omega)]
  have hall := y.all g0
  refine ⟨fun bad => ?_, fun good f2 H2 nf2 hf2 hM2 k2 => ?_⟩
  · obtain ⟨z, hz, z0⟩ := bad
    have := (y.kg _ (hall z hz)).1
    omega
  · refine Ak.w_nil ?_
    have nS : ∀ j z, j ≠ 1 → j ≠ 2 → a.L[j]? = some z → z ∉ [a.mo, a.mc] := fun j z h1 h2 h => nin_cons (nd_ne x.nd j 1 h1 h rfl) (nin_cons (nd_ne x.nd j 2 h2 h rfl) nin_nil)
    have hL2 := x1.lo.keepS k2 (nS 5 _ (by decide) (by decide) rfl) (nS 6 _ (by decide) (by decide) rfl) (nS 7 _ (by decide) (by decide) rfl) (x1.nt fun b hb => by simp only [List.mem_cons, List.not_mem_nil, or_false] at hb ⊢; rcases hb with h | h <;> simp [h])
    refine ⟨a.lo, a.ls, a.la, a.ts, room, wait, s.many, s.rows, s.sure, f2, s.found w, rfl, hL2, by have := y.nm; omega, SqL.of hf2, Ne.symm (ne_of_none x1.lo.d nf2), ?_, fun f3 H3 nf3 hf3 hL3 k3 => ?_⟩
    · have := found_len (n := s.g) (bs := bitsI w s.g s.cs) (ks := s.ks) (by rw [bitsI_len]; omega)
      show (foundOf _ _ _).length ≤ 1000
      omega
    · have nla1 : a.mo ∉ [a.la] := nin_cons (nd_ne x.nd 1 7 (by decide) rfl rfl) nin_nil
      have nla2 : a.mc ∉ [a.la] := nin_cons (nd_ne x.nd 2 7 (by decide) rfl rfl) nin_nil
      have hM3 := hM2.keep k3 nla1 nla2
      have s1 : ∀ b, b ∈ [a.mo, a.mc] → b ∈ [a.mo, a.mc, a.la] := fun b hb => by
        simp only [List.mem_cons, List.not_mem_nil, or_false] at hb ⊢
        rcases hb with h | h <;> simp [h]
      have s2 : ∀ b, b ∈ [a.la] → b ∈ [a.mo, a.mc, a.la] := fun b hb => by rw [List.mem_singleton.mp hb]; simp
      have k13 : Keep [a.mo, a.mc, a.la] H1 H3 := (k2.mono s1).trans (k3.mono s2)
      exact h f3 H3 (k1.2 _ (k2.2 _ nf3)) hf3 (x1.told k13 hM3 hL3) ((k1.mono sub_nil).trans k13)
/-- the last letter's mark comes to the ear -/
theorem come_go {Q : VK} {E : XK} {n : Nat} {mk : Int} (x : PAt CE CM CL K H0 H a m w late ah room wait s here sl) (y : PInv m w late ah s n) (hn : n ≤ 10000) (hm : late + ah < m) (hl : 0 ≤ late) (hm0 : 0 < m) (l0 : 0 ≤ s.l) (ek : mk = s.l % m)
    (h : ∀ q H' c, H q = none → H' q = some (.tup [.int s.l, .str (wordOf w s.g s.cs s.l)]) → PAt CE CM CL K H0 H' { a with ec := c } m w late ah room wait (s.come w) here sl → Keep [a.ea] H H' → Q (.ref q) H') : spCome CE [.ref a.ea, .int mk] H Q E := by
  subst ek
  have g1 := y.g1
  have g2 := y.g2
  have la := y.la
  refine ⟨a.ea, a.ec, s.l % m, m, w, late, s.g, s.cs, rfl, x.ea, Int.emod_nonneg _ (by omega), Int.emod_lt_of_pos _ hm0, by have := y.nc; omega, fun q H' n' word g' cs' c' hn' hw hgc nq hq hE nc' k' => ?_⟩
  rw [numOf_self hm0 l0 (by omega) (by omega)] at hn'
  subst hn'
  subst hw
  refine h q H' c' nq hq ?_ k'
  have e : s.come w = { s with g := g', cs := cs', K := if wordOf w s.g s.cs s.l = "new" then s.K ++ [s.l] else s.K } := by
    unfold PS.come
    by_cases z : wordOf w s.g s.cs s.l = "new"
    · rw [if_pos z] at hgc ⊢
      obtain ⟨rfl, rfl⟩ := Prod.mk.inj hgc
      rw [if_pos z]
    · rw [if_neg z] at hgc ⊢
      obtain ⟨rfl, rfl⟩ := Prod.mk.inj hgc
      rw [if_neg z]
  rw [e]
  exact x.come k' hE nc'
end
end Ak

namespace Ak
open PySem PySem.Spec PyProof.Rows L2
section
variable {P : Program} {w : World} {K : PySem.W.Frag} {mg : Str → Option Value} {base : Heap} {CE CM CL : Addr}
def spSafe (K : PySem.W.Frag) : Sp := fun vs H Q _ => ∃ (H0 : Hp) (d : Addr), vs = [.ref d] ∧ Dice K H0 H d ∧
  ∀ p m w l a H', SetOk m w l a → l + a < m → H p = none → H' p = some (.tup [.int m, .int w, .int l, .int a]) → Dice K H0 H' d → Keep [d] H H' → Q (.ref p) H'
theorem ok_safe {f : Addr} {fd : FuncData} (F : L2.Fun K "_law_safe" "_law_safe" s_l_safe f fd) (g_max : mg "max" = none) (g_min : mg "min" = none) (c_l_setting : CalX P w K mg base 2 "_law_setting" (spSetting K)) : FnOk P w K mg base (L2.CX P w) 3 f fd ["_law_d"] (spSafe K) := by
  refine Fun.okX F sc_l_safe (fun vs H Q E h => ?_) (fun cdv A outer s H vs Q E hr h => ?_)
  · obtain ⟨_, _, rfl, _⟩ := h
    rfl
  · obtain ⟨H0, d, rfl, dc, k⟩ := h
    obtain ⟨xs0, hd0⟩ := dc.lst
    refine ⟨_, (pss_cons (ps_asg (Ak.pe_cx c_l_setting hr (by walk_at "lv") (by rfl) (takes_of rfl rfl rfl rfl) (pa_cons (pv 0) pa_nil)) (Ak.pg_tupK (K := K) (n := 4) (by rfl) rfl (pgs_cons (pg_name (i := 1) sc_l_safe.nd rfl (Or.inl rfl)) (pgs_cons (pg_name (i := 2) sc_l_safe.nd rfl (Or.inl rfl)) (pgs_cons (pg_name (i := 3) sc_l_safe.nd rfl (Or.inl rfl)) (pgs_cons (pg_name (i := 4) sc_l_safe.nd rfl (Or.inl rfl)) pgs_nil))))))
      (pss_one (ps_ret (pe_tup (pa_cons (pe_callB (Ak.cr_minK (K := K) (by rfl) rfl) (by rfl) g_min (by decide +kernel) (pa_cons pe_int (pa_cons (pe_callB (Ak.cr_maxK (K := K) (by rfl) rfl) (by rfl) g_max (by decide +kernel) (pa_cons (pv 1) (pa_cons (pe_op (Ak.op_plusK (K := K) (by rfl)) (pe_op (Ak.op_plusK (K := K) (by rfl)) (pv 3) (pv 4)) pe_int) pa_nil))) pa_nil))) (pa_cons (pv 2) (pa_cons (pv 3) (pa_cons (pv 4) pa_nil)))))))), ?_⟩
    have e0 : L2.start N_l_safe [V.ref d] = [some (V.ref d), none, none, none, none] := rfl
    rw [e0]
    try dsimp only [cxOf]
    walk_at "rd"
    refine ⟨H0, d, rfl, dc, fun p m wi l a H1 so np hp dc1 k1 => ?_⟩
    walk_at "rd"
    rename_i t nt
    obtain ⟨o1, o2, o3, o4, o5, o6, o7, o8⟩ := so
    exact k t _ _ _ _ _ ⟨by omega, by omega, o3, o4, o5, o6, o7, o8⟩ (by omega) (k1.2 _ nt) upd_same (dc1.keep (S := []) (Keep.refl.new nt) nin_nil none_nil) (k1.new nt)
def spSent (CM CL : Addr) : Sp := fun vs H Q _ => ∃ mo mc lo ls la ts rwA, ∃ m w ah l mg : Int, ∃ ks, ∃ room wait : Int, ∃ many rows sure, vs = [.ref mo, .ref lo, .ref rwA] ∧ MouthAt CM H mo mc m w ah l mg ks ∧ LoadAt CL H lo ls la ts room wait many rows sure ∧ H rwA = some (.lst (ts.map V.ref)) ∧ [mo, mc, lo, ls, la, rwA].Nodup ∧
  0 < m ∧ -1 ≤ l ∧ l < 1000000 ∧ ¬ mg + ah < l + 1 ∧ many < 1000000 ∧ rows.length < 1000000 ∧ 1 ≤ room ∧ room ≤ 8 ∧
  ∀ q t H', H q = none → H t = none → H' q = some (.tup [.int (l + 1), .int ((l + 1) % m)]) → MouthAt CM H' mo mc m w ah (l + 1) mg ks → LoadAt CL H' lo ls la (ts ++ [t]) room wait many (rows ++ [fillOf room wait many rows sure]) sure → H' rwA = some (.lst ((ts ++ [t]).map V.ref)) → Keep [mo, ls, la, rwA] H H' → Q (.ref q) H'
theorem nd_ne6 {L : List Addr} (h : L.Nodup) {x y : Addr} (i j : Nat) (ij : i ≠ j) (hx : L[i]? = some x) (hy : L[j]? = some y) : x ≠ y := fun e => by
  obtain ⟨hi, rfl⟩ := List.getElem?_eq_some_iff.mp hx
  obtain ⟨hj, rfl⟩ := List.getElem?_eq_some_iff.mp hy
  rcases Nat.lt_or_ge i j with z | z
  · exact List.pairwise_iff_getElem.mp h i j hi hj z e
  · exact List.pairwise_iff_getElem.mp h j i hj hi (by omega) e.symm
theorem ok_sent {CF : Addr} {f : Addr} {fd : FuncData} (F : L2.Fun K "_law_sent" "_law_sent" s_l_sent f fd) (m_Mouth_send : MetX P w K mg base 2 CM "send" (spSend CM CF)) (m_Load_fill : MetX P w K mg base 2 CL "fill" (spFill CL)) : FnOk P w K mg base (L2.CX P w) 3 f fd ["_law_mouth", "_law_load", "_law_rows"] (spSent CM CL) := by
  refine Fun.okX F sc_l_sent (fun vs H Q E h => ?_) (fun cdv A outer s H vs Q E hr h => ?_)
  · obtain ⟨_, _, _, _, _, _, _, _, _, _, _, _, _, _, _, _, _, _, rfl, _⟩ := h
    rfl
  · obtain ⟨mo, mc, lo, ls, la, ts, rwA, m, wi, ah, l, mgr, ks, room, wait, many, rows, sure, rfl, hM, hL, hR, nd, m0, l0, l1, nf, n1, n2, r0, r1, k⟩ := h
    refine ⟨_, (pss_cons (ps_asg (Ak.pe_mx0 (pv 0) m_Mouth_send hr (by walk_at "lv") (takes_of rfl rfl rfl rfl)) (Ak.pg_tupK (K := K) (n := 2) (by rfl) rfl (pgs_cons (pg_name (i := 3) sc_l_sent.nd rfl (Or.inl rfl)) (pgs_cons (pg_name (i := 4) sc_l_sent.nd rfl (Or.inl rfl)) pgs_nil))))
      (pss_cons (ps_expr (Ak.pe_bmK (K := K) (by rfl) PySem.F.plainAttrs_list PySem.F.slot_list_append PySem.F.type_list_append mt_append (pv 2) (pa_cons (Ak.pe_mx0 (pv 1) m_Load_fill hr (by walk_at "lv") (takes_of rfl rfl rfl rfl)) pa_nil)))
      (pss_one (ps_ret (pe_tup (pa_cons (pv 3) (pa_cons (pv 4) pa_nil))))))), ?_⟩
    have e0 : L2.start N_l_sent [V.ref mo, V.ref lo, V.ref rwA] = [some (V.ref mo), some (V.ref lo), some (V.ref rwA), none, none] := rfl
    rw [e0]
    try dsimp only [cxOf]
    obtain ⟨dxm, hmo, hmc⟩ := id hM
    obtain ⟨dxl, hlo⟩ := hL.i
    walk_at "rd"
    refine ⟨mo, mc, m, wi, ah, l, mgr, ks, rfl, hM, m0, l0, l1, fun z => absurd z nf, fun _ t H1 nt ht hM1 k1 => ?_⟩
    have n : ∀ j y, j ≠ 0 → [mo, mc, lo, ls, la, rwA][j]? = some y → y ∉ [mo] := fun j y h1 h => nin_cons (nd_ne6 nd j 0 h1 h rfl) nin_nil
    have hL1 : LoadAt CL H1 lo ls la ts room wait many rows sure := by
      obtain ⟨⟨dx, hp⟩, hl, hrt, hdd, g⟩ := hL
      exact ⟨⟨dx, k1.1 _ _ (n 2 _ (by decide) rfl) hp⟩, k1.1 _ _ (n 3 _ (by decide) rfl) hl, hrt.keepT k1 (fun b hb xs z => by rw [List.mem_singleton.mp hb, hmo] at z; cases z), k1.1 _ _ (n 4 _ (by decide) rfl) hdd, g⟩
    have hR1 := k1.1 _ _ (n 5 _ (by decide) rfl) hR
    obtain ⟨dxl1, hlo1⟩ := hL1.i
    walk_at "rd"
    refine ⟨lo, ls, la, ts, room, wait, many, rows, sure, rfl, hL1, n1, n2, r0, r1, fun t2 H2 nt2 ht2 hL2 k2 => ?_⟩
    have n' : ∀ j y, j ≠ 3 → j ≠ 4 → [mo, mc, lo, ls, la, rwA][j]? = some y → y ∉ [ls, la] := fun j y h1 h2 h => nin_cons (nd_ne6 nd j 3 h1 h rfl) (nin_cons (nd_ne6 nd j 4 h2 h rfl) nin_nil)
    have hR2 := k2.1 _ _ (n' 5 _ (by decide) (by decide) rfl) hR1
    have hM2 := hM1.keep k2 (n' 0 _ (by decide) (by decide) rfl) (n' 1 _ (by decide) (by decide) rfl)
    have ht12 := k2.1 _ _ (nin_cons (ne_of ht hL1.l (by intro z; cases z)) (nin_cons (ne_of ht hL1.d (by intro z; cases z)) nin_nil)) ht
    have rl := hL.t.len
    have sz : (ts.map V.ref).length < sizeLine := by rw [List.length_map, sizeLine_eq]; omega
    walk_at "rd"
    rename_i q nq
    have k3 : Keep [rwA] H2 (upd H2 rwA (.lst (ts.map V.ref ++ [.ref t2]))) := Keep.refl.set List.mem_cons_self
    have hR3 : upd H2 rwA (.lst (ts.map V.ref ++ [.ref t2])) rwA = some (.lst ((ts ++ [t2]).map V.ref)) := by rw [upd_same, List.map_append]; rfl
    have n3 : ∀ j y, j ≠ 5 → [mo, mc, lo, ls, la, rwA][j]? = some y → y ∉ [rwA] := fun j y h1 h => nin_cons (nd_ne6 nd j 5 h1 h rfl) nin_nil
    have hM3 := hM2.keep k3 (n3 0 _ (by decide) rfl) (n3 1 _ (by decide) rfl)
    have hL3 : LoadAt CL (upd H2 rwA (.lst (ts.map V.ref ++ [.ref t2]))) lo ls la (ts ++ [t2]) room wait many (rows ++ [fillOf room wait many rows sure]) sure := by
      obtain ⟨⟨dx, hp⟩, hl, hrt, hdd, g⟩ := hL2
      exact ⟨⟨dx, k3.1 _ _ (n3 2 _ (by decide) rfl) hp⟩, k3.1 _ _ (n3 3 _ (by decide) rfl) hl, hrt.keepT k3 (fun b hb xs z => by rw [List.mem_singleton.mp hb, hR2] at z; cases z), k3.1 _ _ (n3 4 _ (by decide) rfl) hdd, g⟩
    have ht3 := k3.1 _ _ (nin_cons (ne_of ht12 hR2 (by intro z; cases z)) nin_nil) ht12
    generalize upd H2 rwA (.lst (ts.map V.ref ++ [.ref t2])) = H3 at k3 hR3 hM3 hL3 ht3 nq ⊢
    have k4 : Keep [] H3 (upd H3 q (.tup [.int (l + 1), .int ((l + 1) % m)])) := Keep.refl.new nq
    have s1 : ∀ b, b ∈ [mo] → b ∈ [mo, ls, la, rwA] := fun b hb => by rw [List.mem_singleton.mp hb]; simp
    have s2 : ∀ b, b ∈ [ls, la] → b ∈ [mo, ls, la, rwA] := fun b hb => by
      simp only [List.mem_cons, List.not_mem_nil, or_false] at hb ⊢
      rcases hb with h | h <;> simp [h]
    have s3 : ∀ b, b ∈ [rwA] → b ∈ [mo, ls, la, rwA] := fun b hb => by rw [List.mem_singleton.mp hb]; simp
    have kk : Keep [mo, ls, la, rwA] H H3 := ((k1.mono s1).trans (k2.mono s2)).trans (k3.mono s3)
    exact k q t2 _ (kk.2 _ nq) (k1.2 _ nt2) upd_same (hM3.keep k4 nin_nil nin_nil) (hL3.keep k4) (k4.1 _ _ nin_nil hR3) (kk.trans (k4.mono sub_nil))
def spGood (K : PySem.W.Frag) : Sp := fun vs H Q _ => ∃ rwA su ts, ∃ rows : List (List Int), ∃ R sl : List Int, ∃ room wait : Int, vs = [.ref rwA, .ref su, .int room, .int wait] ∧ H rwA = some (.lst (ts.map V.ref)) ∧ RowsAt H ts (rows ++ [R]) ∧ H su = some (.lst (sl.map V.int)) ∧ (R.length : Int) ≤ room ∧ (∀ p, p ∈ R → p ∉ sl) ∧ (∀ p, p ∈ R → ∀ j : Nat, (rows.length : Int) + 1 - wait ≤ j → j < rows.length → p ∉ rows.getD j []) ∧ rows.length ≤ 1000 ∧ R.length ≤ 8 ∧ 1 ≤ wait ∧ wait ≤ 20 ∧
  ∀ H', Keep [] H H' → Q (.bl true) H'
theorem cut_both {xs : List V} {i j : Int} (h : 0 ≤ i) (h2 : 0 ≤ j) (h3 : i ≤ xs.length) (h4 : j ≤ xs.length) : cutV xs (some i) (some j) = (xs.drop i.toNat).take (j.toNat - i.toNat) := by
  unfold cutV HT.sIx
  simp only []
  rw [if_neg (by omega), if_neg (by omega), Nat.min_eq_left (by omega), Nat.min_eq_left (by omega)]
theorem w_slBoth {K : PySem.W.Frag} {H : Hp} {Q : VK} {a : Addr} {xs : List V} {i j : Int} (e : SqL K H a xs) (i0 : 0 ≤ i) (j0 : 0 ≤ j) (i1 : i ≤ xs.length) (j1 : j ≤ xs.length) (h : ∀ p, H p = none → Q (.ref p) (upd H p (.lst ((xs.drop i.toNat).take (j.toNat - i.toNat))))) : rSlX K (.ref a) (some i) (some j) H Q := Or.inl ⟨a, xs, rfl, e, by rw [cut_both i0 j0 i1 j1]; exact h⟩
theorem ok_good {f : Addr} {fd : FuncData} (F : L2.Fun K "_law_good" "_law_good" s_l_good f fd) (g_len : mg "len" = none) (g_max : mg "max" = none) : FnOk P w K mg base (L2.CX P w) 1 f fd ["_law_rows", "_law_sure", "_law_room", "_law_wait"] (spGood K) := by
  refine Fun.okX F sc_l_good (fun vs H Q E h => ?_) (fun cdv A outer s H vs Q E hr h => ?_)
  · obtain ⟨_, _, _, _, _, _, _, _, rfl, _⟩ := h
    rfl
  · obtain ⟨rwA, su, ts, rows, R, sl, room, wait, rfl, hR, hrt, hsu, hroom, hnot, hnear, hrl, hRl, w1, w20, k⟩ := h
    refine ⟨_, (pss_cons (ps_set (i := 4) sc_l_good.nd rfl (Or.inr rfl) (pe_ix (Ak.ix_K (K := K) (by rfl)) (pv 0) (pe_un un_neg pe_int) (by intro _ _; rfl)))
      (pss_cons (ps_if (PW.pt (pw_or (pt_cmpR op_gt (pe_callB (Ak.cr_lenK (K := K) (by rfl)) (by rfl) g_len (by decide +kernel) (pa_cons (pv 4) pa_nil)) (pv 2) (nomark _)) (pw_or1 (pt_cmpR (Ak.op_neK (K := K) (by rfl) hr.units) (pe_lc (own := [("_law_piece", 5)]) (g := (gName 5)) rfl sc_l_good.nd (Ak.pi_tupK (K := K) (by rfl) (pv 4)) (blkOk_by (N := N_l_good) (sc := defScope s_l_good) (by decide +kernel)) (fun _ _ _ _ _ => by exact (pg_name (i := 5) sc_l_good.nd rfl (Or.inl rfl))) (fun _ _ _ _ _ => by exact (pts_one (pt_cmpR (Ak.op_inK (K := K) (by rfl)) (pv 5) (pv 1) (by rfl)))) (fun _ _ _ _ _ => by exact (pv 5))) (pe_lst pa_nil) (nomark _)))))
      (pss_one (ps_ret pe_bl))
      pss_nil)
      (pss_cons (ps_set (i := 6) sc_l_good.nd rfl (Or.inl rfl) (pe_slice (Ak.sl_K (K := K) (by rfl)) (pv 0) (po_some (pe_callB (Ak.cr_maxK (K := K) (by rfl) rfl) (by rfl) g_max (by decide +kernel) (pa_cons pe_int (pa_cons (pe_op op_sub (pe_callB (Ak.cr_lenK (K := K) (by rfl)) (by rfl) g_len (by decide +kernel) (pa_cons (pv 0) pa_nil)) (pv 3)) pa_nil)))) (po_some (pe_op op_sub (pe_callB (Ak.cr_lenK (K := K) (by rfl)) (by rfl) g_len (by decide +kernel) (pa_cons (pv 0) pa_nil)) pe_int))))
      (pss_one (ps_ret (pe_cmpR (Ak.op_eqK (K := K) (by rfl) hr.units) (pe_lc (own := [("_law_row", 7)]) (g := (gName 7)) rfl sc_l_good.nd (Ak.pi_listK (K := K) (by rfl) (pv 6)) (blkOk_by (N := N_l_good) (sc := defScope s_l_good) (by decide +kernel)) (fun _ _ _ _ _ => by exact (pg_name (i := 7) sc_l_good.nd rfl (Or.inr rfl))) (fun _ _ _ _ _ => by exact (pts_one (pt_cmpR (Ak.op_neK (K := K) (by rfl) hr.units) (pe_lc (own := [("_law_piece", 5)]) (g := (gName 5)) rfl sc_l_good.nd (Ak.pi_tupK (K := K) (by rfl) (pv 4)) (blkOk_by (by rfl)) (fun _ _ _ _ _ => by exact (pg_name (i := 5) sc_l_good.nd rfl (Or.inl rfl))) (fun _ _ _ _ _ => by exact (pts_one (pt_cmpR (Ak.op_inK (K := K) (by rfl)) (pv 5) (pv 7) (by rfl)))) (fun _ _ _ _ _ => by exact (pv 5))) (pe_lst pa_nil) (nomark _)))) (fun _ _ _ _ _ => by exact (pv 7))) (pe_lst pa_nil) (nomark _))))))), ?_⟩
    have e0 : L2.start N_l_good [V.ref rwA, V.ref su, V.int room, V.int wait] = [some (V.ref rwA), some (V.ref su), some (V.int room), some (V.int wait), none, none, none, none] := rfl
    rw [e0]
    try dsimp only [cxOf]
    have tl := hrt.len
    rw [List.length_append, List.length_singleton] at tl
    obtain ⟨t0, ht0, htR⟩ := hrt.at (k := rows.length) (by rw [List.length_append, List.length_singleton]; omega)
    rw [List.getD_eq_getElem?_getD, List.getElem?_append_right (Nat.le_refl _), Nat.sub_self] at htR
    change H t0 = some (.tup (R.map V.int)) at htR
    have hix : atI (ts.map V.ref) (-1) = some (.ref t0) := atI_last (by rw [List.length_map, List.getElem?_map, show ts.length - 1 = rows.length by omega, ht0]; rfl)
    walk_at "rd"
    have lR : ((R.map V.int).length : Int) = R.length := by rw [List.length_map]
    have lm : (ts.map V.ref).length = rows.length + 1 := by rw [List.length_map, tl]
    refine Ak.w_ite (fun z => by omega) (fun _ => ?_)
    walk_at "rd"
    refine Ak.l_lcT (SqT.of htR) (fun _ => []) rfl (fun D i x H' hD hx kD hf => ?_) (fun D H1 hD k1 hf => ?_)
    · obtain ⟨p, hp, rfl⟩ := map_at hx
      have hsu' := kD.1 _ _ nin_nil hsu
      walk_at "rd"
      refine Ak.w_ite (fun z => absurd z (hnot p (List.mem_of_getElem? hp))) (fun _ => ?_)
      exact kOut_go hf kD rfl
    · walk_at "rd"
      rename_i t1 nt1
      refine w_neE (ns := []) (SqL.of (at_new nt1 hf)) (SqL.of upd_same) ?_
      have k02 : Keep [] H (upd H1 t1 (.lst [])) := k1.new nt1
      generalize upd H1 t1 (.lst []) = H2 at k02 ⊢
      have hR2 := k02.1 _ _ nin_nil hR
      walk_at "rd"
      refine Ak.w_iteN (fun z => absurd rfl z) (fun _ => ?_)
      walk_at "rd"
      refine w_slBoth (SqL.of hR2) (by omega) (by omega) (by omega) (by omega) fun p np => ?_
      rw [lm, show ((((rows.length + 1 : Nat) : Int) - 1).toNat) = rows.length by omega]
      have hj : ∀ k : Nat, k < rows.length - (max 0 (((rows.length + 1 : Nat) : Int) - wait)).toNat → (rows.length : Int) + 1 - wait ≤ ((max 0 (((rows.length + 1 : Nat) : Int) - wait)).toNat + k : Nat) := fun k _ => by omega
      generalize (max 0 (((rows.length + 1 : Nat) : Int) - wait)).toNat = lo at hj ⊢
      have k03 : Keep [] H (upd H2 p (.lst (((ts.map V.ref).drop lo).take (rows.length - lo)))) := k02.new np
      have hp : upd H2 p (.lst (((ts.map V.ref).drop lo).take (rows.length - lo))) p = some (.lst (((ts.map V.ref).drop lo).take (rows.length - lo))) := upd_same
      generalize upd H2 p (.lst (((ts.map V.ref).drop lo).take (rows.length - lo))) = H3 at k03 hp ⊢
      walk_at "rd"
      refine Ak.l_lcL (SqL.of hp) (fun _ => []) rfl (fun D i x H' hD hx kD hf => ?_) (fun D H4 hD k4 hf => ?_)
      · rw [List.getElem?_take] at hx
        by_cases hi : i < rows.length - lo
        · rw [if_pos hi, List.getElem?_drop] at hx
          obtain ⟨tx, htx, htt⟩ := hrt.at (k := lo + i) (by rw [List.length_append, List.length_singleton]; omega)
          rw [List.getElem?_map, htx] at hx
          cases hx
          rw [List.getD_eq_getElem?_getD, List.getElem?_append_left (by omega), ← List.getD_eq_getElem?_getD] at htt
          have kx : Keep [] H H' := k03.trans kD
          have htt' := kx.1 _ _ nin_nil htt
          have htR' := kx.1 _ _ nin_nil htR
          walk_at "rd"
          refine Ak.l_lcT (SqT.of htR') (fun _ => []) rfl (fun D2 i2 x2 H5 hD2 hx2 kD2 hf2 => ?_) (fun D2 H5 hD2 k5 hf2 => ?_)
          · obtain ⟨q, hq, rfl⟩ := map_at hx2
            have htt5 := kD2.1 _ _ nin_nil htt'
            walk_at "rd"
            refine w_inIT (SqT.of htt5) ?_
            walk_at "rd"
            refine Ak.w_ite (fun z => absurd z (hnear q (List.mem_of_getElem? hq) _ (hj i hi) (by omega))) (fun _ => ?_)
            exact kOut_go hf2 kD2 rfl
          · walk_at "rd"
            rename_i t5 nt5
            refine w_neE (ns := []) (SqL.of (at_new nt5 hf2)) (SqL.of upd_same) ?_
            have k56 : Keep [] H5 (upd H5 t5 (.lst [])) := Keep.refl.new nt5
            generalize upd H5 t5 (.lst []) = H6 at k56 ⊢
            walk_at "rd"
            refine Ak.w_iteN (fun z => absurd rfl z) (fun _ => ?_)
            exact kOut_go ((k5.trans k56).1 _ _ nin_nil hf) (kD.trans (k5.trans k56)) rfl
        · rw [if_neg hi] at hx
          cases hx
      · walk_at "rd"
        rename_i t6 nt6
        refine w_eqE (ns := []) (SqL.of (at_new nt6 hf)) (SqL.of upd_same) ?_
        rw [decide_eq_true rfl]
        exact k _ ((k03.trans k4).new nt6)
end
end Ak

namespace Ak
open PySem PySem.Spec PyProof.Rows L2
theorem PInv.mono {m w late ah : Int} {s : PS} {n n' : Nat} (x : PInv m w late ah s n) (h : n ≤ n') : PInv m w late ah s n' := by
  obtain ⟨l0, g0, g1, m0, g2, la, kg, gk, ck, ks, nc, nk, nm, nr⟩ := x
  exact ⟨l0, g0, g1, m0, g2, la, kg, gk, ck, ks, by omega, by omega, by omega, by omega⟩
/-- the law's loop as it stands -/
def LpAt (CE CM CL : Addr) (K : PySem.W.Frag) (H0 : Hp) (scr q : Addr) (m wi l ah room wait often : Int) (n : Nat) (σ' : L2.St) (H' : Hp) : Prop := ∃ a s here sl v12 v13 v14 v15,
  σ' = [some (.ref scr), some (.ref a.d), some (.ref q), some (.int room), some (.int wait), some (.ref a.mo), some (.ref a.ea), some (.ref a.lo), some (.ref a.rw), some (.ref a.he), some (.ref a.su), some (.int often), v12, v13, v14, v15, none] ∧
  PAt CE CM CL K H0 H' a m wi l ah room wait s here sl ∧ PInv m wi l ah s n ∧ PHere s here sl ∧ H' q = some (.tup [.int m, .int wi, .int l, .int ah]) ∧ here.length ≤ 8 * n
theorem PAt.tup {CE CM CL : Addr} {K : PySem.W.Frag} {H0 H H' : Hp} {a : PA} {m w late ah room wait : Int} {s : PS} {here sl : List Int} (x : PAt CE CM CL K H0 H a m w late ah room wait s here sl) {S : List Addr} {q : Addr} {xs : List V} (hq : H q = some (.tup xs)) (k : Keep S H H') (hS : ∀ b, b ∈ S → b ∈ a.L) : H' q = some (.tup xs) :=
  k.1 _ _ (fun z => x.nt hS _ z _ hq) hq
theorem nd_below : ∀ {n : Nat} {L : List Int}, L.Nodup → (∀ p, p ∈ L → 0 ≤ p ∧ p < n) → L.length ≤ n := by
  intro n
  induction n with
  | zero =>
    intro L _ h
    cases L with
    | nil => exact Nat.le_refl _
    | cons x r => have := h x List.mem_cons_self; omega
  | succ n ih =>
    intro L nd h
    by_cases z : (n : Int) ∈ L
    · have e := List.length_erase_of_mem z
      have := ih (L := L.erase (n : Int)) (nd.erase _) fun p hp => by
        obtain ⟨h1, h2⟩ := (nd.mem_erase_iff).mp hp
        have := h p h2
        omega
      omega
    · have := ih nd fun p hp => by
        have := h p hp
        have : p ≠ n := fun e => z (e ▸ hp)
        omega
      omega
/-- behind the sending -/
def LpS (CE CM CL : Addr) (K : PySem.W.Frag) (H0 : Hp) (scr q : Addr) (m wi l ah room wait often : Int) (n : Nat) (σ' : L2.St) (H' : Hp) : Prop := ∃ a s here sl v12 v15,
  σ' = [some (.ref scr), some (.ref a.d), some (.ref q), some (.int room), some (.int wait), some (.ref a.mo), some (.ref a.ea), some (.ref a.lo), some (.ref a.rw), some (.ref a.he), some (.ref a.su), some (.int often), v12, some (.int s.l), some (.int (s.l % m)), v15, none] ∧
  PAt CE CM CL K H0 H' a m wi l ah room wait s here sl ∧ PInv m wi l ah s n ∧ PHere s here sl ∧ H' q = some (.tup [.int m, .int wi, .int l, .int ah]) ∧ here.length ≤ 8 * n ∧ 0 ≤ s.l
/-- at the end -/
def FpAt (CE CM CL : Addr) (K : PySem.W.Frag) (H0 : Hp) (scr q : Addr) (m wi l ah room wait often : Int) (n : Nat) (Pr : PS → Prop) (v16 : Option V) (σ' : L2.St) (H' : Hp) : Prop := ∃ a s here sl v12 v13 v14 v15,
  σ' = [some (.ref scr), some (.ref a.d), some (.ref q), some (.int room), some (.int wait), some (.ref a.mo), some (.ref a.ea), some (.ref a.lo), some (.ref a.rw), some (.ref a.he), some (.ref a.su), some (.int often), v12, v13, v14, v15, v16] ∧
  PAt CE CM CL K H0 H' a m wi l ah room wait s here sl ∧ PInv m wi l ah s n ∧ ¬ s.mg + ah < s.l + 1 ∧ Pr s
section
variable {CE CM CL CB : Addr} {K : PySem.W.Frag} {H0 H : Hp} {scr q : Addr} {m wi l ah room wait often : Int} {n : Nat} {σ : L2.St} {D : Ends} {W1 W2 W3 W4 W5 W6 : WX}
/-- here = here + list(rows[the last letter]) -/
theorem here_go {a : PA} {s : PS} {here sl : List Int} {te : TE} (X : PAt CE CM CL K H0 H a m wi l ah room wait s here sl) (I : PInv m wi l ah s n) (hn : n ≤ 10000) (l0 : 0 ≤ s.l) (e9 : σ[9]? = some (some (.ref a.he))) (e8 : σ[8]? = some (some (.ref a.rw))) (hl : here.length ≤ 100000)
    (ht : ∀ Q, Q (.int s.l) H → te σ H Q) (k : ∀ p H', H p = none → H' p = some (.lst ((here ++ s.rows.getD s.l.toNat []).map V.int)) → Keep [] H H' → D.nx (σ.set 9 (some (.ref p))) H') :
    tAsg (tOp (rPlus K) (tVar 9) (tCB (rLisX K) (tCons (tOp (rIx K) (tVar 8) te) tNil))) (gName 9) D σ H := by
  have il := I.l0
  have hk : s.l.toNat < s.rows.length := by omega
  obtain ⟨t, e, h1⟩ := X.lo.t.at hk
  have hix : atI (a.ts.map V.ref) s.l = some (.ref t) := by
    have := atI_nat (j := s.l.toNat) (show (a.ts.map V.ref)[s.l.toNat]? = some (.ref t) by rw [List.getElem?_map, e]; rfl)
    rwa [show ((s.l.toNat : Nat) : Int) = s.l by omega] at this
  refine Ak.w_asg ?_
  refine Ak.w_op ?_
  refine Ak.w_var e9 ?_
  refine Ak.w_cb ?_
  refine Ak.w_cons ?_
  refine Ak.w_op ?_
  refine Ak.w_var e8 ?_
  refine ht _ ?_
  refine Ak.w_ixL (SqL.of X.rw) hix ?_
  refine Ak.w_nil ?_
  refine Ak.w_lisT (SqT.of h1) fun p np => ?_
  have g8 : (s.rows.getD s.l.toNat []).length ≤ 8 := by
    rw [List.getD_eq_getElem?_getD, List.getElem?_eq_getElem hk]
    exact X.lo.g.n _ (List.getElem_mem hk)
  refine Ak.w_plusL (at_new np X.he) upd_same (by rw [List.length_map, List.length_map, sizeLine_eq]; omega) fun p2 np2 => ?_
  rw [← List.map_append]
  refine Ak.w_name ?_
  exact k p2 _ (free_upd np2) upd_same ((Keep.refl.new np).new np2)
theorem nd_len {s : PS} {here sl : List Int} (g : Good s.many s.rows s.sure) (I : PInv m wi l ah s n) (J : PHere s here sl) : sl.length ≤ n := by
  have h1 := nd_below (n := s.many) J.nd (fun p hp => g.s p ((J.se p).mp hp))
  have h2 := I.nm
  omega
/-- sure = sure + load.came(mouth.hear(ear.tell())) -/
theorem sure_go {a : PA} {s : PS} {here sl : List Int} (X : PAt CE CM CL K H0 H a m wi l ah room wait s here sl) (I : PInv m wi l ah s n) (J : PHere s here sl) (hn : n ≤ 10000) (so : SetOk m wi l ah) (sf : l + ah < m) (g0 : 0 ≤ s.g) (e10 : σ[10]? = some (some (.ref a.su)))
    (el : σ[7]? = some (some (.ref a.lo))) (em : σ[5]? = some (some (.ref a.mo))) (ee : σ[6]? = some (some (.ref a.ea))) (hq : H q = some (.tup [.int m, .int wi, .int l, .int ah]))
    (k : ∀ p H', PAt CE CM CL K H0 H' { a with su := p } m wi l ah room wait (s.told wi) here (sl ++ srt (s.free wi)) → PHere (s.told wi) here (sl ++ srt (s.free wi)) → PInv m wi l ah (s.told wi) (n + 1) → H' q = some (.tup [.int m, .int wi, .int l, .int ah]) → D.nx (σ.set 10 (some (.ref p))) H') :
    tAsg (tOp (rPlus K) (tVar 10) (tMethX CL "came" (spCame K CL) W1 (tVar 7) (tCons (tMethX CM "hear" (spHear K CM CB) W2 (tVar 5) (tCons (tMethX CE "tell" (spTell CE CB) W3 (tVar 6) tNil) tNil)) tNil))) (gName 10) D σ H := by
  have o1 := so.m0
  refine Ak.w_asg ?_
  refine Ak.w_op ?_
  refine Ak.w_var e10 ?_
  refine told_go X I hn sf so.l0 (by omega) so.w0 so.w1 g0 el em ee fun f H8 nf hf X8 k8 => ?_
  have J8 := J.told (w := wi) I X.lo.g g0
  have I8 := I.told g0 so.w1
  have ll := nd_len X8.lo.g I8 J8
  rw [List.length_append] at ll
  refine w_plusL X8.su hf (by rw [List.length_map, List.length_map, sizeLine_eq]; omega) (fun p np => ?_)
  rw [← List.map_append]
  have k9 : Keep [] H8 (upd H8 p (.lst ((sl ++ srt (s.free wi)).map V.int))) := Keep.refl.new np
  refine Ak.w_name ?_
  exact k p _ (X8.sureN k9 np upd_same) J8 I8 (k9.1 _ _ nin_nil (X.tup hq k8 (fun z hz => by simp only [List.mem_cons, List.not_mem_nil, or_false] at hz ⊢; rcases hz with h | h | h <;> simp [h])))
theorem row_len {s : PS} (g : Good s.many s.rows s.sure) {k : Nat} : (s.rows.getD k []).length ≤ 8 := by
  rw [List.getD_eq_getElem?_getD]
  cases e : s.rows[k]? with
  | none => exact Nat.zero_le _
  | some r => exact g.n _ (List.mem_of_getElem? e)
/-- if next(often) == 0 and ear.come(mark)[1] == "new": here = here + list(rows[number]) -/
theorem ifA_go (so : SetOk m wi l ah) (sf : l + ah < m) (hn : n + 1 ≤ 1000) (f1 : 1 ≤ often) (f2 : often ≤ 10) (h : LpS CE CM CL K H0 scr q m wi l ah room wait often n σ H) (rest : ∀ σ' H', LpS CE CM CL K H0 scr q m wi l ah room wait often (n + 1) σ' H' → D.nx σ' H') :
    tIfS (tAnd (tTest (tOp (rEqX K) (tCallX (spNext K) W1 (tCons (tVar 1) (tCons (tVar 11) tNil))) (tC (V.int 0)))) (tTest (tOp (rEqX K) (tOp (rIx K) (tMethX CE "come" (spCome CE) W2 (tVar 6) (tCons (tVar 14) tNil)) (tC (V.int 1))) (tC (V.str "new")))))
      (tAsg (tOp (rPlus K) (tVar 9) (tCB (rLisX K) (tCons (tOp (rIx K) (tVar 8) (tVar 13)) tNil))) (gName 9)) tNext D σ H := by
  obtain ⟨b, s, here, sl, v12, v15, rfl, X, I, J, hq', hle, sl0⟩ := h
  have o1 := so.m0
  have dcx := X.dc
  walk_at "rd"
  rename_i r6 H7 xs7 r60 r61 dc7 hd7 k7
  have X7 := X.dice k7 dc7
  have hq7 := X.tup hq' k7 (fun z hz => by rw [List.mem_singleton.mp hz]; exact List.mem_cons_self)
  obtain ⟨dxe7, hea7, hec7⟩ := id X7.ea
  refine Ak.w_ite (fun _ => ?_) (fun _ => ?_)
  · walk_at "rd"
    refine come_go X7 I (by omega) sf so.l0 (by omega) sl0 rfl (fun p H8 c np hp X8 k8 => ?_)
    have hq8 := X7.tup hq7 k8 (fun z hz => by rw [List.mem_singleton.mp hz]; simp)
    have I8 := I.come so.w0 sl0
    obtain ⟨e1, e2, e3, e4, e5, e6⟩ := come_same (s := s) (w := wi)
    walk_at "rd"
    refine Ak.w_ite (fun z => ?_) (fun z => ?_)
    · refine here_go X8 I8 (by omega) (by rw [e5]; exact sl0) rfl rfl (by omega) (fun Q hQ => by refine Ak.w_var (by exact rfl) ?_; rw [e5] at hQ; exact hQ) (fun p2 H9 np2 hp2 k9 => ?_)
      have J8 := J.new z
      rw [e1, e5] at hp2
      have gl := row_len X.lo.g (k := s.l.toNat)
      refine rest _ _ ⟨_, s.come wi, _, sl, _, _, by rw [e5]; rfl, X8.hereN k9 np2 hp2, I8, J8, k9.1 _ _ nin_nil hq8, by rw [List.length_append]; omega, by rw [e5]; exact sl0⟩
    · walk_at "rd"
      have es : s.come wi = s := ((PS.come_g I so.w0 sl0).2.2).resolve_left z
      rw [es] at X8
      exact rest _ _ ⟨{ b with ec := c }, s, here, sl, _, _, rfl, X8, I.succ, J, hq8, by omega, sl0⟩
  · walk_at "rd"
    exact rest _ _ ⟨b, s, here, sl, _, _, rfl, X7, I.succ, J, hq7, by omega, sl0⟩
/-- if next(often) == 0 and ear.last() >= 0: sure = sure + .. -/
theorem ifB_go (so : SetOk m wi l ah) (sf : l + ah < m) (hn : n + 1 ≤ 1000) (f1 : 1 ≤ often) (f2 : often ≤ 10) (h : LpS CE CM CL K H0 scr q m wi l ah room wait often n σ H) (rest : ∀ σ' H', LpAt CE CM CL K H0 scr q m wi l ah room wait often (n + 1) σ' H' → D.nx σ' H') :
    tIfS (tAnd (tTest (tOp (rEqX K) (tCallX (spNext K) W1 (tCons (tVar 1) (tCons (tVar 11) tNil))) (tC (V.int 0)))) (tTest (tOp (rI0 fun i j => V.bl (decide (j ≤ i))) (tMethX CE "last" (spLast CE) W2 (tVar 6) tNil) (tC (V.int 0)))))
      (tAsg (tOp (rPlus K) (tVar 10) (tMethX CL "came" (spCame K CL) W3 (tVar 7) (tCons (tMethX CM "hear" (spHear K CM CB) W4 (tVar 5) (tCons (tMethX CE "tell" (spTell CE CB) W5 (tVar 6) tNil) tNil)) tNil))) (gName 10)) tNext D σ H := by
  obtain ⟨b, s, here, sl, v12, v15, rfl, X, I, J, hq', hle, sl0⟩ := h
  have o1 := so.m0
  have dcx := X.dc
  walk_at "rd"
  rename_i r6 H7 xs7 r60 r61 dc7 hd7 k7
  have X7 := X.dice k7 dc7
  have hq7 := X.tup hq' k7 (fun z hz => by rw [List.mem_singleton.mp hz]; exact List.mem_cons_self)
  obtain ⟨dxe7, hea7, hec7⟩ := id X7.ea
  refine Ak.w_ite (fun _ => ?_) (fun _ => ?_)
  · walk_at "rd"
    refine ⟨b.ea, b.ec, m, wi, l, s.g, s.cs, rfl, X7.ea, ?_⟩
    walk_at "rd"
    refine Ak.w_ite (fun g0 => ?_) (fun _ => ?_)
    · refine sure_go X7 I J (by omega) so sf g0 rfl rfl rfl rfl hq7 (fun p H8 X8 J8 I8 hq8 => ?_)
      exact rest _ _ ⟨_, _, here, _, _, _, _, _, rfl, X8, I8, J8, hq8, by omega⟩
    · walk_at "rd"
      exact rest _ _ ⟨b, s, here, sl, _, _, _, _, rfl, X7, I.succ, J, hq7, by omega⟩
  · walk_at "rd"
    exact rest _ _ ⟨b, s, here, sl, _, _, _, _, rfl, X7, I.succ, J, hq7, by omega⟩
/-- the mouth is full -/
theorem full_go (so : SetOk m wi l ah) (sf : l + ah < m) (hn : n + 2 ≤ 1000) (f1 : 1 ≤ often) (f2 : often ≤ 10) {b : PA} {s : PS} {here sl : List Int} {v12 v13 v14 v15 : Option V} (X : PAt CE CM CL K H0 H b m wi l ah room wait s here sl) (I : PInv m wi l ah s n) (J : PHere s here sl) (hq' : H q = some (.tup [.int m, .int wi, .int l, .int ah])) (hle : here.length ≤ 8 * n) (full : s.mg + ah < s.l + 1)
    (rest : ∀ σ' H', LpAt CE CM CL K H0 scr q m wi l ah room wait often (n + 2) σ' H' → D.nx σ' H') :
    tIfS (tTest (tOp (rEqX K) (tCallX (spNext K) W1 (tCons (tVar 1) (tCons (tVar 11) tNil))) (tC (V.int 0))))
      (tSeq (tIfS (tTest (tOp (rEqX K) (tOp (rIx K) (tMethX CE "come" (spCome CE) W2 (tVar 6) (tCons (tOp (rI (fun x j => 0 < j) fun i j => V.int (i % j)) (tMethX CM "last" (spMLast CM) W3 (tVar 5) tNil) (tOp (rIx K) (tVar 2) (tC (V.int 0)))) tNil)) (tC (V.int 1))) (tC (V.str "new"))))
          (tAsg (tOp (rPlus K) (tVar 9) (tCB (rLisX K) (tCons (tOp (rIx K) (tVar 8) (tMethX CM "last" (spMLast CM) W3 (tVar 5) tNil)) tNil))) (gName 9)) tNext)
        (tAsg (tOp (rPlus K) (tVar 10) (tMethX CL "came" (spCame K CL) W4 (tVar 7) (tCons (tMethX CM "hear" (spHear K CM CB) W5 (tVar 5) (tCons (tMethX CE "tell" (spTell CE CB) W6 (tVar 6) tNil) tNil)) tNil))) (gName 10))) tNext
      D [some (.ref scr), some (.ref b.d), some (.ref q), some (.int room), some (.int wait), some (.ref b.mo), some (.ref b.ea), some (.ref b.lo), some (.ref b.rw), some (.ref b.he), some (.ref b.su), some (.int often), v12, v13, v14, v15, none] H := by
  have o1 := so.m0
  have o7 := so.a0
  have im0 := I.m0
  have sl0 : 0 ≤ s.l := by omega
  have dcx := X.dc
  walk_at "rd"
  rename_i r6 H7 xs7 r60 r61 dc7 hd7 k7
  have X7 := X.dice k7 dc7
  have hq7 := X.tup hq' k7 (fun z hz => by rw [List.mem_singleton.mp hz]; exact List.mem_cons_self)
  obtain ⟨dxe7, hea7, hec7⟩ := id X7.ea
  obtain ⟨dxm7, hmo7, hmc7⟩ := id X7.mo
  refine Ak.w_ite (fun _ => ?_) (fun _ => ?_)
  · refine cut_seq (fun σ' H' => ∃ b s here, σ' = [some (.ref scr), some (.ref b.d), some (.ref q), some (.int room), some (.int wait), some (.ref b.mo), some (.ref b.ea), some (.ref b.lo), some (.ref b.rw), some (.ref b.he), some (.ref b.su), some (.int often), v12, v13, v14, v15, none] ∧ PAt CE CM CL K H0 H' b m wi l ah room wait s here sl ∧ PInv m wi l ah s (n + 1) ∧ PHere s here sl ∧ H' q = some (.tup [.int m, .int wi, .int l, .int ah]) ∧ here.length ≤ 8 * (n + 1) ∧ 0 ≤ s.g) (fun σ' H8 pv => ?_) (fun R rest2 => ?_)
    · obtain ⟨b, s, here, rfl, X8, I8, J8, hq8, hle8, g0⟩ := pv
      refine sure_go X8 I8 J8 (by omega) so sf g0 rfl rfl rfl rfl hq8 (fun p H9 X9 J9 I9 hq9 => ?_)
      exact rest _ _ ⟨_, _, here, _, _, _, _, _, rfl, X9, I9, J9, hq9, by omega⟩
    · walk_at "rd"
      refine ⟨b.mo, b.mc, m, wi, ah, s.l, s.mg, s.ks, rfl, X7.mo, ?_⟩
      walk_at "rd"
      refine come_go X7 I (by omega) sf so.l0 (by omega) sl0 rfl (fun p H8 c np hp X8 k8 => ?_)
      have hq8 := X7.tup hq7 k8 (fun z hz => by rw [List.mem_singleton.mp hz]; simp)
      have I8 := I.come so.w0 sl0
      obtain ⟨e1, e2, e3, e4, e5, e6⟩ := come_same (s := s) (w := wi)
      obtain ⟨c1, c2, c3⟩ := PS.come_g I so.w0 sl0
      walk_at "rd"
      refine Ak.w_ite (fun z => ?_) (fun z => ?_)
      · refine here_go X8 I8 (by omega) (by rw [e5]; exact sl0) rfl rfl (by omega) (fun Q hQ => ?_) (fun p2 H9 np2 hp2 k9 => ?_)
        · obtain ⟨dxm8, hmo8, hmc8⟩ := id X8.mo
          rw [e5] at hQ
          have hM8 := X8.mo
          rw [e5, e6, e4] at hM8
          walk_at "rd"
          exact ⟨b.mo, b.mc, m, wi, ah, s.l, s.mg, s.ks, rfl, hM8, hQ⟩
        · have J8 := J.new z
          rw [e1, e5] at hp2
          have gl := row_len X.lo.g (k := s.l.toNat)
          refine rest2 _ _ ⟨_, s.come wi, _, rfl, X8.hereN k9 np2 hp2, I8, J8, k9.1 _ _ nin_nil hq8, by rw [List.length_append]; omega, by omega⟩
      · walk_at "rd"
        have es : s.come wi = s := c3.resolve_left z
        rw [es] at X8 c1
        exact rest2 _ _ ⟨{ b with ec := c }, s, here, rfl, X8, I.succ, J, hq8, by omega, by omega⟩
  · walk_at "rd"
    exact rest _ _ ⟨b, s, here, sl, _, _, _, _, rfl, X7, I.succ.succ, J, hq7, by omega⟩
theorem LpAt.mono {n' : Nat} (h : n ≤ n') (x : LpAt CE CM CL K H0 scr q m wi l ah room wait often n σ H) : LpAt CE CM CL K H0 scr q m wi l ah room wait often n' σ H := by
  obtain ⟨b, s, here, sl, v12, v13, v14, v15, e, X, I, J, hq', hle⟩ := x
  exact ⟨b, s, here, sl, v12, v13, v14, v15, e, X, I.mono h, J, hq', by omega⟩
end
end Ak

namespace Ak
open PySem PySem.Spec PyProof.Rows L2
section
variable {P : Program} {w : World} {K : PySem.W.Frag} {mg : Str → Option Value} {base : Heap} {CE CM CL : Addr}
def spLaw (K : PySem.W.Frag) : Sp := fun vs H Q _ => ∃ (a : Addr) (ns : List Int), vs = [.ref a] ∧ SqL K H a (ns.map V.int) ∧ ns.length ≤ 63 ∧ ∀ H', Q (.bl true) H'
theorem pe_lenSetK {X : Cx} {K : PySem.W.Frag} (hK : X.K = K) {a : Expr} {ta : TE} {p p2 q pos : Pos} (hg : Gl X "len") (hm : X.mg "len" = none) (hg2 : Gl X "set") (hm2 : X.mg "set" = none) (ha : PE X a ta) (hc : X.calm = true := by rfl)
    (na : starEach [a] X.env = (false, eval a X.env) :: starEach [] X.env := by rfl) : PE X (.Call (.Name "len" p) [.Call (.Name "set" p2) [a] [] q] [] pos) (RZ.tLenSetI K ta) := hK ▸ RZ.pe_lenSetI hg hm hg2 hm2 ha hc na
theorem w_par3 {i j l : Nat} {ta : TA} {D : Ends} {σ : L2.St} {H : Hp} (h : ta σ H fun vs H1 => ∃ u v w, vs = [u, v, w] ∧ D.nx (((List.set σ i (some u)).set j (some v)).set l (some w)) H1) : tPar3 i j l ta D σ H := h
theorem w_par3' {x y z : V} {R : V → V → V → Prop} (h : R x y z) : ∃ u v w, [x, y, z] = [u, v, w] ∧ R u v w := ⟨x, y, z, rfl, h⟩
theorem seq_is {t u : TS} {D : Ends} {σ : L2.St} {H : Hp} (h : tSeq t u D σ H) : tSeq t u D σ H := h
local macro_rules | `(tactic| walk_at "rds") => `(tactic| repeat (fail_if_success (with_reducible refine Ak.seq_is ?_); walk_at "s"))
local macro_rules | `(tactic| walk_at "s") => `(tactic| first | with_reducible refine Ak.w_par3 ?_ | with_reducible refine Ak.w_par3' ?_)
theorem nd_add {H : Hp} {L : List Addr} {x : Addr} (h : L.Nodup) (al : ∀ y, y ∈ L → H y ≠ none) (n : H x = none) : (L ++ [x]).Nodup :=
  List.nodup_append.mpr ⟨h, List.nodup_cons.mpr ⟨List.not_mem_nil, List.nodup_nil⟩, fun a ha b hb e => by rw [List.mem_singleton.mp hb] at e; exact al a ha (e ▸ n)⟩
theorem alv_keep {S L : List Addr} {H H' : Hp} (al : ∀ y, y ∈ L → H y ≠ none) (k : Keep S H H') : ∀ y, y ∈ L → H' y ≠ none := fun y hy z => al y hy (k.2 y z)
theorem alv_add {L : List Addr} {H : Hp} {x : Addr} {o : HO} (al : ∀ y, y ∈ L → H y ≠ none) (h : H x = some o) : ∀ y, y ∈ L ++ [x] → H y ≠ none := fun y hy => by
  rcases List.mem_append.mp hy with z | z
  · exact al y z
  · rw [List.mem_singleton.mp z, h]; exact fun z => by cases z
theorem fr_add {L : List Addr} {H0 : Hp} {x : Addr} (al : ∀ y, y ∈ L → Fr H0 y) (h : Fr H0 x) : ∀ y, y ∈ L ++ [x] → Fr H0 y := fun y hy => by
  rcases List.mem_append.mp hy with z | z
  · exact al y z
  · rw [List.mem_singleton.mp z]; exact h
def kLenSet (K : PySem.W.Frag) (x : V) (H1 : Hp) (Q : VK) : Prop := ∃ (l : Addr) (ns : List Int), x = .ref l ∧ SqL K H1 l (ns.map V.int) ∧ ns.Nodup ∧ ns.length ≤ 4000 ∧ Q (.int (ns.length : Nat)) H1
theorem w_lenSet {K : PySem.W.Frag} {ta : TE} {σ : L2.St} {H : Hp} {Q : VK} (h : ta σ H fun x H1 => kLenSet K x H1 Q) : RZ.tLenSetI K ta σ H Q := h
theorem ok_law {CB : Addr} {f : Addr} {fd : FuncData} (F : L2.Fun K "law" "law" s_law f fd) (g_range : mg "range" = none) (g_len : mg "len" = none) (g_set : mg "set" = none) (g_list : mg "list" = none)
    (c_l_dice : CalX P w K mg base 1 "_law_dice" (spDice K)) (c_l_next : CalX P w K mg base 1 "_law_next" (spNext K)) (c_l_safe : CalX P w K mg base 3 "_law_safe" (spSafe K)) (c_l_sent : CalX P w K mg base 3 "_law_sent" (spSent CM CL)) (c_l_good : CalX P w K mg base 1 "_law_good" (spGood K))
    (k_Ear : MakX P w K mg base 3 "Ear" CE (spEarInit K CE)) (k_Mouth : MakX P w K mg base 3 "Mouth" CM (spMouthInit K CM)) (k_Load : MakX P w K mg base 2 "Load" CL (spLoadInit CL))
    (m_Mouth_is_full : MetX P w K mg base 1 CM "is_full" (spIsFull CM)) (m_Mouth_hear : MetX P w K mg base 3 CM "hear" (spHear K CM CB)) (m_Mouth_last : MetX P w K mg base 1 CM "last" (spMLast CM))
    (m_Ear_tell : MetX P w K mg base 2 CE "tell" (spTell CE CB)) (m_Ear_last : MetX P w K mg base 1 CE "last" (spLast CE)) (m_Ear_come : MetX P w K mg base 3 CE "come" (spCome CE))
    (m_Load_put : MetX P w K mg base 1 CL "put" (spPut CL)) (m_Load_came : MetX P w K mg base 2 CL "came" (spCame K CL)) (m_Load_waits : MetX P w K mg base 1 CL "waits" (spWaits CL)) :
    FnOk P w K mg base (L2.CX P w) 5 f fd ["_law_script"] (spLaw K) := by
  refine Fun.okX F sc_law (fun vs H Q E h => ?_) (fun cdv A outer s H vs Q E hr h => ?_)
  · obtain ⟨_, _, rfl, _⟩ := h
    rfl
  · obtain ⟨a, ns, rfl, hS, hl, k⟩ := h
    refine ⟨_, (pss_cons (ps_set (i := 1) sc_law.nd rfl (Or.inl rfl) (Ak.pe_cx c_l_dice hr (by walk_at "lv") (by rfl) (takes_of rfl rfl rfl rfl) (pa_cons (pv 0) pa_nil)))
      (pss_cons (ps_set (i := 2) sc_law.nd rfl (Or.inl rfl) (Ak.pe_cx c_l_safe hr (by walk_at "lv") (by rfl) (takes_of rfl rfl rfl rfl) (pa_cons (pv 1) pa_nil)))
      (pss_cons (ps_par rfl sc_law.nd (i := 3) (j := 4) rfl rfl (by decide) rfl rfl (pa_cons (pe_op (Ak.op_plusK (K := K) (by rfl)) pe_int (Ak.pe_cx c_l_next hr (by walk_at "lv") (by rfl) (takes_of rfl rfl rfl rfl) (pa_cons (pv 1) (pa_cons pe_int pa_nil)))) (pa_cons (pe_op (Ak.op_plusK (K := K) (by rfl)) pe_int (Ak.pe_cx c_l_next hr (by walk_at "lv") (by rfl) (takes_of rfl rfl rfl rfl) (pa_cons (pv 1) (pa_cons pe_int pa_nil)))) pa_nil)) (by rfl))
      (pss_cons (ps_par3 rfl sc_law.nd (i := 5) (j := 6) (l := 7) rfl rfl rfl (by decide) (by decide) (by decide) rfl rfl rfl (pa_cons (Ak.pe_kx k_Mouth hr (by walk_at "lv") (by rfl) (takes_of rfl rfl rfl rfl) (pa_cons (pv 2) pa_nil)) (pa_cons (Ak.pe_kx k_Ear hr (by walk_at "lv") (by rfl) (takes_of rfl rfl rfl rfl) (pa_cons (pv 2) pa_nil)) (pa_cons (Ak.pe_kx k_Load hr (by walk_at "lv") (by rfl) (takes_of rfl rfl rfl rfl) (pa_cons (pv 3) (pa_cons (pv 4) pa_nil))) pa_nil))) (by rfl))
      (pss_cons (ps_set (i := 8) sc_law.nd rfl (Or.inl rfl) (pe_lst pa_nil))
      (pss_cons (ps_set (i := 9) sc_law.nd rfl (Or.inr rfl) (pe_lst pa_nil))
      (pss_cons (ps_set (i := 10) sc_law.nd rfl (Or.inl rfl) (pe_lst pa_nil))
      (pss_cons (ps_set (i := 11) sc_law.nd rfl (Or.inl rfl) (pe_op (Ak.op_plusK (K := K) (by rfl)) pe_int (Ak.pe_cx c_l_next hr (by walk_at "lv") (by rfl) (takes_of rfl rfl rfl rfl) (pa_cons (pv 1) (pa_cons pe_int pa_nil)))))
      (pss_cons (ps_for (passes_of rfl) rfl (pi_range1 (by rfl) g_range (pa_cons (Ak.pe_cx c_l_next hr (by walk_at "lv") (by rfl) (takes_of rfl rfl rfl rfl) (pa_cons (pv 1) (pa_cons pe_int pa_nil))) pa_nil)) (pg_name (i := 12) sc_law.nd rfl (Or.inl rfl))
      (pss_cons (ps_if (pt_cmpR (Ak.op_eqK (K := K) (by rfl) hr.units) (Ak.pe_cx c_l_next hr (by walk_at "lv") (by rfl) (takes_of rfl rfl rfl rfl) (pa_cons (pv 1) (pa_cons pe_int pa_nil))) pe_int (nomark _))
      (pss_one (ps_expr (Ak.pe_mx0 (pv 7) m_Load_put hr (by walk_at "lv") (takes_of rfl rfl rfl rfl))))
      pss_nil)
      (pss_cons (ps_if (pt_not (Ak.pt_truK (K := K) (by rfl) (Ak.pe_mx0 (pv 5) m_Mouth_is_full hr (by walk_at "lv") (takes_of rfl rfl rfl rfl))))
      (pss_cons (ps_asg (Ak.pe_cx c_l_sent hr (by walk_at "lv") (by rfl) (takes_of rfl rfl rfl rfl) (pa_cons (pv 5) (pa_cons (pv 7) (pa_cons (pv 8) pa_nil)))) (Ak.pg_tupK (K := K) (n := 2) (by rfl) rfl (pgs_cons (pg_name (i := 13) sc_law.nd rfl (Or.inl rfl)) (pgs_cons (pg_name (i := 14) sc_law.nd rfl (Or.inl rfl)) pgs_nil))))
      (pss_cons (ps_if (pt_not (Ak.pt_truK (K := K) (by rfl) (Ak.pe_cx c_l_good hr (by walk_at "lv") (by rfl) (takes_of rfl rfl rfl rfl) (pa_cons (pv 8) (pa_cons (pv 10) (pa_cons (pv 3) (pa_cons (pv 4) pa_nil)))))))
      (pss_one (ps_ret pe_bl))
      pss_nil)
      (pss_cons (ps_if (PW.pt (pw_and (pt_cmpR (Ak.op_eqK (K := K) (by rfl) hr.units) (Ak.pe_cx c_l_next hr (by walk_at "lv") (by rfl) (takes_of rfl rfl rfl rfl) (pa_cons (pv 1) (pa_cons (pv 11) pa_nil))) pe_int (nomark _)) (pw_and1 (pt_cmpR (Ak.op_eqK (K := K) (by rfl) hr.units) (pe_ix (Ak.ix_K (K := K) (by rfl)) (Ak.pe_mx (pv 6) m_Ear_come hr (by walk_at "lv") (takes_of rfl rfl rfl rfl) (pa_cons (pv 14) pa_nil)) pe_int (by intro _ _; rfl)) pe_str (nomark _)))))
      (pss_one (ps_set (i := 9) sc_law.nd rfl (Or.inr rfl) (pe_op (Ak.op_plusK (K := K) (by rfl)) (pv 9) (pe_callTy (Ak.cr_lisK (K := K) (by rfl)) (by rfl) g_list (by decide +kernel) (pa_cons (pe_ix (Ak.ix_K (K := K) (by rfl)) (pv 8) (pv 13) (by intro _ _; rfl)) pa_nil)))))
      pss_nil)
      (pss_one (ps_if (PW.pt (pw_and (pt_cmpR (Ak.op_eqK (K := K) (by rfl) hr.units) (Ak.pe_cx c_l_next hr (by walk_at "lv") (by rfl) (takes_of rfl rfl rfl rfl) (pa_cons (pv 1) (pa_cons (pv 11) pa_nil))) pe_int (nomark _)) (pw_and1 (pt_cmpR op_ge (Ak.pe_mx0 (pv 6) m_Ear_last hr (by walk_at "lv") (takes_of rfl rfl rfl rfl)) pe_int (nomark _)))))
      (pss_one (ps_set (i := 10) sc_law.nd rfl (Or.inl rfl) (pe_op (Ak.op_plusK (K := K) (by rfl)) (pv 10) (Ak.pe_mx (pv 7) m_Load_came hr (by walk_at "lv") (takes_of rfl rfl rfl rfl) (pa_cons (Ak.pe_mx (pv 5) m_Mouth_hear hr (by walk_at "lv") (takes_of rfl rfl rfl rfl) (pa_cons (Ak.pe_mx0 (pv 6) m_Ear_tell hr (by walk_at "lv") (takes_of rfl rfl rfl rfl)) pa_nil)) pa_nil)))))
      pss_nil)))))
      (pss_one (ps_if (pt_cmpR (Ak.op_eqK (K := K) (by rfl) hr.units) (Ak.pe_cx c_l_next hr (by walk_at "lv") (by rfl) (takes_of rfl rfl rfl rfl) (pa_cons (pv 1) (pa_cons (pv 11) pa_nil))) pe_int (nomark _))
      (pss_cons (ps_if (pt_cmpR (Ak.op_eqK (K := K) (by rfl) hr.units) (pe_ix (Ak.ix_K (K := K) (by rfl)) (Ak.pe_mx (pv 6) m_Ear_come hr (by walk_at "lv") (takes_of rfl rfl rfl rfl) (pa_cons (pe_op op_mod (Ak.pe_mx0 (pv 5) m_Mouth_last hr (by walk_at "lv") (takes_of rfl rfl rfl rfl)) (pe_ix (Ak.ix_K (K := K) (by rfl)) (pv 2) pe_int (by intro _ _; rfl))) pa_nil)) pe_int (by intro _ _; rfl)) pe_str (nomark _))
      (pss_one (ps_set (i := 9) sc_law.nd rfl (Or.inr rfl) (pe_op (Ak.op_plusK (K := K) (by rfl)) (pv 9) (pe_callTy (Ak.cr_lisK (K := K) (by rfl)) (by rfl) g_list (by decide +kernel) (pa_cons (pe_ix (Ak.ix_K (K := K) (by rfl)) (pv 8) (Ak.pe_mx0 (pv 5) m_Mouth_last hr (by walk_at "lv") (takes_of rfl rfl rfl rfl)) (by intro _ _; rfl)) pa_nil)))))
      pss_nil)
      (pss_one (ps_set (i := 10) sc_law.nd rfl (Or.inl rfl) (pe_op (Ak.op_plusK (K := K) (by rfl)) (pv 10) (Ak.pe_mx (pv 7) m_Load_came hr (by walk_at "lv") (takes_of rfl rfl rfl rfl) (pa_cons (Ak.pe_mx (pv 5) m_Mouth_hear hr (by walk_at "lv") (takes_of rfl rfl rfl rfl) (pa_cons (Ak.pe_mx0 (pv 6) m_Ear_tell hr (by walk_at "lv") (takes_of rfl rfl rfl rfl)) pa_nil)) pa_nil))))))
      pss_nil)))
      (pss_one (ps_if (PW.pt (pw_or (pt_cmpR (Ak.op_neK (K := K) (by rfl) hr.units) (pe_lc (own := [("_law_piece", 15)]) (g := (gName 15)) rfl sc_law.nd (Ak.pi_listK (K := K) (by rfl) (pv 10)) (blkOk_by (N := N_law) (sc := defScope s_law) (by decide +kernel)) (fun _ _ _ _ _ => by exact (pg_name (i := 15) sc_law.nd rfl (Or.inl rfl))) (fun _ _ _ _ _ => by exact (pts_one (pt_cmpR (Ak.op_ninK (K := K) (by rfl)) (pv 15) (pv 9) (by rfl)))) (fun _ _ _ _ _ => by exact (pv 15))) (pe_lst pa_nil) (nomark _)) (pw_or1 (pt_cmpR (Ak.op_neK (K := K) (by rfl) hr.units) (Ak.pe_lenSetK (K := K) (by rfl) (by rfl) g_len (by rfl) g_set (pv 10)) (pe_callB (Ak.cr_lenK (K := K) (by rfl)) (by rfl) g_len (by decide +kernel) (pa_cons (pv 10) pa_nil)) (nomark _)))))
      (pss_one (ps_ret pe_bl))
      pss_nil)))))
      (pss_cons (ps_if (Ak.pt_truK (K := K) (by rfl) (Ak.pe_mx0 (pv 5) m_Mouth_is_full hr (by walk_at "lv") (takes_of rfl rfl rfl rfl)))
      (pss_cons (ps_expr (Ak.pe_mx (pv 6) m_Ear_come hr (by walk_at "lv") (takes_of rfl rfl rfl rfl) (pa_cons (pe_op op_mod (Ak.pe_mx0 (pv 5) m_Mouth_last hr (by walk_at "lv") (takes_of rfl rfl rfl rfl)) (pe_ix (Ak.ix_K (K := K) (by rfl)) (pv 2) pe_int (by intro _ _; rfl))) pa_nil)))
      (pss_one (ps_expr (Ak.pe_mx (pv 7) m_Load_came hr (by walk_at "lv") (takes_of rfl rfl rfl rfl) (pa_cons (Ak.pe_mx (pv 5) m_Mouth_hear hr (by walk_at "lv") (takes_of rfl rfl rfl rfl) (pa_cons (Ak.pe_mx0 (pv 6) m_Ear_tell hr (by walk_at "lv") (takes_of rfl rfl rfl rfl)) pa_nil)) pa_nil)))))
      pss_nil)
      (pss_cons (ps_set (i := 16) sc_law.nd rfl (Or.inl rfl) (Ak.pe_mx0 (pv 7) m_Load_waits hr (by walk_at "lv") (takes_of rfl rfl rfl rfl)))
      (pss_cons (ps_for (passes_of rfl) rfl (pi_range1 (by rfl) g_range (pa_cons (pe_op (Ak.op_plusK (K := K) (by rfl)) (pe_callB (Ak.cr_lenK (K := K) (by rfl)) (by rfl) g_len (by decide +kernel) (pa_cons (pv 16) pa_nil)) (pv 4)) pa_nil)) (pg_name (i := 12) sc_law.nd rfl (Or.inl rfl))
      (pss_cons (ps_asg (Ak.pe_cx c_l_sent hr (by walk_at "lv") (by rfl) (takes_of rfl rfl rfl rfl) (pa_cons (pv 5) (pa_cons (pv 7) (pa_cons (pv 8) pa_nil)))) (Ak.pg_tupK (K := K) (n := 2) (by rfl) rfl (pgs_cons (pg_name (i := 13) sc_law.nd rfl (Or.inl rfl)) (pgs_cons (pg_name (i := 14) sc_law.nd rfl (Or.inl rfl)) pgs_nil))))
      (pss_cons (ps_expr (Ak.pe_mx (pv 6) m_Ear_come hr (by walk_at "lv") (takes_of rfl rfl rfl rfl) (pa_cons (pv 14) pa_nil)))
      (pss_one (ps_expr (Ak.pe_mx (pv 7) m_Load_came hr (by walk_at "lv") (takes_of rfl rfl rfl rfl) (pa_cons (Ak.pe_mx (pv 5) m_Mouth_hear hr (by walk_at "lv") (takes_of rfl rfl rfl rfl) (pa_cons (Ak.pe_mx0 (pv 6) m_Ear_tell hr (by walk_at "lv") (takes_of rfl rfl rfl rfl)) pa_nil)) pa_nil)))))))
      (pss_one (ps_ret (pe_and (pe_cmpR (Ak.op_eqK (K := K) (by rfl) hr.units) (Ak.pe_mx0 (pv 7) m_Load_waits hr (by walk_at "lv") (takes_of rfl rfl rfl rfl)) (pe_lst pa_nil) (nomark _)) (pe_one (pe_cmpR (Ak.op_eqK (K := K) (by rfl) hr.units) (Ak.pe_mx0 (pv 6) m_Ear_last hr (by walk_at "lv") (takes_of rfl rfl rfl rfl)) (Ak.pe_mx0 (pv 5) m_Mouth_last hr (by walk_at "lv") (takes_of rfl rfl rfl rfl)) (nomark _)))))))))))))))))), ?_⟩
    have e0 : L2.start N_law [V.ref a] = [some (V.ref a), none, none, none, none, none, none, none, none, none, none, none, none, none, none, none, none] := rfl
    rw [e0]
    try dsimp only [cxOf]
    walk_at "rd"
    refine ⟨a, ns, rfl, hS, hl, fun d H1 hd dc k1 => ?_⟩
    walk_at "rd"
    refine ⟨H, d, rfl, dc, fun q m wi l ah H2 so sf nq hq dc2 k2 => ?_⟩
    obtain ⟨xs2, hd2⟩ := dc2.lst
    have hqd : q ≠ d := ne_of hq hd2 (by intro z; cases z)
    walk_at "rd"
    rename_i r1 H3 xs3 r10 r11 dc3 hd3 k3 r2 H4 xs4 r20 r21 dc4 hd4 k4
    have hq4 := k4.1 _ _ (nin_cons hqd nin_nil) (k3.1 _ _ (nin_cons hqd nin_nil) hq)
    obtain ⟨o1, o2, o3, o4, o5, o6, o7, o8⟩ := id so
    intro mo dx1 nmo ndx1 nxp1
    have e0' : Keep [] H4 (upd (upd H4 dx1 (.own mo)) mo (.ins CM dx1 [])) := (Keep.refl.own ndx1).own nmo
    refine ⟨mo, q, m, wi, l, ah, dx1, rfl, SqT.of (e0'.1 _ _ nin_nil hq4), so, upd_same, fun mc H5 hM nmc k5 => ⟨rfl, ?_⟩⟩
    have k45 : Keep [] H4 H5 := Keep.fresh k5 (fun b hb => by rw [List.mem_singleton.mp hb]; exact nmo) e0'
    have hq5 := k45.1 _ _ nin_nil hq4
    walk_at "rd"
    intro ea dx2 nea ndx2 nxp2
    have e1' : Keep [] H5 (upd (upd H5 dx2 (.own ea)) ea (.ins CE dx2 [])) := (Keep.refl.own ndx2).own nea
    refine ⟨ea, q, m, wi, l, ah, dx2, rfl, SqT.of (e1'.1 _ _ nin_nil hq5), so, upd_same, fun ec H6 hE nec k6 => ⟨rfl, ?_⟩⟩
    have k56 : Keep [] H5 H6 := Keep.fresh k6 (fun b hb => by rw [List.mem_singleton.mp hb]; exact nea) e1'
    walk_at "rd"
    intro lo dx3 nlo ndx3 nxp3
    have e2' : Keep [] H6 (upd (upd H6 dx3 (.own lo)) lo (.ins CL dx3 [])) := (Keep.refl.own ndx3).own nlo
    refine ⟨lo, 1 + r1, 1 + r2, dx3, rfl, by omega, by omega, by omega, by omega, upd_same, fun ls la H7 nls nla lsla hL k7 => ⟨rfl, ?_⟩⟩
    have k67 : Keep [] H6 H7 := Keep.fresh k7 (fun b hb => by rw [List.mem_singleton.mp hb]; exact nlo) e2'
    walk_at "rd"
    rename_i rwA nrw heA nhe suA nsu r3 H8 xs8 r30 r31 dc8 hd8 k8 r4 H9 xs9 r40 r41 dc9 hd9 k9
    have dc5 := dc4.keep (S := []) k45 nin_nil none_nil
    have dc6 := dc5.keep (S := []) k56 nin_nil none_nil
    have dc7 := dc6.keep (S := []) k67 nin_nil none_nil
    have w1 : Keep [] H7 (upd H7 rwA (.lst [])) := Keep.refl.new nrw
    have w2 : Keep [] (upd H7 rwA (.lst [])) (upd (upd H7 rwA (.lst [])) heA (.lst [])) := Keep.refl.new nhe
    have w3 : Keep [] (upd (upd H7 rwA (.lst [])) heA (.lst [])) (upd (upd (upd H7 rwA (.lst [])) heA (.lst [])) suA (.lst [])) := Keep.refl.new nsu
    have hrw1 : upd H7 rwA (.lst []) rwA = some (.lst []) := upd_same
    have hhe2 : upd (upd H7 rwA (.lst [])) heA (.lst []) heA = some (.lst []) := upd_same
    have hsu3 : upd (upd (upd H7 rwA (.lst [])) heA (.lst [])) suA (.lst []) suA = some (.lst []) := upd_same
    have hmo4 : upd (upd H4 dx1 (.own mo)) mo (.ins CM dx1 []) mo = some (.ins CM dx1 []) := upd_same
    have hea5 : upd (upd H5 dx2 (.own ea)) ea (.ins CE dx2 []) ea = some (.ins CE dx2 []) := upd_same
    have hlo6 : upd (upd H6 dx3 (.own lo)) lo (.ins CL dx3 []) lo = some (.ins CL dx3 []) := upd_same
    generalize upd (upd (upd H7 rwA (.lst [])) heA (.lst [])) suA (.lst []) = HC at w3 hsu3 k8 ⊢
    generalize upd (upd H7 rwA (.lst [])) heA (.lst []) = HB at w2 w3 hhe2 nsu ⊢
    generalize upd H7 rwA (.lst []) = HA at w1 w2 hrw1 nhe ⊢
    generalize hx4 : upd (upd H4 dx1 (.own mo)) mo (.ins CM dx1 []) = H4' at e0' hmo4 nmc k5
    generalize hx5 : upd (upd H5 dx2 (.own ea)) ea (.ins CE dx2 []) = H5' at e1' hea5 nec k6
    generalize hx6 : upd (upd H6 dx3 (.own lo)) lo (.ins CL dx3 []) = H6' at e2' hlo6 nls nla k7
    have al1 : ∀ y, y ∈ [d] → H4 y ≠ none := fun y hy => by rw [List.mem_singleton.mp hy, hd4]; exact fun z => by cases z
    have nd1 : [d].Nodup := List.nodup_cons.mpr ⟨List.not_mem_nil, List.nodup_nil⟩
    have nd2 := nd_add nd1 al1 nmo
    have al2 := alv_add (alv_keep al1 e0') hmo4
    have nd3 := nd_add nd2 al2 nmc
    have al3 := alv_add (alv_keep al2 k5) hM.choose_spec.2
    have nd4 := nd_add nd3 al3 nea
    have al4 := alv_add (alv_keep al3 e1') hea5
    have nd5 := nd_add nd4 al4 nec
    have al5 := alv_add (alv_keep al4 k6) hE.choose_spec.2
    have nd6 := nd_add nd5 al5 nlo
    have al6 := alv_add (alv_keep al5 e2') hlo6
    have nd7 := nd_add nd6 al6 nls
    have al7 := alv_add (alv_keep al6 k7) hL.l
    have nd8 : ([d] ++ [mo] ++ [mc] ++ [ea] ++ [ec] ++ [lo] ++ [ls] ++ [la]).Nodup := List.nodup_append.mpr ⟨nd7, List.nodup_cons.mpr ⟨List.not_mem_nil, List.nodup_nil⟩, fun y hy b hb e => by
      rw [List.mem_singleton.mp hb] at e
      rcases List.mem_append.mp hy with z | z
      · exact al6 y z (e ▸ nla)
      · rw [List.mem_singleton.mp z] at e; exact lsla e⟩
    have al8 := alv_add al7 hL.d
    have nd9 := nd_add nd8 al8 nrw
    have al9 := alv_add (alv_keep al8 w1) hrw1
    have nd10 := nd_add nd9 al9 nhe
    have al10 := alv_add (alv_keep al9 w2) hhe2
    have nd11 := nd_add nd10 al10 nsu
    have kd4 := k4.2
    have frd : ∀ y, y ∈ [d] → Fr H y := fun y hy => by rw [List.mem_singleton.mp hy]; exact fun o h => by rw [dc4.new] at h; cases h
    have fr2 := fr_add frd (Fr.of dc4.ext nmo)
    have fr3 := fr_add fr2 (Fr.of dc4.ext (e0'.2 _ nmc))
    have fr4 := fr_add fr3 (Fr.of dc5.ext nea)
    have fr5 := fr_add fr4 (Fr.of dc5.ext (e1'.2 _ nec))
    have fr6 := fr_add fr5 (Fr.of dc6.ext nlo)
    have fr7 := fr_add fr6 (Fr.of dc6.ext (e2'.2 _ nls))
    have fr8 := fr_add fr7 (Fr.of dc6.ext (e2'.2 _ nla))
    have fr9 := fr_add fr8 (Fr.of dc7.ext nrw)
    have fr10 := fr_add fr9 (Fr.of dc7.ext (w1.2 _ nhe))
    have fr11 := fr_add fr10 (Fr.of dc7.ext (w1.2 _ (w2.2 _ nsu)))
    have w13 : Keep [] H7 HC := (w1.trans w2).trans w3
    have X0 : PAt CE CM CL K H HC ⟨d, mo, mc, ea, ec, lo, ls, la, rwA, heA, suA, []⟩ m wi l ah (1 + r1) (1 + r2) ps0 [] [] :=
      ⟨dc7.keep (S := []) w13 nin_nil none_nil, ((hM.keep k56 nin_nil nin_nil).keep k67 nin_nil nin_nil).keep w13 nin_nil nin_nil, (hE.keep k67 nin_nil nin_nil).keep w13 nin_nil nin_nil, hL.keep w13, (w2.trans w3).1 _ _ nin_nil hrw1, w3.1 _ _ nin_nil hhe2, hsu3, fr11, nd11⟩
    have X9 := (X0.dice k8 dc8).dice k9 dc9
    have k59 : Keep [d] H5 H9 := ((((k56.trans k67).trans w13).mono sub_nil).trans k8).trans k9
    have hq9 := k59.1 _ _ (nin_cons hqd nin_nil) hq5
    clear X0 nd1 nd2 nd3 nd4 nd5 nd6 nd7 nd8 nd9 nd10 nd11 al1 al2 al3 al4 al5 al6 al7 al8 al9 al10 frd fr2 fr3 fr4 fr5 fr6 fr7 fr8 fr9 fr10 fr11 hx4 hx5 hx6 k59 w13 kd4 k7 nla nls hlo6 e2' k6 nec hea5 e1' k5 nmc hmo4 e0' nhe hrw1 w2 w1 nsu hhe2 w3 k8 hsu3 dc7 dc6 dc5 k9 hd9 dc9 hd8 dc8 nrw k67 hL lsla nxp3 ndx3 nlo k56 hE nxp2 ndx2 nea hq5 k45 hM nxp1 ndx1 nmo hq4 k4 hd4 dc4 k3 hd3 dc3 hqd hd2 k2 dc2 hq nq k1 dc hd hl hS
    refine Ak.l_forR1 (by omega) (by omega) (fun i σ' H' => LpAt CE CM CL K H a q m wi l ah (1 + r1) (1 + r2) (1 + r3) (4 * i) σ' H')
      ⟨_, ps0, [], [], none, none, none, none, rfl, X9, PInv.init (by omega), PHere.init, hq9, by decide⟩ (fun i σ' H' hi pv => ?_) (fun σ' H' pv => ?_)
    · obtain ⟨b, s, here, sl, v12, v13, v14, v15, rfl, X, I, J, hq', hle⟩ := pv
      refine cut_seq (fun σ' H' => LpAt CE CM CL K H a q m wi l ah (1 + r1) (1 + r2) (1 + r3) (4 * i + 1) σ' H') (fun σ' H2 pv => ?_) (fun R rest => ?_)
      · clear X I J hq' hle
        obtain ⟨b, s, here, sl, v12, v13, v14, v15, rfl, X, I, J, hq', hle⟩ := pv
        refine cut_seq (fun σ' H' => LpAt CE CM CL K H a q m wi l ah (1 + r1) (1 + r2) (1 + r3) (4 * i + 4) σ' H') (fun σ' H3 pv => ?_) (fun R rest => ?_)
        · clear X I J hq' hle
          obtain ⟨b, s, here, sl, v12, v13, v14, v15, rfl, X, I, J, hq', hle⟩ := pv
          have hsu := X.su
          have hhe := X.he
          walk_at "rd"
          refine Ak.l_lcL (SqL.of hsu) (fun _ => []) rfl (fun D i2 x H' hD hx kD hf => ?_) (fun D H4 hD k4 hf => ?_)
          · obtain ⟨p, hp, rfl⟩ := map_at hx
            have hhe' := kD.1 _ _ nin_nil hhe
            walk_at "rd"
            refine Ak.w_iteN (fun z => absurd (J.sh p (List.mem_of_getElem? hp)) z) (fun _ => ?_)
            exact kOut_go hf kD rfl
          · walk_at "rd"
            rename_i t1 nt1
            refine w_neE (ns := []) (SqL.of (at_new nt1 hf)) (SqL.of upd_same) ?_
            have k34 : Keep [] H3 (upd H4 t1 (.lst [])) := k4.new nt1
            generalize upd H4 t1 (.lst []) = H5 at k34 ⊢
            have X5 := X.keep0 k34
            have hsu5 := X5.su
            walk_at "rd"
            refine Ak.w_iteN (fun z => absurd rfl z) (fun _ => ?_)
            walk_at "rd"
            refine w_lenSet ?_
            walk_at "rd"
            refine ⟨b.su, sl, rfl, SqL.of hsu5, J.nd, ?_, ?_⟩
            · have := nd_below (n := s.many) J.nd (fun p hp => X.lo.g.s p ((J.se p).mp hp))
              have := I.nm
              omega
            · walk_at "rd"
              refine Ak.w_iteN (fun z => absurd (by rw [List.length_map]) z) (fun _ => ?_)
              walk_at "rd"
              exact ⟨b, s, here, sl, _, _, _, _, rfl, X5, I, J, k34.1 _ _ nin_nil hq', by omega⟩
        · have dcx := X.dc
          obtain ⟨dxm, hmo, hmc⟩ := id X.mo
          obtain ⟨dxl, hlo⟩ := X.lo.i
          obtain ⟨dxe, hea, hec⟩ := id X.ea
          walk_at "rd"
          refine ⟨b.mo, b.mc, m, wi, ah, s.l, s.mg, s.ks, rfl, X.mo, ?_⟩
          walk_at "rd"
          refine Ak.w_iteN (fun nf => ?_) (fun full => ?_)
          · walk_at "rd"
            have il := I.l0
            have ir := I.nr
            have im := I.nm
            refine ⟨b.mo, b.mc, b.lo, b.ls, b.la, b.ts, b.rw, m, wi, ah, s.l, s.mg, s.ks, 1 + r1, 1 + r2, s.many, s.rows, s.sure, rfl, X.mo, X.lo, X.rw, X.nd.sublist (.cons _ (.cons₂ _ (.cons₂ _ (.cons _ (.cons _ (.cons₂ _ (.cons₂ _ (.cons₂ _ (.cons₂ _ (.cons _ (.cons _ .slnil))))))))))), by omega, by omega, by omega, nf, by omega, by omega, by omega, by omega, fun t tt H4 nt ntt ht hM4 hL4 hR4 k4 => ?_⟩
            have X4 := X.sent k4 hM4 hL4 hR4
            have I4 := I.send (room := 1 + r1) (wait := 1 + r2) nf
            have J4 := J.send (room := 1 + r1) (wait := 1 + r2) I
            have hq4 := X.tup hq' k4 (fun z hz => by simp only [List.mem_cons, List.not_mem_nil, or_false] at hz ⊢; rcases hz with h | h | h | h <;> simp [h])
            walk_at "rd"
            have fl := fillOf_len (room := 1 + r1) (wait := 1 + r2) (many := s.many) (rows := s.rows) (sure := s.sure)
            refine ⟨b.rw, b.su, b.ts ++ [tt], s.rows, fillOf (1 + r1) (1 + r2) s.many s.rows s.sure, sl, 1 + r1, 1 + r2, rfl, X4.rw, X4.lo.t, X4.su, by omega, fun p hp z => (openL_mem.mp (fillOf_mem hp)).2 ((J.se p).mp z), fun p hp j h1 h2 => fill_near hp h1 h2, by omega, by omega, by omega, by omega, fun H5 k5 => ?_⟩
            have X5 := X4.keep0 k5
            have hq5 := k5.1 _ _ nin_nil hq4
            iterate 3 (walk_at "s")
            with_reducible refine Ak.seq_is ?_
            refine cut_seq (fun σ' H' => LpS CE CM CL K H a q m wi l ah (1 + r1) (1 + r2) (1 + r3) (4 * i + 3) σ' H') (fun σ' H6 pv => ?_) (fun R2 rest2 => ?_)
            · refine ifB_go so sf (by omega) (by omega) (by omega) pv ?_
              exact rest
            · have pv0 : LpS CE CM CL K H a q m wi l ah (1 + r1) (1 + r2) (1 + r3) (4 * i + 2) _ H5 := ⟨{ b with ts := b.ts ++ [tt] }, s.send (1 + r1) (1 + r2), here, sl, v12, v15, rfl, X5, I4, J4, hq5, by omega, by show 0 ≤ s.l + 1; omega⟩
              refine ifA_go so sf (by omega) (by omega) (by omega) pv0 ?_
              exact rest2
          · refine full_go so sf (by omega) (by omega) (by omega) X I J hq' hle full ?_
            exact fun σ' H' h => rest σ' H' (LpAt.mono (by omega) h)
      · have dcx := X.dc
        obtain ⟨dxl, hlo⟩ := X.lo.i
        walk_at "rd"
        rename_i r5 H2 xs2 r50 r51 dcy hdy ky
        have X2 := X.dice ky dcy
        have hq2 := X.tup hq' ky (fun z hz => by rw [List.mem_singleton.mp hz]; exact List.mem_cons_self)
        obtain ⟨dxl2, hlo2⟩ := X2.lo.i
        refine Ak.w_ite (fun _ => ?_) (fun _ => ?_)
        · walk_at "rd"
          refine ⟨b.lo, b.ls, b.la, b.ts, 1 + r1, 1 + r2, s.many, s.rows, s.sure, rfl, X2.lo, by have := I.nm; omega, fun H3 hL3 k3 => ?_⟩
          walk_at "rd"
          have X3 := X2.put k3 hL3
          exact rest _ _ ⟨b, s.put, here, sl, _, _, _, _, rfl, X3, I.put, ⟨J.hk, J.sh, J.se, J.nd⟩, X2.tup hq2 k3 (fun z hz => by simp only [List.mem_cons, List.not_mem_nil, or_false] at hz ⊢; rcases hz with h | h <;> simp [h]), by omega⟩
        · walk_at "rd"
          exact rest _ _ ⟨b, s, here, sl, _, _, _, _, rfl, X2, I.succ, J, hq2, by omega⟩
    · obtain ⟨b, s, here, sl, v12, v13, v14, v15, rfl, X, I, J, hq', hle⟩ := pv
      with_reducible refine Ak.seq_is ?_
      refine cut_seq (fun σ' H' => FpAt CE CM CL K H a q m wi l ah (1 + r1) (1 + r2) (1 + r3) (4 * r4.toNat + 2) (fun _ => True) none σ' H') (fun σ' H2 pv => ?_) (fun R rest => ?_)
      · clear X I J hq' hle
        obtain ⟨b, s, here, sl, v12, v13, v14, v15, rfl, X, I, nf, _⟩ := pv
        obtain ⟨dxl, hlo⟩ := X.lo.i
        walk_at "rd"
        refine ⟨b.lo, b.ls, b.la, b.ts, 1 + r1, 1 + r2, s.many, s.rows, s.sure, rfl, X.lo, fun f H3 nf3 hf3 k3 => ?_⟩
        have X3 := X.keep0 k3
        have ol := openL_len (many := s.many) (sure := s.sure)
        have im := I.nm
        have lm : ((openL s.many s.sure).map V.int).length = (openL s.many s.sure).length := List.length_map _
        have F0 := FInv.init (wait := 1 + r2) (s := s) (by omega) rfl
        generalize hleft : (openL s.many s.sure).length = left at F0 ol lm
        generalize s.rows.length = R0 at F0
        walk_at "rd"
        refine Ak.l_forR1 (by omega) (by omega) (fun i σ' H' => FpAt CE CM CL K H a q m wi l ah (1 + r1) (1 + r2) (1 + r3) (4 * r4.toNat + 2 + 3 * i) (fun s => FInv (1 + r2) R0 left s i ∧ (0 < i → s.g = s.l)) (some (.ref f)) σ' H')
          ⟨b, s, here, sl, _, _, _, _, rfl, X3, I, nf, F0, fun z => absurd z (Nat.lt_irrefl _)⟩ (fun i σ' H' hi pv => ?_) (fun σ' H' pv => ?_)
        · clear X X3 I nf F0
          obtain ⟨b, s, here, sl, v12, v13, v14, v15, rfl, X, I, nf, F, _⟩ := pv
          have il := I.l0
          have ir := I.nr
          have im := I.nm
          walk_at "rd"
          refine ⟨b.mo, b.mc, b.lo, b.ls, b.la, b.ts, b.rw, m, wi, ah, s.l, s.mg, s.ks, 1 + r1, 1 + r2, s.many, s.rows, s.sure, rfl, X.mo, X.lo, X.rw, X.nd.sublist (.cons _ (.cons₂ _ (.cons₂ _ (.cons _ (.cons _ (.cons₂ _ (.cons₂ _ (.cons₂ _ (.cons₂ _ (.cons _ (.cons _ .slnil))))))))))), by omega, by omega, by omega, nf, by omega, by omega, by omega, by omega, fun t tt H4 nt ntt ht hM4 hL4 hR4 k4 => ?_⟩
          have X4 := X.sent k4 hM4 hL4 hR4
          have I4 := I.send (room := 1 + r1) (wait := 1 + r2) nf
          obtain ⟨T1, T2, T3, T4, T5⟩ := turn_inv (room := 1 + r1) (wait := 1 + r2) I nf o7 o3 o4
          have F5 := F.step (room := 1 + r1) I nf o3 (by omega)
          obtain ⟨dxe, hea, _⟩ := id X4.ea
          walk_at "rd"
          refine come_go (a := { b with ts := b.ts ++ [tt] }) X4 I4 (by omega) sf o5 (by omega) T5 rfl (fun p H5 c np hp X5 k5 => ?_)
          have I5 := I4.come o3 T5
          with_reducible refine Ak.w_drop ?_
          refine told_go X5 I5 (by omega) sf o5 (by omega) o3 o4 T4 (by exact rfl) (by exact rfl) (by exact rfl) (fun g H6 ng hg X6 k6 => ?_)
          exact ⟨{ { b with ts := b.ts ++ [tt] } with ec := c }, s.turn wi (1 + r1) (1 + r2), here, sl, _, _, _, _, rfl, X6, T1, T3, F5, fun _ => T2⟩
        · clear X X3 I nf F0
          obtain ⟨b, s, here, sl, v12, v13, v14, v15, rfl, X, I, nf, F, hgl⟩ := pv
          obtain ⟨dxl, hlo⟩ := X.lo.i
          have e0 : openL s.many s.sure = [] := by
            rcases F.ok (by omega) with z | z
            · exact z
            · omega
          walk_at "rd"
          refine ⟨b.lo, b.ls, b.la, b.ts, 1 + r1, 1 + r2, s.many, s.rows, s.sure, rfl, X.lo, fun f2 H4 nf4 hf4 k4 => ?_⟩
          rw [e0] at hf4
          walk_at "rd"
          rename_i t nt
          refine w_eqE (ns := []) (SqL.of (at_new nt hf4)) (SqL.of upd_same) ?_
          have X4 := (X.keep0 k4).keep0 (Keep.refl.new (o := .lst []) nt)
          generalize upd H4 t (.lst []) = H5 at X4 ⊢
          obtain ⟨dxe, hea, _⟩ := id X4.ea
          obtain ⟨dxm, hmo, _⟩ := id X4.mo
          walk_at "rd"
          refine Ak.w_ite (fun _ => ?_) (fun z => absurd rfl z)
          walk_at "rd"
          refine ⟨b.ea, b.ec, m, wi, l, s.g, s.cs, rfl, X4.ea, ?_⟩
          walk_at "rd"
          refine ⟨b.mo, b.mc, m, wi, ah, s.l, s.mg, s.ks, rfl, X4.mo, ?_⟩
          walk_at "rd"
          rw [hgl (by omega), decide_eq_true rfl]
          exact k _
      · obtain ⟨dxm, hmo, _⟩ := id X.mo
        obtain ⟨dxe, hea, _⟩ := id X.ea
        walk_at "rd"
        refine ⟨b.mo, b.mc, m, wi, ah, s.l, s.mg, s.ks, rfl, X.mo, ?_⟩
        walk_at "rd"
        refine Ak.w_ite (fun full => ?_) (fun nf => ?_)
        · have im0 := I.m0
          have l0 : 0 ≤ s.l := by omega
          walk_at "rd"
          refine ⟨b.mo, b.mc, m, wi, ah, s.l, s.mg, s.ks, rfl, X.mo, ?_⟩
          walk_at "rd"
          refine come_go X I (by omega) sf o5 (by omega) l0 rfl (fun p H5 c np hp X5 k5 => ?_)
          have I5 := I.come o3 l0
          obtain ⟨c1, c2, c3⟩ := PS.come_g I o3 l0
          obtain ⟨e1, e2, e3, e4, e5, e6⟩ := come_same (s := s) (w := wi)
          have g2 := I5.g2
          with_reducible refine Ak.w_drop ?_
          refine told_go X5 I5 (by omega) sf o5 (by omega) o3 o4 (by omega) (by exact rfl) (by exact rfl) (by exact rfl) (fun g H6 ng hg X6 k6 => ?_)
          refine rest _ _ ⟨{ b with ec := c }, (s.come wi).told wi, here, sl, _, _, _, _, rfl, X6, I5.told (by omega) o4, ?_, trivial⟩
          show ¬ max (s.come wi).mg (s.come wi).g + ah < (s.come wi).l + 1
          omega
        · walk_at "rd"
          exact rest _ _ ⟨b, s, here, sl, _, _, _, _, rfl, X, I.mono (by omega), nf, trivial⟩
end
end Ak
namespace Ak
open PySem PySem.Spec PyProof.Rows L2
theorem all_mk {l : PySem.W.OpenLaw} {w : World} {K : PySem.W.Frag} {h : Heap} {mg : Str → Option Value} {fa A_Ear A_Mouth A_Load A_BadBits A_Full A_BOUNDS A_t1 A_t2 A_t3 A_t4 A_t5 A_t6 A_l_next A_l_dice A_l_setting A_check_number A_check_mark A_check_setting A_Ear__oldest A_Ear_last A_Ear__number_of A_Ear__word_of A_Ear__keep A_Ear__bits A_Ear_tell A_Ear_come A_Ear___init A_check_bits A_check_telling A_Mouth___init A_Mouth_is_full A_Mouth_last A_Mouth_sure A_Mouth_send A_Mouth__numbers_of A_Mouth_hear A_Load___init A_Load_put A_Load_waits A_Load__is_ready A_Load_fill A_Load__free A_Load_came A_l_safe A_l_sent A_l_good A_law A_code : Addr} {ocL kVL docL pmL ctL : Value} {odL anL : Option Addr} {oslL : Array (Option Value)} {esB : Array DictEntry} {nB : Nat}
    (X : K.In h) (G : h.Ns mainGlobals mg) (hfa : mg "law" = some (.ref fa))
    (a_Ear : PySem.W.nsIn K mainGlobals "Ear" = some (some (.ref A_Ear)))
    (pg_Ear : PySem.W.plainGet K A_Ear Str.empty = true)
    (hd_Ear : PySem.W.hasDictIn K A_Ear = true)
    (po_Ear : PySem.W.plainOver K A_Ear = true)
    (sa_Ear : PySem.W.findIn K (.ref A_Ear) "__setattr__" = some (some (.builtin "object.__setattr__")))
    (mk_Ear : PySem.W.makesIn K A_Ear = true)
    (kc_Ear : PySem.W.keepIn K (.ref A_Ear) = true)
    (na_Ear__marks : PySem.W.findIn K (.ref A_Ear) "_marks" = some none)
    (na_Ear__wide : PySem.W.findIn K (.ref A_Ear) "_wide" = some none)
    (na_Ear__late : PySem.W.findIn K (.ref A_Ear) "_late" = some none)
    (na_Ear__greatest : PySem.W.findIn K (.ref A_Ear) "_greatest" = some none)
    (na_Ear__came : PySem.W.findIn K (.ref A_Ear) "_came" = some none)
    (a_Mouth : PySem.W.nsIn K mainGlobals "Mouth" = some (some (.ref A_Mouth)))
    (pg_Mouth : PySem.W.plainGet K A_Mouth Str.empty = true)
    (hd_Mouth : PySem.W.hasDictIn K A_Mouth = true)
    (po_Mouth : PySem.W.plainOver K A_Mouth = true)
    (sa_Mouth : PySem.W.findIn K (.ref A_Mouth) "__setattr__" = some (some (.builtin "object.__setattr__")))
    (mk_Mouth : PySem.W.makesIn K A_Mouth = true)
    (kc_Mouth : PySem.W.keepIn K (.ref A_Mouth) = true)
    (na_Mouth__marks : PySem.W.findIn K (.ref A_Mouth) "_marks" = some none)
    (na_Mouth__wide : PySem.W.findIn K (.ref A_Mouth) "_wide" = some none)
    (na_Mouth__ahead : PySem.W.findIn K (.ref A_Mouth) "_ahead" = some none)
    (na_Mouth__last : PySem.W.findIn K (.ref A_Mouth) "_last" = some none)
    (na_Mouth__greatest : PySem.W.findIn K (.ref A_Mouth) "_greatest" = some none)
    (na_Mouth__sure : PySem.W.findIn K (.ref A_Mouth) "_sure" = some none)
    (a_Load : PySem.W.nsIn K mainGlobals "Load" = some (some (.ref A_Load)))
    (pg_Load : PySem.W.plainGet K A_Load Str.empty = true)
    (hd_Load : PySem.W.hasDictIn K A_Load = true)
    (po_Load : PySem.W.plainOver K A_Load = true)
    (sa_Load : PySem.W.findIn K (.ref A_Load) "__setattr__" = some (some (.builtin "object.__setattr__")))
    (mk_Load : PySem.W.makesIn K A_Load = true)
    (kc_Load : PySem.W.keepIn K (.ref A_Load) = true)
    (na_Load__room : PySem.W.findIn K (.ref A_Load) "_room" = some none)
    (na_Load__wait : PySem.W.findIn K (.ref A_Load) "_wait" = some none)
    (na_Load__many : PySem.W.findIn K (.ref A_Load) "_many" = some none)
    (na_Load__letters : PySem.W.findIn K (.ref A_Load) "_letters" = some none)
    (na_Load__latest : PySem.W.findIn K (.ref A_Load) "_latest" = some none)
    (a_BadBits : PySem.W.nsIn K mainGlobals "BadBits" = some (some (.ref A_BadBits)))
    (xq_BadBits : PySem.W.excIn K A_BadBits [.type "ValueError", .type "Exception", .type "BaseException", .type "object"] "ValueError.__new__" = true)
    (xk_BadBits : PySem.W.keepIn K (.ref A_BadBits) = true)
    (xs_BadBits : PySem.W.subIn K (.ref A_BadBits) (.type "BaseException") = some true)
    (xt_BadBits : PySem.W.typeIn K (.ref A_BadBits) = some (.type "type"))
    (a_Full : PySem.W.nsIn K mainGlobals "Full" = some (some (.ref A_Full)))
    (xq_Full : PySem.W.excIn K A_Full [.type "ValueError", .type "Exception", .type "BaseException", .type "object"] "ValueError.__new__" = true)
    (xk_Full : PySem.W.keepIn K (.ref A_Full) = true)
    (xs_Full : PySem.W.subIn K (.ref A_Full) (.type "BaseException") = some true)
    (xt_Full : PySem.W.typeIn K (.ref A_Full) = some (.type "type"))
    (a_BOUNDS : PySem.W.nsIn K mainGlobals "BOUNDS" = some (some (.ref A_BOUNDS)))
    (lkB : K.lookup A_BOUNDS = some { cls := .type "dict", data := .dict esB nB })
    (klB : PySem.W.KeysLit w.params esB.toList)
    (nB1 : PySem.W.nsIn K A_BOUNDS "marks" = some (some (.ref A_t1)))
    (nB2 : PySem.W.nsIn K A_BOUNDS "wide" = some (some (.ref A_t2)))
    (nB3 : PySem.W.nsIn K A_BOUNDS "late" = some (some (.ref A_t3)))
    (nB4 : PySem.W.nsIn K A_BOUNDS "ahead" = some (some (.ref A_t4)))
    (nB5 : PySem.W.nsIn K A_BOUNDS "room" = some (some (.ref A_t5)))
    (nB6 : PySem.W.nsIn K A_BOUNDS "wait" = some (some (.ref A_t6)))
    (sB1 : ∀ H, SqT K H A_t1 [.int 2, .int 64])
    (sB2 : ∀ H, SqT K H A_t2 [.int 0, .int 16])
    (sB3 : ∀ H, SqT K H A_t3 [.int 0, .int 8])
    (sB4 : ∀ H, SqT K H A_t4 [.int 1, .int 16])
    (sB5 : ∀ H, SqT K H A_t5 [.int 1, .int 8])
    (sB6 : ∀ H, SqT K H A_t6 [.int 1, .int 20])
    (F_l_next : ∃ fd, L2.Fun K "_law_next" "_law_next" s_l_next A_l_next fd)
    (z_len : PySem.W.nsIn K mainGlobals "len" = some none)
    (a_l_next : PySem.W.nsIn K mainGlobals "_law_next" = some (some (.ref A_l_next)))
    (F_l_dice : ∃ fd, L2.Fun K "_law_dice" "_law_dice" s_l_dice A_l_dice fd)
    (z_int : PySem.W.nsIn K mainGlobals "int" = some none)
    (a_l_dice : PySem.W.nsIn K mainGlobals "_law_dice" = some (some (.ref A_l_dice)))
    (F_l_setting : ∃ fd, L2.Fun K "_law_setting" "_law_setting" s_l_setting A_l_setting fd)
    (z_max : PySem.W.nsIn K mainGlobals "max" = some none)
    (z_min : PySem.W.nsIn K mainGlobals "min" = some none)
    (a_l_setting : PySem.W.nsIn K mainGlobals "_law_setting" = some (some (.ref A_l_setting)))
    (F_check_number : ∃ fd, L2.Fun K "check_number" "check_number" s_check_number A_check_number fd)
    (a_check_number : PySem.W.nsIn K mainGlobals "check_number" = some (some (.ref A_check_number)))
    (F_check_mark : ∃ fd, L2.Fun K "check_mark" "check_mark" s_check_mark A_check_mark fd)
    (a_check_mark : PySem.W.nsIn K mainGlobals "check_mark" = some (some (.ref A_check_mark)))
    (F_check_setting : ∃ fd, L2.Fun K "check_setting" "check_setting" s_check_setting A_check_setting fd)
    (a_check_setting : PySem.W.nsIn K mainGlobals "check_setting" = some (some (.ref A_check_setting)))
    (F_Ear__oldest : ∃ fd, L2.Fun K "_oldest" "Ear._oldest" s_Ear__oldest A_Ear__oldest fd)
    (ci_Ear__oldest : PySem.W.findIn K (.ref A_Ear) "_oldest" = some (some (.ref A_Ear__oldest)))
    (ii_Ear__oldest : PySem.W.isFn K (.ref A_Ear__oldest) = true)
    (F_Ear_last : ∃ fd, L2.Fun K "last" "Ear.last" s_Ear_last A_Ear_last fd)
    (ci_Ear_last : PySem.W.findIn K (.ref A_Ear) "last" = some (some (.ref A_Ear_last)))
    (ii_Ear_last : PySem.W.isFn K (.ref A_Ear_last) = true)
    (F_Ear__number_of : ∃ fd, L2.Fun K "_number_of" "Ear._number_of" s_Ear__number_of A_Ear__number_of fd)
    (ci_Ear__number_of : PySem.W.findIn K (.ref A_Ear) "_number_of" = some (some (.ref A_Ear__number_of)))
    (ii_Ear__number_of : PySem.W.isFn K (.ref A_Ear__number_of) = true)
    (F_Ear__word_of : ∃ fd, L2.Fun K "_word_of" "Ear._word_of" s_Ear__word_of A_Ear__word_of fd)
    (ci_Ear__word_of : PySem.W.findIn K (.ref A_Ear) "_word_of" = some (some (.ref A_Ear__word_of)))
    (ii_Ear__word_of : PySem.W.isFn K (.ref A_Ear__word_of) = true)
    (F_Ear__keep : ∃ fd, L2.Fun K "_keep" "Ear._keep" s_Ear__keep A_Ear__keep fd)
    (ci_Ear__keep : PySem.W.findIn K (.ref A_Ear) "_keep" = some (some (.ref A_Ear__keep)))
    (ii_Ear__keep : PySem.W.isFn K (.ref A_Ear__keep) = true)
    (F_Ear__bits : ∃ fd, L2.Fun K "_bits" "Ear._bits" s_Ear__bits A_Ear__bits fd)
    (z_range : PySem.W.nsIn K mainGlobals "range" = some none)
    (z_tuple : PySem.W.nsIn K mainGlobals "tuple" = some none)
    (ci_Ear__bits : PySem.W.findIn K (.ref A_Ear) "_bits" = some (some (.ref A_Ear__bits)))
    (ii_Ear__bits : PySem.W.isFn K (.ref A_Ear__bits) = true)
    (F_Ear_tell : ∃ fd, L2.Fun K "tell" "Ear.tell" s_Ear_tell A_Ear_tell fd)
    (ci_Ear_tell : PySem.W.findIn K (.ref A_Ear) "tell" = some (some (.ref A_Ear_tell)))
    (ii_Ear_tell : PySem.W.isFn K (.ref A_Ear_tell) = true)
    (F_Ear_come : ∃ fd, L2.Fun K "come" "Ear.come" s_Ear_come A_Ear_come fd)
    (ci_Ear_come : PySem.W.findIn K (.ref A_Ear) "come" = some (some (.ref A_Ear_come)))
    (ii_Ear_come : PySem.W.isFn K (.ref A_Ear_come) = true)
    (F_Ear___init : ∃ fd, L2.Fun K "__init__" "Ear.__init__" s_Ear___init A_Ear___init fd)
    (ci_Ear___init : PySem.W.findIn K (.ref A_Ear) "__init__" = some (some (.ref A_Ear___init)))
    (ii_Ear___init : PySem.W.isFn K (.ref A_Ear___init) = true)
    (F_check_bits : ∃ fd, L2.Fun K "check_bits" "check_bits" s_check_bits A_check_bits fd)
    (a_check_bits : PySem.W.nsIn K mainGlobals "check_bits" = some (some (.ref A_check_bits)))
    (F_check_telling : ∃ fd, L2.Fun K "check_telling" "check_telling" s_check_telling A_check_telling fd)
    (a_check_telling : PySem.W.nsIn K mainGlobals "check_telling" = some (some (.ref A_check_telling)))
    (F_Mouth___init : ∃ fd, L2.Fun K "__init__" "Mouth.__init__" s_Mouth___init A_Mouth___init fd)
    (ci_Mouth___init : PySem.W.findIn K (.ref A_Mouth) "__init__" = some (some (.ref A_Mouth___init)))
    (ii_Mouth___init : PySem.W.isFn K (.ref A_Mouth___init) = true)
    (F_Mouth_is_full : ∃ fd, L2.Fun K "is_full" "Mouth.is_full" s_Mouth_is_full A_Mouth_is_full fd)
    (ci_Mouth_is_full : PySem.W.findIn K (.ref A_Mouth) "is_full" = some (some (.ref A_Mouth_is_full)))
    (ii_Mouth_is_full : PySem.W.isFn K (.ref A_Mouth_is_full) = true)
    (F_Mouth_last : ∃ fd, L2.Fun K "last" "Mouth.last" s_Mouth_last A_Mouth_last fd)
    (ci_Mouth_last : PySem.W.findIn K (.ref A_Mouth) "last" = some (some (.ref A_Mouth_last)))
    (ii_Mouth_last : PySem.W.isFn K (.ref A_Mouth_last) = true)
    (F_Mouth_sure : ∃ fd, L2.Fun K "sure" "Mouth.sure" s_Mouth_sure A_Mouth_sure fd)
    (z_sorted : PySem.W.nsIn K mainGlobals "sorted" = some none)
    (ci_Mouth_sure : PySem.W.findIn K (.ref A_Mouth) "sure" = some (some (.ref A_Mouth_sure)))
    (ii_Mouth_sure : PySem.W.isFn K (.ref A_Mouth_sure) = true)
    (F_Mouth_send : ∃ fd, L2.Fun K "send" "Mouth.send" s_Mouth_send A_Mouth_send fd)
    (ci_Mouth_send : PySem.W.findIn K (.ref A_Mouth) "send" = some (some (.ref A_Mouth_send)))
    (ii_Mouth_send : PySem.W.isFn K (.ref A_Mouth_send) = true)
    (F_Mouth__numbers_of : ∃ fd, L2.Fun K "_numbers_of" "Mouth._numbers_of" s_Mouth__numbers_of A_Mouth__numbers_of fd)
    (z_enumerate : PySem.W.nsIn K mainGlobals "enumerate" = some none)
    (ci_Mouth__numbers_of : PySem.W.findIn K (.ref A_Mouth) "_numbers_of" = some (some (.ref A_Mouth__numbers_of)))
    (ii_Mouth__numbers_of : PySem.W.isFn K (.ref A_Mouth__numbers_of) = true)
    (F_Mouth_hear : ∃ fd, L2.Fun K "hear" "Mouth.hear" s_Mouth_hear A_Mouth_hear fd)
    (ci_Mouth_hear : PySem.W.findIn K (.ref A_Mouth) "hear" = some (some (.ref A_Mouth_hear)))
    (ii_Mouth_hear : PySem.W.isFn K (.ref A_Mouth_hear) = true)
    (F_Load___init : ∃ fd, L2.Fun K "__init__" "Load.__init__" s_Load___init A_Load___init fd)
    (ci_Load___init : PySem.W.findIn K (.ref A_Load) "__init__" = some (some (.ref A_Load___init)))
    (ii_Load___init : PySem.W.isFn K (.ref A_Load___init) = true)
    (F_Load_put : ∃ fd, L2.Fun K "put" "Load.put" s_Load_put A_Load_put fd)
    (ci_Load_put : PySem.W.findIn K (.ref A_Load) "put" = some (some (.ref A_Load_put)))
    (ii_Load_put : PySem.W.isFn K (.ref A_Load_put) = true)
    (F_Load_waits : ∃ fd, L2.Fun K "waits" "Load.waits" s_Load_waits A_Load_waits fd)
    (ci_Load_waits : PySem.W.findIn K (.ref A_Load) "waits" = some (some (.ref A_Load_waits)))
    (ii_Load_waits : PySem.W.isFn K (.ref A_Load_waits) = true)
    (F_Load__is_ready : ∃ fd, L2.Fun K "_is_ready" "Load._is_ready" s_Load__is_ready A_Load__is_ready fd)
    (ci_Load__is_ready : PySem.W.findIn K (.ref A_Load) "_is_ready" = some (some (.ref A_Load__is_ready)))
    (ii_Load__is_ready : PySem.W.isFn K (.ref A_Load__is_ready) = true)
    (F_Load_fill : ∃ fd, L2.Fun K "fill" "Load.fill" s_Load_fill A_Load_fill fd)
    (ci_Load_fill : PySem.W.findIn K (.ref A_Load) "fill" = some (some (.ref A_Load_fill)))
    (ii_Load_fill : PySem.W.isFn K (.ref A_Load_fill) = true)
    (F_Load__free : ∃ fd, L2.Fun K "_free" "Load._free" s_Load__free A_Load__free fd)
    (ci_Load__free : PySem.W.findIn K (.ref A_Load) "_free" = some (some (.ref A_Load__free)))
    (ii_Load__free : PySem.W.isFn K (.ref A_Load__free) = true)
    (F_Load_came : ∃ fd, L2.Fun K "came" "Load.came" s_Load_came A_Load_came fd)
    (ci_Load_came : PySem.W.findIn K (.ref A_Load) "came" = some (some (.ref A_Load_came)))
    (ii_Load_came : PySem.W.isFn K (.ref A_Load_came) = true)
    (F_l_safe : ∃ fd, L2.Fun K "_law_safe" "_law_safe" s_l_safe A_l_safe fd)
    (a_l_safe : PySem.W.nsIn K mainGlobals "_law_safe" = some (some (.ref A_l_safe)))
    (F_l_sent : ∃ fd, L2.Fun K "_law_sent" "_law_sent" s_l_sent A_l_sent fd)
    (a_l_sent : PySem.W.nsIn K mainGlobals "_law_sent" = some (some (.ref A_l_sent)))
    (F_l_good : ∃ fd, L2.Fun K "_law_good" "_law_good" s_l_good A_l_good fd)
    (a_l_good : PySem.W.nsIn K mainGlobals "_law_good" = some (some (.ref A_l_good)))
    (a_law : PySem.W.nsIn K mainGlobals "law" = some (some (.ref A_law)))
    (lk_law : K.lookup A_law = some ⟨ocL, odL, .func (PySem.W.fnOf "law" "law" (defArgs s_law) (defBody s_law) (defScope s_law) .none kVL docL pmL anL (.ref A_code) ctL), oslL⟩)
    (hc_law : PySem.W.codeIn K (.ref A_code) "law" = true)
    (hk_law : PySem.W.keepIn K (.ref A_law) = true)
    (z_set : PySem.W.nsIn K mainGlobals "set" = some none)
    (z_list : PySem.W.nsIn K mainGlobals "list" = some none)
    : LamX.LawAtS l w K (L2.CX l.prog w) 5 63 "_law_script" mg fa h := by
  have e0 := hfa.symm.trans (PySem.W.mg_of X G a_law)
  cases e0
  have cl_Ear : Cls K A_Ear := ⟨pg_Ear, hd_Ear, po_Ear, sa_Ear⟩
  have cl_Mouth : Cls K A_Mouth := ⟨pg_Mouth, hd_Mouth, po_Mouth, sa_Mouth⟩
  have cl_Load : Cls K A_Load := ⟨pg_Load, hd_Load, po_Load, sa_Load⟩
  have T_EarT : EarT K A_Ear := ⟨cl_Ear, na_Ear__marks, na_Ear__wide, na_Ear__late, na_Ear__greatest, na_Ear__came⟩
  have T_MouthT : MouthT K A_Mouth := ⟨cl_Mouth, na_Mouth__marks, na_Mouth__wide, na_Mouth__ahead, na_Mouth__last, na_Mouth__greatest, na_Mouth__sure⟩
  have T_LoadT : LoadT K A_Load := ⟨cl_Load, na_Load__room, na_Load__wait, na_Load__many, na_Load__letters, na_Load__latest⟩
  have x_BadBits : RaiseC K mg "BadBits" A_BadBits := ⟨xq_BadBits, PySem.W.mg_of X G a_BadBits, xk_BadBits, xs_BadBits, xt_BadBits⟩
  have x_Full : RaiseC K mg "Full" A_Full := ⟨xq_Full, PySem.W.mg_of X G a_Full, xk_Full, xs_Full, xt_Full⟩
  have B : BoundsT K w mg A_BOUNDS := bounds_mk (PySem.W.mg_of X G a_BOUNDS) lkB klB nB1 nB2 nB3 nB4 nB5 nB6 sB1 sB2 sB3 sB4 sB5 sB6
  obtain ⟨fd_l_next, F_l_next⟩ := F_l_next
  have b_l_next := F_l_next.binds (ps := ["_law_dice_here", "_law_many"]) fun _ _ _ _ _ _ us hl => match us, hl with | [_, _], _ => rfl
  obtain ⟨fd_l_dice, F_l_dice⟩ := F_l_dice
  have b_l_dice := F_l_dice.binds (ps := ["_law_script"]) fun _ _ _ _ _ _ us hl => match us, hl with | [_], _ => rfl
  obtain ⟨fd_l_setting, F_l_setting⟩ := F_l_setting
  have b_l_setting := F_l_setting.binds (ps := ["_law_d"]) fun _ _ _ _ _ _ us hl => match us, hl with | [_], _ => rfl
  obtain ⟨fd_check_number, F_check_number⟩ := F_check_number
  have b_check_number := F_check_number.binds (ps := ["word", "number"]) fun _ _ _ _ _ _ us hl => match us, hl with | [_, _], _ => rfl
  obtain ⟨fd_check_mark, F_check_mark⟩ := F_check_mark
  have b_check_mark := F_check_mark.binds (ps := ["mark", "marks"]) fun _ _ _ _ _ _ us hl => match us, hl with | [_, _], _ => rfl
  obtain ⟨fd_check_setting, F_check_setting⟩ := F_check_setting
  have b_check_setting := F_check_setting.binds (ps := ["setting"]) fun _ _ _ _ _ _ us hl => match us, hl with | [_], _ => rfl
  obtain ⟨fd_Ear__oldest, F_Ear__oldest⟩ := F_Ear__oldest
  have b_Ear__oldest := F_Ear__oldest.binds (ps := ["self"]) fun _ _ _ _ _ _ us hl => match us, hl with | [_], _ => rfl
  obtain ⟨fd_Ear_last, F_Ear_last⟩ := F_Ear_last
  have b_Ear_last := F_Ear_last.binds (ps := ["self"]) fun _ _ _ _ _ _ us hl => match us, hl with | [_], _ => rfl
  obtain ⟨fd_Ear__number_of, F_Ear__number_of⟩ := F_Ear__number_of
  have b_Ear__number_of := F_Ear__number_of.binds (ps := ["self", "mark"]) fun _ _ _ _ _ _ us hl => match us, hl with | [_, _], _ => rfl
  obtain ⟨fd_Ear__word_of, F_Ear__word_of⟩ := F_Ear__word_of
  have b_Ear__word_of := F_Ear__word_of.binds (ps := ["self", "number"]) fun _ _ _ _ _ _ us hl => match us, hl with | [_, _], _ => rfl
  obtain ⟨fd_Ear__keep, F_Ear__keep⟩ := F_Ear__keep
  have b_Ear__keep := F_Ear__keep.binds (ps := ["self", "number"]) fun _ _ _ _ _ _ us hl => match us, hl with | [_, _], _ => rfl
  obtain ⟨fd_Ear__bits, F_Ear__bits⟩ := F_Ear__bits
  have b_Ear__bits := F_Ear__bits.binds (ps := ["self"]) fun _ _ _ _ _ _ us hl => match us, hl with | [_], _ => rfl
  obtain ⟨fd_Ear_tell, F_Ear_tell⟩ := F_Ear_tell
  have b_Ear_tell := F_Ear_tell.binds (ps := ["self"]) fun _ _ _ _ _ _ us hl => match us, hl with | [_], _ => rfl
  obtain ⟨fd_Ear_come, F_Ear_come⟩ := F_Ear_come
  have b_Ear_come := F_Ear_come.binds (ps := ["self", "mark"]) fun _ _ _ _ _ _ us hl => match us, hl with | [_, _], _ => rfl
  obtain ⟨fd_Ear___init, F_Ear___init⟩ := F_Ear___init
  have b_Ear___init := F_Ear___init.binds (ps := ["self", "setting"]) fun _ _ _ _ _ _ us hl => match us, hl with | [_, _], _ => rfl
  obtain ⟨fd_check_bits, F_check_bits⟩ := F_check_bits
  have b_check_bits := F_check_bits.binds (ps := ["bits", "wide"]) fun _ _ _ _ _ _ us hl => match us, hl with | [_, _], _ => rfl
  obtain ⟨fd_check_telling, F_check_telling⟩ := F_check_telling
  have b_check_telling := F_check_telling.binds (ps := ["told", "marks", "wide"]) fun _ _ _ _ _ _ us hl => match us, hl with | [_, _, _], _ => rfl
  obtain ⟨fd_Mouth___init, F_Mouth___init⟩ := F_Mouth___init
  have b_Mouth___init := F_Mouth___init.binds (ps := ["self", "setting"]) fun _ _ _ _ _ _ us hl => match us, hl with | [_, _], _ => rfl
  obtain ⟨fd_Mouth_is_full, F_Mouth_is_full⟩ := F_Mouth_is_full
  have b_Mouth_is_full := F_Mouth_is_full.binds (ps := ["self"]) fun _ _ _ _ _ _ us hl => match us, hl with | [_], _ => rfl
  obtain ⟨fd_Mouth_last, F_Mouth_last⟩ := F_Mouth_last
  have b_Mouth_last := F_Mouth_last.binds (ps := ["self"]) fun _ _ _ _ _ _ us hl => match us, hl with | [_], _ => rfl
  obtain ⟨fd_Mouth_sure, F_Mouth_sure⟩ := F_Mouth_sure
  have b_Mouth_sure := F_Mouth_sure.binds (ps := ["self"]) fun _ _ _ _ _ _ us hl => match us, hl with | [_], _ => rfl
  obtain ⟨fd_Mouth_send, F_Mouth_send⟩ := F_Mouth_send
  have b_Mouth_send := F_Mouth_send.binds (ps := ["self"]) fun _ _ _ _ _ _ us hl => match us, hl with | [_], _ => rfl
  obtain ⟨fd_Mouth__numbers_of, F_Mouth__numbers_of⟩ := F_Mouth__numbers_of
  have b_Mouth__numbers_of := F_Mouth__numbers_of.binds (ps := ["self", "told"]) fun _ _ _ _ _ _ us hl => match us, hl with | [_, _], _ => rfl
  obtain ⟨fd_Mouth_hear, F_Mouth_hear⟩ := F_Mouth_hear
  have b_Mouth_hear := F_Mouth_hear.binds (ps := ["self", "told"]) fun _ _ _ _ _ _ us hl => match us, hl with | [_, _], _ => rfl
  obtain ⟨fd_Load___init, F_Load___init⟩ := F_Load___init
  have b_Load___init := F_Load___init.binds (ps := ["self", "room", "wait"]) fun _ _ _ _ _ _ us hl => match us, hl with | [_, _, _], _ => rfl
  obtain ⟨fd_Load_put, F_Load_put⟩ := F_Load_put
  have b_Load_put := F_Load_put.binds (ps := ["self"]) fun _ _ _ _ _ _ us hl => match us, hl with | [_], _ => rfl
  obtain ⟨fd_Load_waits, F_Load_waits⟩ := F_Load_waits
  have b_Load_waits := F_Load_waits.binds (ps := ["self"]) fun _ _ _ _ _ _ us hl => match us, hl with | [_], _ => rfl
  obtain ⟨fd_Load__is_ready, F_Load__is_ready⟩ := F_Load__is_ready
  have b_Load__is_ready := F_Load__is_ready.binds (ps := ["self", "piece", "number"]) fun _ _ _ _ _ _ us hl => match us, hl with | [_, _, _], _ => rfl
  obtain ⟨fd_Load_fill, F_Load_fill⟩ := F_Load_fill
  have b_Load_fill := F_Load_fill.binds (ps := ["self"]) fun _ _ _ _ _ _ us hl => match us, hl with | [_], _ => rfl
  obtain ⟨fd_Load__free, F_Load__free⟩ := F_Load__free
  have b_Load__free := F_Load__free.binds (ps := ["self", "number"]) fun _ _ _ _ _ _ us hl => match us, hl with | [_, _], _ => rfl
  obtain ⟨fd_Load_came, F_Load_came⟩ := F_Load_came
  have b_Load_came := F_Load_came.binds (ps := ["self", "letters"]) fun _ _ _ _ _ _ us hl => match us, hl with | [_, _], _ => rfl
  obtain ⟨fd_l_safe, F_l_safe⟩ := F_l_safe
  have b_l_safe := F_l_safe.binds (ps := ["_law_d"]) fun _ _ _ _ _ _ us hl => match us, hl with | [_], _ => rfl
  obtain ⟨fd_l_sent, F_l_sent⟩ := F_l_sent
  have b_l_sent := F_l_sent.binds (ps := ["_law_mouth", "_law_load", "_law_rows"]) fun _ _ _ _ _ _ us hl => match us, hl with | [_, _, _], _ => rfl
  obtain ⟨fd_l_good, F_l_good⟩ := F_l_good
  have b_l_good := F_l_good.binds (ps := ["_law_rows", "_law_sure", "_law_room", "_law_wait"]) fun _ _ _ _ _ _ us hl => match us, hl with | [_, _, _, _], _ => rfl
  refine ⟨PySem.W.fnOf "law" "law" (defArgs s_law) (defBody s_law) (defScope s_law) .none kVL docL pmL anL (.ref A_code) ctL, [], spLaw K, fun p hp => absurd hp List.not_mem_nil, fun p hp => absurd hp List.not_mem_nil, fun p hp => absurd hp List.not_mem_nil, fun s u => .of_eq rfl, fun H a ns hl _ _ hS => ?_, fun base _ _ _ => ?_⟩
  · exact ⟨a, ns, rfl, hS, hl, fun _ => rfl⟩
  · have F_law := L2.fun_mk lk_law hc_law hk_law
    have c_l_next : CalX l.prog w K mg base 1 "_law_next" _ := ⟨A_l_next, fd_l_next, _, ok_next F_l_next (PySem.W.mg_none_of X G z_len), PySem.W.mg_of X G a_l_next, F_l_next.kp, b_l_next⟩
    have c_l_dice : CalX l.prog w K mg base 1 "_law_dice" _ := ⟨A_l_dice, fd_l_dice, _, ok_dice F_l_dice (PySem.W.mg_none_of X G z_len) (PySem.W.mg_none_of X G z_int), PySem.W.mg_of X G a_l_dice, F_l_dice.kp, b_l_dice⟩
    have c_l_setting : CalX l.prog w K mg base 2 "_law_setting" _ := ⟨A_l_setting, fd_l_setting, _, ok_setting F_l_setting (PySem.W.mg_none_of X G z_max) (PySem.W.mg_none_of X G z_min) c_l_next, PySem.W.mg_of X G a_l_setting, F_l_setting.kp, b_l_setting⟩
    have c_check_number : CalX l.prog w K mg base 1 "check_number" _ := ⟨A_check_number, fd_check_number, _, ok_check_number F_check_number B, PySem.W.mg_of X G a_check_number, F_check_number.kp, b_check_number⟩
    have c_check_mark : CalX l.prog w K mg base 1 "check_mark" _ := ⟨A_check_mark, fd_check_mark, _, ok_check_mark F_check_mark , PySem.W.mg_of X G a_check_mark, F_check_mark.kp, b_check_mark⟩
    have c_check_setting : CalX l.prog w K mg base 2 "check_setting" _ := ⟨A_check_setting, fd_check_setting, _, ok_check_setting F_check_setting c_check_number, PySem.W.mg_of X G a_check_setting, F_check_setting.kp, b_check_setting⟩
    have m_Ear_oldest : MetX l.prog w K mg base 1 A_Ear "_oldest" _ := ⟨A_Ear__oldest, fd_Ear__oldest, _, cl_Ear, ⟨ci_Ear__oldest, ii_Ear__oldest, F_Ear__oldest.kp⟩, ok_oldest F_Ear__oldest T_EarT, b_Ear__oldest⟩
    have m_Ear_last : MetX l.prog w K mg base 1 A_Ear "last" _ := ⟨A_Ear_last, fd_Ear_last, _, cl_Ear, ⟨ci_Ear_last, ii_Ear_last, F_Ear_last.kp⟩, ok_last F_Ear_last T_EarT, b_Ear_last⟩
    have m_Ear_number_of : MetX l.prog w K mg base 1 A_Ear "_number_of" _ := ⟨A_Ear__number_of, fd_Ear__number_of, _, cl_Ear, ⟨ci_Ear__number_of, ii_Ear__number_of, F_Ear__number_of.kp⟩, ok_number_of F_Ear__number_of T_EarT (PySem.W.mg_none_of X G z_max), b_Ear__number_of⟩
    have m_Ear_word_of : MetX l.prog w K mg base 2 A_Ear "_word_of" _ := ⟨A_Ear__word_of, fd_Ear__word_of, _, cl_Ear, ⟨ci_Ear__word_of, ii_Ear__word_of, F_Ear__word_of.kp⟩, ok_word_of F_Ear__word_of T_EarT m_Ear_oldest, b_Ear__word_of⟩
    have m_Ear_keep : MetX l.prog w K mg base 2 A_Ear "_keep" _ := ⟨A_Ear__keep, fd_Ear__keep, _, cl_Ear, ⟨ci_Ear__keep, ii_Ear__keep, F_Ear__keep.kp⟩, ok_keep F_Ear__keep T_EarT (PySem.W.mg_none_of X G z_max) m_Ear_oldest, b_Ear__keep⟩
    have m_Ear_bits : MetX l.prog w K mg base 1 A_Ear "_bits" _ := ⟨A_Ear__bits, fd_Ear__bits, _, cl_Ear, ⟨ci_Ear__bits, ii_Ear__bits, F_Ear__bits.kp⟩, ok_bits F_Ear__bits T_EarT (PySem.W.mg_none_of X G z_range) (PySem.W.mg_none_of X G z_tuple), b_Ear__bits⟩
    have m_Ear_tell : MetX l.prog w K mg base 2 A_Ear "tell" _ := ⟨A_Ear_tell, fd_Ear_tell, _, cl_Ear, ⟨ci_Ear_tell, ii_Ear_tell, F_Ear_tell.kp⟩, ok_tell F_Ear_tell T_EarT x_BadBits m_Ear_bits, b_Ear_tell⟩
    have m_Ear_come : MetX l.prog w K mg base 3 A_Ear "come" _ := ⟨A_Ear_come, fd_Ear_come, _, cl_Ear, ⟨ci_Ear_come, ii_Ear_come, F_Ear_come.kp⟩, ok_come F_Ear_come T_EarT c_check_mark m_Ear_number_of m_Ear_word_of m_Ear_keep, b_Ear_come⟩
    have k_Ear : MakX l.prog w K mg base 3 "Ear" A_Ear _ := ⟨A_Ear___init, fd_Ear___init, _, ⟨mk_Ear, ci_Ear___init, ii_Ear___init, kc_Ear⟩, ok_ear_init F_Ear___init T_EarT c_check_setting, PySem.W.mg_of X G a_Ear, b_Ear___init⟩
    have c_check_bits : CalX l.prog w K mg base 1 "check_bits" _ := ⟨A_check_bits, fd_check_bits, _, ok_check_bits F_check_bits (PySem.W.mg_none_of X G z_len), PySem.W.mg_of X G a_check_bits, F_check_bits.kp, b_check_bits⟩
    have c_check_telling : CalX l.prog w K mg base 2 "check_telling" _ := ⟨A_check_telling, fd_check_telling, _, ok_check_telling F_check_telling c_check_mark c_check_bits, PySem.W.mg_of X G a_check_telling, F_check_telling.kp, b_check_telling⟩
    have k_Mouth : MakX l.prog w K mg base 3 "Mouth" A_Mouth _ := ⟨A_Mouth___init, fd_Mouth___init, _, ⟨mk_Mouth, ci_Mouth___init, ii_Mouth___init, kc_Mouth⟩, ok_mouth_init F_Mouth___init T_MouthT c_check_setting, PySem.W.mg_of X G a_Mouth, b_Mouth___init⟩
    have m_Mouth_is_full : MetX l.prog w K mg base 1 A_Mouth "is_full" _ := ⟨A_Mouth_is_full, fd_Mouth_is_full, _, cl_Mouth, ⟨ci_Mouth_is_full, ii_Mouth_is_full, F_Mouth_is_full.kp⟩, ok_is_full F_Mouth_is_full T_MouthT, b_Mouth_is_full⟩
    have m_Mouth_last : MetX l.prog w K mg base 1 A_Mouth "last" _ := ⟨A_Mouth_last, fd_Mouth_last, _, cl_Mouth, ⟨ci_Mouth_last, ii_Mouth_last, F_Mouth_last.kp⟩, ok_mlast F_Mouth_last T_MouthT, b_Mouth_last⟩
    have m_Mouth_sure : MetX l.prog w K mg base 1 A_Mouth "sure" _ := ⟨A_Mouth_sure, fd_Mouth_sure, _, cl_Mouth, ⟨ci_Mouth_sure, ii_Mouth_sure, F_Mouth_sure.kp⟩, ok_sure F_Mouth_sure T_MouthT (PySem.W.mg_none_of X G z_sorted), b_Mouth_sure⟩
    have m_Mouth_send : MetX l.prog w K mg base 2 A_Mouth "send" _ := ⟨A_Mouth_send, fd_Mouth_send, _, cl_Mouth, ⟨ci_Mouth_send, ii_Mouth_send, F_Mouth_send.kp⟩, ok_send F_Mouth_send T_MouthT x_Full m_Mouth_is_full, b_Mouth_send⟩
    have m_Mouth_numbers_of : MetX l.prog w K mg base 1 A_Mouth "_numbers_of" _ := ⟨A_Mouth__numbers_of, fd_Mouth__numbers_of, _, cl_Mouth, ⟨ci_Mouth__numbers_of, ii_Mouth__numbers_of, F_Mouth__numbers_of.kp⟩, ok_numbers F_Mouth__numbers_of T_MouthT (PySem.W.mg_none_of X G z_enumerate) (PySem.W.mg_none_of X G z_sorted), b_Mouth__numbers_of⟩
    have m_Mouth_hear : MetX l.prog w K mg base 3 A_Mouth "hear" _ := ⟨A_Mouth_hear, fd_Mouth_hear, _, cl_Mouth, ⟨ci_Mouth_hear, ii_Mouth_hear, F_Mouth_hear.kp⟩, ok_hear F_Mouth_hear T_MouthT (PySem.W.mg_none_of X G z_max) x_BadBits c_check_telling m_Mouth_numbers_of, b_Mouth_hear⟩
    have k_Load : MakX l.prog w K mg base 2 "Load" A_Load _ := ⟨A_Load___init, fd_Load___init, _, ⟨mk_Load, ci_Load___init, ii_Load___init, kc_Load⟩, ok_load_init F_Load___init T_LoadT c_check_number, PySem.W.mg_of X G a_Load, b_Load___init⟩
    have m_Load_put : MetX l.prog w K mg base 1 A_Load "put" _ := ⟨A_Load_put, fd_Load_put, _, cl_Load, ⟨ci_Load_put, ii_Load_put, F_Load_put.kp⟩, ok_put F_Load_put T_LoadT, b_Load_put⟩
    have m_Load_waits : MetX l.prog w K mg base 1 A_Load "waits" _ := ⟨A_Load_waits, fd_Load_waits, _, cl_Load, ⟨ci_Load_waits, ii_Load_waits, F_Load_waits.kp⟩, ok_waits F_Load_waits T_LoadT (PySem.W.mg_none_of X G z_sorted), b_Load_waits⟩
    have m_Load_is_ready : MetX l.prog w K mg base 1 A_Load "_is_ready" _ := ⟨A_Load__is_ready, fd_Load__is_ready, _, cl_Load, ⟨ci_Load__is_ready, ii_Load__is_ready, F_Load__is_ready.kp⟩, ok_ready F_Load__is_ready T_LoadT, b_Load__is_ready⟩
    have m_Load_fill : MetX l.prog w K mg base 2 A_Load "fill" _ := ⟨A_Load_fill, fd_Load_fill, _, cl_Load, ⟨ci_Load_fill, ii_Load_fill, F_Load_fill.kp⟩, ok_fill F_Load_fill T_LoadT (PySem.W.mg_none_of X G z_len) (PySem.W.mg_none_of X G z_tuple) m_Load_waits m_Load_is_ready, b_Load_fill⟩
    have m_Load_free : MetX l.prog w K mg base 1 A_Load "_free" _ := ⟨A_Load__free, fd_Load__free, _, cl_Load, ⟨ci_Load__free, ii_Load__free, F_Load__free.kp⟩, ok_free F_Load__free T_LoadT (PySem.W.mg_none_of X G z_len), b_Load__free⟩
    have m_Load_came : MetX l.prog w K mg base 2 A_Load "came" _ := ⟨A_Load_came, fd_Load_came, _, cl_Load, ⟨ci_Load_came, ii_Load_came, F_Load_came.kp⟩, ok_came F_Load_came T_LoadT (PySem.W.mg_none_of X G z_sorted) m_Load_free, b_Load_came⟩
    have c_l_safe : CalX l.prog w K mg base 3 "_law_safe" _ := ⟨A_l_safe, fd_l_safe, _, ok_safe F_l_safe (PySem.W.mg_none_of X G z_max) (PySem.W.mg_none_of X G z_min) c_l_setting, PySem.W.mg_of X G a_l_safe, F_l_safe.kp, b_l_safe⟩
    have c_l_sent : CalX l.prog w K mg base 3 "_law_sent" _ := ⟨A_l_sent, fd_l_sent, _, ok_sent F_l_sent m_Mouth_send m_Load_fill, PySem.W.mg_of X G a_l_sent, F_l_sent.kp, b_l_sent⟩
    have c_l_good : CalX l.prog w K mg base 1 "_law_good" _ := ⟨A_l_good, fd_l_good, _, ok_good F_l_good (PySem.W.mg_none_of X G z_len) (PySem.W.mg_none_of X G z_max), PySem.W.mg_of X G a_l_good, F_l_good.kp, b_l_good⟩
    exact ok_law F_law (PySem.W.mg_none_of X G z_range) (PySem.W.mg_none_of X G z_len) (PySem.W.mg_none_of X G z_set) (PySem.W.mg_none_of X G z_list) c_l_dice c_l_next c_l_safe c_l_sent c_l_good k_Ear k_Mouth k_Load m_Mouth_is_full m_Mouth_hear m_Mouth_last m_Ear_tell m_Ear_last m_Ear_come m_Load_put m_Load_came m_Load_waits
end Ak
local macro_rules | `(tactic| walk_at "fi") => `(tactic| (refine' ⟨_, L2.fun_mk ?l ?c ?k⟩; (case l => k_is); (case c => k_is); (case k => k_is)))
local macro_rules | `(tactic| walk_at "vals") => `(tactic| first | exact .nil | exact .cons (by first | rfl | exact ⟨_, rfl⟩) (by walk_at "vals"))
local macro_rules | `(tactic| walk_at "kl") => `(tactic| first | exact trivial | (refine ⟨⟨_, _, rfl, rfl⟩, ?_⟩; walk_at "kl"))
local macro_rules | `(tactic| walk_at "sqk") => `(tactic| (refine' Ak.sqT_of ?l ?c ?d ?z ?v; (case l => k_is); (case c => rfl); (case d => rfl); (case z => exact Nat.le_of_ble_eq_true rfl); (case v => walk_at "vals")))
open PySem PySem.W PyProof.Rows in
set_option maxRecDepth 100000 in
set_option maxHeartbeats 0 in
theorem PySem.Challenge.cw_ackbits_k09_whole_pieces_come_holds : PySem.Challenge.rw_ackbits_k09_whole_pieces_come.Holds := by
  w_on; o_law; k_head; (case hw => w_witness2)
  k_fill
  refine LamX.walk_ofTs (l := PySem.Challenge.rw_ackbits_k09_whole_pieces_come) (n := 63) (k := 5) (x := "_law_script") (CX := fun w => L2.CX (PySem.Challenge.rw_ackbits_k09_whole_pieces_come).prog w) rfl (by decide) rfl ⟨rfl, by decide, by decide⟩ (fun w h Y => PySem.W.kIn_of Y) ?F (fun _ _ _ _ _ z => Ak.cx_none z)
  case F =>
    intro w mg fa h Y KX G hmg
    refine' Ak.all_mk KX G hmg ?a_Ear ?pg_Ear ?hd_Ear ?po_Ear ?sa_Ear ?mk_Ear ?kc_Ear ?na_Ear__marks ?na_Ear__wide ?na_Ear__late ?na_Ear__greatest ?na_Ear__came ?a_Mouth ?pg_Mouth ?hd_Mouth ?po_Mouth ?sa_Mouth ?mk_Mouth ?kc_Mouth ?na_Mouth__marks ?na_Mouth__wide ?na_Mouth__ahead ?na_Mouth__last ?na_Mouth__greatest ?na_Mouth__sure ?a_Load ?pg_Load ?hd_Load ?po_Load ?sa_Load ?mk_Load ?kc_Load ?na_Load__room ?na_Load__wait ?na_Load__many ?na_Load__letters ?na_Load__latest ?a_BadBits ?xq_BadBits ?xk_BadBits ?xs_BadBits ?xt_BadBits ?a_Full ?xq_Full ?xk_Full ?xs_Full ?xt_Full ?a_BOUNDS ?lkB ?klB ?nB1 ?nB2 ?nB3 ?nB4 ?nB5 ?nB6 ?sB1 ?sB2 ?sB3 ?sB4 ?sB5 ?sB6 ?F_l_next ?z_len ?a_l_next ?F_l_dice ?z_int ?a_l_dice ?F_l_setting ?z_max ?z_min ?a_l_setting ?F_check_number ?a_check_number ?F_check_mark ?a_check_mark ?F_check_setting ?a_check_setting ?F_Ear__oldest ?ci_Ear__oldest ?ii_Ear__oldest ?F_Ear_last ?ci_Ear_last ?ii_Ear_last ?F_Ear__number_of ?ci_Ear__number_of ?ii_Ear__number_of ?F_Ear__word_of ?ci_Ear__word_of ?ii_Ear__word_of ?F_Ear__keep ?ci_Ear__keep ?ii_Ear__keep ?F_Ear__bits ?z_range ?z_tuple ?ci_Ear__bits ?ii_Ear__bits ?F_Ear_tell ?ci_Ear_tell ?ii_Ear_tell ?F_Ear_come ?ci_Ear_come ?ii_Ear_come ?F_Ear___init ?ci_Ear___init ?ii_Ear___init ?F_check_bits ?a_check_bits ?F_check_telling ?a_check_telling ?F_Mouth___init ?ci_Mouth___init ?ii_Mouth___init ?F_Mouth_is_full ?ci_Mouth_is_full ?ii_Mouth_is_full ?F_Mouth_last ?ci_Mouth_last ?ii_Mouth_last ?F_Mouth_sure ?z_sorted ?ci_Mouth_sure ?ii_Mouth_sure ?F_Mouth_send ?ci_Mouth_send ?ii_Mouth_send ?F_Mouth__numbers_of ?z_enumerate ?ci_Mouth__numbers_of ?ii_Mouth__numbers_of ?F_Mouth_hear ?ci_Mouth_hear ?ii_Mouth_hear ?F_Load___init ?ci_Load___init ?ii_Load___init ?F_Load_put ?ci_Load_put ?ii_Load_put ?F_Load_waits ?ci_Load_waits ?ii_Load_waits ?F_Load__is_ready ?ci_Load__is_ready ?ii_Load__is_ready ?F_Load_fill ?ci_Load_fill ?ii_Load_fill ?F_Load__free ?ci_Load__free ?ii_Load__free ?F_Load_came ?ci_Load_came ?ii_Load_came ?F_l_safe ?a_l_safe ?F_l_sent ?a_l_sent ?F_l_good ?a_l_good ?a_law ?lk_law ?hc_law ?hk_law ?z_set ?z_list
    (case a_Ear => k_is)
    (case a_Mouth => k_is)
    (case a_Load => k_is)
    (case a_BadBits => k_is)
    (case a_Full => k_is)
    (case a_BOUNDS => k_is)
    (case a_l_next => k_is)
    (case a_l_dice => k_is)
    (case a_l_setting => k_is)
    (case a_check_number => k_is)
    (case a_check_mark => k_is)
    (case a_check_setting => k_is)
    (case a_check_bits => k_is)
    (case a_check_telling => k_is)
    (case a_l_safe => k_is)
    (case a_l_sent => k_is)
    (case a_l_good => k_is)
    (case a_law => k_is)
    (case ci_Ear__oldest => k_is)
    (case ci_Ear_last => k_is)
    (case ci_Ear__number_of => k_is)
    (case ci_Ear__word_of => k_is)
    (case ci_Ear__keep => k_is)
    (case ci_Ear__bits => k_is)
    (case ci_Ear_tell => k_is)
    (case ci_Ear_come => k_is)
    (case ci_Ear___init => k_is)
    (case ci_Mouth___init => k_is)
    (case ci_Mouth_is_full => k_is)
    (case ci_Mouth_last => k_is)
    (case ci_Mouth_sure => k_is)
    (case ci_Mouth_send => k_is)
    (case ci_Mouth__numbers_of => k_is)
    (case ci_Mouth_hear => k_is)
    (case ci_Load___init => k_is)
    (case ci_Load_put => k_is)
    (case ci_Load_waits => k_is)
    (case ci_Load__is_ready => k_is)
    (case ci_Load_fill => k_is)
    (case ci_Load__free => k_is)
    (case ci_Load_came => k_is)
    (case pg_Ear => k_is)
    (case hd_Ear => k_is)
    (case po_Ear => k_is)
    (case sa_Ear => k_is)
    (case mk_Ear => k_is)
    (case kc_Ear => k_is)
    (case na_Ear__marks => k_is)
    (case na_Ear__wide => k_is)
    (case na_Ear__late => k_is)
    (case na_Ear__greatest => k_is)
    (case na_Ear__came => k_is)
    (case pg_Mouth => k_is)
    (case hd_Mouth => k_is)
    (case po_Mouth => k_is)
    (case sa_Mouth => k_is)
    (case mk_Mouth => k_is)
    (case kc_Mouth => k_is)
    (case na_Mouth__marks => k_is)
    (case na_Mouth__wide => k_is)
    (case na_Mouth__ahead => k_is)
    (case na_Mouth__last => k_is)
    (case na_Mouth__greatest => k_is)
    (case na_Mouth__sure => k_is)
    (case pg_Load => k_is)
    (case hd_Load => k_is)
    (case po_Load => k_is)
    (case sa_Load => k_is)
    (case mk_Load => k_is)
    (case kc_Load => k_is)
    (case na_Load__room => k_is)
    (case na_Load__wait => k_is)
    (case na_Load__many => k_is)
    (case na_Load__letters => k_is)
    (case na_Load__latest => k_is)
    (case xq_BadBits => k_exc)
    (case xk_BadBits => k_is)
    (case xs_BadBits => k_is)
    (case xt_BadBits => k_is)
    (case xq_Full => k_exc)
    (case xk_Full => k_is)
    (case xs_Full => k_is)
    (case xt_Full => k_is)
    (case lkB => k_is)
    (case klB => walk_at "kl")
    (case nB1 => k_is)
    (case nB2 => k_is)
    (case nB3 => k_is)
    (case nB4 => k_is)
    (case nB5 => k_is)
    (case nB6 => k_is)
    (case sB1 => walk_at "sqk")
    (case sB2 => walk_at "sqk")
    (case sB3 => walk_at "sqk")
    (case sB4 => walk_at "sqk")
    (case sB5 => walk_at "sqk")
    (case sB6 => walk_at "sqk")
    (case F_l_next => walk_at "fi")
    (case z_len => k_is)
    (case F_l_dice => walk_at "fi")
    (case z_int => k_is)
    (case F_l_setting => walk_at "fi")
    (case z_max => k_is)
    (case z_min => k_is)
    (case F_check_number => walk_at "fi")
    (case F_check_mark => walk_at "fi")
    (case F_check_setting => walk_at "fi")
    (case F_Ear__oldest => walk_at "fi")
    (case ii_Ear__oldest => k_is)
    (case F_Ear_last => walk_at "fi")
    (case ii_Ear_last => k_is)
    (case F_Ear__number_of => walk_at "fi")
    (case ii_Ear__number_of => k_is)
    (case F_Ear__word_of => walk_at "fi")
    (case ii_Ear__word_of => k_is)
    (case F_Ear__keep => walk_at "fi")
    (case ii_Ear__keep => k_is)
    (case F_Ear__bits => walk_at "fi")
    (case z_range => k_is)
    (case z_tuple => k_is)
    (case ii_Ear__bits => k_is)
    (case F_Ear_tell => walk_at "fi")
    (case ii_Ear_tell => k_is)
    (case F_Ear_come => walk_at "fi")
    (case ii_Ear_come => k_is)
    (case F_Ear___init => walk_at "fi")
    (case ii_Ear___init => k_is)
    (case F_check_bits => walk_at "fi")
    (case F_check_telling => walk_at "fi")
    (case F_Mouth___init => walk_at "fi")
    (case ii_Mouth___init => k_is)
    (case F_Mouth_is_full => walk_at "fi")
    (case ii_Mouth_is_full => k_is)
    (case F_Mouth_last => walk_at "fi")
    (case ii_Mouth_last => k_is)
    (case F_Mouth_sure => walk_at "fi")
    (case z_sorted => k_is)
    (case ii_Mouth_sure => k_is)
    (case F_Mouth_send => walk_at "fi")
    (case ii_Mouth_send => k_is)
    (case F_Mouth__numbers_of => walk_at "fi")
    (case z_enumerate => k_is)
    (case ii_Mouth__numbers_of => k_is)
    (case F_Mouth_hear => walk_at "fi")
    (case ii_Mouth_hear => k_is)
    (case F_Load___init => walk_at "fi")
    (case ii_Load___init => k_is)
    (case F_Load_put => walk_at "fi")
    (case ii_Load_put => k_is)
    (case F_Load_waits => walk_at "fi")
    (case ii_Load_waits => k_is)
    (case F_Load__is_ready => walk_at "fi")
    (case ii_Load__is_ready => k_is)
    (case F_Load_fill => walk_at "fi")
    (case ii_Load_fill => k_is)
    (case F_Load__free => walk_at "fi")
    (case ii_Load__free => k_is)
    (case F_Load_came => walk_at "fi")
    (case ii_Load_came => k_is)
    (case F_l_safe => walk_at "fi")
    (case F_l_sent => walk_at "fi")
    (case F_l_good => walk_at "fi")
    (case lk_law => k_is)
    (case hc_law => k_is)
    (case hk_law => k_is)
    (case z_set => k_is)
    (case z_list => k_is)
#print axioms PySem.Challenge.cw_ackbits_k09_whole_pieces_come_holds
