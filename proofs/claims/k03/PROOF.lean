import PyProof.Rows.All
import Wide.All
import OpenK.AllK
import Wide.FinOn
import HandS.ForMost
import HandS.Exc
import HandS.WordsExc
import HandS.ExcOwn
import HandS.ExcIs
import HandS.ExcField
import HandS.TryOnly
import HandS.IsInst
import HandS.Conv
import HandS.Zip
import HandS.Codes
import HandS.Lambda
import HandS.EndTab
import HandS.Small
import HandS.SetFor
import HandS.SortInts
import HandS.HotCalls
import HandS.NestedK
import KE.GoesEnumKw
import KE.GoesMore
import HandS.SortKw
import HandS.More
import HandS.FStr
import PySem.Challenge.RW_ackbits_k03_mouths
set_option Elab.async false
set_option linter.all false
set_option maxRecDepth 100000
set_option maxHeartbeats 4000000
namespace Ak
open PySem PySem.Spec PyProof.Rows L2

/-! ### heaps: what is kept but for S -/
def Keep (S : List Addr) (H H' : Hp) : Prop := (∀ a o, a ∉ S → H a = some o → H' a = some o) ∧ ∀ a, H' a = none → H a = none
section
variable {S T : List Addr} {H H1 H2 : Hp} {a p : Addr} {o : HO} {K : PySem.W.Frag} {xs : List V}
theorem Keep.refl : Keep S H H := ⟨fun _ _ _ h => h, fun _ h => h⟩
theorem Keep.mono (h : ∀ b, b ∈ T → b ∈ S) (k : Keep T H H1) : Keep S H H1 := ⟨fun b u n e => k.1 b u (fun m => n (h b m)) e, k.2⟩
theorem Keep.trans (k : Keep S H H1) (l : Keep S H1 H2) : Keep S H H2 := ⟨fun b u n e => l.1 b u n (k.1 b u n e), fun b e => k.2 b (l.2 b e)⟩
/-- behind a call -/
theorem Keep.call (l : Keep T H1 H2) (h : ∀ b, b ∈ T → b ∈ S) (k : Keep S H H1) : Keep S H H2 := k.trans (l.mono h)
theorem Keep.new (k : Keep S H H1) (n : H1 p = none) : Keep S H (upd H1 p o) := ⟨fun b u m e => by
  have e1 := k.1 b u m e
  rw [upd_ne (ne_of_none e1 n)]
  exact e1, fun b e => by
  by_cases q : b = p
  · rw [q, upd_same] at e; cases e
  · rw [upd_ne q] at e; exact k.2 b e⟩
theorem Keep.set (k : Keep S H H1) (m : p ∈ S) : Keep S H (upd H1 p o) := ⟨fun b u n e => by
  have e1 := k.1 b u n e
  have q : b ≠ p := fun z => n (z ▸ m)
  rw [upd_ne q]
  exact e1, fun b e => by
  by_cases q : b = p
  · rw [q, upd_same] at e; cases e
  · rw [upd_ne q] at e; exact k.2 b e⟩
theorem Keep.new' (n : H1 p = none) (k : Keep S H H1) : Keep S H (upd H1 p o) := k.new n
theorem Keep.set' (m : p ∈ S) (k : Keep S H H1) : Keep S H (upd H1 p o) := k.set m
theorem Keep.at (k : Keep S H H1) (n : a ∉ S) (e : H a = some o) : H1 a = some o := k.1 a o n e
theorem Keep.free (k : Keep S H H1) (e : H1 a = none) : H a = none := k.2 a e
theorem Keep.seqL (k : Keep S H H1) (n : a ∉ S) (e : SqL K H a xs) : SqL K H1 a xs := by
  rcases e with e | e
  · rcases e with e | ⟨o, e⟩
    · exact Or.inl (Or.inl (k.1 _ _ n e))
    · exact Or.inl (Or.inr ⟨o, k.1 _ _ n e⟩)
  · exact Or.inr e
theorem Keep.seqT (k : Keep S H H1) (n : a ∉ S) (e : SqT K H a xs) : SqT K H1 a xs := by
  rcases e with e | e
  · rcases e with e | ⟨o, e⟩
    · exact Or.inl (Or.inl (k.1 _ _ n e))
    · exact Or.inl (Or.inr ⟨o, k.1 _ _ n e⟩)
  · exact Or.inr e
theorem nin_nil : a ∉ ([] : List Addr) := List.not_mem_nil
theorem nin_cons {b : Addr} (h : a ≠ b) (t : a ∉ S) : a ∉ b :: S := fun m => by
  rcases List.mem_cons.mp m with z | z
  · exact h z
  · exact t z
theorem ne_new {b : Addr} (h' : H b = none) (h : H a = some o) : a ≠ b := ne_of_none h h'
theorem sub_nil : ∀ b : Addr, b ∈ ([] : List Addr) → b ∈ S := fun _ m => absurd m List.not_mem_nil
theorem sub_cons {b : Addr} (h : b ∈ S) (t : ∀ c, c ∈ T → c ∈ S) : ∀ c, c ∈ b :: T → c ∈ S := fun c m => by
  rcases List.mem_cons.mp m with z | z
  · exact z ▸ h
  · exact t c z
theorem at_upd (h : a ≠ p) (e : H a = some o) {u : HO} : upd H p u a = some o := (upd_ne h).trans e
theorem at_new (n : H p = none) (e : H a = some o) {u : HO} : upd H p u a = some o := (upd_ne (ne_of_none e n)).trans e
theorem free_upd {u : HO} (e : upd H p u a = none) : H a = none := by
  by_cases q : a = p
  · rw [q, upd_same] at e; cases e
  · rw [upd_ne q] at e; exact e
theorem SqL.upd {u : HO} (h : SqL K H a xs) (n : H p = none) : SqL K (upd H p u) a xs := Keep.seqL (S := []) (Keep.refl.new n) nin_nil h
theorem SqT.upd {u : HO} (h : SqT K H a xs) (n : H p = none) : SqT K (upd H p u) a xs := Keep.seqT (S := []) (Keep.refl.new n) nin_nil h
end

/-! ### general operators -/
section
variable {X : Cx}
def rPlus (K : PySem.W.Frag) : R2 := fun x y H Q => rI0 (fun i j => .int (i + j)) x y H Q ∨ rCat x y H Q ∨ (∃ i j, x = .str i ∧ y = .str j ∧ i.length + j.length ≤ sizeLine ∧ Q (.str (i ++ j)) H) ∨ rCatT K x y H Q
theorem op_plus : OpR X (binaryOp .Add) (rPlus X.K) := OpR.or op_add (OpR.or op_cat (OpR.or op_add_str op_catT))
abbrev rMinus : R2 := rI0 fun i j => .int (i - j)
def rTimes : R2 := fun x y H Q => rI CMul (fun i j => .int (i * j)) x y H Q ∨ rRep x y H Q
theorem op_times : OpR X (binaryOp .Mult) rTimes := OpR.or op_mul op_rep
abbrev rMod : R2 := rI (fun _ j => 0 < j) fun i j => .int (i % j)
abbrev rDiv : R2 := rI CDiv fun i j => .int (i / j)
abbrev rPow : R2 := rI CPow fun i j => .int (i ^ j.toNat)
def rEqX (K : PySem.W.Frag) : R2 := fun x y H Q => rEq x y H Q ∨ rEqD K x y H Q
theorem op_eqX (hu : X.A.units + 64 < cLine) : OpR X (compareOp .Eq) (rEqX X.K) := OpR.or op_eq (op_eqD hu)
def rNeX (K : PySem.W.Frag) : R2 := fun x y H Q => rNe x y H Q ∨ rNeD K x y H Q
theorem op_neX (hu : X.A.units + 64 < cLine) : OpR X (compareOp .NotEq) (rNeX X.K) := OpR.or op_ne (op_neD hu)
abbrev rLt : R2 := rI0 fun i j => .bl (decide (i < j))
abbrev rLe : R2 := rI0 fun i j => .bl (decide (i ≤ j))
abbrev rGt : R2 := rI0 fun i j => .bl (decide (j < i))
abbrev rGe : R2 := rI0 fun i j => .bl (decide (j ≤ i))
def tTru (K : PySem.W.Frag) (ta : TE) : TT := fun σ H Q => ta σ H fun x H' => ∃ k, TruV K x H' k ∧ Q k H'
theorem pt_tru {a : Expr} {ta : TE} (ha : PE X a ta) (he : ∀ whole, isTrue a X.env whole = (do let v ← whole; standAt a.pos; holding [v] (truthy v)) := by intro _; rfl) : PT X a (tTru X.K ta) := pt_truth ha he
def rIsNon : R2 := fun x y H Q => y = .non ∧ Q (.bl (decide (x = .non))) H
def rNotNon : R2 := fun x y H Q => y = .non ∧ Q (.bl (!decide (x = .non))) H
theorem op_isNon : OpR X (compareOp .Is) rIsNon := op_isN
theorem op_notNon : OpR X (compareOp .IsNot) rNotNon := op_notN
def rInX (K : PySem.W.Frag) : R2 := fun x y H Q => rIn K false x y H Q ∨ ∃ (c : Nat) (z : Str), x = .str ⟨#[c]⟩ ∧ y = .str z ∧ Q (.bl (decide (c ∈ z.cps.toList))) H
theorem op_inX : OpR X (compareOp .In) (rInX X.K) := OpR.or op_in_seq op_in_sign
def rNinX (K : PySem.W.Frag) : R2 := fun x y H Q => rIn K true x y H Q ∨ ∃ (c : Nat) (z : Str), x = .str ⟨#[c]⟩ ∧ y = .str z ∧ Q (.bl (!decide (c ∈ z.cps.toList))) H
theorem op_ninX : OpR X (compareOp .NotIn) (rNinX X.K) := OpR.or op_notIn_seq op_notIn_sign
/-- len, max, min, int, tuple, list, isinstance -/
def rLenX (K : PySem.W.Frag) : List V → Hp → VK → Prop := fun xs H Q => ∃ x n, xs = [x] ∧ LenV K x H n ∧ Q (.int (n : Nat)) H
theorem cr_lenX : CallR X (.builtin "len") (rLenX X.K) := call_len
def rMaxX (K : PySem.W.Frag) : List V → Hp → VK → Prop := fun xs H Q => (∃ i j, xs = [.int i, .int j] ∧ Q (.int (if j > i then j else i)) H) ∨ rMax K xs H Q
theorem cr_maxX (hc : X.calm = true) : CallR X (.builtin "max") (rMaxX X.K) := CallR.or (call_max2 hc) (cr_max hc)
def rMinX (K : PySem.W.Frag) : List V → Hp → VK → Prop := fun xs H Q => (∃ i j, xs = [.int i, .int j] ∧ Q (.int (if j < i then j else i)) H) ∨ rMin K xs H Q
theorem cr_minX (hc : X.calm = true) : CallR X (.builtin "min") (rMinX X.K) := CallR.or (call_min2 hc) (cr_min hc)
def rIntX : List V → Hp → VK → Prop := fun xs H Q => (∃ i, xs = [.int i] ∧ Q (.int i) H) ∨ ∃ k, xs = [.bl k] ∧ Q (.int (if k then 1 else 0)) H
theorem cr_intX : CallR X (.type "int") rIntX := call_int1
def rTupX (K : PySem.W.Frag) : List V → Hp → VK → Prop := fun xs H Q => ∃ p ys, xs = [.ref p] ∧ ((SqL K H p ys ∧ ∀ l, H l = none → Q (.ref l) (upd H l (.tup ys))) ∨ (SqT K H p ys ∧ Q (.ref p) H))
theorem cr_tupX : CallR X (.type "tuple") (rTupX X.K) := call_tuple_of
def rLisX (K : PySem.W.Frag) : List V → Hp → VK → Prop := fun xs H Q => ∃ p ys, xs = [.ref p] ∧ (SqL K H p ys ∨ SqT K H p ys) ∧ ∀ l, H l = none → Q (.ref l) (upd H l (.lst ys))
theorem cr_lisX : CallR X (.type "list") (rLisX X.K) := call_list_of
end

/-! ### calls of defs of the text: what they let out goes to W -/
def tCallX (sp : Sp) (W : WX) (t : TA) : TE := fun σ H Q => t σ H fun vs H1 => sp vs H1 Q (WE W σ)
def tMethX (C : Addr) (m : Str) (sp : Sp) (W : WX) (ta : TE) (t : TA) : TE := fun σ H Q => ta σ H fun x H1 => ∃ a dx fs, x = .ref a ∧ H1 a = some (.ins C dx fs) ∧ fs.lookup m = none ∧ t σ H1 fun vs H2 => sp (x :: vs) H2 Q (WE W σ)
def tMakeX (C : Addr) (sp : Sp) (W : WX) (t : TA) : TE := fun σ H Q => t σ H fun vs H1 => ∀ x dx, H1 x = none → H1 dx = none → dx ≠ x →
  sp (.ref x :: vs) (upd (upd H1 dx (.own x)) x (.ins C dx [])) (fun v H2 => v = .non ∧ Q (.ref x) H2) (WE W σ)
structure CalX (P : Program) (w : World) (K : PySem.W.Frag) (mg : Str → Option Value) (base : Heap) (k : Nat) (x : Str) (sp : Sp) : Prop where
  ex : ∃ (f : Addr) (fd : FuncData) (ps : List Str), FnOk P w K mg base (L2.CX P w) k f fd ps sp ∧ mg x = some (.ref f) ∧ PySem.W.keepIn K (.ref f) = true ∧ Binds K fd ps []
structure MetX (P : Program) (w : World) (K : PySem.W.Frag) (mg : Str → Option Value) (base : Heap) (k : Nat) (C : Addr) (m : Str) (sp : Sp) : Prop where
  ex : ∃ (f : Addr) (fd : FuncData) (ps : List Str), Cls K C ∧ Meth K C m f ∧ FnOk P w K mg base (L2.CX P w) k f fd ps sp ∧ Binds K fd ps []
structure MakX (P : Program) (w : World) (K : PySem.W.Frag) (mg : Str → Option Value) (base : Heap) (k : Nat) (x : Str) (C : Addr) (sp : Sp) : Prop where
  ex : ∃ (f : Addr) (fd : FuncData) (ps : List Str), Mk K C f ∧ FnOk P w K mg base (L2.CX P w) k f fd ps sp ∧ mg x = some (.ref C) ∧ Binds K fd ps []
section
variable {X : Cx} {W : WX} {k j : Nat} {C : Addr} {x m : Str} {sp : Sp} {p pos apos : Pos} {e o : Expr} {es : List Expr} {ta : TE} {t : TA}
theorem pe_cx (c : CalX X.prog X.w X.K X.mg X.base k x sp) (hr : Room j X.A) (hk : k ≤ j) (hg : Gl X x) (tk : Takes X W) (ha : PA X (e :: es) t)
    (hdb : (x == ("__debug__" : Str)) = false := by decide) (he : starEach (e :: es) X.env = (false, eval e X.env) :: starEach es X.env := by rfl)
    (hpl : (backTo pos (starEach es X.env)).any (·.1) = false := by rfl) : PE X (.Call (.Name x p) (e :: es) [] pos) (tCallX sp W t) := by
  obtain ⟨f, fd, ps, F, hm, hkp, hb⟩ := c.ex
  exact pe_callS F (hr.mono hk) hg hm hkp hb (fun σ => passAt tk σ) ha hdb he hpl
theorem pe_cx0 (c : CalX X.prog X.w X.K X.mg X.base k x sp) (hr : Room j X.A) (hk : k ≤ j) (hg : Gl X x) (tk : Takes X W)
    (hdb : (x == ("__debug__" : Str)) = false := by decide) : PE X (.Call (.Name x p) [] [] pos) (tCallX sp W tNil) := by
  obtain ⟨f, fd, ps, F, hm, hkp, hb⟩ := c.ex
  refine ⟨fun pn s₀ σ₀ H₀ Q₀ I₀ q₀ => ?_⟩
  refine wpAny_Call_Name_kw (ld_glob I₀ hg hm ?_ hdb)
  exact PySem.W.callWith_K0 I₀.kIn hkp (run_fnS (us := []) F (hr.mono hk) hb (passAt tk σ₀) I₀ .nil q₀)
theorem pe_mx {pl : Sem Bool} (he : PE X o ta) (c : MetX X.prog X.w X.K X.mg X.base k C m sp) (hr : Room j X.A) (hk : k ≤ j) (tk : Takes X W) (ha : PA X (e :: es) t)
    (hst : starEach (e :: es) X.env = (false, eval e X.env) :: starEach es X.env := by rfl) (hpl : (backTo pos (starEach es X.env)).any (·.1) = false := by rfl)
    (ht : eval (.Call (.Attribute o m apos) (e :: es) [] pos) X.env = (do
      let ov ← eval o X.env
      standAt apos.atName
      let (f, first) ← holding [ov] (getMethod ov m pl)
      callWith pos f first (backTo pos (starEach (e :: es) X.env)) (backToKw pos (keywordEach [] X.env))) := by rfl) :
    PE X (.Call (.Attribute o m apos) (e :: es) [] pos) (tMethX C m sp W ta t) := by
  obtain ⟨f, fd, ps, c, hm, F, hb⟩ := c.ex
  refine ⟨fun pn s₀ σ₀ H₀ Q₀ I₀ q₀ => ?_⟩
  refine PySem.W.methodCall_KW (pl := pl) (thn (he.run pn s₀ σ₀ H₀ _ I₀ q₀) fun u₀ s₁ ⟨x₁, H₁, I₁, rx, a₀, dx₀, fs₀, ex, ea, l₀, q₁⟩ => ?_) ht
  subst ex
  obtain rfl : u₀ = Value.ref a₀ := rx
  refine getmeth_ok I₁ ea c hm l₀ ?_
  refine PySem.W.callWith_K (first := [.ref a₀]) (h₀ := X.base) I₁.ok.mod.kin hm.kp (thn (ha.run pos pn s₁ σ₀ H₁ _ I₁ q₁) fun us s₂ ⟨vs, H₂, I₂, r₂, q₂⟩ => ⟨I₂.kIn, ?_⟩) hst hpl
  exact run_fnS (us := .ref a₀ :: us) (vs := .ref a₀ :: vs) F (hr.mono hk) hb (passAt tk σ₀) I₂ (.cons rfl r₂) q₂
theorem pe_mx0 {pl : Sem Bool} (he : PE X o ta) (c : MetX X.prog X.w X.K X.mg X.base k C m sp) (hr : Room j X.A) (hk : k ≤ j) (tk : Takes X W)
    (ht : eval (.Call (.Attribute o m apos) [] [] pos) X.env = (do
      let ov ← eval o X.env
      standAt apos.atName
      let (f, first) ← holding [ov] (getMethod ov m pl)
      callWith pos f first (backTo pos (starEach [] X.env)) (backToKw pos (keywordEach [] X.env))) := by rfl) :
    PE X (.Call (.Attribute o m apos) [] [] pos) (tMethX C m sp W ta tNil) := by
  obtain ⟨f, fd, ps, c, hm, F, hb⟩ := c.ex
  refine ⟨fun pn s₀ σ₀ H₀ Q₀ I₀ q₀ => ?_⟩
  refine PySem.W.methodCall_KW (pl := pl) (thn (he.run pn s₀ σ₀ H₀ _ I₀ q₀) fun u₀ s₁ ⟨x₁, H₁, I₁, rx, a₀, dx₀, fs₀, ex, ea, l₀, q₁⟩ => ?_) ht
  subst ex
  obtain rfl : u₀ = Value.ref a₀ := rx
  refine getmeth_ok I₁ ea c hm l₀ ?_
  exact PySem.W.callWith_K0 (first := [.ref a₀]) I₁.kIn hm.kp (run_fnS (us := [.ref a₀]) (vs := [.ref a₀]) F (hr.mono hk) hb (passAt tk σ₀) I₁ (.cons rfl .nil) q₁)
theorem pe_kx (c : MakX X.prog X.w X.K X.mg X.base k x C sp) (hr : Room j X.A) (hk : k + 1 ≤ j) (hg : Gl X x) (tk : Takes X W) (ha : PA X (e :: es) t)
    (hdb : (x == ("__debug__" : Str)) = false := by decide) (he : starEach (e :: es) X.env = (false, eval e X.env) :: starEach es X.env := by rfl)
    (hpl : (backTo pos (starEach es X.env)).any (·.1) = false := by rfl) : PE X (.Call (.Name x p) (e :: es) [] pos) (tMakeX C sp W t) := by
  obtain ⟨f, fd, ps, M, F, hm, hb⟩ := c.ex
  refine ⟨fun pn s₀ σ₀ H₀ Q₀ I₀ q₀ => ?_⟩
  refine wpAny_Call_Name_kw (ld_glob I₀ hg hm ?_ hdb)
  refine PySem.W.callWith_K (h₀ := X.base) I₀.ok.mod.kin M.kp (thn (ha.run pos pn s₀ σ₀ H₀ _ I₀ q₀) fun us s₁ ⟨vs, H₁, I₁, r₁, q₁⟩ => ⟨I₁.kIn, ?_⟩) he hpl
  have hq := q₁ (s₁.heap.objs.size + 1) s₁.heap.objs.size (I₁.hok.fresh (Nat.le_succ _)) (I₁.hok.fresh (Nat.le_refl _)) (Nat.ne_of_lt (Nat.lt_succ_self _))
  have I₂ := Inv.made (C := C) I₁
  have r₂ : Vals (V.ref (s₁.heap.objs.size + 1) :: vs) (Value.ref (s₁.heap.objs.size + 1) :: us) := .cons rfl r₁
  have hl : (Value.ref (s₁.heap.objs.size + 1) :: us).length = ps.length := by rw [← r₂.length]; exact F.len _ _ _ _ hq
  have b := hb { s₁ with heap := (s₁.heap.push PySem.W.emptyDict).push (PySem.W.instObj C s₁.heap.objs.size) } (Value.ref (s₁.heap.objs.size + 1) :: us) I₂.kIn (by rw [List.append_nil]; exact hl)
  rw [List.append_nil] at b
  refine wpAny_call (make_map (f := f) I₁.kIn M.makes M.init (beq_iff_eq.mp M.fn) (codeAny_mono (F.run _ X.stack _ _ ⟨Value.ref (s₁.heap.objs.size + 1) :: us, []⟩ (Value.ref (s₁.heap.objs.size + 1) :: us) _ _ (WE W σ₀) ((hr.mono hk).make C us [])
    (I₂.env0.make C us []) b r₂ hq) fun r s' hq' => ?_))
  cases r with
  | error e => exact passAt tk σ₀ pn _ _ e s' I₂ hq'
  | ok fl =>
    cases fl with
    | ret u =>
      obtain ⟨v, H', I₃, rv, ev, q₃⟩ := I₂.after hq'
      subst ev
      exact ⟨rv, ⟨V.ref (s₁.heap.objs.size + 1), H', I₃, rfl, q₃⟩⟩
    | next => exact False.elim hq'
    | brk => exact False.elim hq'
    | cont => exact False.elim hq'
end

abbrev wOut (E : XK) : WX := fun cls d _ H => E cls d H

/-! ### readings, one step each -/
section
variable {K : PySem.W.Frag} {σ : L2.St} {H H1 : Hp} {Q : VK} {QT : Bool → Hp → Prop} {QA : List V → Hp → Prop} {D : Ends} {ta tb te tv : TE} {tt tu : TT} {t u : TS} {tr : TA} {g : TG} {gs : TGs} {r : R2} {v x y z : V} {i j : Int} {n : Nat} {a b p : Addr} {xs ys : List V} {f : Str} {W : WX} {sp : Sp}
theorem w_seq (h : t { D with nx := u D } σ H) : tSeq t u D σ H := h
theorem w_asg (h : te σ H fun x H1 => g x σ H1 D.nx) : tAsg te g D σ H := h
theorem w_name {R : L2.St → Hp → Prop} (h : R (σ.set n (some v)) H) : gName n v σ H R := h
theorem w_ret (h : te σ H D.rt) : tRet te D σ H := h
theorem w_retN (h : D.rt .non H) : tRetN D σ H := h
theorem w_drop (h : te σ H fun _ H1 => D.nx σ H1) : tDrop te D σ H := h
theorem w_next (h : D.nx σ H) : tNext D σ H := h
theorem w_brk (h : D.bk σ H) : tBreak D σ H := h
theorem w_cont (h : D.ct σ H) : tCont D σ H := h
theorem w_if (h : tt σ H fun b H1 => if b = true then t D σ H1 else u D σ H1) : tIfS tt t u D σ H := h
theorem w_ite {c : Prop} [Decidable c] {A B : Prop} (h1 : c → A) (h2 : ¬ c → B) : if decide c = true then A else B := by
  by_cases q : c
  · rw [if_pos (decide_eq_true q)]; exact h1 q
  · rw [if_neg (by rw [decide_eq_false q]; exact Bool.false_ne_true)]; exact h2 q
theorem w_iteN {c : Prop} [Decidable c] {A B : Prop} (h1 : ¬ c → A) (h2 : c → B) : if (!decide c) = true then A else B := by
  by_cases q : c
  · rw [if_neg (by rw [decide_eq_true q]; exact Bool.false_ne_true)]; exact h2 q
  · rw [if_pos (by rw [decide_eq_false q]; rfl)]; exact h1 q
theorem w_iteT {b : Bool} {A B : Prop} (e : b = true) (h : A) : if b = true then A else B := by rw [if_pos e]; exact h
theorem w_iteF {b : Bool} {A B : Prop} (e : b = false) (h : B) : if b = true then A else B := by rw [if_neg (by rw [e]; exact Bool.false_ne_true)]; exact h
theorem w_iteB {b : Bool} {A B : Prop} (h1 : b = true → A) (h2 : b = false → B) : if b = true then A else B := by cases b with | true => exact h1 rfl | false => exact h2 rfl
theorem w_var (e : σ[n]? = some (some v)) (h : Q v H) : tVar n σ H Q := ⟨v, e, h⟩
theorem w_c (h : Q v H) : tC v σ H Q := h
theorem w_op (h : ta σ H fun x H1 => tb σ H1 fun y H2 => r x y H2 Q) : tOp r ta tb σ H Q := h
theorem w_un {q : V → Hp → VK → Prop} (h : ta σ H fun x H1 => q x H1 Q) : tUn q ta σ H Q := h
theorem w_I0 {gi : Int → Int → V} (h : Q (gi i j) H) : rI0 gi (.int i) (.int j) H Q := ⟨i, j, rfl, rfl, h⟩
theorem w_I {C : Int → Int → Prop} {gi : Int → Int → V} (c : C i j) (h : Q (gi i j) H) : rI C gi (.int i) (.int j) H Q := ⟨i, j, rfl, rfl, c, h⟩
theorem w_U {gi : Int → V} (h : Q (gi i) H) : rU gi (.int i) H Q := ⟨i, rfl, h⟩
theorem w_plusI (h : Q (.int (i + j)) H) : rPlus K (.int i) (.int j) H Q := Or.inl ⟨i, j, rfl, rfl, h⟩
theorem w_plusL (ha : H a = some (.lst xs)) (hb : H b = some (.lst ys)) (hl : xs.length + ys.length ≤ sizeLine) (h : ∀ p, H p = none → Q (.ref p) (upd H p (.lst (xs ++ ys)))) : rPlus K (.ref a) (.ref b) H Q := Or.inr (Or.inl ⟨a, b, xs, ys, rfl, rfl, ha, hb, hl, h⟩)
theorem w_plusS {s z : Str} (hl : s.length + z.length ≤ sizeLine) (h : Q (.str (s ++ z)) H) : rPlus K (.str s) (.str z) H Q := Or.inr (Or.inr (Or.inl ⟨s, z, rfl, rfl, hl, h⟩))
theorem w_timesI (c : CMul i j) (h : Q (.int (i * j)) H) : rTimes (.int i) (.int j) H Q := Or.inl ⟨i, j, rfl, rfl, c, h⟩
theorem w_timesL (ha : H a = some (.lst xs)) (h1 : -(2 ^ 63) ≤ i) (h2 : i < 2 ^ 63) (hl : xs.length * i.toNat ≤ sizeLine) (h : ∀ p, H p = none → Q (.ref p) (upd H p (.lst (List.replicate i.toNat xs).flatten))) : rTimes (.ref a) (.int i) H Q := Or.inr ⟨a, i, xs, rfl, rfl, ha, h1, h2, hl, h⟩
theorem w_test (h : te σ H fun x H' => ∃ k, x = .bl k ∧ QT k H') : tTest te σ H QT := h
theorem w_tB (h : te σ H fun x H' => ∃ k, x = .bl k ∧ QT k H') : tB te σ H QT := h
theorem w_bl {k : Bool} {R : Bool → Prop} (h : R k) : ∃ k', V.bl k = .bl k' ∧ R k' := ⟨k, rfl, h⟩
theorem w_tru (h : te σ H fun x H' => ∃ k, TruV K x H' k ∧ QT k H') : tTru K te σ H QT := h
theorem w_truB {k : Bool} {R : Bool → Prop} (h : R k) : ∃ k', TruV K (.bl k) H k' ∧ R k' := ⟨k, rfl, h⟩
theorem w_truI {R : Bool → Prop} (h : R (i != 0)) : ∃ k', TruV K (.int i) H k' ∧ R k' := ⟨_, rfl, h⟩
theorem w_truL {R : Bool → Prop} (e : SqL K H a xs) (h : R (!xs.isEmpty)) : ∃ k', TruV K (.ref a) H k' ∧ R k' := ⟨_, Or.inl ⟨xs, e, rfl⟩, h⟩
theorem w_truT {R : Bool → Prop} (e : SqT K H a xs) (h : R (!xs.isEmpty)) : ∃ k', TruV K (.ref a) H k' ∧ R k' := ⟨_, Or.inr (Or.inl ⟨xs, e, rfl⟩), h⟩
theorem w_and (h : tt σ H fun c H1 => if c = true then tu σ H1 QT else QT false H1) : tAnd tt tu σ H QT := h
theorem w_or (h : tt σ H fun c H1 => if c = true then QT true H1 else tu σ H1 QT) : tOr tt tu σ H QT := h
theorem w_not (h : tt σ H fun c H1 => QT (!c) H1) : tNot tt σ H QT := h
theorem w_andV (h : ta σ H fun x H1 => ∃ c, x = .bl c ∧ if c = true then tb σ H1 Q else Q (.bl false) H1) : tAndV ta tb σ H Q := h
theorem w_orV (h : ta σ H fun x H1 => ∃ c, x = .bl c ∧ if c = true then Q (.bl true) H1 else tb σ H1 Q) : tOrV ta tb σ H Q := h
theorem w_notV (h : ta σ H fun x H1 => ∃ c, x = .bl c ∧ Q (.bl (!c)) H1) : tNotV ta σ H Q := h
theorem w_ifx (h : tt σ H fun c H1 => if c = true then ta σ H1 Q else tb σ H1 Q) : tIf tt ta tb σ H Q := h
theorem w_eq (s : scal x y = true) (h : Q (.bl (decide (x = y))) H) : rEqX K x y H Q := Or.inl ⟨s, h⟩
theorem w_ne (s : scal x y = true) (h : Q (.bl (!decide (x = y))) H) : rNeX K x y H Q := Or.inl ⟨s, h⟩
theorem w_eqI (h : Q (.bl (decide (i = j))) H) : rEqX K (.int i) (.int j) H Q := w_eq rfl (by
  have e : decide (V.int i = V.int j) = decide (i = j) := by
    by_cases q : i = j
    · subst q; rw [decide_eq_true rfl, decide_eq_true rfl]
    · rw [decide_eq_false q, decide_eq_false (fun z => q (V.int.inj z))]
  rw [e]; exact h)
theorem w_neI (h : Q (.bl (!decide (i = j))) H) : rNeX K (.int i) (.int j) H Q := w_ne rfl (by
  have e : decide (V.int i = V.int j) = decide (i = j) := by
    by_cases q : i = j
    · subst q; rw [decide_eq_true rfl, decide_eq_true rfl]
    · rw [decide_eq_false q, decide_eq_false (fun z => q (V.int.inj z))]
  rw [e]; exact h)
theorem w_eqS {s z : Str} (h : Q (.bl (decide (s = z))) H) : rEqX K (.str s) (.str z) H Q := w_eq rfl (by
  have e : decide (V.str s = V.str z) = decide (s = z) := by
    by_cases q : s = z
    · subst q; rw [decide_eq_true rfl, decide_eq_true rfl]
    · rw [decide_eq_false q, decide_eq_false (fun w => q (V.str.inj w))]
  rw [e]; exact h)
theorem w_neS {s z : Str} (h : Q (.bl (!decide (s = z))) H) : rNeX K (.str s) (.str z) H Q := w_ne rfl (by
  have e : decide (V.str s = V.str z) = decide (s = z) := by
    by_cases q : s = z
    · subst q; rw [decide_eq_true rfl, decide_eq_true rfl]
    · rw [decide_eq_false q, decide_eq_false (fun w => q (V.str.inj w))]
  rw [e]; exact h)
theorem w_eqB {s z : Bool} (h : Q (.bl (decide (s = z))) H) : rEqX K (.bl s) (.bl z) H Q := w_eq rfl (by
  have e : decide (V.bl s = V.bl z) = decide (s = z) := by cases s <;> cases z <;> rfl
  rw [e]; exact h)
theorem w_neB {s z : Bool} (h : Q (.bl (!decide (s = z))) H) : rNeX K (.bl s) (.bl z) H Q := w_ne rfl (by
  have e : decide (V.bl s = V.bl z) = decide (s = z) := by cases s <;> cases z <;> rfl
  rw [e]; exact h)
theorem w_eqD {d e : PyData} (hd : Dp K H x d) (he : Dp K H y e) (s1 : SeqAt.shaped d = true) (s2 : SeqAt.shaped e = true) (h : Q (.bl (PyData.eqv d e)) H) : rEqX K x y H Q := Or.inr ⟨d, e, hd, he, s1, s2, h⟩
theorem w_neD {d e : PyData} (hd : Dp K H x d) (he : Dp K H y e) (s1 : SeqAt.shaped d = true) (s2 : SeqAt.shaped e = true) (h : Q (.bl (!PyData.eqv d e)) H) : rNeX K x y H Q := Or.inr ⟨d, e, hd, he, s1, s2, h⟩
theorem w_isN (h : Q (.bl (decide (x = .non))) H) : rIsNon x .non H Q := ⟨rfl, h⟩
theorem w_notN (h : Q (.bl (!decide (x = .non))) H) : rNotNon x .non H Q := ⟨rfl, h⟩
theorem w_inL (e : SqL K H a xs) (fx : flatV x = true) (fa : xs.all flatV = true) (h : Q (.bl (inV x xs)) H) : rInX K x (.ref a) H Q := Or.inl ⟨a, xs, rfl, Or.inl e, fx, fa, h⟩
theorem w_inT (e : SqT K H a xs) (fx : flatV x = true) (fa : xs.all flatV = true) (h : Q (.bl (inV x xs)) H) : rInX K x (.ref a) H Q := Or.inl ⟨a, xs, rfl, Or.inr e, fx, fa, h⟩
theorem w_ninL (e : SqL K H a xs) (fx : flatV x = true) (fa : xs.all flatV = true) (h : Q (.bl (!inV x xs)) H) : rNinX K x (.ref a) H Q := Or.inl ⟨a, xs, rfl, Or.inl e, fx, fa, h⟩
theorem w_ninT (e : SqT K H a xs) (fx : flatV x = true) (fa : xs.all flatV = true) (h : Q (.bl (!inV x xs)) H) : rNinX K x (.ref a) H Q := Or.inl ⟨a, xs, rfl, Or.inr e, fx, fa, h⟩
theorem w_ixL (e : SqL K H a xs) (q : atI xs i = some v) (h : Q v H) : rIx K (.ref a) (.int i) H Q := Or.inl ⟨a, xs, i, v, rfl, rfl, e, q, h⟩
theorem w_ixT (e : SqT K H a xs) (q : atI xs i = some v) (h : Q v H) : rIx K (.ref a) (.int i) H Q := Or.inr (Or.inl ⟨a, xs, i, v, rfl, rfl, e, q, h⟩)
theorem w_nil (h : QA [] H) : tNil σ H QA := h
theorem w_cons (h : ta σ H fun x H1 => tr σ H1 fun xs H2 => QA (x :: xs) H2) : tCons ta tr σ H QA := h
theorem w_tup (h : tr σ H fun xs H1 => xs.length ≤ sizeLine ∧ ∀ p, H1 p = none → Q (.ref p) (upd H1 p (.tup xs))) : tTup tr σ H Q := h
theorem w_lst (h : tr σ H fun xs H1 => xs.length ≤ sizeLine ∧ ∀ p, H1 p = none → Q (.ref p) (upd H1 p (.lst xs))) : tLst tr σ H Q := h
theorem w_cb {q : List V → Hp → VK → Prop} (h : tr σ H fun vs H1 => q vs H1 Q) : tCB q tr σ H Q := h
theorem w_lenL (e : SqL K H a xs) (h : Q (.int xs.length) H) : rLenX K [.ref a] H Q := ⟨_, _, rfl, Or.inl ⟨xs, e, rfl⟩, h⟩
theorem w_lenT (e : SqT K H a xs) (h : Q (.int xs.length) H) : rLenX K [.ref a] H Q := ⟨_, _, rfl, Or.inr ⟨xs, e, rfl⟩, h⟩
theorem w_lenS {s : Str} (e : s.length ≤ sizeLine) (h : Q (.int (s.length : Nat)) H) : rLenX K [.str s] H Q := ⟨_, _, rfl, ⟨e, rfl⟩, h⟩
theorem w_max2 (h : Q (.int (max i j)) H) : rMaxX K [.int i, .int j] H Q := Or.inl ⟨i, j, rfl, by
  have e : (if j > i then j else i) = max i j := by rw [Int.max_def]; split <;> split <;> omega
  rw [e]; exact h⟩
theorem w_min2 (h : Q (.int (min i j)) H) : rMinX K [.int i, .int j] H Q := Or.inl ⟨i, j, rfl, by
  have e : (if j < i then j else i) = min i j := by rw [Int.min_def]; split <;> split <;> omega
  rw [e]; exact h⟩
theorem w_maxL {ns : List Int} (e : SqL K H a (ns.map V.int)) (q : 0 < ns.length) (h : ∀ m, m ∈ ns → (∀ y, y ∈ ns → y ≤ m) → Q (.int m) H) : rMaxX K [.ref a] H Q := Or.inr ⟨a, ns, rfl, e, q, h⟩
theorem w_minL {ns : List Int} (e : SqL K H a (ns.map V.int)) (q : 0 < ns.length) (h : ∀ m, m ∈ ns → (∀ y, y ∈ ns → m ≤ y) → Q (.int m) H) : rMinX K [.ref a] H Q := Or.inr ⟨a, ns, rfl, e, q, h⟩
theorem w_intI (h : Q (.int i) H) : rIntX [.int i] H Q := Or.inl ⟨i, rfl, h⟩
theorem w_intB {k : Bool} (h : Q (.int (if k then 1 else 0)) H) : rIntX [.bl k] H Q := Or.inr ⟨k, rfl, h⟩
theorem w_tupL (e : SqL K H a xs) (h : ∀ p, H p = none → Q (.ref p) (upd H p (.tup xs))) : rTupX K [.ref a] H Q := ⟨a, xs, rfl, Or.inl ⟨e, h⟩⟩
theorem w_tupT (e : SqT K H a xs) (h : Q (.ref a) H) : rTupX K [.ref a] H Q := ⟨a, xs, rfl, Or.inr ⟨e, h⟩⟩
theorem w_lisL (e : SqL K H a xs) (h : ∀ p, H p = none → Q (.ref p) (upd H p (.lst xs))) : rLisX K [.ref a] H Q := ⟨a, xs, rfl, Or.inl e, h⟩
theorem w_lisT (e : SqT K H a xs) (h : ∀ p, H p = none → Q (.ref p) (upd H p (.lst xs))) : rLisX K [.ref a] H Q := ⟨a, xs, rfl, Or.inr e, h⟩
theorem w_isi {c : V} {cu ty : Value} {k : Bool} (hc : ClsV c cu) (ht : TyX K H x ty) (hk : PySem.W.kitOne K ty cu = some k) (h : Q (.bl k) H) : rIsi K [x, c] H Q := ⟨x, c, ty, cu, k, rfl, hc, ht, hk, h⟩
def kFld (K : PySem.W.Frag) (f : Str) (x : V) (H1 : Hp) (Q : VK) : Prop := ∃ a C dx fs v, x = .ref a ∧ H1 a = some (.ins C dx fs) ∧ Cls K C ∧ NoAttr K C f ∧ fs.lookup f = some v ∧ Q v H1
theorem w_fldE (h : ta σ H fun x H1 => kFld K f x H1 Q) : tFld K ta f σ H Q := h
theorem w_fldK {C dx : Addr} {fs : List (Str × V)} (e : H a = some (.ins C dx fs)) (c : Cls K C) (nn : NoAttr K C f) (l : fs.lookup f = some v) (h : Q v H) : kFld K f (.ref a) H Q := ⟨a, C, dx, fs, v, rfl, e, c, nn, l, h⟩
def kSFld (K : PySem.W.Frag) (f : Str) (y : V) (x : V) (H2 : Hp) (R : Hp → Prop) : Prop := ∃ a C dx fs, x = .ref a ∧ H2 a = some (.ins C dx fs) ∧ Cls K C ∧ NoAttr K C f ∧ fs.length < 1000 ∧ R (upd H2 a (.ins C dx (putF f y fs)))
theorem w_sfld (h : tv σ H fun y H1 => ta σ H1 fun x H2 => kSFld K f y x H2 (D.nx σ)) : sFld K ta tv f D σ H := h
theorem w_sfldK {C dx : Addr} {fs : List (Str × V)} {R : Hp → Prop} (e : H a = some (.ins C dx fs)) (c : Cls K C) (nn : NoAttr K C f) (l : fs.length < 1000) (h : R (upd H a (.ins C dx (putF f y fs)))) : kSFld K f y (.ref a) H R := ⟨a, C, dx, fs, rfl, e, c, nn, l, h⟩
theorem w_call (h : tr σ H fun vs H1 => sp vs H1 Q (WE W σ)) : tCallX sp W tr σ H Q := h
def kMeth (C : Addr) (m : Str) (x : V) (H1 : Hp) (R : Prop) : Prop := ∃ a dx fs, x = .ref a ∧ H1 a = some (.ins C dx fs) ∧ fs.lookup m = none ∧ R
theorem w_meth {C : Addr} {m : Str} (h : ta σ H fun x H1 => kMeth C m x H1 (tr σ H1 fun vs H2 => sp (x :: vs) H2 Q (WE W σ))) : tMethX C m sp W ta tr σ H Q := h
theorem w_methK {C dx : Addr} {m : Str} {fs : List (Str × V)} {R : Prop} (e : H a = some (.ins C dx fs)) (l : fs.lookup m = none) (h : R) : kMeth C m (.ref a) H R := ⟨a, dx, fs, rfl, e, l, h⟩
theorem w_make {C : Addr} (h : tr σ H fun vs H1 => ∀ x dx, H1 x = none → H1 dx = none → dx ≠ x → sp (.ref x :: vs) (upd (upd H1 dx (.own x)) x (.ins C dx [])) (fun v H2 => v = .non ∧ Q (.ref x) H2) (WE W σ)) : tMakeX C sp W tr σ H Q := h
theorem w_gtup {R : L2.St → Hp → Prop} (e : SqT K H a xs) (l : xs.length = n) (h : gs xs σ H R) : gTup K n gs (.ref a) σ H R := ⟨a, xs, rfl, e, l, h⟩
theorem w_gnil {R : L2.St → Hp → Prop} (h : R σ H) : gNil [] σ H R := ⟨rfl, h⟩
theorem w_gcons {R : L2.St → Hp → Prop} (h : g v σ H fun σ' H' => gs xs σ' H' R) : gCons g gs (v :: xs) σ H R := ⟨v, xs, rfl, h⟩
theorem w_gsub {ts : TSet} {R : L2.St → Hp → Prop} (h : ta σ H fun o H1 => tb σ H1 fun i H2 => ts o i v H2 fun H3 => R σ H3) : gSub ta tb ts v σ H R := h
theorem w_setL {R : Hp → Prop} {m : Nat} (e : H a = some (.lst xs)) (q : ixN xs.length i = some m) (h : R (upd H a (.lst (xs.set m v)))) : rSetL (.ref a) (.int i) v H R := ⟨a, xs, i, m, rfl, rfl, e, q, h⟩
/-! dicts -/
def kDGet (x y : V) (H : Hp) (Q : VK) : Prop := ∃ a v, x = .ref a ∧ DGet H a y (some v) ∧ Q v H
theorem w_dget (h : ta σ H fun x H1 => tb σ H1 fun y H2 => kDGet x y H2 Q) : tDGet ta tb σ H Q := h
theorem w_dgetS {kvs : List (Key × V)} {s : Str} (e : H a = some (.dK kvs)) (q : valV kvs (Sum.inr s) = some v) (h : Q v H) : kDGet (.ref a) (.str s) H Q := ⟨a, v, rfl, q ▸ DGet.k (k := Sum.inr s) e, h⟩
theorem w_dgetI {kvs : List (Key × V)} (e : H a = some (.dK kvs)) (q : valV kvs (Sum.inl i) = some v) (h : Q v H) : kDGet (.ref a) (.int i) H Q := ⟨a, v, rfl, q ▸ DGet.k (k := Sum.inl i) e, h⟩
def kDPut (v x y : V) (H : Hp) (R : Hp → Prop) : Prop := ∃ a H4, x = .ref a ∧ DPut H a y v H4 ∧ R H4
theorem w_dput (h : tv σ H fun v H1 => ta σ H1 fun x H2 => tb σ H2 fun y H3 => kDPut v x y H3 (D.nx σ)) : sDPut ta tb tv D σ H := h
theorem w_dputS {R : Hp → Prop} {kvs : List (Key × V)} {s : Str} (e : H a = some (.dK kvs)) (l : kvs.length < sizeLine) (h : R (upd H a (.dK (putK kvs (Sum.inr s) v)))) : kDPut v (.ref a) (.str s) H R := ⟨a, _, rfl, DPut.k (k := Sum.inr s) e l, h⟩
theorem w_dputI {R : Hp → Prop} {kvs : List (Key × V)} (e : H a = some (.dK kvs)) (l : kvs.length < sizeLine) (h : R (upd H a (.dK (putK kvs (Sum.inl i) v)))) : kDPut v (.ref a) (.int i) H R := ⟨a, _, rfl, DPut.k (k := Sum.inl i) e l, h⟩
/-! methods of built-in values -/
theorem w_bm {T : String} {q : V → List V → Hp → VK → Prop} (h : ta σ H fun x H1 => tyV K T x H1 ∧ tr σ H1 fun xs H2 => q x xs H2 Q) : tBM K T q ta tr σ H Q := h
theorem w_bm0 {T : String} {q : V → List V → Hp → VK → Prop} (h : ta σ H fun x H1 => tyV K T x H1 ∧ q x [] H1 Q) : tBM0 K T q ta σ H Q := h
theorem w_app (e : H a = some (.lst xs)) (l : xs.length < sizeLine) (h : Q .non (upd H a (.lst (xs ++ [v])))) : rAppend (.ref a) [v] H Q := ⟨a, xs, v, rfl, rfl, e, l, h⟩
theorem w_clear (e : H a = some (.lst xs)) (h : Q .non (upd H a (.lst []))) : rClear (.ref a) [] H Q := ⟨a, xs, rfl, rfl, e, h⟩
theorem tyL (e : H a = some (.lst xs)) : tyV K "list" (.ref a) H := Or.inl ⟨rfl, xs, SqL.of e⟩
/-! loops -/
def kForL (K : PySem.W.Frag) (g : TG) (t : TS) (D : Ends) (σ : L2.St) (x : V) (H1 : Hp) : Prop := ∃ a, x = .ref a ∧ (∃ xs, SqL K H1 a xs) ∧ ∃ W : Nat → Nat → L2.St → Hp → Prop, (∃ m, W 0 m σ H1) ∧ ∀ i m σ H, W i m σ H →
      ((Itl K a).stop i H ∧ D.nx σ H) ∨ ((Itl K a).go i H ∧ ∃ N : L2.St → Hp → Prop, (∀ σ' H', N σ' H' → ∃ m', m' < m ∧ W (i + 1) m' σ' H') ∧ ∀ x H', (Itl K a).yld i H x H' → g x σ H' fun σ2 H2 => t { D with nx := N, ct := N, bk := D.nx } σ2 H2)
theorem w_forList (h : te σ H fun x H1 => kForL K g t D σ x H1) : tFor (iList K te) g t D σ H := h
theorem l_forList (e : SqL K H a xs) (Pv : Nat → L2.St → Hp → Prop) (h0 : Pv 0 σ H) (hl : ∀ i σ' H', i ≤ xs.length → Pv i σ' H' → SqL K H' a xs)
    (hs : ∀ i x σ' H', xs[i]? = some x → Pv i σ' H' → g x σ' H' fun σ2 H2 => t { D with nx := Pv (i + 1), ct := Pv (i + 1), bk := D.nx } σ2 H2) (hd : ∀ σ' H', Pv xs.length σ' H' → D.nx σ' H') : kForL K g t D σ (.ref a) H :=
  ⟨a, rfl, ⟨xs, e⟩, for_list Pv h0 hl hs hd⟩
def kForR1 (g : TG) (t : TS) (D : Ends) (σ : L2.St) (vs : List V) (H1 : Hp) : Prop := ∃ j : Int, vs = [.int j] ∧ -(2 ^ 62) ≤ j ∧ j < 2 ^ 62 ∧ ∃ W : Nat → Nat → L2.St → Hp → Prop, (∃ m, W 0 m σ H1) ∧ ∀ i m σ H, W i m σ H →
  ((Itr 0 j.toNat).stop i H ∧ D.nx σ H) ∨ ((Itr 0 j.toNat).go i H ∧ ∃ N : L2.St → Hp → Prop, (∀ σ' H', N σ' H' → ∃ m', m' < m ∧ W (i + 1) m' σ' H') ∧ ∀ x H', (Itr 0 j.toNat).yld i H x H' → g x σ H' fun σ2 H2 => t { D with nx := N, ct := N, bk := D.nx } σ2 H2)
theorem w_forR1 (h : tr σ H fun vs H1 => kForR1 g t D σ vs H1) : tFor (iRng1 tr) g t D σ H := h
theorem l_forR1 (lo : -(2 ^ 62) ≤ j) (hi : j < 2 ^ 62) (Pv : Nat → L2.St → Hp → Prop) (h0 : Pv 0 σ H)
    (hs : ∀ i σ' H', i < j.toNat → Pv i σ' H' → g (.int i) σ' H' fun σ2 H2 => t { D with nx := Pv (i + 1), ct := Pv (i + 1), bk := D.nx } σ2 H2) (hd : ∀ σ' H', Pv j.toNat σ' H' → D.nx σ' H') : kForR1 g t D σ [.int j] H :=
  ⟨j, rfl, lo, hi, for_range Pv h0 (fun i σ' H' hi q => by rw [Int.zero_add]; exact hs i σ' H' hi q) hd⟩
def kForR2 (g : TG) (t : TS) (D : Ends) (σ : L2.St) (vs : List V) (H1 : Hp) : Prop := ∃ i j : Int, vs = [.int i, .int j] ∧ (-(2 ^ 62) ≤ i ∧ i < 2 ^ 62 ∧ -(2 ^ 62) ≤ j ∧ j < 2 ^ 62) ∧ ∃ W : Nat → Nat → L2.St → Hp → Prop, (∃ m, W 0 m σ H1) ∧ ∀ k m σ H, W k m σ H →
  ((Itr i (j - i).toNat).stop k H ∧ D.nx σ H) ∨ ((Itr i (j - i).toNat).go k H ∧ ∃ N : L2.St → Hp → Prop, (∀ σ' H', N σ' H' → ∃ m', m' < m ∧ W (k + 1) m' σ' H') ∧ ∀ x H', (Itr i (j - i).toNat).yld k H x H' → g x σ H' fun σ2 H2 => t { D with nx := N, ct := N, bk := D.nx } σ2 H2)
theorem w_forR2 (h : tr σ H fun vs H1 => kForR2 g t D σ vs H1) : tFor (iRng2 tr) g t D σ H := h
theorem l_forR2 (b : -(2 ^ 62) ≤ i ∧ i < 2 ^ 62 ∧ -(2 ^ 62) ≤ j ∧ j < 2 ^ 62) (Pv : Nat → L2.St → Hp → Prop) (h0 : Pv 0 σ H)
    (hs : ∀ k σ' H', k < (j - i).toNat → Pv k σ' H' → g (.int (i + k)) σ' H' fun σ2 H2 => t { D with nx := Pv (k + 1), ct := Pv (k + 1), bk := D.nx } σ2 H2) (hd : ∀ σ' H', Pv (j - i).toNat σ' H' → D.nx σ' H') : kForR2 g t D σ [.int i, .int j] H :=
  ⟨i, j, rfl, b, for_range Pv h0 hs hd⟩
end
theorem sz_of {n : Nat} (h : Nat.ble n sizeLine = true) : n ≤ sizeLine := Nat.le_of_ble_eq_true h
theorem sz_lt {n : Nat} (h : Nat.ble (n + 1) sizeLine = true) : n < sizeLine := Nat.le_of_ble_eq_true h
theorem look_hd {k : Str} {v : V} {l : List (Str × V)} : List.lookup k ((k, v) :: l) = some v := by simp [List.lookup]
theorem look_tl {k j : Str} {v : V} {l : List (Str × V)} (h : (k == j) = false) : List.lookup k ((j, v) :: l) = List.lookup k l := by simp [List.lookup, h]
theorem look_nil {k : Str} : List.lookup k ([] : List (Str × V)) = none := rfl
theorem putF_hd {k : Str} {v x : V} {l : List (Str × V)} : putF k v ((k, x) :: l) = (k, v) :: l := by simp [putF]
theorem putF_tl {k j : Str} {v x : V} {l : List (Str × V)} (h : ¬ j = k) : putF k v ((j, x) :: l) = (j, x) :: putF k v l := by simp [putF, h]
theorem putF_nil {k : Str} {v : V} : putF k v [] = [(k, v)] := rfl
section
variable {κ : Type} [DecidableEq κ] {k j : κ} {v x : V} {l : List (κ × V)}
theorem val_hd : valV ((k, v) :: l) k = some v := by simp [valV]
theorem val_tl (h : ¬ j = k) : valV ((j, x) :: l) k = valV l k := by simp [valV, h]
theorem val_nil : valV ([] : List (κ × V)) k = none := rfl
end
/-! ### all but tables are as in H0 -/
abbrev Ext0 (H0 H : Hp) : Prop := LamX.ExtN H0 H
section
variable {K : PySem.W.Frag} {H0 H H1 : Hp} {a p : Addr} {xs : List V} {o : HO} {S : List Addr}
theorem Ext0.refl : Ext0 H H := LamX.ExtN.refl H
theorem Ext0.seqL (h : SqL K H0 a xs) (e : Ext0 H0 H) : SqL K H a xs := by
  rcases h with h | h
  · rcases h with h | ⟨o, h⟩
    · exact Or.inl (Or.inl (e _ _ h (fun _ z => by cases z)))
    · exact Or.inl (Or.inr ⟨o, e _ _ h (fun _ z => by cases z)⟩)
  · exact Or.inr h
theorem Ext0.seqT (h : SqT K H0 a xs) (e : Ext0 H0 H) : SqT K H a xs := by
  rcases h with h | h
  · rcases h with h | ⟨o, h⟩
    · exact Or.inl (Or.inl (e _ _ h (fun _ z => by cases z)))
    · exact Or.inl (Or.inr ⟨o, e _ _ h (fun _ z => by cases z)⟩)
  · exact Or.inr h
theorem Ext0.keep (e : Ext0 H0 H) (k : Keep S H H1) (n : ∀ b, b ∈ S → H0 b = none) : Ext0 H0 H1 := fun b o h nt =>
  k.1 b o (fun m => by rw [n b m] at h; cases h) (e b o h nt)
theorem Ext0.kept (k : Keep S H H1) (e : Ext0 H0 H) (n : ∀ b, b ∈ S → H0 b = none) : Ext0 H0 H1 := e.keep k n
theorem Ext0.set (e : Ext0 H0 H) (n : H0 p = none) : Ext0 H0 (upd H p o) := fun b u h nt => by
  rw [upd_ne (ne_of_none h n)]
  exact e b u h nt
theorem Ext0.new (e : Ext0 H0 H) (n : H p = none) : Ext0 H0 (upd H p o) := fun b u h nt => by
  rw [upd_ne (ne_of_none (e b u h nt) n)]
  exact e b u h nt
/-- fresh behind is fresh ahead, but for tables -/
theorem Ext0.at (e : Ext0 H0 H) (h : H0 a = some o) (nt : ∀ ps, o ≠ .tbl ps) : H a = some o := e a o h nt
theorem none_in {b : Addr} (h : ∀ c, c ∈ S → H0 c = none) (n : H0 b = none) : ∀ c, c ∈ b :: S → H0 c = none := fun c m => by
  rcases List.mem_cons.mp m with z | z
  · rw [z]; exact n
  · exact h c z
theorem none_nil : ∀ c, c ∈ ([] : List Addr) → H0 c = none := fun _ m => absurd m List.not_mem_nil
end
/-! ### the dice -/
structure Dice (K : PySem.W.Frag) (H0 H : Hp) (d : Addr) : Prop where
  at_ : ∃ (a : Addr) (ns : List Int) (i m r : Int), H d = some (.lst [.ref a, .int i, .int m, .int r]) ∧ SqL K H0 a (ns.map V.int) ∧ ns.length ≤ 63 ∧ 0 ≤ i
  new : H0 d = none
  ext : Ext0 H0 H
theorem Dice.keep {K : PySem.W.Frag} {H0 H H1 : Hp} {d : Addr} {S : List Addr} (x : Dice K H0 H d) (k : Keep S H H1) (nd : d ∉ S) (n : ∀ b, b ∈ S → H0 b = none) : Dice K H0 H1 d := by
  obtain ⟨⟨a, ns, i, m, r, h1, h2⟩, h3, h4⟩ := x
  exact ⟨⟨a, ns, i, m, r, k.1 _ _ nd h1, h2⟩, h3, h4.keep k n⟩
theorem Dice.lst {K : PySem.W.Frag} {H0 H : Hp} {d : Addr} (x : Dice K H0 H d) : ∃ xs, H d = some (.lst xs) := by
  obtain ⟨⟨a, ns, i, m, r, h1, h2⟩, h3, h4⟩ := x
  exact ⟨_, h1⟩
def spNext (K : PySem.W.Frag) : Sp := fun vs H Q _ => ∃ (H0 : Hp) (d : Addr) (n : Int), vs = [.ref d, .int n] ∧ 0 < n ∧ n < 1073741824 ∧ Dice K H0 H d ∧
  ∀ r H', 0 ≤ r → r < n → Dice K H0 H' d → Keep [d] H H' → Q (.int r) H'
def spDice (K : PySem.W.Frag) : Sp := fun vs H Q _ => ∃ (a : Addr) (ns : List Int), vs = [.ref a] ∧ SqL K H a (ns.map V.int) ∧ ns.length ≤ 63 ∧ ∀ d H', H d = none → Dice K H H' d → Keep [] H H' → Q (.ref d) H'
theorem next_go {K : PySem.W.Frag} {H0 H : Hp} {d : Addr} {n : Int} {Q : VK} {E : XK} (x : Dice K H0 H d) (h0 : 0 < n) (h1 : n < 1073741824) (h : ∀ r H' xs, 0 ≤ r → r < n → Dice K H0 H' d → H' d = some (.lst xs) → Keep [d] H H' → Q (.int r) H') : spNext K [.ref d, .int n] H Q E :=
  ⟨H0, d, n, rfl, h0, h1, x, fun r H' a b c k => by
    obtain ⟨xs, e⟩ := c.lst
    exact h r H' xs a b c e k⟩
theorem pickP {K : PySem.W.Frag} {H : Hp} {p : Addr} {i : Int} {xs : List V} {Q : VK} (Pr : Int → Prop) (e : SqL K H p xs) (i0 : 0 ≤ i) (i1 : i < xs.length) (hp : ∀ x, x ∈ xs → ∃ v, x = .int v ∧ Pr v) (h : ∀ v, Pr v → Q (.int v) H) : rIx K (.ref p) (.int i) H Q := by
  have hl : i.toNat < xs.length := by omega
  obtain ⟨v, ev, pv⟩ := hp _ (List.getElem_mem hl)
  have e2 : i = ((i.toNat : Nat) : Int) := by omega
  refine w_ixL e (v := .int v) ?_ (h v pv)
  rw [e2]
  refine atI_nat ?_
  rw [List.getElem?_eq_getElem hl, ev]
/-! ### settings -/
structure SetOk (m w l a : Int) : Prop where
  m0 : 2 ≤ m
  m1 : m ≤ 64
  w0 : 0 ≤ w
  w1 : w ≤ 16
  l0 : 0 ≤ l
  l1 : l ≤ 8
  a0 : 1 ≤ a
  a1 : a ≤ 16
def spSetting (K : PySem.W.Frag) : Sp := fun vs H Q _ => ∃ (H0 : Hp) (d : Addr), vs = [.ref d] ∧ Dice K H0 H d ∧
  ∀ p m w l a H', SetOk m w l a → H p = none → H' p = some (.tup [.int m, .int w, .int l, .int a]) → Dice K H0 H' d → Keep [d] H H' → Q (.ref p) H'
/-! ### _law_like: the same data -/
def Alike (K : PySem.W.Frag) (H : Hp) : Nat → V → V → Prop
  | 0, _, _ => False
  | n + 1, x, y => (∃ b, x = .bl b ∧ y = .bl b) ∨ (∃ i, x = .int i ∧ y = .int i) ∨ (∃ s, x = .str s ∧ y = .str s) ∨ (x = .non ∧ y = .non) ∨
      (∃ a b xs ys, x = .ref a ∧ y = .ref b ∧ SqT K H a xs ∧ SqT K H b ys ∧ xs.length = ys.length ∧ xs.length ≤ 16777216 ∧ ∀ (k : Nat) u v, xs[k]? = some u → ys[k]? = some v → Alike K H n u v) ∨
      (∃ a b xs ys, x = .ref a ∧ y = .ref b ∧ SqL K H a xs ∧ SqL K H b ys ∧ xs.length = ys.length ∧ xs.length ≤ 16777216 ∧ ∀ (k : Nat) u v, xs[k]? = some u → ys[k]? = some v → Alike K H n u v)
def spLike (K : PySem.W.Frag) (n : Nat) : Sp := fun vs H Q _ => ∃ x y, vs = [x, y] ∧ Alike K H n x y ∧ Q (.bl true) H
theorem like_go {K : PySem.W.Frag} {H : Hp} {n : Nat} {x y : V} {Q : VK} {E : XK} (a : Alike K H n x y) (h : Q (.bl true) H) : spLike K n [x, y] H Q E := ⟨x, y, rfl, a, h⟩
theorem tyT {K : PySem.W.Frag} {H : Hp} {a : Addr} {xs : List V} (h : SqT K H a xs) : TyX K H (.ref a) (.type "tuple") := by
  rcases h with (h | ⟨o, h⟩) | ⟨o, its, n, h, c, _⟩
  · exact .base (.tup h)
  · exact .fTuple h
  · exact .kTuple h c
theorem tyLs {K : PySem.W.Frag} {H : Hp} {a : Addr} {xs : List V} (h : SqL K H a xs) : TyX K H (.ref a) (.type "list") := by
  rcases h with (h | ⟨o, h⟩) | ⟨o, its, n, h, c, _⟩
  · exact .base (.lst h)
  · exact .base (.frz h)
  · exact .kList h c
theorem w_isiB {K : PySem.W.Frag} {H : Hp} {x : V} {t u : String} {k : Bool} {Q : VK} (ht : TyX K H x (.type t)) (hk : kitB t u = some k) (h : Q (.bl k) H) : rIsi K [x, .ty u] H Q := w_isi (.ty u) ht (kit_ty hk) h
/-! ### any sequence that is tracked -/
def seqOf : HO → Option (List V)
  | .lst xs => some xs
  | .tup xs => some xs
  | .frz _ (.lst xs) => some xs
  | .frz _ (.tup xs) => some xs
  | _ => none
section
variable {K : PySem.W.Frag} {H : Hp} {Q : VK} {a : Addr} {xs : List V} {o : HO} {i : Int} {v x : V}
theorem seqOf_sq (e : H a = some o) (q : seqOf o = some xs) : SqL K H a xs ∨ SqT K H a xs := by
  cases o with
  | lst ys => cases q; exact Or.inl (SqL.of e)
  | tup ys => cases q; exact Or.inr (SqT.of e)
  | frz ob u =>
    cases u with
    | lst ys => cases q; exact Or.inl (Or.inl (Or.inr ⟨ob, e⟩))
    | tup ys => cases q; exact Or.inr (Or.inl (Or.inr ⟨ob, e⟩))
    | _ => cases q
  | _ => cases q
theorem w_ixO (e : H a = some o) (q : seqOf o = some xs) (r : atI xs i = some v) (h : Q v H) : rIx K (.ref a) (.int i) H Q := by
  rcases seqOf_sq (K := K) e q with s | s
  · exact w_ixL s r h
  · exact w_ixT s r h
theorem w_ixO2 (r : atI xs i = some v) (e : H a = some o) (q : seqOf o = some xs) (h : Q v H) : rIx K (.ref a) (.int i) H Q := w_ixO e q r h
theorem w_ixL2 (r : atI xs i = some v) (e : SqL K H a xs) (h : Q v H) : rIx K (.ref a) (.int i) H Q := w_ixL e r h
theorem w_ixT2 (r : atI xs i = some v) (e : SqT K H a xs) (h : Q v H) : rIx K (.ref a) (.int i) H Q := w_ixT e r h
theorem w_lenO (e : H a = some o) (q : seqOf o = some xs) (h : Q (.int xs.length) H) : rLenX K [.ref a] H Q := by
  rcases seqOf_sq (K := K) e q with s | s
  · exact w_lenL s h
  · exact w_lenT s h
theorem w_gtupO {n : Nat} {gs : TGs} {σ : L2.St} {R : L2.St → Hp → Prop} (e : H a = some (.tup xs)) (l : xs.length = n) (h : gs xs σ H R) : gTup K n gs (.ref a) σ H R := w_gtup (SqT.of e) l h
theorem w_lisO (e : H a = some o) (q : seqOf o = some xs) (h : ∀ p, H p = none → Q (.ref p) (upd H p (.lst xs))) : rLisX K [.ref a] H Q := by
  rcases seqOf_sq (K := K) e q with s | s
  · exact w_lisL s h
  · exact w_lisT s h
theorem w_inO (e : H a = some o) (q : seqOf o = some xs) (fx : flatV x = true) (fa : xs.all flatV = true) (h : Q (.bl (inV x xs)) H) : rInX K x (.ref a) H Q := by
  rcases seqOf_sq (K := K) e q with s | s
  · exact w_inL s fx fa h
  · exact w_inT s fx fa h
theorem w_ninO (e : H a = some o) (q : seqOf o = some xs) (fx : flatV x = true) (fa : xs.all flatV = true) (h : Q (.bl (!inV x xs)) H) : rNinX K x (.ref a) H Q := by
  rcases seqOf_sq (K := K) e q with s | s
  · exact w_ninL s fx fa h
  · exact w_ninT s fx fa h
theorem chkL {H1 : Hp} {ys : List V} (_ : SqL K H1 a ys) (g : SqL K H a xs) : SqL K H a xs := g
theorem chkT {H1 : Hp} {ys : List V} (_ : SqT K H1 a ys) (g : SqT K H a xs) : SqT K H a xs := g
end
theorem fresh_of (S : List Addr) {H H1 : Hp} {p : Addr} (n : H1 p = none) (k : Keep S H H1) : H p = none := k.2 p n
theorem w_iT {A B : Prop} (h : A) : if true = true then A else B := by rw [if_pos rfl]; exact h
theorem w_iF {A B : Prop} (h : B) : if false = true then A else B := by rw [if_neg Bool.false_ne_true]; exact h
theorem w_nT {A B : Prop} (h : B) : if (!true) = true then A else B := by rw [if_neg (by decide)]; exact h
theorem w_nF {A B : Prop} (h : A) : if (!false) = true then A else B := by rw [if_pos (by decide)]; exact h
def tyOf : HO → Option String
  | .lst _ => some "list"
  | .tup _ => some "tuple"
  | .dK _ => some "dict"
  | .frz _ (.lst _) => some "list"
  | .frz _ (.tup _) => some "tuple"
  | _ => none
theorem tyO {K : PySem.W.Frag} {H : Hp} {a : Addr} {o : HO} {t : String} (e : H a = some o) (q : tyOf o = some t) : TyX K H (.ref a) (.type t) := by
  cases o with
  | lst ys => cases q; exact .base (.lst e)
  | tup ys => cases q; exact .base (.tup e)
  | dK ys => cases q; exact .base (.dK e)
  | frz ob u =>
    cases u with
    | lst ys => cases q; exact .base (.frz e)
    | tup ys => cases q; exact .fTuple e
    | _ => cases q
  | _ => cases q
theorem pe_ty {X : Cx} {x : Str} {T : String} {pos : Pos} (hg : Gl X x) (hm : X.mg x = none) (hv : bootBuiltins x = some (.type T)) (hn : x ≠ "__name__" := by decide) (hd : (x == ("__debug__" : Str)) = false := by decide) : PE X (.Name x pos) (tC (.ty T)) := pe_bltn (v := .ty T) hg hm hv rfl hn hd
section
variable {H : Hp} {Q : VK} {a : Addr} {i : Int} {b : Bool} {s : Str}
theorem w_isNN (h : Q (.bl true) H) : rIsNon .non .non H Q := ⟨rfl, h⟩
theorem w_isNR (h : Q (.bl false) H) : rIsNon (.ref a) .non H Q := ⟨rfl, h⟩
theorem w_isNI (h : Q (.bl false) H) : rIsNon (.int i) .non H Q := ⟨rfl, h⟩
theorem w_isNB (h : Q (.bl false) H) : rIsNon (.bl b) .non H Q := ⟨rfl, h⟩
theorem w_isNS (h : Q (.bl false) H) : rIsNon (.str s) .non H Q := ⟨rfl, h⟩
theorem w_ntNN (h : Q (.bl false) H) : rNotNon .non .non H Q := ⟨rfl, h⟩
theorem w_ntNR (h : Q (.bl true) H) : rNotNon (.ref a) .non H Q := ⟨rfl, h⟩
theorem w_ntNI (h : Q (.bl true) H) : rNotNon (.int i) .non H Q := ⟨rfl, h⟩
/-- two bools that are told -/
theorem w_neTT {K : PySem.W.Frag} (h : Q (.bl false) H) : rNeX K (.bl b) (.bl b) H Q := w_ne rfl (by rw [decide_eq_true rfl]; exact h)
end
/-! ### stores into an instance -/
theorem lt_of {n m : Nat} (h : Nat.blt n m = true) : n < m := by simpa using h
theorem w_sfldP {K : PySem.W.Frag} {H : Hp} {a C dx : Addr} {f : Str} {y : V} {fs fs' : List (Str × V)} {R : Hp → Prop} (e : H a = some (.ins C dx fs)) (c : Cls K C) (nn : NoAttr K C f) (l : fs.length < 1000) (pf : putF f y fs = fs') (h : R (upd H a (.ins C dx fs'))) : kSFld K f y (.ref a) H R :=
  w_sfldK e c nn l (by rw [pf]; exact h)
theorem Keep.own {S : List Addr} {H H1 : Hp} {p : Addr} {o : HO} (k : Keep S H H1) (n : H p = none) : Keep S H (upd H1 p o) := ⟨fun b u m e => by
  rw [upd_ne (ne_of_none e n)]
  exact k.1 b u m e, fun b e => by
  by_cases q : b = p
  · rw [q, upd_same] at e; cases e
  · rw [upd_ne q] at e; exact k.2 b e⟩
theorem Keep.own' {S : List Addr} {H H1 : Hp} {p : Addr} {o : HO} (n : H p = none) (k : Keep S H H1) : Keep S H (upd H1 p o) := k.own n
/-! ### list comprehensions: out i is what is made behind i items -/
def PvOf (H : Hp) (D : Addr) (out : Nat → List V) (i : Nat) (H' : Hp) : Prop := Keep [] H H' ∧ H' D = some (.lst (out i))
def kIn (H : Hp) (D : Addr) (out : Nat → List V) (i : Nat) (y : V) (H4 : Hp) : Prop := ∃ acc, H4 D = some (.lst acc) ∧ acc.length < sizeLine ∧ PvOf H D out (i + 1) (upd H4 D (.lst (acc ++ [y])))
section
variable {K : PySem.W.Frag} {σ : L2.St} {H H4 : Hp} {Q : VK} {D a : Addr} {out : Nat → List V} {i : Nat} {x y : V} {xs : List V} {g : TG} {tt : TT} {te tl : TE} {tr : TA} {vs : List Nat}
theorem kIn_go (n : H D = none) (e : H4 D = some (.lst (out i))) (k : Keep [] H H4) (l : (out i).length < sizeLine) (o : out (i + 1) = out i ++ [y]) : kIn H D out i y H4 :=
  ⟨out i, e, l, k.own n, by rw [upd_same, o]⟩
theorem kOut_go (e : H4 D = some (.lst (out i))) (k : Keep [] H H4) (o : out (i + 1) = out i) : PvOf H D out (i + 1) H4 := ⟨k, by rw [o]; exact e⟩
theorem w_yes {QT : Bool → Hp → Prop} (h : QT true H) : tYes σ H QT := h
/-- a turn -/
abbrev LcTurn (H : Hp) (g : TG) (tt : TT) (te : TE) (vs : List Nat) (σ : L2.St) (D : Addr) (out : Nat → List V) (i : Nat) (x : V) (H' : Hp) : Prop :=
  g x (wipe σ vs) H' fun σ2 H2 => wipe σ2 vs = wipe σ vs ∧ tt σ2 H2 fun b H3 => if b = true then te σ2 H3 fun y H4 => kIn H D out i y H4 else PvOf H D out (i + 1) H3
def kLcL (K : PySem.W.Frag) (g : TG) (tt : TT) (te : TE) (vs : List Nat) (σ : L2.St) (x : V) (H1 : Hp) (Q : VK) : Prop := ∃ a, x = .ref a ∧ (∃ xs, SqL K H1 a xs) ∧ ∀ D, H1 D = none → ∃ W : Nat → Nat → Hp → Prop, (∃ m, W 0 m (upd H1 D (.lst []))) ∧ ∀ i m H, W i m H →
  ((Itl K a).stop i H ∧ Q (.ref D) H) ∨ ((Itl K a).go i H ∧ ∃ Nx : Hp → Prop, (∀ H', Nx H' → ∃ m', m' < m ∧ W (i + 1) m' H') ∧ ∀ x H', (Itl K a).yld i H x H' → g x (wipe σ vs) H' fun σ2 H2 => wipe σ2 vs = wipe σ vs ∧ tt σ2 H2 fun b H3 =>
    if b = true then te σ2 H3 fun y H4 => ∃ acc, H4 D = some (.lst acc) ∧ acc.length < sizeLine ∧ Nx (upd H4 D (.lst (acc ++ [y]))) else Nx H3)
theorem w_lcL (h : tl σ H fun x H1 => kLcL K g tt te vs σ x H1 Q) : tLc (iList K tl) g tt te vs σ H Q := h
theorem l_lcL (e : SqL K H a xs) (out : Nat → List V) (o0 : out 0 = [])
    (hs : ∀ D i x H', H D = none → xs[i]? = some x → Keep [] H H' → H' D = some (.lst (out i)) → LcTurn H g tt te vs σ D out i x H') (hd : ∀ D H', H D = none → Keep [] H H' → H' D = some (.lst (out xs.length)) → Q (.ref D) H') : kLcL K g tt te vs σ (.ref a) H Q :=
  ⟨a, rfl, ⟨xs, e⟩, fun D hD => lc_list (xs := xs) (PvOf H D out) ⟨Keep.refl.own hD, by rw [upd_same, o0]⟩ (fun _ _ _ q => q.1.seqL nin_nil e) (fun i x H' hx q => hs D i x H' hD hx q.1 q.2) fun H' q => hd D H' hD q.1 q.2⟩
def kLcT (K : PySem.W.Frag) (g : TG) (tt : TT) (te : TE) (vs : List Nat) (σ : L2.St) (x : V) (H1 : Hp) (Q : VK) : Prop := ∃ a, x = .ref a ∧ (∃ xs, SqT K H1 a xs) ∧ ∀ D, H1 D = none → ∃ W : Nat → Nat → Hp → Prop, (∃ m, W 0 m (upd H1 D (.lst []))) ∧ ∀ i m H, W i m H →
  ((Itt K a).stop i H ∧ Q (.ref D) H) ∨ ((Itt K a).go i H ∧ ∃ Nx : Hp → Prop, (∀ H', Nx H' → ∃ m', m' < m ∧ W (i + 1) m' H') ∧ ∀ x H', (Itt K a).yld i H x H' → g x (wipe σ vs) H' fun σ2 H2 => wipe σ2 vs = wipe σ vs ∧ tt σ2 H2 fun b H3 =>
    if b = true then te σ2 H3 fun y H4 => ∃ acc, H4 D = some (.lst acc) ∧ acc.length < sizeLine ∧ Nx (upd H4 D (.lst (acc ++ [y]))) else Nx H3)
theorem w_lcT (h : tl σ H fun x H1 => kLcT K g tt te vs σ x H1 Q) : tLc (iTup K tl) g tt te vs σ H Q := h
theorem l_lcT (e : SqT K H a xs) (out : Nat → List V) (o0 : out 0 = [])
    (hs : ∀ D i x H', H D = none → xs[i]? = some x → Keep [] H H' → H' D = some (.lst (out i)) → LcTurn H g tt te vs σ D out i x H') (hd : ∀ D H', H D = none → Keep [] H H' → H' D = some (.lst (out xs.length)) → Q (.ref D) H') : kLcT K g tt te vs σ (.ref a) H Q :=
  ⟨a, rfl, ⟨xs, e⟩, fun D hD => lc_tup (xs := xs) (PvOf H D out) ⟨Keep.refl.own hD, by rw [upd_same, o0]⟩ (fun _ _ _ q => q.1.seqT nin_nil e) (fun i x H' hx q => hs D i x H' hD hx q.1 q.2) fun H' q => hd D H' hD q.1 q.2⟩
def LcR (lo : Int) (n : Nat) (g : TG) (tt : TT) (te : TE) (vs : List Nat) (σ : L2.St) (H1 : Hp) (Q : VK) : Prop := ∀ D, H1 D = none → ∃ W : Nat → Nat → Hp → Prop, (∃ m, W 0 m (upd H1 D (.lst []))) ∧ ∀ i m H, W i m H →
  ((Itr lo n).stop i H ∧ Q (.ref D) H) ∨ ((Itr lo n).go i H ∧ ∃ Nx : Hp → Prop, (∀ H', Nx H' → ∃ m', m' < m ∧ W (i + 1) m' H') ∧ ∀ x H', (Itr lo n).yld i H x H' → g x (wipe σ vs) H' fun σ2 H2 => wipe σ2 vs = wipe σ vs ∧ tt σ2 H2 fun b H3 =>
    if b = true then te σ2 H3 fun y H4 => ∃ acc, H4 D = some (.lst acc) ∧ acc.length < sizeLine ∧ Nx (upd H4 D (.lst (acc ++ [y]))) else Nx H3)
def kLcR1 (g : TG) (tt : TT) (te : TE) (vs : List Nat) (σ : L2.St) (ws : List V) (H1 : Hp) (Q : VK) : Prop := ∃ j : Int, ws = [.int j] ∧ -(2 ^ 62) ≤ j ∧ j < 2 ^ 62 ∧ LcR 0 j.toNat g tt te vs σ H1 Q
def kLcR2 (g : TG) (tt : TT) (te : TE) (vs : List Nat) (σ : L2.St) (ws : List V) (H1 : Hp) (Q : VK) : Prop := ∃ i j : Int, ws = [.int i, .int j] ∧ (-(2 ^ 62) ≤ i ∧ i < 2 ^ 62 ∧ -(2 ^ 62) ≤ j ∧ j < 2 ^ 62) ∧ LcR i (j - i).toNat g tt te vs σ H1 Q
theorem w_lcR1 (h : tr σ H fun ws H1 => kLcR1 g tt te vs σ ws H1 Q) : tLc (iRng1 tr) g tt te vs σ H Q := h
theorem w_lcR2 (h : tr σ H fun ws H1 => kLcR2 g tt te vs σ ws H1 Q) : tLc (iRng2 tr) g tt te vs σ H Q := h
theorem l_lcR {lo : Int} {n : Nat} (out : Nat → List V) (o0 : out 0 = [])
    (hs : ∀ D i H', H D = none → i < n → Keep [] H H' → H' D = some (.lst (out i)) → LcTurn H g tt te vs σ D out i (.int (lo + i)) H') (hd : ∀ D H', H D = none → Keep [] H H' → H' D = some (.lst (out n)) → Q (.ref D) H') : LcR lo n g tt te vs σ H Q :=
  fun D hD => lc_range (PvOf H D out) ⟨Keep.refl.own hD, by rw [upd_same, o0]⟩ (fun i H' hi q => hs D i H' hD hi q.1 q.2) fun H' q => hd D H' hD q.1 q.2
theorem l_lcR1 {j : Int} (b : -(2 ^ 62) ≤ j ∧ j < 2 ^ 62) (out : Nat → List V) (o0 : out 0 = [])
    (hs : ∀ D i H', H D = none → i < j.toNat → Keep [] H H' → H' D = some (.lst (out i)) → LcTurn H g tt te vs σ D out i (.int i) H') (hd : ∀ D H', H D = none → Keep [] H H' → H' D = some (.lst (out j.toNat)) → Q (.ref D) H') : kLcR1 g tt te vs σ [.int j] H Q :=
  ⟨j, rfl, b.1, b.2, l_lcR out o0 (fun D i H' a b c d => by rw [Int.zero_add]; exact hs D i H' a b c d) hd⟩
theorem l_lcR2 {k j : Int} (b : -(2 ^ 62) ≤ k ∧ k < 2 ^ 62 ∧ -(2 ^ 62) ≤ j ∧ j < 2 ^ 62) (out : Nat → List V) (o0 : out 0 = [])
    (hs : ∀ D i H', H D = none → i < (j - k).toNat → Keep [] H H' → H' D = some (.lst (out i)) → LcTurn H g tt te vs σ D out i (.int (k + i)) H') (hd : ∀ D H', H D = none → Keep [] H H' → H' D = some (.lst (out (j - k).toNat)) → Q (.ref D) H') : kLcR2 g tt te vs σ [.int k, .int j] H Q :=
  ⟨k, j, rfl, b, l_lcR out o0 hs hd⟩
end
/-! ### lists of ints -/
theorem flat_ints (ns : List Int) : (ns.map V.int).all flatV = true := by
  induction ns with
  | nil => rfl
  | cons n r ih => simpa [flatV] using ih
theorem inV_ints (i : Int) (ns : List Int) : inV (.int i) (ns.map V.int) = decide (i ∈ ns) := by
  induction ns with
  | nil => simp [inV]
  | cons n r ih =>
    unfold inV at ih ⊢
    rw [List.map_cons, List.any_cons, ih]
    by_cases e : n = i
    · subst e; simp [eqV]
    · have e2 : ¬ i = n := fun z => e z.symm
      simp [eqV, e, e2]
section
variable {K : PySem.W.Frag} {H : Hp} {Q : VK} {a : Addr} {i : Int} {ns : List Int}
theorem w_inI (e : H a = some (.lst (ns.map V.int))) (h : Q (.bl (decide (i ∈ ns))) H) : rInX K (.int i) (.ref a) H Q := w_inL (SqL.of e) rfl (flat_ints ns) (by rw [inV_ints]; exact h)
theorem w_ninI (e : H a = some (.lst (ns.map V.int))) (h : Q (.bl (!decide (i ∈ ns))) H) : rNinX K (.int i) (.ref a) H Q := w_ninL (SqL.of e) rfl (flat_ints ns) (by rw [inV_ints]; exact h)
theorem map_at {x : V} {k : Nat} (h : (ns.map V.int)[k]? = some x) : ∃ c, ns[k]? = some c ∧ x = .int c := by
  rw [List.getElem?_map] at h
  cases e : ns[k]? with
  | none => rw [e] at h; cases h
  | some c => rw [e] at h; exact ⟨c, rfl, (Option.some.inj h).symm⟩
end
/-! ### zip of two tuples -/
def kForZ (K : PySem.W.Frag) (g : TG) (t : TS) (D : Ends) (σ : L2.St) (vs : List V) (H1 : Hp) : Prop := ∃ a b xs ys, vs = [.ref a, .ref b] ∧ ((SqL K H1 a xs ∧ SqL K H1 b ys ∧ ∃ W : Nat → Nat → L2.St → Hp → Prop, (∃ m, W 0 m σ H1) ∧ ∀ i m σ H, W i m σ H →
      ((Itz K a b).stop i H ∧ D.nx σ H) ∨ ((Itz K a b).go i H ∧ ∃ N : L2.St → Hp → Prop, (∀ σ' H', N σ' H' → ∃ m', m' < m ∧ W (i + 1) m' σ' H') ∧ ∀ v H', (Itz K a b).yld i H v H' → g v σ H' fun σ2 H2 => t { D with nx := N, ct := N, bk := D.nx } σ2 H2)) ∨
    (SqT K H1 a xs ∧ SqT K H1 b ys ∧ ∃ W : Nat → Nat → L2.St → Hp → Prop, (∃ m, W 0 m σ H1) ∧ ∀ i m σ H, W i m σ H →
      ((RZ.ItzT K a b).stop i H ∧ D.nx σ H) ∨ ((RZ.ItzT K a b).go i H ∧ ∃ N : L2.St → Hp → Prop, (∀ σ' H', N σ' H' → ∃ m', m' < m ∧ W (i + 1) m' σ' H') ∧ ∀ v H', (RZ.ItzT K a b).yld i H v H' → g v σ H' fun σ2 H2 => t { D with nx := N, ct := N, bk := D.nx } σ2 H2)))
section
variable {K : PySem.W.Frag} {σ : L2.St} {H : Hp} {a b : Addr} {xs ys : List V} {g : TG} {t : TS} {D : Ends} {tr : TA}
theorem w_forZ (h : tr σ H fun vs H1 => kForZ K g t D σ vs H1) : tFor (RZ.iZipA K tr) g t D σ H := h
theorem l_forZT (ea : SqT K H a xs) (eb : SqT K H b ys) (hl : xs.length = ys.length) (Pv : Nat → L2.St → Hp → Prop) (h0 : Pv 0 σ H) (hq : ∀ i σ' H', Pv i σ' H' → SqT K H' a xs ∧ SqT K H' b ys)
    (hs : ∀ (i : Nat) (x y : V) (T : Addr) (σ' : L2.St) (H' : Hp), xs[i]? = some x → ys[i]? = some y → Pv i σ' H' → H' T = none → g (.ref T) σ' (upd H' T (.tup [x, y])) fun σ2 H2 => t { D with nx := Pv (i + 1), ct := Pv (i + 1), bk := D.nx } σ2 H2)
    (hd : ∀ σ' H', Pv xs.length σ' H' → D.nx σ' H') : kForZ K g t D σ [.ref a, .ref b] H := ⟨a, b, xs, ys, rfl, Or.inr ⟨ea, eb, RZ.for_zipT hl Pv h0 hq hs hd⟩⟩
end
section
variable {α β : Type} {l : List α} {i : Nat} {c : α} {p : α → Bool} {f : α → β}
theorem take_at (h : l[i]? = some c) : l.take (i + 1) = l.take i ++ [c] := by rw [List.take_succ, h]; rfl
theorem filt_yes (h : l[i]? = some c) (q : p c = true) : ((l.take (i + 1)).filter p).map f = ((l.take i).filter p).map f ++ [f c] := by rw [take_at h, List.filter_append, List.map_append, List.filter_cons, if_pos q]; rfl
theorem filt_no (h : l[i]? = some c) (q : ¬ p c = true) : ((l.take (i + 1)).filter p).map f = ((l.take i).filter p).map f := by
  rw [take_at h, List.filter_append, List.map_append, List.filter_cons, if_neg q]
  simp
theorem filt_len : (((l.take i).filter p).map f).length ≤ l.length := by
  rw [List.length_map]
  exact Nat.le_trans (List.length_filter_le _ _) (by rw [List.length_take]; exact Nat.min_le_right _ _)
theorem map_succ (h : l[i]? = some c) : (l.take (i + 1)).map f = (l.take i).map f ++ [f c] := by rw [take_at h, List.map_append]; rfl
theorem range_succ {g : Nat → β} : (List.range (i + 1)).map g = (List.range i).map g ++ [g i] := by rw [List.range_succ, List.map_append]; rfl
theorem range_len {g : Nat → β} : ((List.range i).map g).length = i := by rw [List.length_map, List.length_range]
end
/-! ### the rules, the written part named -/
section
variable {X : Cx} {K : PySem.W.Frag} {a e o l value tg : Expr} {ta tv tl to : TE} {tr : TA} {f : Str} {pos pos' p tpos : Pos} {es elts : List Expr} {k kk n : Nat} {t : TGs}
theorem op_plusK (h : X.K = K) : OpR X (binaryOp .Add) (rPlus K) := h ▸ op_plus
theorem op_eqK (h : X.K = K) (hu : X.A.units + 64 < cLine) : OpR X (compareOp .Eq) (rEqX K) := h ▸ op_eqX hu
theorem op_neK (h : X.K = K) (hu : X.A.units + 64 < cLine) : OpR X (compareOp .NotEq) (rNeX K) := h ▸ op_neX hu
theorem op_inK (h : X.K = K) : OpR X (compareOp .In) (rInX K) := h ▸ op_inX
theorem op_ninK (h : X.K = K) : OpR X (compareOp .NotIn) (rNinX K) := h ▸ op_ninX
theorem cr_lenK (h : X.K = K) : CallR X (.builtin "len") (rLenX K) := h ▸ cr_lenX
theorem cr_maxK (h : X.K = K) (hc : X.calm = true) : CallR X (.builtin "max") (rMaxX K) := h ▸ cr_maxX hc
theorem cr_minK (h : X.K = K) (hc : X.calm = true) : CallR X (.builtin "min") (rMinX K) := h ▸ cr_minX hc
theorem cr_tupK (h : X.K = K) : CallR X (.type "tuple") (rTupX K) := h ▸ cr_tupX
theorem cr_lisK (h : X.K = K) : CallR X (.type "list") (rLisX K) := h ▸ cr_lisX
theorem cr_isiK (h : X.K = K) : CallR X (.builtin "isinstance") (rIsi K) := h ▸ call_isi
theorem ix_K (h : X.K = K) : IxR X (rIx K) := h ▸ ix_seq
theorem pe_fldK (h : X.K = K) (he : PE X e ta) (hb : attributeBase e f X.env (eval e X.env) = eval e X.env) : PE X (.Attribute e f pos) (tFld K ta f) := h ▸ pe_fld he hb
theorem ps_fldK (h : X.K = K) (ha : PE X o ta) (hv : PE X value tv) (hs : swapsWith value (some (.Attribute o f pos')) pos.line X.env = pure false) : PS X (.Assign [.Attribute o f pos'] value pos) (sFld K ta tv f) := h ▸ ps_fld ha hv hs
theorem pt_truK (h : X.K = K) (ha : PE X a ta) (he : ∀ whole, isTrue a X.env whole = (do let v ← whole; standAt a.pos; holding [v] (truthy v)) := by intro _; rfl) : PT X a (tTru K ta) := h ▸ pt_tru ha he
theorem pi_listK (h : X.K = K) (hl : PE X l tl) : PI X tg l (iList K tl) := h ▸ pi_list hl
theorem pi_tupK (h : X.K = K) (hl : PE X l tl) : PI X tg l (iTup K tl) := h ▸ pi_tup hl
theorem pi_zipK {e2 : Expr} (h : X.K = K) (hg : Gl X "zip") (hm : X.mg "zip" = none) (ha : PA X [e, e2] tr)
    (hs : starEach [e, e2] X.env = (false, eval e X.env) :: starEach [e2] X.env := by rfl) (hpl : (backTo pos (starEach [e2] X.env)).any (·.1) = false := by rfl) :
    PI X (.Tuple elts kk tpos) (.Call (.Name "zip" p) [e, e2] [] pos) (RZ.iZipA K tr) := h ▸ RZ.pi_zipA hg hm ha hs hpl
theorem pg_tupK (h : X.K = K) (hc : X.calm = true) (hg : PGs X es t) (hn : (assignEach es X.env).length = n := by rfl) (hst : (assignEach es X.env).findIdx? (·.1) = none := by rfl) : PG X (.Tuple es k pos) (gTup K n t) := h ▸ pg_tup hc hg hn hst
theorem pe_bm0K {T id : String} {name : Str} {apos cpos : Pos} {r : V → List V → Hp → VK → Prop} (h : X.K = K) (pa : PlainAttrs T) (slot : Slot T name id) (hty : typeOf (.builtin id) = pure (.type "method_descriptor")) (hm : MtR X id r) (ho : PE X o to)
    (hbase : attributeBase o name X.env (eval o X.env) = eval o X.env := by rfl) (hline : (apos.endLine == cpos.line) = true := by rfl) : PE X (.Call (.Attribute o name apos) [] [] cpos) (tBM0 K T r to) := h ▸ pe_bm0 pa slot hty hm ho hbase hline
theorem pe_bmK {T id : String} {name : Str} {apos cpos : Pos} {r : V → List V → Hp → VK → Prop} (h : X.K = K) (pa : PlainAttrs T) (slot : Slot T name id) (hty : typeOf (.builtin id) = pure (.type "method_descriptor")) (hm : MtR X id r) (ho : PE X o to) (ha : PA X (e :: es) tr)
    (hbase : attributeBase o name X.env (eval o X.env) = eval o X.env := by rfl)
    (hfew : ((backTo cpos (starEach (e :: es) X.env)).all (fun x => !x.1) && (backToKw cpos (keywordEach [] X.env)).all (fun x => x.1.isSome)
      && decide ((e :: es).length + ([] : List Keyword).length + (if ([] : List Keyword).isEmpty then 0 else 1) < 30)) = true := by rfl)
    (hline : (apos.endLine == cpos.line) = true := by rfl) (hs : starEach (e :: es) X.env = (false, eval e X.env) :: starEach es X.env := by rfl) (hplain : (backTo cpos (starEach es X.env)).any (·.1) = false := by rfl) :
    PE X (.Call (.Attribute o name apos) (e :: es) [] cpos) (tBM K T r to tr) := h ▸ pe_bm pa slot hty hm ho ha hbase hfew hline hs hplain
end
/-! ### while -/
def kTurn (W : Nat → L2.St → Hp → Prop) (tb : TS) (D : Ends) (m : Nat) (σ : L2.St) (H1 : Hp) : Prop := ∃ N : L2.St → Hp → Prop, (∀ σ' H', N σ' H' → ∃ m', m' < m ∧ W m' σ' H') ∧ tb { D with nx := N, ct := N, bk := D.nx } σ H1
theorem w_turn {W : Nat → L2.St → Hp → Prop} {tb : TS} {D : Ends} {m : Nat} {σ : L2.St} {H1 : Hp} (h : tb { D with nx := fun σ2 H2 => ∃ m', m' < m ∧ W m' σ2 H2, ct := fun σ2 H2 => ∃ m', m' < m ∧ W m' σ2 H2, bk := D.nx } σ H1) : kTurn W tb D m σ H1 := ⟨_, fun _ _ q => q, h⟩
theorem l_while {c : TT} {tb : TS} {D : Ends} {σ : L2.St} {H : Hp} (W : Nat → L2.St → Hp → Prop) (m0 : Nat) (h0 : W m0 σ H)
    (hs : ∀ m σ' H', W m σ' H' → c σ' H' fun b H1 => if b = true then kTurn W tb D m σ' H1 else D.nx σ' H1) : tWhile c tb D σ H := ⟨W, ⟨m0, h0⟩, hs⟩
/-! ### count of flat items -/
theorem countP_eqU {x : V} : ∀ {xs : List V} {us : List Value}, Vals xs us → xs.all flatV = true → us.countP (eqU x) = xs.countP fun y => eqV y x
  | _, _, .nil, _ => rfl
  | _, _, .cons r t, f => by
    rw [List.all_cons, Bool.and_eq_true] at f
    rw [List.countP_cons, List.countP_cons, countP_eqU t f.2, eqU_of r f.1]
def rCntX (K : PySem.W.Frag) : V → List V → Hp → VK → Prop := fun x xs H Q => ∃ (p : Addr) (ys : List V) (y : V), x = .ref p ∧ xs = [y] ∧ SqL K H p ys ∧ flatV y = true ∧ ys.all flatV = true ∧ Q (.int ((ys.countP fun z => eqV z y : Nat) : Int)) H
theorem mt_countX {X : Cx} : MtR X "list.count" (rCntX X.K) := by
  intro pn s₀ σ₀ H₀ x₀ xs₀ v₀ us₀ Q₀ I₀ rx rxs hq
  obtain ⟨p, ys, y, rfl, rfl, hs, fy, fa, q⟩ := hq
  cases rx
  obtain ⟨u, rfl, ru⟩ := rxs.one
  obtain ⟨its, rv, ⟨⟨cls, dd, data, sl⟩, n, ho, hc, hdn, hd⟩, hlen⟩ := I₀.list hs
  simp only at hc hd
  subst hc hd
  refine call_meets PySem.F.slot_list_count ⟨_, ho, rfl⟩ PySem.F.entry_list_count (PySem.F.args_list_count_2 _ _)
    (SeqAt.list_countAt p its.toArray n dd sl u (eqU y)) ⟨ho, fun z hz => mem_eqAt ru fy rv fa z (by simpa using hz), ?_⟩
  have ec : its.toArray.toList.countP (eqU y) = ys.countP fun z => eqV z y := countP_eqU rv fa
  refine ⟨.int ((ys.countP fun z => eqV z y : Nat) : Int), H₀, I₀.tok _, ⟨s₀.toks, ?_⟩, q⟩
  show Value.int ((its.toArray.toList.countP (eqU y) : Nat) : Int) s₀.toks = Value.int ((ys.countP fun z => eqV z y : Nat) : Int) s₀.toks
  rw [ec]
theorem mt_countK {X : Cx} {K : PySem.W.Frag} (h : X.K = K) : MtR X "list.count" (rCntX K) := h ▸ mt_countX
theorem mt_indexK {X : Cx} {K : PySem.W.Frag} (h : X.K = K) : MtR X "list.index" (rIndex K) := h ▸ mt_index
/-! ### an exception that is caught -/
theorem pe_never {X : Cx} {e : Expr} : PE X e (fun _ _ _ => False) := ⟨fun _ _ _ _ _ _ h => False.elim h⟩
def rIsE2 (K : PySem.W.Frag) (cls : Value) (d : Option Addr) (a : Addr) : List V → Hp → VK → Prop := fun xs H Q => ∃ D, cls = .ref D ∧ d = none ∧ ExcC K D ∧ rIsE K D a xs H Q
theorem call_isE2 {X : Cx} {K : PySem.W.Frag} {a : Addr} {cls : Value} {d : Option Addr} {oe : Obj} {pn : List (Addr × Obj)} (h : X.K = K) (hz : Zc cls d oe) (hf : ∃ vs, oe.data = .fields vs) : CallR (X.suite a ((a, oe) :: pn)) (.builtin "isinstance") (rIsE2 K cls d a) := by
  subst h
  intro pins s σ H xs us Q I r q
  obtain ⟨D, rfl, rfl, C, q⟩ := q
  exact call_isE C hz hf pins s σ H xs us Q I r q
theorem takesLen {X : Cx} {W : WX} (tk : Takes X W) : Takes X (fun cls d σ H => σ.length = X.N.length → W cls d σ H) := fun u s' x => by
  obtain ⟨a, B, sI, pins, σ, H, cls, d, e1, I, r1, r2, r3, r4, r5, r6, q⟩ := x
  exact tk u s' ⟨a, B, sI, pins, σ, H, cls, d, e1, I, r1, r2, r3, r4, r5, r6, q I.len⟩
/-! ### displays of dicts -/
theorem w_pairs0 {σ : L2.St} {H : Hp} {R : List (V × V) → Hp → Prop} (h : R [] H) : tPairs [] σ H R := h
theorem w_pairs {tk tv : TE} {r : List (TE × TE)} {σ : L2.St} {H : Hp} {R : List (V × V) → Hp → Prop} (h : tk σ H fun k H1 => tv σ H1 fun v H2 => tPairs r σ H2 fun ps H3 => R ((k, v) :: ps) H3) : tPairs ((tk, tv) :: r) σ H R := h
def kDisp (p : Addr) (ps : List (V × V)) (H2 : Hp) (Q : VK) : Prop := H2 p = some (.dK []) ∧ ∃ kvs : List (Key × V), ps = kvs.map (fun kv => (kV kv.1, kv.2)) ∧ kvs.length ≤ 15 ∧ Q (.ref p) (upd H2 p (.dK (mergeK [] kvs)))
theorem w_disp {trs : List (TE × TE)} {σ : L2.St} {H : Hp} {Q : VK} (h : ∀ p, H p = none → tPairs trs σ (upd H p (.dK [])) fun ps H2 => kDisp p ps H2 Q) : tDisp trs σ H Q := h
theorem l_disp {p : Addr} {H2 : Hp} {Q : VK} (kvs : List (Key × V)) (e : H2 p = some (.dK [])) (l : kvs.length ≤ 15) (m : mergeK [] kvs = kvs) (h : Q (.ref p) (upd H2 p (.dK kvs))) : kDisp p (kvs.map (fun kv => (kV kv.1, kv.2))) H2 Q :=
  ⟨e, kvs, rfl, l, by rw [m]; exact h⟩
theorem putK_new {kvs : List (Key × V)} {k : Key} {v : V} (h : k ∉ kvs.map (·.1)) : putK kvs k v = kvs ++ [(k, v)] := by
  unfold putK
  rw [if_neg]
  intro z
  rw [List.any_eq_true] at z
  obtain ⟨x, hx, e⟩ := z
  exact h (List.mem_map.mpr ⟨x, hx, of_decide_eq_true e⟩)
theorem merge_nd : ∀ (more kvs : List (Key × V)), ((kvs ++ more).map (·.1)).Nodup → mergeK kvs more = kvs ++ more
  | [], kvs, _ => by rw [List.append_nil]; rfl
  | (k, v) :: r, kvs, h => by
    have hk : k ∉ kvs.map (·.1) := fun m => by
      rw [List.map_append, List.map_cons, List.nodup_append] at h
      exact h.2.2 k m k List.mem_cons_self rfl
    show mergeK (putK kvs k v) r = _
    rw [putK_new hk, merge_nd r (kvs ++ [(k, v)]) (by rw [List.append_assoc]; exact h), List.append_assoc]
    rfl
theorem merge_ok (kvs : List (Key × V)) (h : (kvs.map (·.1)).Nodup) : mergeK [] kvs = kvs := merge_nd kvs [] h
theorem put_hd {κ : Type} [DecidableEq κ] {k : κ} {v x : V} {l : List (κ × V)} (h : k ∉ l.map (·.1)) : putK ((k, x) :: l) k v = (k, v) :: l := by
  unfold putK
  rw [if_pos (by rw [List.any_cons]; simp)]
  rw [List.map_cons, if_pos rfl]
  congr 1
  have e : ∀ y, y ∈ l → (if y.1 = k then (y.1, v) else y) = y := fun y hy => if_neg fun z => h (List.mem_map.mpr ⟨y, hy, z⟩)
  rw [List.map_congr_left e, List.map_id']
theorem put_tl {κ : Type} [DecidableEq κ] {k j : κ} {v x : V} {l : List (κ × V)} (h : ¬ j = k) : putK ((j, x) :: l) k v = (j, x) :: putK l k v := by
  unfold putK
  rw [List.any_cons, decide_eq_false h, Bool.false_or, List.map_cons, if_neg h]
  split <;> rfl
theorem w_dputP {H : Hp} {a : Addr} {v : V} {R : Hp → Prop} {kvs kvs' : List (Key × V)} {s : Str} (e : H a = some (.dK kvs)) (l : kvs.length < sizeLine) (p : putK kvs (Sum.inr s) v = kvs') (h : R (upd H a (.dK kvs'))) : kDPut v (.ref a) (.str s) H R := w_dputS e l (by rw [p]; exact h)
/-- == of scalars alone -/
theorem w_eq0S {s z : Str} {H : Hp} {Q : VK} (h : Q (.bl (decide (s = z))) H) : rEq (.str s) (.str z) H Q := ⟨rfl, by
  have e : decide (V.str s = V.str z) = decide (s = z) := by
    by_cases q : s = z
    · subst q; rw [decide_eq_true rfl, decide_eq_true rfl]
    · rw [decide_eq_false q, decide_eq_false (fun w => q (V.str.inj w))]
  rw [e]; exact h⟩
theorem w_ne0I {i j : Int} {H : Hp} {Q : VK} (h : Q (.bl (!decide (i = j))) H) : rNe (.int i) (.int j) H Q := ⟨rfl, by
  have e : decide (V.int i = V.int j) = decide (i = j) := by
    by_cases q : i = j
    · subst q; rw [decide_eq_true rfl, decide_eq_true rfl]
    · rw [decide_eq_false q, decide_eq_false (fun z => q (V.int.inj z))]
  rw [e]; exact h⟩
section
variable {κ : Type} {k j : κ} {x : V} {l : List (κ × V)}
theorem nk_nil : k ∉ ([] : List (κ × V)).map (·.1) := List.not_mem_nil
theorem nk_cons (h : ¬ k = j) (t : k ∉ l.map (·.1)) : k ∉ ((j, x) :: l).map (·.1) := fun m => by
  rw [List.map_cons] at m
  rcases List.mem_cons.mp m with z | z
  · exact h z
  · exact t z
theorem nd_nil : (([] : List (κ × V)).map (·.1)).Nodup := List.nodup_nil
theorem nd_cons (h : j ∉ l.map (·.1)) (t : (l.map (·.1)).Nodup) : (((j, x) :: l).map (·.1)).Nodup := by
  rw [List.map_cons]
  exact List.nodup_cons.mpr ⟨h, t⟩
end
theorem pe_cls {X : Cx} {x : Str} {C : Addr} {pos : Pos} (hg : Gl X x) (hm : X.mg x = some (.ref C)) (hd : (x == ("__debug__" : Str)) = false := by decide) : PE X (.Name x pos) (tC (.ref C)) := pe_glob (v := .ref C) hg hm rfl hd
section
variable {K : PySem.W.Frag} {H : Hp} {Q : VK} {a : Addr} {ys : List V} {y z : V} {cls : Value} {d : Option Addr}
theorem w_cnt {n : Nat} (e : H a = some (.lst ys)) (fy : flatV y = true) (fa : ys.all flatV = true) (hn : (ys.countP fun z => eqV z y) = n) (h : Q (.int (n : Nat)) H) : rCntX K (.ref a) [y] H Q := ⟨a, ys, y, rfl, rfl, SqL.of e, fy, fa, by rw [hn]; exact h⟩
theorem w_idx (j : Nat) (e : H a = some (.lst ys)) (fy : flatV y = true) (fa : ys.all flatV = true) (hz : ys[j]? = some z) (hy : eqV z y = true) (ha : ∀ (m : Nat) (z' : V), m < j → ys[m]? = some z' → eqV z' y = false) (h : Q (.int (j : Nat)) H) : rIndex K (.ref a) [y] H Q :=
  ⟨a, ys, y, j, z, rfl, rfl, SqL.of e, fy, fa, hz, hy, ha, h⟩
theorem w_isE {D C : Addr} {k : Bool} (hc : cls = .ref D) (hd : d = none) (x : ExcC K D) (hk : PySem.W.kitOne K (.ref D) (.ref C) = some k) (h : Q (.bl k) H) : rIsE2 K cls d a [.ref a, .ref C] H Q := ⟨D, hc, hd, x, .ref C, .ref C, k, rfl, fun _ r => r, hk, h⟩
theorem w_isET {D : Addr} {T : String} {k : Bool} (hc : cls = .ref D) (hd : d = none) (x : ExcC K D) (hk : PySem.W.kitOne K (.ref D) (.type T) = some k) (h : Q (.bl k) H) : rIsE2 K cls d a [.ref a, .ty T] H Q := ⟨D, hc, hd, x, .ty T, .type T, k, rfl, fun _ r => r, hk, h⟩
end
/-- what the text knows of an error class of its own (of six), without an __init__: which of the six it is -/
structure OneBad (K : PySem.W.Frag) (C0 C1 C2 C3 C4 C5 C6 D : Addr) (b1 b2 b3 b4 b5 b6 : Bool) : Prop where
  m : PySem.W.exmOne K (.ref D) (.ref C0) = some true
  x : ExcC K D
  k1 : PySem.W.kitOne K (.ref D) (.ref C1) = some b1
  k2 : PySem.W.kitOne K (.ref D) (.ref C2) = some b2
  k3 : PySem.W.kitOne K (.ref D) (.ref C3) = some b3
  k4 : PySem.W.kitOne K (.ref D) (.ref C4) = some b4
  k5 : PySem.W.kitOne K (.ref D) (.ref C5) = some b5
  k6 : PySem.W.kitOne K (.ref D) (.ref C6) = some b6
  kv : PySem.W.kitOne K (.ref D) (.type "ValueError") = some true
/-- told: what is returned, or the word of the refusal -/
def TTold2 (tab : Value → Str → Prop) : (XK → Hp → VK → Prop) → Hp → VK → Prop := fun tl H Q =>
  tl (fun cls d H' => d = none ∧ ∃ wd, tab cls wd ∧ ∀ p H2, H' p = none → Keep [] H' H2 → H2 p = some (.tup [.str wd]) → Q (.ref p) H2) H Q
theorem w_idxI {K : PySem.W.Frag} {H : Hp} {Q : VK} {a : Addr} {ys : List V} {y z : V} (j : Nat) (jj : Int) (ej : ((j : Nat) : Int) = jj) (e : H a = some (.lst ys)) (fy : flatV y = true) (fa : ys.all flatV = true) (hz : ys[j]? = some z) (hy : eqV z y = true)
    (ha : ∀ (m : Nat) (z' : V), m < j → ys[m]? = some z' → eqV z' y = false) (h : Q (.int jj) H) : rIndex K (.ref a) [y] H Q := w_idx j e fy fa hz hy ha (by rw [ej]; exact h)
/-- no True ahead of the j-th -/
theorem bl_ahead (bs : List Bool) (j : Nat) (h : (bs.take j).all (fun b => !b) = true) : ∀ (m : Nat) (z' : V), m < j → (bs.map V.bl)[m]? = some z' → eqV z' (.bl true) = false := fun m z' hm hz => by
  rw [List.getElem?_map] at hz
  cases e : bs[m]? with
  | none => rw [e] at hz; cases hz
  | some b =>
    rw [e] at hz
    cases hz
    have hb : b ∈ bs.take j := by
      rw [List.mem_iff_getElem?]
      exact ⟨m, by rw [List.getElem?_take, if_pos hm, e]⟩
    have := List.all_eq_true.mp h b hb
    cases b with
    | true => cases this
    | false => rfl
/-- a tuple of the written part -/
theorem sqT_of {K : PySem.W.Frag} {a : Addr} {xs : List V} {o : Obj} {its : Array Value} {n : Nat} (l : K.lookup a = some o) (c : o.cls = .type "tuple") (d : o.data = .seq its n) (z : its.size ≤ sizeLine) (v : Vals xs its.toList) : ∀ H, SqT K H a xs := fun _ => Or.inr ⟨o, its, n, l, c, d, z, v⟩
theorem cx_none {P : Program} {w : World} {H : Hp} {s : Shared} {e : Value} {s' : Shared} (h : L2.CX P w [] H s (fun _ _ _ => False) e s') : False := by
  obtain ⟨_, _, _, _, _, _, _, _, _, _, _, _, z⟩ := h
  exact z
end Ak
namespace Ak
open PySem PySem.Spec PyProof.Rows L2
/-! ### a built-in class called with keywords -/
theorem callWith_typeK {M : Model} {A : Around} {Eb : Value → Shared → Prop} {s : Shared} {env : Env} {pos : Pos} {T : String} {e : Expr} {rest : List Expr} {kws : List Keyword} {Q : Value → Shared → Prop}
    (h : wpAny M A (spliced (backTo pos (starEach (e :: rest) env))) (fun us s1 => wpAny M A (evalAll ((backToKw pos (keywordEach kws env)).map (·.2)))
      (fun ws s2 => wpAny M A (call (.type T) us (((backToKw pos (keywordEach kws env)).filterMap (·.1)).zip ws)) Q Eb s2) Eb s1) Eb s)
    (he : backTo pos (starEach (e :: rest) env) = (false, eval e env) :: backTo pos (starEach rest env) := by rfl) (hp : (backTo pos (starEach (e :: rest) env)).any (·.1) = false := by rfl)
    (ha : (backToKw pos (keywordEach kws env)).all (·.1.isSome) = true := by rfl) (hn : (backToKw pos (keywordEach kws env)).any (·.1.isNone) = false := by rfl) :
    wpAny M A (callWith pos (.type T) [] (backTo pos (starEach (e :: rest) env)) (backToKw pos (keywordEach kws env))) Q Eb s := by
  unfold callWith
  rw [he] at h
  have h2 := evalArgs_kwB (f := .type T) (Q := fun a s1 => wpAny M A (call (.type T) a.pos a.kw) Q Eb s1) ha h
  rw [← he] at h2
  refine wpAny_bind (wpAny_holding (wpAny_mono h2 (fun a s1 h1 => wpAny_bind (wpAny_standAt ?_)) fun _ _ z => z))
  simp only [hp, hn, Bool.or_false]
  refine wpAny_bind (wpAny_pure ?_)
  exact wpAny_bind (wpAny_mono h1 (fun r s2 hr => wpAny_bind (wpAny_holding (wpAny_point (wpAny_pure hr)))) fun _ _ z => z)
/-! ### enumerate(a tuple, start=c) -/
def IteT (K : PySem.W.Frag) (a : Addr) (c : Int) : It :=
  ⟨fun i H => ∃ (xs : List V) (x : V), SqT K H a xs ∧ xs[i]? = some x, fun i H v H' => ∃ T x, v = .ref T ∧ H T = none ∧ H' = upd H T (.tup [.int (c + (i : Int)), x]) ∧ ∀ xs, SqT K H a xs → xs[i]? = some x, fun i H => ∃ xs : List V, SqT K H a xs ∧ xs.length = i⟩
theorem turn_enumT {P : Program} {w : World} {K : PySem.W.Frag} {elts : List Expr} {kk : Nat} {tpos : Pos} (a e it : Addr) (c : Int) :
    Turn P w K (.Tuple elts kk tpos) (IteT K a c) [e, it] e (fun i h => (∃ old, IsEnum h e it (c + (i : Int)) old) ∧ h.IsTupleIter it a i ∧ e ≠ it) where
  mem := by simp
  obj := fun i h st b hb => by
    obtain ⟨⟨old, he⟩, ⟨o, ho, hc, hd⟩, _⟩ := st
    have e' : b = e ∨ b = it := by simpa using hb
    rcases e' with rfl | rfl
    · exact ⟨_, he, fun v q => nomatch q⟩
    · exact ⟨o, ho, fun v q => by rw [hd] at q; cases q⟩
  keep := fun i h h' st k => by
    obtain ⟨⟨old, he⟩, hi, hne⟩ := st
    exact ⟨⟨old, k e (by simp) _ he⟩, hi.at fun o q => k it (by simp) o q, hne⟩
  item := by
    intro X hP hw hK hc i pins s σ H E I hf st hg
    subst hP hw hK
    obtain ⟨⟨old, he⟩, hit, hne⟩ := st
    obtain ⟨xs, x, hq, hx⟩ := hg
    obtain ⟨its, rv, p, hz⟩ := I.tuple hq
    obtain ⟨u, hu, ru⟩ := rv.get hx
    have hel : e < s.heap.objs.size := Heap.lt_size he
    have hil : it < s.heap.objs.size := by obtain ⟨_, q, _⟩ := hit; exact Heap.lt_size q
    obtain ⟨ot, hot, hoc, n, hod⟩ := id p
    have hai : a ≠ it := fun z => by
      obtain ⟨o2, q2, q3, q4⟩ := hit
      rw [z, q2] at hot
      cases hot
      rw [q4] at hod
      cases hod
    have hea : e ≠ a := fun z => by
      rw [← z, show s.heap.get? e = _ from he] at hot
      cases hot
      cases hod
    have hi : i < its.toArray.size := by
      rw [List.size_toArray]
      exact (List.getElem?_eq_some_iff.mp hu).1
    refine wpAny_pyNext_enum_itemC (Draws.tuple (A := X.A.in1) (I.ok.hd hc) it a hai its.toArray) he ⟨hit, p⟩ hi hne (by simp [hne, hea]) fun u' h' tk hP ho hit' hT hsz hk => ?_
    obtain rfl : u' = u := by
      have hP' : its.toArray[i]? = some u' := hP
      rw [List.getElem?_toArray, hu] at hP'
      exact (Option.some.inj hP').symm
    refine ⟨_, rfl, wpAny_letOwnedTupleGo_enum (s := { s with heap := h', toks := tk + 1 }) ho fun h'' he' sb => ?_⟩
    have hT2 : h''.get? s.heap.objs.size = some { cls := .type "tuple", data := .seq #[.int (c + (i : Int)) tk, u'] } := (sb.2 _ (Nat.ne_of_gt hel)).trans hT
    have made : ObjOk X.prog X.w (upd H s.heap.objs.size (.tup [.int (c + (i : Int)), x])) h'' s.heap.objs.size (.tup [.int (c + (i : Int)), x]) :=
      ⟨by show 2 ≤ sizeLine; decide, [.int (c + (i : Int)) tk, u'], .cons ⟨_, rfl⟩ (.cons ru .nil), ⟨_, hT2, rfl, _, rfl⟩⟩
    have I1 : Inv X pins σ (upd H s.heap.objs.size (.tup [.int (c + (i : Int)), x])) { s with heap := h'', toks := tk + 1 } :=
      I.turnedNew (ch := [e, it]) (fun b ob hb q => (sb.2 b (fun z => hb (by simp [z]))).trans (hk b ob (fun z => hb (by simp [z])) (fun z => hb (by simp [z])) q)) hf (Nat.le_refl _) made
    refine ⟨.ref s.heap.objs.size, _, I1, rfl, ⟨_, x, rfl, I.hok.fresh (Nat.le_refl _), rfl, fun ys hy => by rw [I.tuple_inj hy hq]; exact hx⟩, ⟨⟨u', ?_⟩, hit'.1.at fun o q => (sb.2 it (Ne.symm hne)).trans q, hne⟩, fun b hb => ?_⟩
    · have e1 : c + ((i + 1 : Nat) : Int) = c + (i : Int) + 1 := by omega
      rw [e1]
      exact he'
    · have hlt : b < s.heap.objs.size := by
        have e' : b = e ∨ b = it := by simpa using hb
        rcases e' with rfl | rfl
        · exact hel
        · exact hil
      rw [upd_ne (Nat.ne_of_lt hlt)]
      exact (hf b hb).1
  done := by
    intro X hP hw hK hc i pins s σ H E I hf st hg
    subst hP hw hK
    obtain ⟨⟨old, he⟩, hit, hne⟩ := st
    obtain ⟨xs, hq, hx⟩ := hg
    obtain ⟨its, rv, p, hz⟩ := I.tuple hq
    obtain ⟨f0, f1, f2, f3, f4, f5⟩ := hf it (by simp)
    obtain ⟨ot, hot, hoc, n, hod⟩ := id p
    have hai : a ≠ it := fun z => by
      obtain ⟨o2, q2, q3, q4⟩ := hit
      rw [z, q2] at hot
      cases hot
      rw [q4] at hod
      cases hod
    have hi : i = its.toArray.size := by
      rw [List.size_toArray, ← rv.length]
      exact hx.symm
    rw [hi] at hit
    exact wpAny_pyNext_enum_endD (Draws.tuple (A := X.A.in1) (I.ok.hd hc) it a hai its.toArray) he ⟨hit, p⟩ fun h' eb => ⟨rfl, I.turned (t' := s.toks) (fun b o hb q => eb b o hb q) f0 f1 f3 f4 f5⟩
  self := fun A i s Q E st h => by
    obtain ⟨⟨_, he⟩, _⟩ := st
    exact wpAny_pyIter_enum he h
def iEnumTS (K : PySem.W.Frag) (ta tk : TA) : TI := fun σ H R => ta σ H fun vs H1 => tk σ H1 fun ks H2 => ∃ a xs c, vs = [.ref a] ∧ ks = [.int c] ∧ -(2 ^ 63) ≤ c ∧ c < 2 ^ 63 ∧ SqT K H2 a xs ∧ R (IteT K a c) H2
theorem pi_enumTS {X : Cx} {K : PySem.W.Frag} {e ke : Expr} {ta tk : TA} {p pos tpos kp : Pos} {elts : List Expr} {kk : Nat} (hX : X.K = K) (hg : Gl X "enumerate") (hm : X.mg "enumerate" = none) (ha : PA X [e] ta) (hk : PK X [⟨some "start", ke, kp⟩] tk)
    (he : backTo pos (starEach [e] X.env) = (false, eval e X.env) :: backTo pos (starEach [] X.env) := by rfl) (hs : (backTo pos (starEach [e] X.env)).any (·.1) = false := by rfl) :
    PI X (.Tuple elts kk tpos) (.Call (.Name "enumerate" p) [e] [⟨some "start", ke, kp⟩] pos) (iEnumTS K ta tk) := by
  subst hX
  refine ⟨fun pins s σ H R I h => ?_⟩
  refine wpAny_Call_Name_kw (ld_blt I hg hm PyProof.Rows.boot_enumerate (callWith_typeK (thn (ha.run pos pins s σ H _ I h) fun us s1 ⟨vs, H1, I1, r1, q1⟩ => thn (hk.run pos pins s1 σ H1 _ I1 q1) fun ws s2 ⟨ks, H2, I2, r2, q2⟩ => ?_) he hs))
  obtain ⟨a, xs, c, rfl, rfl, c0, c1, hq, q⟩ := q2
  obtain rfl := Vals.ref1 r1
  obtain ⟨w1, rfl, t, rfl⟩ := vals1 r2
  obtain ⟨its, rv, p', hz⟩ := I2.tuple hq
  show wpAny _ _ (call (.type "enumerate") [.ref a] [(Str.ofString "start", .int c t)]) _ _ s2
  refine enum_begins_start (begins_tuple a its.toArray) p' c0 c1 fun h' hen hit hsz hkp => wpAny_pyIter_enum hen ?_
  have I3 : Inv X pins σ H2 { s2 with heap := h' } := I2.kept (t' := s2.toks) hkp
  refine ⟨s2.heap.objs.size + 1, [s2.heap.objs.size + 1, s2.heap.objs.size], _, _, H2, rfl, I3, turn_enumT a (s2.heap.objs.size + 1) s2.heap.objs.size c, ⟨⟨.none, by rw [show c + ((0 : Nat) : Int) = c by omega]; exact hen⟩, ⟨_, hit, rfl, rfl⟩, Nat.succ_ne_self _⟩, fun b hb => ?_, q⟩
  have e' : b = s2.heap.objs.size + 1 ∨ b = s2.heap.objs.size := by simpa using hb
  have hle : s2.heap.objs.size ≤ b := by
    rcases e' with rfl | rfl
    · exact Nat.le_add_right _ _
    · exact Nat.le_refl _
  exact I2.fpOk hle (I2.hok.fresh hle)
end Ak
namespace Ak
open PySem PySem.Spec PyProof.Rows L2
/-! ### sorted ints -/
def srt (ns : List Int) : List Int := ns.mergeSort fun a b => decide (a ≤ b)
theorem srt_perm (ns : List Int) : (srt ns).Perm ns := List.mergeSort_perm _ _
theorem srt_le (ns : List Int) : (srt ns).Pairwise (· ≤ ·) := by
  have h := List.pairwise_mergeSort (le := fun (a b : Int) => decide (a ≤ b)) (fun a b c h1 h2 => by
    rw [decide_eq_true_eq] at h1 h2 ⊢
    omega) (fun a b => by
    rw [Bool.or_eq_true, decide_eq_true_eq, decide_eq_true_eq]
    omega) ns
  exact h.imp fun h1 => of_decide_eq_true h1
theorem srt_eq {ns ms : List Int} (p : ms.Perm ns) (s : ms.Pairwise (· ≤ ·)) : ms = srt ns :=
  List.Perm.eq_of_pairwise (le := fun (a b : Int) => a ≤ b) (fun a b _ _ h1 h2 => Int.le_antisymm h1 h2) s (srt_le ns) (p.trans (srt_perm ns).symm)
theorem srt_of {ns : List Int} (s : ns.Pairwise (· ≤ ·)) : srt ns = ns := (srt_eq (List.Perm.refl ns) s).symm
theorem srt_congr {ns ms : List Int} (p : ms.Perm ns) : srt ms = srt ns := srt_eq ((srt_perm ms).trans p) (srt_le ms)
theorem srt_mem {ns : List Int} {x : Int} : x ∈ srt ns ↔ x ∈ ns := (srt_perm ns).mem_iff
theorem srt_len {ns : List Int} : (srt ns).length = ns.length := (srt_perm ns).length_eq
theorem srt_filter {ns : List Int} (q : Int → Bool) : (srt ns).filter q = srt (ns.filter q) := srt_eq ((srt_perm ns).filter q) ((srt_le ns).filter q)
theorem srt_nodup {ns : List Int} (h : ns.Nodup) : (srt ns).Nodup := (srt_perm ns).nodup_iff.mpr h
/-- sorted: of a list of ints, of a dict's int keys, of any length -/
def rSortDI : List V → Hp → VK → Prop := fun xs H Q => ∃ (a : Addr) (kvs : List (Key × V)) (ks : List Int), xs = [.ref a] ∧ H a = some (.dK kvs) ∧ kvs.map (·.1) = ks.map Sum.inl ∧ ∀ (ys : List Int) (p : Addr), ys.Perm ks → ys.Pairwise (· ≤ ·) → H p = none → Q (.ref p) (upd H p (.lst (ys.map V.int)))
theorem cr_sortDI {X : Cx} (hcalm : X.calm = true) : CallR X (.builtin "sorted") rSortDI := by
  intro pins s σ H xs us Q I r q
  obtain ⟨a, kvs, ks, rfl, hd, hks, q⟩ := q
  obtain rfl := Vals.ref1 r
  obtain ⟨z, lo, vs, rel, dd⟩ := dk_rd I.hok (Or.inl hd)
  obtain ⟨ep, hat⟩ := dd.dictAt
  have hkeys : vs.map (·.1) = ks.map Sum.inl := rel.keys.symm.trans hks
  have hl : vs.length = ks.length := by
    have e := congrArg List.length hkeys
    rwa [List.length_map, List.length_map] at e
  have hz : vs.length ≤ sizeLine := by
    have e := congrArg List.length hks
    rw [List.length_map, List.length_map] at e
    omega
  refine Calls.call_function_entry PyProof.Rows.kind_sorted PyProof.Rows.plain_sorted PyProof.Rows.entry_sorted (PyProof.Rows.args_sorted1 _) ?_
  unfold Builtin.«sorted»
  refine wpAny_bind (m := checkCount "sorted" 1 1 _) (wpAny_pure ?_)
  refine wpAny_bind (PySem.W.kdu_collect (A := X.A.in1) (PySem.W.kdl_dict (knd := mixKind X.prog X.w) (kvs := vs) (ep := ep) lo) (I.ok.hd hcalm) hat hz fun h1 tk acc hk hacc => ?_)
  have hal : acc.toList.length = ks.length := by rw [Array.length_toList, hacc.1, hl]
  have hS : IntsAre acc.toList ks := ints_each hal fun j v e => by
    obtain ⟨k, x, e1, e2⟩ := hacc.2 j v (by rw [← Array.getElem?_toList]; exact e)
    have e3 : (vs.map (·.1))[j]? = some k := by rw [List.getElem?_map, e1]; rfl
    rw [hkeys, List.getElem?_map] at e3
    cases e4 : ks[j]? with
    | none => rw [e4] at e3; cases e3
    | some y =>
      rw [e4] at e3
      obtain rfl : Sum.inl y = k := Option.some.inj e3
      rcases keyIs_shape (show keyIs (Sum.inl y) v = true from e2) with ⟨i, t, ek, ev⟩ | ⟨z, t, ek, ev⟩
      · cases ek
        exact ⟨y, t, rfl, ev⟩
      · cases ek
  have I1 : Inv X pins σ H { s with heap := h1, toks := tk } := I.kept hk
  have hal2 : acc.toList.length ≤ sizeLine := by rw [hal, ← hl]; exact hz
  refine wpAny_bind (wpAny_newList ?_ hal2)
  have hoL : (h1.push (seqObj "list" acc.toList.toArray 0)).get? h1.objs.size = some (seqObj "list" acc.toList.toArray 0) := Heap.get?_push_size _ rfl
  show wpAny _ _ _ _ _ { s with heap := h1.push (seqObj "list" acc.toList.toArray 0), toks := tk }
  refine wpAny_bind (wpAny_holding (wpAny_call_entry PyProof.Rows.slot_list_sort ⟨_, hoL, rfl⟩ PyProof.Rows.entry_list_sort
    (SrtO.list_sort_ord (s := { s with heap := h1.push (seqObj "list" acc.toList.toArray 0), toks := tk }) SrtO.swo_int hoL hal2 (fun h2 => SrtO.ints_sortable hS h2) fun out g1 g2 => ⟨_, rfl, ?_⟩) (PyProof.Rows.args_list_sort _)))
  obtain ⟨k1, k2, k3⟩ := SrtO.ints_out hS g1 g2
  obtain ⟨e', he'⟩ := PyProof.Rows.sortedHeap_at (vs := acc.toList) (out := out.toArray) hoL
  have hlen : ((out.map SrtO.iv).map V.int).length ≤ sizeLine := by
    rw [List.length_map, k2.length_eq, ← hl]
    exact hz
  refine wpAny_pure ⟨_, rfl, .ref h1.objs.size, upd H h1.objs.size (.lst ((out.map SrtO.iv).map V.int)), I1.laid (t' := tk) (fun b u e => ?_) (Nat.le_refl _)
    (show ObjOk X.prog X.w _ _ _ (.lst ((out.map SrtO.iv).map V.int)) from ⟨hlen, out, e', vals_of_ints k1, he'⟩), rfl, q _ _ k2 k3 (I1.hok.fresh (Nat.le_refl _))⟩
  have hb : b < h1.objs.size := Heap.lt_size e
  rw [PyProof.Rows.sortedHeap_old (Nat.ne_of_lt hb) (by rw [size_push']; exact Nat.lt_succ_of_lt hb)]
  exact Heap.get?_push_of_some _ e
def rSortX (K : PySem.W.Frag) : List V → Hp → VK → Prop := fun xs H Q => rSortedI K xs H Q ∨ rSortDI xs H Q
theorem cr_sortK {X : Cx} {K : PySem.W.Frag} (h : X.K = K) (hc : X.calm = true) : CallR X (.builtin "sorted") (rSortX K) := by
  subst h
  exact CallR.or cr_sortedI (cr_sortDI hc)
/-! ### dicts whose keys are ints, each True -/
def sureD (ks : List Int) : List (Key × V) := ks.map fun k => (Sum.inl k, V.bl true)
section
variable {K : PySem.W.Frag} {H : Hp} {Q : VK} {a : Addr} {ns ks : List Int} {k : Int} {R : Hp → Prop}
theorem w_sortL (e : SqL K H a (ns.map V.int)) (h : ∀ p, H p = none → Q (.ref p) (upd H p (.lst ((srt ns).map V.int)))) : rSortX K [.ref a] H Q := Or.inl ⟨a, ns, rfl, e, fun ys p hp hs n => by rw [srt_eq hp hs]; exact h p n⟩
theorem w_sortO (e : H a = some (.lst (ns.map V.int))) (h : ∀ p, H p = none → Q (.ref p) (upd H p (.lst ((srt ns).map V.int)))) : rSortX K [.ref a] H Q := w_sortL (SqL.of e) h
theorem sureD_keys : (sureD ks).map (·.1) = ks.map Sum.inl := by unfold sureD; rw [List.map_map]; rfl
theorem w_sortD (e : H a = some (.dK (sureD ks))) (h : ∀ p, H p = none → Q (.ref p) (upd H p (.lst ((srt ks).map V.int)))) : rSortX K [.ref a] H Q := Or.inr ⟨a, _, ks, rfl, e, sureD_keys, fun ys p hp hs n => by rw [srt_eq hp hs]; exact h p n⟩
theorem val_sure : (valV (sureD ks) (Sum.inl k)).isSome = decide (k ∈ ks) := by
  unfold sureD
  induction ks with
  | nil => rfl
  | cons j r ih =>
    rw [List.map_cons]
    by_cases e : j = k
    · subst e
      rw [val_hd, decide_eq_true List.mem_cons_self]
      rfl
    · rw [val_tl (fun z => e (Sum.inl.inj z)), ih]
      by_cases m : k ∈ r
      · rw [decide_eq_true m, decide_eq_true (List.mem_cons_of_mem _ m)]
      · rw [decide_eq_false m, decide_eq_false (fun z => (List.mem_cons.mp z).elim (fun z => e z.symm) m)]
theorem sure_put (n : k ∉ ks) : putK (sureD ks) (Sum.inl k) (.bl true) = sureD (ks ++ [k]) := by
  rw [putK_new]
  · unfold sureD
    rw [List.map_append]
    rfl
  · rw [sureD_keys]
    intro m
    obtain ⟨j, hj, e⟩ := List.mem_map.mp m
    exact n (Sum.inl.inj e ▸ hj)
def kDNot (y x : V) (H : Hp) (Q : VK) : Prop := ∃ a o, x = .ref a ∧ DGet H a y o ∧ Q (.bl (!o.isSome)) H
theorem w_dnot {ty td : TE} {σ : L2.St} (h : ty σ H fun y H1 => td σ H1 fun x H2 => kDNot y x H2 Q) : tDNotIn ty td σ H Q := h
theorem w_dnotS (e : H a = some (.dK (sureD ks))) (h : Q (.bl (!decide (k ∈ ks))) H) : kDNot (.int k) (.ref a) H Q := ⟨a, _, rfl, DGet.k (k := Sum.inl k) e, by rw [val_sure]; exact h⟩
theorem sureD_len : (sureD ks).length = ks.length := by unfold sureD; rw [List.length_map]
theorem w_dputN (e : H a = some (.dK (sureD ks))) (n : k ∉ ks) (l : ks.length < sizeLine) (h : R (upd H a (.dK (sureD (ks ++ [k]))))) : kDPut (.bl true) (.ref a) (.int k) H R := w_dputI e (by rw [sureD_len]; exact l) (by rw [sure_put n]; exact h)
end
/-! ### o.f += e -/
section
variable {K : PySem.W.Frag} {σ : L2.St} {H : Hp} {D : Ends} {ta tv : TE} {rd : V → V → Hp → VK → Prop} {f : Str} {x v : V} {a C dx : Addr} {fs : List (Str × V)} {i j : Int} {Q : VK}
def kFA (K : PySem.W.Frag) (f : Str) (tv : TE) (rd : V → V → Hp → VK → Prop) (D : Ends) (σ : L2.St) (x : V) (H1 : Hp) : Prop := ∃ a C dx fs v, x = .ref a ∧ H1 a = some (.ins C dx fs) ∧ Cls K C ∧ NoAttr K C f ∧ fs.lookup f = some v ∧
  tv σ H1 fun y H2 => rd v y H2 fun z H3 => ∃ dx' fs', H3 a = some (.ins C dx' fs') ∧ fs'.length < 1000 ∧ D.nx σ (upd H3 a (.ins C dx' (putF f z fs')))
def kFS (f : Str) (a C : Addr) (D : Ends) (σ : L2.St) (z : V) (H3 : Hp) : Prop := ∃ dx' fs', H3 a = some (.ins C dx' fs') ∧ fs'.length < 1000 ∧ D.nx σ (upd H3 a (.ins C dx' (putF f z fs')))
theorem w_fldaug (h : ta σ H fun x H1 => kFA K f tv rd D σ x H1) : sFldAug K ta tv rd f D σ H := h
theorem w_fa (e : H a = some (.ins C dx fs)) (c : Cls K C) (nn : NoAttr K C f) (l : fs.lookup f = some v) (h : tv σ H fun y H2 => rd v y H2 fun z H3 => kFS f a C D σ z H3) : kFA K f tv rd D σ (.ref a) H := ⟨a, C, dx, fs, v, rfl, e, c, nn, l, h⟩
theorem w_fs {z : V} {fs' : List (Str × V)} (e : H a = some (.ins C dx fs)) (l : fs.length < 1000) (p : putF f z fs = fs') (h : D.nx σ (upd H a (.ins C dx fs'))) : kFS f a C D σ z H := ⟨dx, fs, e, l, by rw [p]; exact h⟩
theorem w_addI (h : Q (.int (i + j)) H) : rAdd (.int i) (.int j) H Q := ⟨i, j, rfl, rfl, h⟩
theorem w_subI (h : Q (.int (i - j)) H) : rSub (.int i) (.int j) H Q := ⟨i, j, rfl, rfl, h⟩
end
/-! ### comprehensions over enumerate(a tuple, start=c) -/
section
variable {K : PySem.W.Frag} {σ : L2.St} {H : Hp} {Q : VK} {a : Addr} {xs : List V} {g : TG} {tt : TT} {te : TE} {ta tk : TA} {vs : List Nat} {c : Int}
def kLcE (K : PySem.W.Frag) (g : TG) (tt : TT) (te : TE) (vs : List Nat) (σ : L2.St) (ws ks : List V) (H1 : Hp) (Q : VK) : Prop := ∃ a xs c, ws = [.ref a] ∧ ks = [.int c] ∧ -(2 ^ 63) ≤ c ∧ c < 2 ^ 63 ∧ SqT K H1 a xs ∧ ∀ D, H1 D = none → ∃ W : Nat → Nat → Hp → Prop, (∃ m, W 0 m (upd H1 D (.lst []))) ∧ ∀ i m H, W i m H →
  ((IteT K a c).stop i H ∧ Q (.ref D) H) ∨ ((IteT K a c).go i H ∧ ∃ Nx : Hp → Prop, (∀ H', Nx H' → ∃ m', m' < m ∧ W (i + 1) m' H') ∧ ∀ x H', (IteT K a c).yld i H x H' → g x (wipe σ vs) H' fun σ2 H2 => wipe σ2 vs = wipe σ vs ∧ tt σ2 H2 fun b H3 =>
    if b = true then te σ2 H3 fun y H4 => ∃ acc, H4 D = some (.lst acc) ∧ acc.length < sizeLine ∧ Nx (upd H4 D (.lst (acc ++ [y]))) else Nx H3)
theorem w_lcE (h : ta σ H fun ws H1 => tk σ H1 fun ks H2 => kLcE K g tt te vs σ ws ks H2 Q) : tLc (iEnumTS K ta tk) g tt te vs σ H Q := h
theorem l_lcE (e : SqT K H a xs) (c0 : -(2 ^ 63) ≤ c) (c1 : c < 2 ^ 63) (out : Nat → List V) (o0 : out 0 = [])
    (hs : ∀ D i x T H', H D = none → xs[i]? = some x → Keep [] H H' → H' D = some (.lst (out i)) → H' T = none → LcTurn H g tt te vs σ D out i (.ref T) (upd H' T (.tup [.int (c + (i : Int)), x])))
    (hd : ∀ D H', H D = none → Keep [] H H' → H' D = some (.lst (out xs.length)) → Q (.ref D) H') : kLcE K g tt te vs σ [.ref a] [.int c] H Q := by
  refine ⟨a, xs, c, rfl, rfl, c0, c1, e, fun D hD => ⟨fun i m H' => PvOf H D out i H' ∧ m + i = xs.length, ⟨xs.length, ⟨Keep.refl.own hD, by rw [upd_same, o0]⟩, rfl⟩, fun i m H' ⟨pv, hm⟩ => ?_⟩⟩
  have eH : SqT K H' a xs := pv.1.seqT nin_nil e
  by_cases hi : i < xs.length
  · refine Or.inr ⟨⟨xs, xs[i], eH, List.getElem?_eq_getElem hi⟩, PvOf H D out (i + 1), fun H2 q => ⟨m - 1, by omega, q, by omega⟩, fun x H2 hy => ?_⟩
    obtain ⟨T, y, rfl, nT, rfl, hx⟩ := hy
    exact hs D i y T H' hD (hx xs eH) pv.1 pv.2 nT
  · obtain rfl : i = xs.length := by omega
    exact Or.inl ⟨⟨xs, eH, rfl⟩, hd D H' hD pv.1 pv.2⟩
end
/-! for over a tuple -/
section
variable {K : PySem.W.Frag} {σ : L2.St} {H : Hp} {a : Addr} {xs : List V} {g : TG} {t : TS} {D : Ends} {te : TE} {Q : VK} {i : Int}
def kForT (K : PySem.W.Frag) (g : TG) (t : TS) (D : Ends) (σ : L2.St) (x : V) (H1 : Hp) : Prop := ∃ a, x = .ref a ∧ (∃ xs, SqT K H1 a xs) ∧ ∃ W : Nat → Nat → L2.St → Hp → Prop, (∃ m, W 0 m σ H1) ∧ ∀ i m σ H, W i m σ H →
      ((Itt K a).stop i H ∧ D.nx σ H) ∨ ((Itt K a).go i H ∧ ∃ N : L2.St → Hp → Prop, (∀ σ' H', N σ' H' → ∃ m', m' < m ∧ W (i + 1) m' σ' H') ∧ ∀ x H', (Itt K a).yld i H x H' → g x σ H' fun σ2 H2 => t { D with nx := N, ct := N, bk := D.nx } σ2 H2)
theorem w_forTup (h : te σ H fun x H1 => kForT K g t D σ x H1) : tFor (iTup K te) g t D σ H := h
theorem l_forTup (e : SqT K H a xs) (Pv : Nat → L2.St → Hp → Prop) (h0 : Pv 0 σ H) (hl : ∀ i σ' H', i ≤ xs.length → Pv i σ' H' → SqT K H' a xs)
    (hs : ∀ i x σ' H', xs[i]? = some x → Pv i σ' H' → g x σ' H' fun σ2 H2 => t { D with nx := Pv (i + 1), ct := Pv (i + 1), bk := D.nx } σ2 H2) (hd : ∀ σ' H', Pv xs.length σ' H' → D.nx σ' H') : kForT K g t D σ (.ref a) H :=
  ⟨a, rfl, ⟨xs, e⟩, for_tup Pv h0 hl hs hd⟩
end
theorem w_dnewK {σ : L2.St} {H : Hp} {Q : VK} (h : ∀ p, H p = none → Q (.ref p) (upd H p (.dK []))) : tDNewK σ H Q := h
end Ak
namespace Ak
open PySem PySem.Spec PyProof.Rows L2
/-! ### slices -/
def rSlX (K : PySem.W.Frag) : V → Option Int → Option Int → Hp → VK → Prop := fun x lo hi H Q => rSlL K x lo hi H Q ∨ rSlS x lo hi H Q
theorem sl_K {X : Cx} {K : PySem.W.Frag} (h : X.K = K) : SlR X (rSlX K) := by
  subst h
  intro pins s σ H x v vl vu lo hi sl Q I rx h1 h2 h3 q
  rcases q with q | q
  · exact sl_list pins s σ H x v vl vu lo hi sl Q I rx h1 h2 h3 q
  · exact sl_str pins s σ H x v vl vu lo hi sl Q I rx h1 h2 h3 q
section
variable {K : PySem.W.Frag} {σ : L2.St} {H : Hp} {Q : VK} {te : TE} {tl th : TO} {r : V → Option Int → Option Int → Hp → VK → Prop} {R : Option Int → Hp → Prop} {i j : Int} {a : Addr} {xs ys : List V} {S : Hp → Prop}
theorem w_slice (h : te σ H fun x H1 => tl σ H1 fun l H2 => th σ H2 fun u H3 => r x l u H3 Q) : tSl r te tl th σ H Q := h
theorem w_noP (h : R none H) : tNoPart σ H R := h
theorem w_part (h : te σ H fun x H1 => ∃ i, x = .int i ∧ R (some i) H1) : tPart te σ H R := h
theorem w_isI {R : Int → Prop} (h : R i) : ∃ j, V.int i = .int j ∧ R j := ⟨i, rfl, h⟩
theorem cut_take (h : 0 ≤ i) : cutV xs none (some i) = xs.take i.toNat := by
  unfold cutV HT.sIx
  simp only [List.drop_zero, Nat.sub_zero]
  rw [if_neg (by omega)]
  by_cases q : i.toNat ≤ xs.length
  · rw [Nat.min_eq_left q]
  · rw [Nat.min_eq_right (by omega), List.take_length, List.take_of_length_le (by omega)]
theorem cut_drop (h : 0 ≤ i) : cutV xs (some i) none = xs.drop i.toNat := by
  unfold cutV HT.sIx
  simp only []
  rw [if_neg (by omega)]
  by_cases q : i.toNat ≤ xs.length
  · rw [Nat.min_eq_left q, List.take_of_length_le (by rw [List.length_drop]; omega)]
  · rw [Nat.min_eq_right (by omega), List.drop_length, List.drop_of_length_le (by omega), List.take_nil]
theorem w_slTake (e : SqL K H a xs) (i0 : 0 ≤ i) (h : ∀ p, H p = none → Q (.ref p) (upd H p (.lst (xs.take i.toNat)))) : rSlX K (.ref a) none (some i) H Q := Or.inl ⟨a, xs, rfl, e, by rw [cut_take i0]; exact h⟩
theorem w_slDrop (e : SqL K H a xs) (i0 : 0 ≤ i) (h : ∀ p, H p = none → Q (.ref p) (upd H p (.lst (xs.drop i.toNat)))) : rSlX K (.ref a) (some i) none H Q := Or.inl ⟨a, xs, rfl, e, by rw [cut_drop i0]; exact h⟩
/-! ### extend -/
theorem w_ext {b : Addr} (e : H a = some (.lst xs)) (e2 : H b = some (.lst ys)) (l : xs.length + ys.length ≤ sizeLine) (h : Q .non (upd H a (.lst (xs ++ ys)))) : rExtend (.ref a) [.ref b] H Q := ⟨a, b, xs, ys, rfl, rfl, e, e2, l, h⟩
end
/-! ### dicts of int keys, each with a value by a function -/
def dOf (ks : List Int) (f : Int → V) : List (Key × V) := ks.map fun k => (Sum.inl k, f k)
section
variable {K : PySem.W.Frag} {H : Hp} {Q : VK} {a : Addr} {ns ks : List Int} {k : Int} {R : Hp → Prop} {f g : Int → V} {v x : V} {σ : L2.St} {D : Ends} {td ty : TE}
theorem dOf_keys : (dOf ks f).map (·.1) = ks.map Sum.inl := by unfold dOf; rw [List.map_map]; rfl
theorem dOf_len : (dOf ks f).length = ks.length := by unfold dOf; rw [List.length_map]
theorem dOf_congr (h : ∀ k, k ∈ ks → f k = g k) : dOf ks f = dOf ks g := by
  unfold dOf
  exact List.map_congr_left fun k hk => by rw [h k hk]
theorem val_dOf (h : k ∈ ks) : valV (dOf ks f) (Sum.inl k) = some (f k) := by
  unfold dOf
  induction ks with
  | nil => exact absurd h List.not_mem_nil
  | cons j r ih =>
    rw [List.map_cons]
    by_cases e : j = k
    · subst e
      exact val_hd
    · rw [val_tl (fun z => e (Sum.inl.inj z))]
      exact ih ((List.mem_cons.mp h).elim (fun z => absurd z.symm e) id)
theorem val_dOfN (h : k ∉ ks) : valV (dOf ks f) (Sum.inl k) = none := by
  unfold dOf
  induction ks with
  | nil => rfl
  | cons j r ih =>
    rw [List.map_cons, val_tl (fun z => h (by rw [Sum.inl.inj z]; exact List.mem_cons_self))]
    exact ih fun m => h (List.mem_cons_of_mem _ m)
theorem val_dOfS : (valV (dOf ks f) (Sum.inl k)).isSome = decide (k ∈ ks) := by
  by_cases h : k ∈ ks
  · rw [val_dOf h, decide_eq_true h]; rfl
  · rw [val_dOfN h, decide_eq_false h]; rfl
theorem put_dOf (h : k ∈ ks) : putK (dOf ks f) (Sum.inl k) v = dOf ks fun q => if q = k then v else f q := by
  unfold putK
  have e : ((dOf ks f).any fun kv => decide (kv.1 = Sum.inl k)) = true := by
    rw [List.any_eq_true]
    exact ⟨(Sum.inl k, f k), List.mem_map.mpr ⟨k, h, rfl⟩, decide_eq_true rfl⟩
  rw [if_pos e]
  unfold dOf
  rw [List.map_map]
  refine List.map_congr_left fun q _ => ?_
  show (if (Sum.inl q : Key) = Sum.inl k then ((Sum.inl q : Key), v) else (Sum.inl q, f q)) = (Sum.inl q, if q = k then v else f q)
  by_cases z : q = k
  · subst z; rw [if_pos rfl, if_pos rfl]
  · rw [if_neg (fun y => z (Sum.inl.inj y)), if_neg z]
theorem put_dOfN (h : k ∉ ks) : putK (dOf ks f) (Sum.inl k) v = dOf ks f ++ [(Sum.inl k, v)] := putK_new (by
  rw [dOf_keys]
  intro m
  obtain ⟨j, hj, e⟩ := List.mem_map.mp m
  exact h (Sum.inl.inj e ▸ hj))
theorem dOf_app : dOf (ns ++ ks) f = dOf ns f ++ dOf ks f := by unfold dOf; rw [List.map_append]
theorem drop_dOf : dropK (dOf ks f) (Sum.inl k) = dOf (ks.filter fun q => !decide (q = k)) f := by
  unfold dropK dOf
  rw [List.filter_map]
  congr 1
  refine List.filter_congr fun q _ => ?_
  show decide ((Sum.inl q : Key) ≠ Sum.inl k) = !decide (q = k)
  by_cases z : q = k
  · subst z; simp
  · simp [z]
theorem w_dgetO (e : H a = some (.dK (dOf ks f))) (h : k ∈ ks) (q : Q (f k) H) : kDGet (.ref a) (.int k) H Q := w_dgetI e (val_dOf h) q
theorem w_dputO (e : H a = some (.dK (dOf ks f))) (l : ks.length < sizeLine) (h : k ∈ ks) (q : R (upd H a (.dK (dOf ks fun q => if q = k then v else f q)))) : kDPut v (.ref a) (.int k) H R := w_dputI e (by rw [dOf_len]; exact l) (by rw [put_dOf h]; exact q)
theorem w_dputON (e : H a = some (.dK (dOf ks f))) (l : ks.length < sizeLine) (h : k ∉ ks) (hf : ∀ q, q ∈ ks → g q = f q) (hv : g k = v) (q : R (upd H a (.dK (dOf (ks ++ [k]) g)))) : kDPut v (.ref a) (.int k) H R :=
  w_dputI e (by rw [dOf_len]; exact l) (by
    rw [put_dOfN h]
    rw [dOf_app, dOf_congr hf, show dOf [k] g = [(Sum.inl k, v)] by unfold dOf; rw [← hv]; rfl] at q
    exact q)
def kDIn (y x : V) (H : Hp) (Q : VK) : Prop := ∃ a o, x = .ref a ∧ DGet H a y o ∧ Q (.bl o.isSome) H
theorem w_din (h : ty σ H fun y H1 => td σ H1 fun x H2 => kDIn y x H2 Q) : tDIn ty td σ H Q := h
theorem w_dinO (e : H a = some (.dK (dOf ks f))) (h : Q (.bl (decide (k ∈ ks))) H) : kDIn (.int k) (.ref a) H Q := ⟨a, _, rfl, DGet.k (k := Sum.inl k) e, by rw [val_dOfS]; exact h⟩
def kDDel (x y : V) (H : Hp) (R : Hp → Prop) : Prop := ∃ a kvs k, x = .ref a ∧ H a = some (.dK kvs) ∧ y = kV k ∧ (valV kvs k).isSome = true ∧ R (upd H a (.dK (dropK kvs k)))
theorem w_ddel (h : td σ H fun x H1 => ty σ H1 fun y H2 => kDDel x y H2 (D.nx σ)) : sDDel td ty D σ H := h
theorem w_ddelO (e : H a = some (.dK (dOf ks f))) (h : k ∈ ks) (q : R (upd H a (.dK (dOf (ks.filter fun q => !decide (q = k)) f)))) : kDDel (.ref a) (.int k) H R :=
  ⟨a, _, Sum.inl k, rfl, e, rfl, by rw [val_dOfS, decide_eq_true h], by rw [drop_dOf]; exact q⟩
theorem w_sortO2 (e : H a = some (.dK (dOf ks f))) (h : ∀ p, H p = none → Q (.ref p) (upd H p (.lst ((srt ks).map V.int)))) : rSortX K [.ref a] H Q := Or.inr ⟨a, _, ks, rfl, e, dOf_keys, fun ys p hp hs n => by rw [srt_eq hp hs]; exact h p n⟩
end
/-! ### the ints 0 .. n - 1 -/
def upTo (n : Nat) : List Int := (List.range n).map fun k : Nat => ((k : Nat) : Int)
theorem upTo_mem {n : Nat} {x : Int} : x ∈ upTo n ↔ 0 ≤ x ∧ x < n := by
  unfold upTo
  rw [List.mem_map]
  constructor
  · rintro ⟨k, hk, rfl⟩
    have := List.mem_range.mp hk
    omega
  · rintro ⟨h0, h1⟩
    exact ⟨x.toNat, List.mem_range.mpr (by omega), by omega⟩
theorem upTo_succ (n : Nat) : upTo (n + 1) = upTo n ++ [(n : Int)] := by unfold upTo; rw [List.range_succ, List.map_append]; rfl
theorem upTo_len (n : Nat) : (upTo n).length = n := by unfold upTo; rw [List.length_map, List.length_range]
theorem upTo_lt (n : Nat) : (upTo n).Pairwise (· < ·) := by
  unfold upTo
  rw [List.pairwise_map]
  exact List.pairwise_lt_range.imp fun h => Int.ofNat_lt.mpr h
theorem upTo_srt {n : Nat} {p : Int → Bool} : srt ((upTo n).filter p) = (upTo n).filter p := srt_of (((upTo_lt n).filter p).imp fun h => by omega)
/-- a list of ints that are told, in a list or a tuple -/
theorem w_inIT {K : PySem.W.Frag} {H : Hp} {Q : VK} {a : Addr} {i : Int} {ns : List Int} (e : SqT K H a (ns.map V.int)) (h : Q (.bl (decide (i ∈ ns))) H) : rInX K (.int i) (.ref a) H Q := w_inT e rfl (flat_ints ns) (by rw [inV_ints]; exact h)
/-! ### lists of ints that are the same -/
theorem dp_ints {K : PySem.W.Frag} {H : Hp} : ∀ {ns : List Int}, DpAll K H (ns.map V.int) (ns.map PyData.int)
  | [] => .nil
  | n :: r => .cons (.int n) dp_ints
theorem eqvAll_ints : ∀ ns : List Int, PyData.eqvAll (ns.map PyData.int) (ns.map PyData.int) = true
  | [] => by simp [PyData.eqvAll]
  | n :: r => by simp [PyData.eqvAll, PyData.eqv, eqvAll_ints r]
theorem eqv_ints (ns : List Int) : PyData.eqv (.list (ns.map PyData.int)) (.list (ns.map PyData.int)) = true := by
  simp [PyData.eqv, eqvAll_ints]
theorem depthAll_ints : ∀ ns : List Int, PyData.depthAll (ns.map PyData.int) ≤ 1
  | [] => by simp [PyData.depthAll]
  | n :: r => by
    have := depthAll_ints r
    simp [PyData.depthAll, PyData.depth]; omega
theorem layAll_ints : ∀ ns : List Int, PyData.canLayAll0 (ns.map PyData.int) = true
  | [] => by simp [PyData.canLayAll0]
  | n :: r => by simp [PyData.canLayAll0, PyData.canLay0, layAll_ints r]
theorem shaped_ints (ns : List Int) : SeqAt.shaped (.list (ns.map PyData.int)) = true := by
  unfold SeqAt.shaped
  simp [PyData.canLay0, PyData.depth, layAll_ints]
  have := depthAll_ints ns
  omega
theorem w_neLI {K : PySem.W.Frag} {H : Hp} {Q : VK} {a b : Addr} {ns : List Int} (ha : SqL K H a (ns.map V.int)) (hb : SqL K H b (ns.map V.int)) (h : Q (.bl false) H) : rNeX K (.ref a) (.ref b) H Q :=
  w_neD (Dp.lst ha dp_ints) (Dp.lst hb dp_ints) (shaped_ints ns) (shaped_ints ns) (by rw [eqv_ints]; exact h)
end Ak
local macro_rules | `(tactic| walk_at "as") => `(tactic| with_reducible assumption)
local macro_rules | `(tactic| walk_at "lkl") => `(tactic| first
  | walk_at "as"
  | with_reducible exact L2.upd_same
  | ((with_reducible show L2.upd _ _ _ _ = _); exact Ak.at_new (by walk_at "as") (by walk_at "lkl")))
local macro_rules | `(tactic| walk_at "nel") => `(tactic| first
  | walk_at "as"
  | exact Ne.symm (by walk_at "as")
  | exact Ne.symm (Ak.ne_new (by walk_at "as") (by walk_at "lkl"))
  | exact Ak.ne_new (by walk_at "as") (by walk_at "lkl")
  | exact L2.ne_of (by walk_at "as") (by walk_at "as") (by intro z; cases z))
local macro_rules | `(tactic| walk_at "ninl") => `(tactic| first | with_reducible exact Ak.nin_nil | walk_at "as" | ((with_reducible show ¬ (_ ∈ _ :: _)); exact Ak.nin_cons (by walk_at "nel") (by walk_at "ninl")))
local macro_rules | `(tactic| walk_at "lk") => `(tactic| first
  | walk_at "as"
  | with_reducible exact L2.upd_same
  | ((with_reducible show L2.upd _ _ _ _ = _); first | exact Ak.at_new (by walk_at "as") (by walk_at "lk") | exact Ak.at_upd (by walk_at "nel") (by walk_at "lk"))
  | exact Ak.Keep.at (by walk_at "as") (by walk_at "ninl") (by walk_at "lk"))
local macro_rules | `(tactic| walk_at "ne") => `(tactic| first
  | walk_at "nel"
  | exact Ne.symm (Ak.ne_new (by walk_at "as") (by walk_at "lk"))
  | exact Ak.ne_new (by walk_at "as") (by walk_at "lk"))
local macro_rules | `(tactic| walk_at "nin") => `(tactic| first | with_reducible exact Ak.nin_nil | walk_at "as" | ((with_reducible show ¬ (_ ∈ _ :: _)); exact Ak.nin_cons (by walk_at "ne") (by walk_at "nin")))
local macro_rules | `(tactic| walk_at "mem") => `(tactic| ((with_reducible show _ ∈ _ :: _); first | with_reducible exact List.mem_cons_self | exact List.mem_cons_of_mem _ (by walk_at "mem")))
local macro_rules | `(tactic| walk_at "sub") => `(tactic| first | with_reducible exact fun _ m => m | with_reducible exact Ak.sub_nil | ((with_reducible show ∀ b, b ∈ _ :: _ → _); exact Ak.sub_cons (by walk_at "mem") (by walk_at "sub")))
local macro_rules | `(tactic| walk_at "kp") => `(tactic| first
  | with_reducible exact Ak.Keep.refl
  | walk_at "as"
  | ((with_reducible show Ak.Keep _ _ (L2.upd _ _ _)); first | exact Ak.Keep.new' (by walk_at "as") (by walk_at "kp") | exact Ak.Keep.set' (by walk_at "mem") (by walk_at "kp") | exact Ak.Keep.own' (by walk_at "as") (by walk_at "kp"))
  | exact Ak.Keep.call (by walk_at "as") (by walk_at "sub") (by walk_at "kp"))
local macro_rules | `(tactic| walk_at "sqd") => `(tactic| first
  | walk_at "as"
  | ((with_reducible show L2.SqL _ (L2.upd _ _ _) _ _); exact Ak.SqL.upd (by walk_at "sqd") (by walk_at "as"))
  | ((with_reducible show L2.SqL _ _ _ _); exact Ak.Keep.seqL (by walk_at "as") (by walk_at "nin") (by walk_at "sqd"))
  | ((with_reducible show L2.SqT _ (L2.upd _ _ _) _ _); exact Ak.SqT.upd (by walk_at "sqd") (by walk_at "as"))
  | ((with_reducible show L2.SqT _ _ _ _); exact Ak.Keep.seqT (by walk_at "as") (by walk_at "nin") (by walk_at "sqd")))
local macro_rules | `(tactic| walk_at "sqh") => `(tactic| first
  | walk_at "as"
  | ((with_reducible show L2.SqL _ _ _ _); first | exact Ak.Ext0.seqL (by walk_at "as") (by walk_at "xt") | exact Ak.chkL (by walk_at "as") (by walk_at "sqd"))
  | ((with_reducible show L2.SqT _ _ _ _); first | exact Ak.Ext0.seqT (by walk_at "as") (by walk_at "xt") | exact Ak.chkT (by walk_at "as") (by walk_at "sqd")))
local macro_rules | `(tactic| walk_at "sq") => `(tactic| first
  | walk_at "sqh"
  | ((with_reducible show L2.SqL _ _ _ _); exact L2.SqL.of (by walk_at "lk"))
  | ((with_reducible show L2.SqT _ _ _ _); exact L2.SqT.of (by walk_at "lk")))
local macro_rules | `(tactic| walk_at "xt") => `(tactic| first
  | walk_at "as"
  | with_reducible exact Ak.Ext0.refl
  | ((with_reducible show LamX.ExtN _ (L2.upd _ _ _)); first | exact Ak.Ext0.set (by walk_at "xt") (by walk_at "as") | exact Ak.Ext0.new (by walk_at "xt") (by walk_at "as"))
  | exact Ak.Ext0.kept (by walk_at "as") (by walk_at "xt") (by walk_at "n0"))
local macro_rules | `(tactic| walk_at "n0") => `(tactic| first | exact Ak.none_nil | exact Ak.none_in (by walk_at "n0") (by walk_at "as"))
local macro_rules | `(tactic| walk_at "sz") => `(tactic| first | walk_at "as" | exact Ak.sz_of rfl | exact Ak.sz_lt rfl | (rw [PySem.sizeLine_eq]; omega) | (simp only [List.length_append, List.length_cons, List.length_nil, List.length_map, PySem.sizeLine_eq]; omega))
local macro_rules | `(tactic| walk_at "ix") => `(tactic| first | walk_at "as" | ((with_reducible show L2.atI _ (OfNat.ofNat _) = _); exact rfl))
local macro_rules | `(tactic| walk_at "fl") => `(tactic| first | walk_at "as" | with_reducible exact Ak.look_hd | with_reducible exact Ak.look_nil | ((with_reducible show List.lookup _ (_ :: _) = _); exact Eq.trans (Ak.look_tl (by decide +kernel)) (by walk_at "fl")))
local macro_rules | `(tactic| walk_at "dv") => `(tactic| first | walk_at "as" | with_reducible exact Ak.val_hd | with_reducible exact Ak.val_nil | ((with_reducible show L2.valV (_ :: _) _ = _); exact Eq.trans (Ak.val_tl (by decide +kernel)) (by walk_at "dv")))
local macro_rules | `(tactic| walk_at "s") => `(tactic| first
  | with_reducible refine Ak.w_seq ?_
  | with_reducible refine Ak.w_asg ?_
  | with_reducible refine Ak.w_name ?_
  | with_reducible refine Ak.w_op ?_
  | ((with_reducible show L2.tVar _ _ _ _); refine Ak.w_var (by exact rfl) ?_)
  | with_reducible refine Ak.w_c ?_
  | with_reducible refine Ak.w_plusI ?_
  | with_reducible refine Ak.w_I0 ?_
  | with_reducible refine Ak.w_fldE ?_
  | with_reducible refine Ak.w_if ?_
  | with_reducible refine Ak.w_iT ?_
  | with_reducible refine Ak.w_iF ?_
  | with_reducible refine Ak.w_nT ?_
  | with_reducible refine Ak.w_nF ?_
  | with_reducible refine Ak.w_test ?_
  | with_reducible refine Ak.w_eqI ?_
  | with_reducible refine Ak.w_neI ?_
  | with_reducible refine Ak.w_eqS ?_
  | with_reducible refine Ak.w_neS ?_
  | with_reducible refine Ak.w_neTT ?_
  | with_reducible refine Ak.w_eqB ?_
  | with_reducible refine Ak.w_neB ?_
  | with_reducible refine Ak.w_isNN ?_
  | with_reducible refine Ak.w_isNR ?_
  | with_reducible refine Ak.w_isNI ?_
  | with_reducible refine Ak.w_isNB ?_
  | with_reducible refine Ak.w_isNS ?_
  | with_reducible refine Ak.w_ntNN ?_
  | with_reducible refine Ak.w_ntNR ?_
  | with_reducible refine Ak.w_ntNI ?_
  | with_reducible refine Ak.w_isN ?_
  | with_reducible refine Ak.w_notN ?_
  | with_reducible refine Ak.w_bl ?_
  | with_reducible refine Ak.w_tru ?_
  | with_reducible refine Ak.w_truB ?_
  | with_reducible refine Ak.w_truI ?_
  | with_reducible refine Ak.w_tB ?_
  | with_reducible refine Ak.w_cons ?_
  | with_reducible refine Ak.w_nil ?_
  | with_reducible refine Ak.w_call ?_
  | with_reducible refine Ak.w_meth ?_
  | with_reducible refine Ak.w_cb ?_
  | with_reducible refine Ak.w_ret ?_
  | with_reducible refine Ak.w_retN ?_
  | with_reducible refine Ak.w_drop ?_
  | with_reducible refine Ak.w_next ?_
  | with_reducible refine Ak.w_cont ?_
  | with_reducible refine Ak.w_brk ?_
  | with_reducible refine Ak.w_and ?_
  | with_reducible refine Ak.w_or ?_
  | with_reducible refine Ak.w_not ?_
  | with_reducible refine Ak.w_andV ?_
  | with_reducible refine Ak.w_orV ?_
  | with_reducible refine Ak.w_notV ?_
  | with_reducible refine Ak.w_ifx ?_
  | with_reducible refine Ak.w_max2 ?_
  | with_reducible refine Ak.w_min2 ?_
  | with_reducible refine Ak.w_intI ?_
  | with_reducible refine Ak.w_intB ?_
  | with_reducible refine Ak.w_un ?_
  | with_reducible refine Ak.w_U ?_
  | with_reducible refine Ak.w_dget ?_
  | with_reducible refine Ak.w_dput ?_
  | with_reducible refine Ak.w_sfld ?_
  | with_reducible refine Ak.w_bm ?_
  | with_reducible refine Ak.w_bm0 ?_
  | with_reducible refine Ak.w_tup ?_
  | with_reducible refine Ak.w_lst ?_
  | with_reducible refine Ak.w_make ?_
  | with_reducible refine Ak.w_gnil ?_
  | with_reducible refine Ak.w_gcons ?_
  | with_reducible refine Ak.w_gsub ?_
  | with_reducible refine Ak.w_forList ?_
  | with_reducible refine Ak.w_forR1 ?_
  | with_reducible refine Ak.w_forR2 ?_
  | with_reducible refine Ak.w_forZ ?_
  | with_reducible refine Ak.w_lcL ?_
  | with_reducible refine Ak.w_lcT ?_
  | with_reducible refine Ak.w_lcR1 ?_
  | with_reducible refine Ak.w_lcR2 ?_
  | with_reducible refine Ak.w_yes ?_
  | with_reducible refine Ak.w_turn ?_
  | with_reducible refine Ak.w_pairs0 ?_
  | with_reducible refine Ak.w_pairs ?_
  | with_reducible refine Ak.w_eq0S ?_
  | with_reducible refine Ak.w_ne0I ?_
  | with_reducible refine Ak.w_disp fun _ _ => ?_
  | ((with_reducible show L2.wipe _ _ = L2.wipe _ _ ∧ _); refine ⟨by exact rfl, ?_⟩)
  | ((with_reducible show Ak.kFld _ _ _ _ _); refine Ak.w_fldK (by walk_at "lk") (by walk_at "as") (by walk_at "as") (by walk_at "fl") ?_)
  | ((with_reducible show Ak.kMeth _ _ _ _ _); refine Ak.w_methK (by walk_at "lk") (by walk_at "fl") ?_)
  | ((with_reducible show Ak.rPlus _ (L2.V.ref _) (L2.V.ref _) _ _); refine Ak.w_plusL (by walk_at "lk") (by walk_at "lk") (by walk_at "sz") fun _ _ => ?_)
  | ((with_reducible show Ak.rTimes (L2.V.int _) (L2.V.int _) _ _); refine Ak.w_timesI (by first | exact Or.inl (by omega) | exact Or.inr (by omega)) ?_)
  | ((with_reducible show L2.rI _ _ _ _ _ _); refine Ak.w_I (by walk_at "ci") ?_)
  | ((with_reducible show L2.rIx _ _ (L2.V.int (OfNat.ofNat _)) _ _); first | refine Ak.w_ixO (by walk_at "lk") (by exact rfl) (by exact rfl) ?_ | refine Ak.w_ixL (by walk_at "sqh") (by exact rfl) ?_ | refine Ak.w_ixT (by walk_at "sqh") (by exact rfl) ?_)
  | ((with_reducible show L2.rIx _ _ (L2.V.int _) _ _); first | refine Ak.w_ixL (by walk_at "sqh") (by walk_at "as") ?_ | refine Ak.w_ixT (by walk_at "sqh") (by walk_at "as") ?_ | refine Ak.w_ixO (by walk_at "lk") (by exact rfl) (by walk_at "as") ?_)
  | ((with_reducible show Ak.rLenX _ [L2.V.ref _] _ _); first | refine Ak.w_lenL (by walk_at "sqh") ?_ | refine Ak.w_lenT (by walk_at "sqh") ?_ | refine Ak.w_lenO (by walk_at "lk") (by exact rfl) ?_)
  | ((with_reducible show Ak.rTupX _ [L2.V.ref _] _ _); refine Ak.w_tupL (by walk_at "sq") fun _ _ => ?_)
  | ((with_reducible show L2.rSetL (L2.V.ref _) (L2.V.int _) _ _ _); (with_reducible show L2.rSetL (L2.V.ref _) (L2.V.int (OfNat.ofNat _)) _ _ _); refine Ak.w_setL (by walk_at "lk") (by exact rfl) ?_)
  | ((with_reducible show Ak.kDGet _ (L2.V.str _) _ _); refine Ak.w_dgetS (by walk_at "lk") (by walk_at "dv") ?_)
  | ((with_reducible show L2.rAppend _ _ _ _); refine Ak.w_app (by walk_at "lk") (by walk_at "sz") ?_)
  | ((with_reducible show L2.gTup _ _ _ _ _ _ _); first | refine Ak.w_gtup (by walk_at "sqh") (by exact rfl) ?_ | refine Ak.w_gtupO (by walk_at "lk") (by exact rfl) ?_)
  | ((with_reducible show L2.tyV _ _ _ _ ∧ _); refine ⟨Ak.tyL (by walk_at "lk"), ?_⟩)
  | ((with_reducible show _ ≤ PySem.sizeLine ∧ ∀ _, _); refine ⟨by walk_at "sz", fun _ _ => ?_⟩))
local macro_rules | `(tactic| walk_at "ty") => `(tactic| first | with_reducible exact L2.TyX.base (.int _) | with_reducible exact L2.TyX.base (.bl _) | with_reducible exact L2.TyX.base (.str _) | with_reducible exact L2.TyX.base .non | exact Ak.tyT (by walk_at "sqh") | exact Ak.tyLs (by walk_at "sqh") | exact Ak.tyO (by walk_at "lk") (by exact rfl))
local macro_rules | `(tactic| walk_at "s") => `(tactic| ((with_reducible show L2.rIsi _ [_, L2.V.ty _] _ _); first | refine Ak.w_isiB (k := true) (by walk_at "ty") (by decide +kernel) ?_ | refine Ak.w_isiB (k := false) (by walk_at "ty") (by decide +kernel) ?_))
local macro_rules | `(tactic| walk_at "pf") => `(tactic| first | with_reducible exact Ak.putF_hd | with_reducible exact Ak.putF_nil | ((with_reducible show L2.putF _ _ (_ :: _) = _); exact Eq.trans (Ak.putF_tl (by decide +kernel)) (congrArg (List.cons _) (by walk_at "pf"))))
local macro_rules | `(tactic| walk_at "s") => `(tactic| ((with_reducible show Ak.kSFld _ _ _ _ _ _); refine Ak.w_sfldP (by walk_at "lk") (by walk_at "as") (by walk_at "as") (Ak.lt_of rfl) (by walk_at "pf") ?_))
local macro_rules | `(tactic| walk_at "s") => `(tactic| ((with_reducible show Ak.rInX _ (L2.V.int _) (L2.V.ref _) _ _); refine Ak.w_inI (by walk_at "lk") ?_))
local macro_rules | `(tactic| walk_at "s") => `(tactic| ((with_reducible show Ak.rNinX _ (L2.V.int _) (L2.V.ref _) _ _); refine Ak.w_ninI (by walk_at "lk") ?_))
local macro_rules | `(tactic| walk_at "nk") => `(tactic| first | exact Ak.nk_nil | exact Ak.nk_cons (by decide +kernel) (by walk_at "nk"))
local macro_rules | `(tactic| walk_at "nd") => `(tactic| first | exact Ak.nd_nil | exact Ak.nd_cons (by walk_at "nk") (by walk_at "nd"))
local macro_rules | `(tactic| walk_at "dp") => `(tactic| ((with_reducible show L2.putK (_ :: _) _ _ = _); first | exact Ak.put_hd (by walk_at "nk") | exact Eq.trans (Ak.put_tl (by decide +kernel)) (congrArg (List.cons _) (by walk_at "dp"))))
local macro_rules | `(tactic| walk_at "s") => `(tactic| ((with_reducible show Ak.kDPut _ (L2.V.ref _) (L2.V.str _) _ _); refine Ak.w_dputP (by walk_at "lk") (Ak.sz_lt rfl) (by walk_at "dp") ?_))
local macro_rules | `(tactic| walk_at "s") => `(tactic| ((with_reducible show Ak.rIsE2 _ _ _ _ _ _ _); first | refine Ak.w_isE (by exact rfl) (by exact rfl) (by walk_at "as") (by walk_at "as") ?_ | refine Ak.w_isET (by exact rfl) (by exact rfl) (by walk_at "as") (by walk_at "as") ?_))
local macro_rules | `(tactic| walk_at "s") => `(tactic| ((with_reducible show Ak.rCntX _ _ _ _ _); refine Ak.w_cnt (by walk_at "lk") (by exact rfl) (by exact rfl) (by exact rfl) ?_))
local macro_rules | `(tactic| walk_at "s") => `(tactic| first
  | with_reducible refine Ak.w_fldaug ?_
  | with_reducible refine Ak.w_addI ?_
  | with_reducible refine Ak.w_dnot ?_
  | with_reducible refine Ak.w_lcE ?_
  | ((with_reducible show L2.rClear (L2.V.ref _) _ _ _); refine Ak.w_clear (by walk_at "lk") ?_)
  | with_reducible refine Ak.w_dnewK fun _ _ => ?_
  | with_reducible refine Ak.w_forTup ?_
  | ((with_reducible show Ak.kFA _ _ _ _ _ _ _ _); refine Ak.w_fa (by walk_at "lk") (by walk_at "as") (by walk_at "as") (by walk_at "fl") ?_)
  | ((with_reducible show Ak.kFS _ _ _ _ _ _ _); refine Ak.w_fs (by walk_at "lk") (Ak.lt_of rfl) (by walk_at "pf") ?_)
  | ((with_reducible show Ak.kDNot (L2.V.int _) (L2.V.ref _) _ _); refine Ak.w_dnotS (by walk_at "lk") ?_)
  | ((with_reducible show Ak.rSortX _ [L2.V.ref _] _ _); first | refine Ak.w_sortO (by walk_at "lk") fun _ _ => ?_ | refine Ak.w_sortD (by walk_at "lk") fun _ _ => ?_))
local macro_rules | `(tactic| walk_at "ci") => `(tactic| first | decide | omega | (constructor <;> first | decide | omega) | exact ⟨by decide, by decide, by decide⟩)
local macro_rules | `(tactic| walk_at "dc") => `(tactic| first | walk_at "as" | exact Ak.Dice.keep (S := []) (by walk_at "as") (by walk_at "kp") Ak.nin_nil Ak.none_nil)
local macro_rules | `(tactic| walk_at "s") => `(tactic| ((with_reducible show Ak.spNext _ _ _ _ _); refine Ak.next_go (by walk_at "dc") (by omega) (by omega) fun _ _ _ _ _ _ _ _ => ?_))
local macro_rules | `(tactic| walk_at "pk") => `(tactic| (intro x hx; (repeat (rcases List.mem_cons.mp hx with rfl | hx; · exact ⟨_, rfl, by omega⟩)); exact absurd hx List.not_mem_nil))
local macro_rules | `(tactic| walk_at "rd") => `(tactic| repeat (walk_at "s"))
local macro_rules | `(tactic| walk_at "lv") => `(tactic| first | decide | omega)
local macro_rules | `(tactic| walk_at "s") => `(tactic| first
  | with_reducible refine Ak.w_slice ?_
  | with_reducible refine Ak.w_noP ?_
  | with_reducible refine Ak.w_part ?_
  | with_reducible refine Ak.w_isI ?_
  | with_reducible refine Ak.w_din ?_
  | with_reducible refine Ak.w_ddel ?_
  | ((with_reducible show L2.rExtend (L2.V.ref _) [L2.V.ref _] _ _); refine Ak.w_ext (by walk_at "lk") (by walk_at "lk") (by walk_at "sz") ?_)
  | ((with_reducible show Ak.kDGet _ (L2.V.int _) _ _); refine Ak.w_dgetO (by walk_at "lk") (by walk_at "as") ?_)
  | ((with_reducible show Ak.kDIn (L2.V.int _) (L2.V.ref _) _ _); refine Ak.w_dinO (by walk_at "lk") ?_)
  | ((with_reducible show Ak.rSortX _ [L2.V.ref _] _ _); refine Ak.w_sortO2 (by walk_at "lk") fun _ _ => ?_))
namespace Ak
open PySem PySem.Spec PyProof.Rows L2
def top (i : Nat) : Stmt := PySem.Challenge.pw_ackbits_k03_mouths.main.body.getD i (.Pass ⟨0, 0, 0, 0⟩)
abbrev s_l_next : Stmt := top 19
abbrev N_l_next : List Str := ["_law_dice_here", "_law_many", "_law_found", "_law_cell"]
theorem sc_l_next : FnScope N_l_next ["_law_dice_here", "_law_many"] (defScope s_l_next) := ⟨rfl, rfl, rfl, by decide +kernel, rfl, by decide +kernel, by decide +kernel⟩
abbrev s_l_dice : Stmt := top 18
abbrev N_l_dice : List Str := ["_law_script", "_law_mixed", "_law_cell"]
theorem sc_l_dice : FnScope N_l_dice ["_law_script"] (defScope s_l_dice) := ⟨rfl, rfl, rfl, by decide +kernel, rfl, by decide +kernel, by decide +kernel⟩
abbrev s_l_setting : Stmt := top 21
abbrev N_l_setting : List Str := ["_law_d", "_law_late", "_law_ahead", "_law_wide", "_law_marks"]
theorem sc_l_setting : FnScope N_l_setting ["_law_d"] (defScope s_l_setting) := ⟨rfl, rfl, rfl, by decide +kernel, rfl, by decide +kernel, by decide +kernel⟩
abbrev s_l_like : Stmt := top 20
abbrev N_l_like : List Str := ["_law_found", "_law_due", "_law_key", "_law_k"]
theorem sc_l_like : FnScope N_l_like ["_law_found", "_law_due"] (defScope s_l_like) := ⟨rfl, rfl, rfl, by decide +kernel, rfl, by decide +kernel, by decide +kernel⟩
abbrev s_check_mark : Stmt := top 12
abbrev N_check_mark : List Str := ["mark", "marks"]
theorem sc_check_mark : FnScope N_check_mark ["mark", "marks"] (defScope s_check_mark) := ⟨rfl, rfl, rfl, by decide +kernel, rfl, by decide +kernel, by decide +kernel⟩
abbrev s_check_number : Stmt := top 10
abbrev N_check_number : List Str := ["word", "number", "least", "most"]
theorem sc_check_number : FnScope N_check_number ["word", "number"] (defScope s_check_number) := ⟨rfl, rfl, rfl, by decide +kernel, rfl, by decide +kernel, by decide +kernel⟩
abbrev s_check_setting : Stmt := top 11
abbrev N_check_setting : List Str := ["setting", "marks", "wide", "late", "ahead"]
theorem sc_check_setting : FnScope N_check_setting ["setting"] (defScope s_check_setting) := ⟨rfl, rfl, rfl, by decide +kernel, rfl, by decide +kernel, by decide +kernel⟩
abbrev s_check_bits : Stmt := top 13
abbrev N_check_bits : List Str := ["bits", "wide", "bit"]
theorem sc_check_bits : FnScope N_check_bits ["bits", "wide"] (defScope s_check_bits) := ⟨rfl, rfl, rfl, by decide +kernel, rfl, by decide +kernel, by decide +kernel⟩
abbrev s_check_telling : Stmt := top 14
abbrev N_check_telling : List Str := ["told", "marks", "wide", "mark", "bits"]
theorem sc_check_telling : FnScope N_check_telling ["told", "marks", "wide"] (defScope s_check_telling) := ⟨rfl, rfl, rfl, by decide +kernel, rfl, by decide +kernel, by decide +kernel⟩
abbrev s_Mouth___init : Stmt := inClass (top 16) 0
abbrev N_Mouth___init : List Str := ["self", "setting", "marks", "wide", "_", "ahead"]
theorem sc_Mouth___init : FnScope N_Mouth___init ["self", "setting"] (defScope s_Mouth___init) := ⟨rfl, rfl, rfl, by decide +kernel, rfl, by decide +kernel, by decide +kernel⟩
abbrev s_Mouth_send : Stmt := inClass (top 16) 1
abbrev N_Mouth_send : List Str := ["self"]
theorem sc_Mouth_send : FnScope N_Mouth_send ["self"] (defScope s_Mouth_send) := ⟨rfl, rfl, rfl, by decide +kernel, rfl, by decide +kernel, by decide +kernel⟩
abbrev s_Mouth_is_full : Stmt := inClass (top 16) 2
abbrev N_Mouth_is_full : List Str := ["self"]
theorem sc_Mouth_is_full : FnScope N_Mouth_is_full ["self"] (defScope s_Mouth_is_full) := ⟨rfl, rfl, rfl, by decide +kernel, rfl, by decide +kernel, by decide +kernel⟩
abbrev s_Mouth_hear : Stmt := inClass (top 16) 3
abbrev N_Mouth_hear : List Str := ["self", "told", "numbers", "found", "number", "fresh"]
theorem sc_Mouth_hear : FnScope N_Mouth_hear ["self", "told"] (defScope s_Mouth_hear) := ⟨rfl, rfl, rfl, by decide +kernel, rfl, by decide +kernel, by decide +kernel⟩
abbrev s_Mouth_sure : Stmt := inClass (top 16) 4
abbrev N_Mouth_sure : List Str := ["self"]
theorem sc_Mouth_sure : FnScope N_Mouth_sure ["self"] (defScope s_Mouth_sure) := ⟨rfl, rfl, rfl, by decide +kernel, rfl, by decide +kernel, by decide +kernel⟩
abbrev s_Mouth_last : Stmt := inClass (top 16) 5
abbrev N_Mouth_last : List Str := ["self"]
theorem sc_Mouth_last : FnScope N_Mouth_last ["self"] (defScope s_Mouth_last) := ⟨rfl, rfl, rfl, by decide +kernel, rfl, by decide +kernel, by decide +kernel⟩
abbrev s_Mouth__numbers_of : Stmt := inClass (top 16) 6
abbrev N_Mouth__numbers_of : List Str := ["self", "told", "mark", "bits", "newest", "others", "back", "bit"]
theorem sc_Mouth__numbers_of : FnScope N_Mouth__numbers_of ["self", "told"] (defScope s_Mouth__numbers_of) := ⟨rfl, rfl, rfl, by decide +kernel, rfl, by decide +kernel, by decide +kernel⟩
abbrev s_l_mouth : Stmt := top 23
abbrev N_l_mouth : List Str := []
theorem sc_l_mouth : FnScope N_l_mouth [] (defScope s_l_mouth) := ⟨rfl, rfl, rfl, by decide +kernel, rfl, by decide +kernel, by decide +kernel⟩
abbrev s_l_is_full : Stmt := top 24
abbrev N_l_is_full : List Str := ["_law_setting_here", "_law_mouth_here"]
theorem sc_l_is_full : FnScope N_l_is_full ["_law_setting_here", "_law_mouth_here"] (defScope s_l_is_full) := ⟨rfl, rfl, rfl, by decide +kernel, rfl, by decide +kernel, by decide +kernel⟩
abbrev s_l_hear : Stmt := top 25
abbrev N_l_hear : List Str := ["_law_setting_here", "_law_mouth_here", "_law_told_here", "_law_number", "_law_some", "_law_far", "_law_found", "_law_one"]
theorem sc_l_hear : FnScope N_l_hear ["_law_setting_here", "_law_mouth_here", "_law_told_here"] (defScope s_l_hear) := ⟨rfl, rfl, rfl, by decide +kernel, rfl, by decide +kernel, by decide +kernel⟩
abbrev s_l_is : Stmt := top 27
abbrev N_l_is : List Str := ["_law_mouth_here", "_law_setting_here", "_law_own", "_law_again", "_law_found", "_law_due"]
theorem sc_l_is : FnScope N_l_is ["_law_mouth_here", "_law_setting_here", "_law_own"] (defScope s_l_is) := ⟨rfl, rfl, rfl, by decide +kernel, rfl, by decide +kernel, by decide +kernel⟩
abbrev s_l_told : Stmt := top 26
abbrev N_l_told : List Str := ["_law_work", "e", "_law_kinds", "_law_words", "_law_word"]
theorem sc_l_told : FnScope N_l_told ["_law_work"] (defScope s_l_told) := ⟨rfl, rfl, rfl, by decide +kernel, rfl, by decide +kernel, by decide +kernel⟩
abbrev s_law : Stmt := top 28
abbrev N_law : List Str := ["_law_script", "_law_d", "_law_sides", "_law_k", "_law_setting_here", "_law_turn", "_law_mouth_here", "_law_own", "_law_due", "_law_found", "_law_often", "_law_bits", "_law_far", "_law_telling", "_law_one", "_law_some", "_law_other"]
theorem sc_law : FnScope N_law ["_law_script"] (defScope s_law) := ⟨rfl, rfl, rfl, by decide +kernel, rfl, by decide +kernel, by decide +kernel⟩
end Ak
namespace Ak
open PySem PySem.Spec PyProof.Rows L2
def spCheckMark : Sp := fun vs H Q _ => ∃ k m, vs = [.int k, .int m] ∧ 0 ≤ k ∧ k < m ∧ Q .non H
/-- what is raised as a class of one's own, without __init__ -/
structure RaiseC (K : PySem.W.Frag) (mg : Str → Option Value) (x : Str) (C : Addr) : Prop where
  q : PySem.W.excIn K C [.type "ValueError", .type "Exception", .type "BaseException", .type "object"] "ValueError.__new__" = true
  g : mg x = some (.ref C)
  k : PySem.W.keepIn K (.ref C) = true
  s : PySem.W.subIn K (.ref C) (.type "BaseException") = some true
  t : PySem.W.typeIn K (.ref C) = some (.type "type")
theorem RaiseC.r {X : Cx} {x : Str} {C : Addr} (R : RaiseC X.K X.mg x C) : Raises X (.ref C) := raises_own R.s R.t
/-- the bounds of each number, by its word -/
inductive BoundOf : Str → Int → Int → Prop
  | marks : BoundOf "marks" 2 64
  | wide : BoundOf "wide" 0 16
  | late : BoundOf "late" 0 8
  | ahead : BoundOf "ahead" 1 16
  | room : BoundOf "room" 1 8
  | wait : BoundOf "wait" 1 20
structure BoundsT (K : PySem.W.Frag) (w : World) (mg : Str → Option Value) (b : Addr) : Prop where
  g : mg "BOUNDS" = some (.ref b)
  get : ∀ wd lo hi, BoundOf wd lo hi → ∃ t, KDct K w b wd (.ref t) ∧ ∀ H, SqT K H t [.int lo, .int hi]
theorem bounds_mk {K : PySem.W.Frag} {w : World} {mg : Str → Option Value} {b t1 t2 t3 t4 t5 t6 : Addr} {es : Array DictEntry} {n : Nat} (g : mg "BOUNDS" = some (.ref b))
    (lk : K.lookup b = some { cls := .type "dict", data := .dict es n }) (kl : PySem.W.KeysLit w.params es.toList)
    (n1 : PySem.W.nsIn K b "marks" = some (some (.ref t1))) (n2 : PySem.W.nsIn K b "wide" = some (some (.ref t2))) (n3 : PySem.W.nsIn K b "late" = some (some (.ref t3)))
    (n4 : PySem.W.nsIn K b "ahead" = some (some (.ref t4))) (n5 : PySem.W.nsIn K b "room" = some (some (.ref t5))) (n6 : PySem.W.nsIn K b "wait" = some (some (.ref t6)))
    (s1 : ∀ H, SqT K H t1 [.int 2, .int 64]) (s2 : ∀ H, SqT K H t2 [.int 0, .int 16]) (s3 : ∀ H, SqT K H t3 [.int 0, .int 8])
    (s4 : ∀ H, SqT K H t4 [.int 1, .int 16]) (s5 : ∀ H, SqT K H t5 [.int 1, .int 8]) (s6 : ∀ H, SqT K H t6 [.int 1, .int 20]) : BoundsT K w mg b :=
  ⟨g, fun wd lo hi h => by
    cases h with
    | marks => exact ⟨t1, ⟨es, n, _, lk, kl, n1, rfl⟩, s1⟩
    | wide => exact ⟨t2, ⟨es, n, _, lk, kl, n2, rfl⟩, s2⟩
    | late => exact ⟨t3, ⟨es, n, _, lk, kl, n3, rfl⟩, s3⟩
    | ahead => exact ⟨t4, ⟨es, n, _, lk, kl, n4, rfl⟩, s4⟩
    | room => exact ⟨t5, ⟨es, n, _, lk, kl, n5, rfl⟩, s5⟩
    | wait => exact ⟨t6, ⟨es, n, _, lk, kl, n6, rfl⟩, s6⟩⟩
theorem ix_kd {X : Cx} {K : PySem.W.Frag} {w : World} (h : X.K = K) (hw : X.w = w) : IxR X (rIxD K w) := by
  subst h hw
  exact ix_kdict
def spCheckNumber : Sp := fun vs H Q _ => ∃ wd n lo hi, vs = [.str wd, .int n] ∧ BoundOf wd lo hi ∧ lo ≤ n ∧ n ≤ hi ∧ Q .non H
def spCheckSetting (K : PySem.W.Frag) : Sp := fun vs H Q _ => ∃ q m w l a, vs = [.ref q] ∧ SqT K H q [.int m, .int w, .int l, .int a] ∧ SetOk m w l a ∧ ∀ H', Keep [] H H' → Q .non H'
end Ak

namespace Ak
open PySem PySem.Spec PyProof.Rows L2
/-! ### the mouth -/
structure MouthT (K : PySem.W.Frag) (C : Addr) : Prop where
  cl : Cls K C
  n1 : NoAttr K C "_marks"
  n2 : NoAttr K C "_wide"
  n3 : NoAttr K C "_ahead"
  n4 : NoAttr K C "_last"
  n5 : NoAttr K C "_greatest"
  n6 : NoAttr K C "_sure"
abbrev mouthF (m w a l g : Int) (c : Addr) : List (Str × V) := [("_marks", .int m), ("_wide", .int w), ("_ahead", .int a), ("_last", .int l), ("_greatest", .int g), ("_sure", .ref c)]
/-- a mouth stands at p, its dict at c -/
def MouthAt (C : Addr) (H : Hp) (p c : Addr) (m w a l g : Int) (ks : List Int) : Prop := ∃ dx, H p = some (.ins C dx (mouthF m w a l g c)) ∧ H c = some (.dK (sureD ks))
theorem MouthAt.keep {C : Addr} {S : List Addr} {H H' : Hp} {p c : Addr} {m w a l g : Int} {ks : List Int} (x : MouthAt C H p c m w a l g ks) (k : Keep S H H') (np : p ∉ S) (nc : c ∉ S) : MouthAt C H' p c m w a l g ks := by
  obtain ⟨dx, h1, h2⟩ := x
  exact ⟨dx, k.1 _ _ np h1, k.1 _ _ nc h2⟩
theorem MouthAt.ne {C : Addr} {H : Hp} {p c : Addr} {m w a l g : Int} {ks : List Int} (x : MouthAt C H p c m w a l g ks) : p ≠ c := by
  obtain ⟨dx, h1, h2⟩ := x
  exact ne_of h1 h2 (by intro z; cases z)
def newestOf (m l k : Int) : Int := l - (l - k) % m
/-- what the first i bits tell of -/
def othersOf (n : Int) (bs : List Int) (i : Nat) : List Int := ((List.range i).filter fun j => decide (bs[j]? = some 1)).map fun (j : Nat) => n - (1 + (j : Int))
def allOf (n : Int) (bs : List Int) : List Int := n :: othersOf n bs bs.length
theorem others_yes {n : Int} {bs : List Int} {i : Nat} (h : bs[i]? = some 1) : othersOf n bs (i + 1) = othersOf n bs i ++ [n - (1 + (i : Int))] := by
  unfold othersOf
  rw [List.range_succ, List.filter_append, List.map_append, List.filter_cons, if_pos (decide_eq_true h)]
  rfl
theorem others_no {n : Int} {bs : List Int} {i : Nat} (h : ¬ bs[i]? = some 1) : othersOf n bs (i + 1) = othersOf n bs i := by
  unfold othersOf
  rw [List.range_succ, List.filter_append, List.map_append, List.filter_cons, if_neg (by rw [decide_eq_false h]; exact Bool.false_ne_true)]
  simp
theorem others_len {n : Int} {bs : List Int} {i : Nat} : (othersOf n bs i).length ≤ i := by
  unfold othersOf
  rw [List.length_map]
  exact Nat.le_trans (List.length_filter_le _ _) (by rw [List.length_range]; exact Nat.le_refl _)
theorem others_lt {n x : Int} {bs : List Int} {i : Nat} (h : x ∈ othersOf n bs i) : x < n := by
  obtain ⟨j, _, rfl⟩ := List.mem_map.mp h
  omega
theorem others_nd {n : Int} {bs : List Int} {i : Nat} : (othersOf n bs i).Nodup := by
  unfold othersOf
  refine List.pairwise_map.mpr ((List.nodup_range.filter _).imp fun {a b} h e => h ?_)
  omega
theorem all_nd {n : Int} {bs : List Int} : (allOf n bs).Nodup := List.nodup_cons.mpr ⟨fun m => by have := others_lt m; omega, others_nd⟩
theorem all_le {n x : Int} {bs : List Int} (h : x ∈ allOf n bs) : x ≤ n := by
  rcases List.mem_cons.mp h with rfl | h
  · exact Int.le_refl _
  · exact Int.le_of_lt (others_lt h)
theorem all_len {n : Int} {bs : List Int} : (allOf n bs).length ≤ bs.length + 1 := Nat.succ_le_succ others_len
/-- the least and the greatest of what is sorted -/
theorem srt_first {ns : List Int} (h : ns ≠ []) : ∃ x, atI ((srt ns).map V.int) 0 = some (.int x) ∧ x ∈ ns ∧ ∀ y, y ∈ ns → x ≤ y := by
  have hl : 0 < (srt ns).length := by rw [srt_len]; exact List.length_pos_iff.mpr h
  refine ⟨(srt ns)[0], atI_nat ?_, srt_mem.mp (List.getElem_mem hl), fun y hy => ?_⟩
  · rw [List.getElem?_map, List.getElem?_eq_getElem hl]
    rfl
  · obtain ⟨i, hi, rfl⟩ := List.mem_iff_getElem.mp (srt_mem.mpr hy)
    rcases Nat.eq_zero_or_pos i with rfl | z
    · exact Int.le_refl _
    · exact List.pairwise_iff_getElem.mp (srt_le ns) 0 i hl hi z
theorem atI_last {α : Type} {xs : List α} {x : α} (h : xs[xs.length - 1]? = some x) : atI xs (-1) = some x := by
  have hl : 0 < xs.length := by
    have := (List.getElem?_eq_some_iff.mp h).1
    omega
  unfold atI ixN
  rw [if_neg (by omega), if_pos (by omega)]
  show xs[_]? = some x
  rw [← h]
  congr 1
  omega
theorem srt_last {ns : List Int} (h : ns ≠ []) : ∃ x, atI ((srt ns).map V.int) (-1) = some (.int x) ∧ x ∈ ns ∧ ∀ y, y ∈ ns → y ≤ x := by
  have hl : 0 < (srt ns).length := by rw [srt_len]; exact List.length_pos_iff.mpr h
  refine ⟨(srt ns)[(srt ns).length - 1], atI_last ?_, srt_mem.mp (List.getElem_mem _), fun y hy => ?_⟩
  · rw [List.length_map, List.getElem?_map, List.getElem?_eq_getElem (by omega)]
    rfl
  · obtain ⟨i, hi, rfl⟩ := List.mem_iff_getElem.mp (srt_mem.mpr hy)
    rcases Nat.lt_or_ge i ((srt ns).length - 1) with z | z
    · exact List.pairwise_iff_getElem.mp (srt_le ns) i _ hi (by omega) z
    · have e : i = (srt ns).length - 1 := by omega
      subst e
      exact Int.le_refl _
def Bits (bs : List Int) : Prop := ∀ x, x ∈ bs → x = 0 ∨ x = 1
def spCheckBits (K : PySem.W.Frag) : Sp := fun vs H Q _ => ∃ b bs w, vs = [.ref b, .int w] ∧ SqT K H b (bs.map V.int) ∧ (bs.length : Int) = w ∧ Bits bs ∧ bs.length ≤ 16 ∧ ∀ H', Keep [] H H' → Q .non H'
def spCheckTelling (K : PySem.W.Frag) : Sp := fun vs H Q _ => ∃ q b k bs m w, vs = [.ref q, .int m, .int w] ∧ SqT K H q [.int k, .ref b] ∧ SqT K H b (bs.map V.int) ∧ 0 ≤ k ∧ k < m ∧ (bs.length : Int) = w ∧ Bits bs ∧ bs.length ≤ 16 ∧ ∀ H', Keep [] H H' → Q .non H'
def spMouthInit (K : PySem.W.Frag) (C : Addr) : Sp := fun vs H Q _ => ∃ p q m w l a dx, vs = [.ref p, .ref q] ∧ SqT K H q [.int m, .int w, .int l, .int a] ∧ SetOk m w l a ∧ H p = some (.ins C dx []) ∧
  ∀ c H', MouthAt C H' p c m w a (-1) (-1) [] → H c = none → Keep [p] H H' → Q .non H'
def spIsFull (C : Addr) : Sp := fun vs H Q _ => ∃ p c m w a l g ks, vs = [.ref p] ∧ MouthAt C H p c m w a l g ks ∧ Q (.bl (decide (g + a < l + 1))) H
def spMLast (C : Addr) : Sp := fun vs H Q _ => ∃ p c m w a l g ks, vs = [.ref p] ∧ MouthAt C H p c m w a l g ks ∧ Q (.int l) H
def spSure (C : Addr) : Sp := fun vs H Q _ => ∃ p c m w a l g ks, vs = [.ref p] ∧ MouthAt C H p c m w a l g ks ∧ ∀ f H', H f = none → H' f = some (.lst ((srt ks).map V.int)) → Keep [] H H' → Q (.ref f) H'
def spSend (C CF : Addr) : Sp := fun vs H Q E => ∃ p c m w a l g ks, vs = [.ref p] ∧ MouthAt C H p c m w a l g ks ∧ 0 < m ∧ -1 ≤ l ∧ l < 1000000 ∧ (g + a < l + 1 → E (.ref CF) none H) ∧
  (¬ g + a < l + 1 → ∀ t H', H t = none → H' t = some (.tup [.int (l + 1), .int ((l + 1) % m)]) → MouthAt C H' p c m w a (l + 1) g ks → Keep [p] H H' → Q (.ref t) H')
def spNumbers (K : PySem.W.Frag) (C : Addr) : Sp := fun vs H Q _ => ∃ p c q b m w a l g ks k bs, vs = [.ref p, .ref q] ∧ MouthAt C H p c m w a l g ks ∧ SqT K H q [.int k, .ref b] ∧ SqT K H b (bs.map V.int) ∧ 0 < m ∧ bs.length ≤ 16 ∧
  ∀ f H', H f = none → H' f = some (.lst ((srt (allOf (newestOf m l k) bs)).map V.int)) → Keep [] H H' → Q (.ref f) H'
def foundOf (n : Int) (bs ks : List Int) : List Int := (srt (allOf n bs)).filter fun x => !decide (x ∈ ks)
def spHear (K : PySem.W.Frag) (C CB : Addr) : Sp := fun vs H Q E => ∃ p c q b m w a l g ks k bs, vs = [.ref p, .ref q] ∧ MouthAt C H p c m w a l g ks ∧ SqT K H q [.int k, .ref b] ∧ SqT K H b (bs.map V.int) ∧ 0 ≤ k ∧ k < m ∧ (bs.length : Int) = w ∧ Bits bs ∧ bs.length ≤ 16 ∧ ks.length < 1000000 ∧
  ((∃ x, x ∈ allOf (newestOf m l k) bs ∧ x < 0) → ∀ H', Keep [] H H' → E (.ref CB) none H') ∧
  ((∀ x, x ∈ allOf (newestOf m l k) bs → 0 ≤ x) → ∀ f H', H f = none → H' f = some (.lst ((foundOf (newestOf m l k) bs ks).map V.int)) → MouthAt C H' p c m w a l (max g (newestOf m l k)) (ks ++ foundOf (newestOf m l k) bs ks) → Keep [p, c] H H' → Q (.ref f) H')
end Ak

namespace Ak
open PySem PySem.Spec PyProof.Rows L2
/-! ### the law's own mouth -/
abbrev ownMF (n : Int) (c : Addr) : List (Key × V) := [(Sum.inr "sent", .int n), (Sum.inr "sure", .ref c)]
def OwnMAt (H : Hp) (o : Addr) (n : Int) (S : List Int) : Prop := ∃ c, H o = some (.dK (ownMF n c)) ∧ H c = some (.lst (S.map V.int))
/-- g is the greatest of S and -1 -/
def IsMx (g : Int) (S : List Int) : Prop := g ∈ -1 :: S ∧ ∀ x, x ∈ -1 :: S → x ≤ g
theorem IsMx.uniq {g g' : Int} {S : List Int} (x : IsMx g S) (y : IsMx g' S) : g = g' := Int.le_antisymm (y.2 _ x.1) (x.2 _ y.1)
def spOwnMouth : Sp := fun vs H Q _ => vs = [] ∧ ∀ o c H', H o = none → H c = none → H' o = some (.dK (ownMF 0 c)) → H' c = some (.lst []) → Keep [] H H' → Q (.ref o) H'
def spOwnFull (K : PySem.W.Frag) : Sp := fun vs H Q _ => ∃ q o m w l a n S g, vs = [.ref q, .ref o] ∧ SqT K H q [.int m, .int w, .int l, .int a] ∧ OwnMAt H o n S ∧ S.length < 1000000 ∧ IsMx g S ∧ ∀ H', Keep [] H H' → Q (.bl (decide (g + a < n))) H'
def foundL (n : Int) (bs S : List Int) : List Int := srt ((allOf n bs).filter fun x => !decide (x ∈ S))
def spOwnHear (K : PySem.W.Frag) : Sp := fun vs H Q _ => ∃ q o t b m w l a n S k bs, vs = [.ref q, .ref o, .ref t] ∧ SqT K H q [.int m, .int w, .int l, .int a] ∧ SqT K H t [.int k, .ref b] ∧ SqT K H b (bs.map V.int) ∧ OwnMAt H o n S ∧ 0 ≤ k ∧ k < m ∧ (bs.length : Int) = w ∧ bs.length ≤ 16 ∧ S.length < 1000000 ∧
  ((∃ x, x ∈ allOf (newestOf m (n - 1) k) bs ∧ x < 0) → ∀ H', Keep [] H H' → Q .non H') ∧
  ((∀ x, x ∈ allOf (newestOf m (n - 1) k) bs → 0 ≤ x) → ∀ f H', H f = none → H' f = some (.lst ((foundL (newestOf m (n - 1) k) bs S).map V.int)) → OwnMAt H' o n (srt (S ++ foundL (newestOf m (n - 1) k) bs S)) → Keep [o] H H' → Q (.ref f) H')
theorem newest_mod {m l k : Int} (k0 : 0 ≤ k) (k1 : k < m) : newestOf m l k % m = k := by
  unfold newestOf
  rw [Int.sub_emod, Int.emod_emod, ← Int.sub_emod]
  have e : l - (l - k) = k := by omega
  rw [e, Int.emod_eq_of_lt k0 k1]
theorem newest_le {m l k : Int} (m0 : 0 < m) : newestOf m l k ≤ l := by
  unfold newestOf
  have := Int.emod_nonneg (l - k) (Int.ne_of_gt m0)
  omega
theorem newest_uniq {m l k i : Int} (k0 : 0 ≤ k) (k1 : k < m) (i0 : i ≤ l) (i1 : newestOf m l k ≤ i) (e : i % m = k) : i = newestOf m l k := by
  have h1 := newest_mod (l := l) k0 k1
  have h2 : l - m < newestOf m l k := by
    unfold newestOf
    have := Int.emod_lt_of_pos (l - k) (show 0 < m by omega)
    omega
  have d1 := Int.emod_add_mul_ediv i m
  have d2 := Int.emod_add_mul_ediv (newestOf m l k) m
  rw [e] at d1
  rw [h1] at d2
  generalize newestOf m l k = t at *
  have e3 : i - t = m * (i / m - t / m) := by rw [Int.mul_sub]; omega
  generalize i / m - t / m = z at e3
  have z0 : 0 ≤ z := by
    by_cases q : z < 0
    · have := Int.mul_neg_of_pos_of_neg (show 0 < m by omega) q
      omega
    · omega
  have z1 : z < 1 := by
    by_cases q : 1 ≤ z
    · have := Int.mul_le_mul_of_nonneg_left q (show 0 ≤ m by omega)
      omega
    · omega
  obtain rfl : z = 0 := by omega
  omega
end Ak

namespace Ak
open PySem PySem.Spec PyProof.Rows L2
section
variable {P : Program} {w : World} {K : PySem.W.Frag} {mg : Str → Option Value} {base : Heap}
theorem ok_next {f : Addr} {fd : FuncData} (F : L2.Fun K "_law_next" "_law_next" s_l_next f fd) (g_len : mg "len" = none) : FnOk P w K mg base (L2.CX P w) 1 f fd ["_law_dice_here", "_law_many"] (spNext K) := by
  refine Fun.okX F sc_l_next (fun vs H Q E h => ?_) (fun cdv A outer s H vs Q E hr h => ?_)
  · obtain ⟨_, _, _, rfl, _⟩ := h
    rfl
  · obtain ⟨H0, d, n, rfl, n0, n1, ⟨⟨a, ns, i, m, r, hd, ha, hl, i0⟩, dn, dx⟩, k⟩ := h
    refine ⟨_, (pss_cons (ps_if (pt_cmpR op_gt (pe_ix (Ak.ix_K (K := K) (by rfl)) (pv 0) pe_int (by intro _ _; rfl)) pe_int (nomark _))
      (pss_cons (ps_set (i := 2) sc_l_next.nd rfl (Or.inl rfl) (pe_op op_mod (pe_ix (Ak.ix_K (K := K) (by rfl)) (pv 0) pe_int (by intro _ _; rfl)) (pv 1)))
      (pss_cons (ps_asg (pe_op op_fdiv (pe_ix (Ak.ix_K (K := K) (by rfl)) (pv 0) pe_int (by intro _ _; rfl)) (pv 1)) (pg_sub (pv 0) pe_int set_list))
      (pss_one (ps_ret (pv 2)))))
      pss_nil)
      (pss_cons (ps_asg (pe_op (Ak.op_plusK (K := K) (by rfl)) (pe_ix (Ak.ix_K (K := K) (by rfl)) (pv 0) pe_int (by intro _ _; rfl)) pe_int) (pg_sub (pv 0) pe_int set_list))
      (pss_cons (ps_if (pt_cmpR op_le (pe_ix (Ak.ix_K (K := K) (by rfl)) (pv 0) pe_int (by intro _ _; rfl)) (pe_callB (Ak.cr_lenK (K := K) (by rfl)) (by rfl) g_len (by decide +kernel) (pa_cons (pe_ix (Ak.ix_K (K := K) (by rfl)) (pv 0) pe_int (by intro _ _; rfl)) pa_nil)) (nomark _))
      (pss_cons (ps_set (i := 3) sc_l_next.nd rfl (Or.inl rfl) (pe_ix (Ak.ix_K (K := K) (by rfl)) (pe_ix (Ak.ix_K (K := K) (by rfl)) (pv 0) pe_int (by intro _ _; rfl)) (pe_op op_sub (pe_ix (Ak.ix_K (K := K) (by rfl)) (pv 0) pe_int (by intro _ _; rfl)) pe_int) (by intro _ _; rfl)))
      (pss_cons (ps_asg (pe_ifExp (pt_cmpR op_ge (pv 3) (pe_op op_pow pe_int pe_int) (nomark _)) (pe_op op_fdiv (pv 3) (pv 1)) pe_int) (pg_sub (pv 0) pe_int set_list))
      (pss_one (ps_ret (pe_op op_mod (pv 3) (pv 1))))))
      pss_nil)
      (pss_cons (ps_asg (pe_op op_mod (pe_op Ak.op_times (pe_ix (Ak.ix_K (K := K) (by rfl)) (pv 0) pe_int (by intro _ _; rfl)) pe_int) pe_int) (pg_sub (pv 0) pe_int set_list))
      (pss_one (ps_ret (pe_op op_mod (pe_op op_fdiv (pe_ix (Ak.ix_K (K := K) (by rfl)) (pv 0) pe_int (by intro _ _; rfl)) pe_int) (pv 1)))))))), ?_⟩
    have e0 : L2.start N_l_next [V.ref d, V.int n] = [some (V.ref d), some (V.int n), none, none] := rfl
    rw [e0]
    try dsimp only [cxOf]
    walk_at "rd"
    have fin : ∀ (x y z u : Int), 0 ≤ y → 0 ≤ x → x < n → Q (.int x) (upd H d (.lst [.ref a, .int y, .int z, .int u])) := fun x y z u y0 x0 x1 =>
      k _ _ x0 x1 ⟨⟨a, ns, y, z, u, upd_same, ha, hl, y0⟩, dn, dx.keep (S := [d]) (by walk_at "kp") (fun b hb => by
        rw [List.mem_singleton.mp hb]
        exact dn)⟩ (by walk_at "kp")
    refine Ak.w_ite (fun h0 => ?_) (fun h0 => ?_)
    · walk_at "rd"
      exact fin _ _ _ _ i0 (Int.emod_nonneg _ (by omega)) (Int.emod_lt_of_pos _ n0)
    · walk_at "rd"
      refine Ak.w_ite (fun h1 => ?_) (fun h1 => ?_)
      · walk_at "rd"
        rw [List.length_map] at h1
        obtain ⟨c, hc⟩ : ∃ c, atI (ns.map V.int) (i + 1 - 1) = some (V.int c) := by
          have e : i + 1 - 1 = ((i.toNat : Nat) : Int) := by omega
          rw [e]
          refine ⟨ns[i.toNat]'(by omega), atI_nat ?_⟩
          rw [List.getElem?_map, List.getElem?_eq_getElem (by omega)]
          rfl
        walk_at "rd"
        refine Ak.w_ite (fun h2 => ?_) (fun h2 => ?_)
        all_goals
          walk_at "rd"
          rw [upd_upd]
          exact fin _ _ _ _ (by omega) (Int.emod_nonneg _ (by omega)) (Int.emod_lt_of_pos _ n0)
      · walk_at "rd"
        rw [upd_upd]
        exact fin _ _ _ _ (by omega) (Int.emod_nonneg _ (by omega)) (Int.emod_lt_of_pos _ n0)
theorem ok_dice {f : Addr} {fd : FuncData} (F : L2.Fun K "_law_dice" "_law_dice" s_l_dice f fd) (g_len : mg "len" = none) (g_int : mg "int" = none) : FnOk P w K mg base (L2.CX P w) 1 f fd ["_law_script"] (spDice K) := by
  refine Fun.okX F sc_l_dice (fun vs H Q E h => ?_) (fun cdv A outer s H vs Q E hr h => ?_)
  · obtain ⟨_, _, rfl, _⟩ := h
    rfl
  · obtain ⟨a, ns, rfl, ha, hl, k⟩ := h
    refine ⟨_, (pss_cons (ps_set (i := 1) sc_l_dice.nd rfl (Or.inl rfl) pe_int)
      (pss_cons (ps_for (passes_of rfl) rfl (Ak.pi_listK (K := K) (by rfl) (pv 0)) (pg_name (i := 2) sc_l_dice.nd rfl (Or.inl rfl))
      (pss_one (ps_set (i := 1) sc_l_dice.nd rfl (Or.inl rfl) (pe_op op_mod (pe_op (Ak.op_plusK (K := K) (by rfl)) (pe_op (Ak.op_plusK (K := K) (by rfl)) (pe_op Ak.op_times (pv 1) pe_int) (pe_op Ak.op_times (pe_op op_mod (pv 2) pe_int) pe_int)) pe_int) pe_int))))
      (pss_one (ps_ret (pe_lst (pa_cons (pv 0) (pa_cons pe_int (pa_cons (pe_op Ak.op_times (pv 1) (pe_callTy Ak.cr_intX (by rfl) g_int (by decide +kernel) (pa_cons (pe_cmpR op_gt (pe_callB (Ak.cr_lenK (K := K) (by rfl)) (by rfl) g_len (by decide +kernel) (pa_cons (pv 0) pa_nil)) pe_int (nomark _)) pa_nil))) (pa_cons pe_int pa_nil))))))))), ?_⟩
    have e0 : L2.start N_l_dice [V.ref a] = [some (V.ref a), none, none] := rfl
    rw [e0]
    try dsimp only [cxOf]
    walk_at "rd"
    refine Ak.l_forList ha (fun _ σ H' => ∃ m v, σ = [some (.ref a), some (.int m), v] ∧ H' = H) ⟨0, none, rfl, rfl⟩ (fun i σ' H' _ q => by obtain ⟨_, _, _, rfl⟩ := q; exact ha) (fun i x σ' H' hx q => ?_) (fun σ' H' q => ?_)
    · obtain ⟨m, v, rfl, rfl⟩ := q
      obtain ⟨c, rfl⟩ : ∃ c, x = V.int c := by
        rw [List.getElem?_map] at hx
        cases e : ns[i]? with
        | none => rw [e] at hx; cases hx
        | some c => rw [e] at hx; exact ⟨c, (Option.some.inj hx).symm⟩
      walk_at "rd"
      exact ⟨_, _, rfl, rfl⟩
    · obtain ⟨m, v, rfl, rfl⟩ := q
      walk_at "rd"
      exact k _ _ (by walk_at "as") ⟨⟨a, ns, 0, _, 0, upd_same, ha, hl, Int.le_refl 0⟩, by walk_at "as", by walk_at "xt"⟩ (by walk_at "kp")
end
end Ak

namespace Ak
open PySem PySem.Spec PyProof.Rows L2
section
variable {P : Program} {w : World} {K : PySem.W.Frag} {mg : Str → Option Value} {base : Heap}
theorem ok_setting {f : Addr} {fd : FuncData} (F : L2.Fun K "_law_setting" "_law_setting" s_l_setting f fd) (g_max : mg "max" = none) (g_min : mg "min" = none) (c_l_next : CalX P w K mg base 1 "_law_next" (spNext K)) : FnOk P w K mg base (L2.CX P w) 2 f fd ["_law_d"] (spSetting K) := by
  refine Fun.okX F sc_l_setting (fun vs H Q E h => ?_) (fun cdv A outer s H vs Q E hr h => ?_)
  · obtain ⟨_, _, rfl, _⟩ := h
    rfl
  · obtain ⟨H0, d, rfl, hd, k⟩ := h
    refine ⟨_, (pss_cons (ps_set (i := 1) sc_l_setting.nd rfl (Or.inl rfl) (pe_ix (Ak.ix_K (K := K) (by rfl)) (pe_lst (pa_cons (Ak.pe_cx c_l_next hr (by walk_at "lv") (by rfl) (takes_of rfl rfl rfl rfl) (pa_cons (pv 0) (pa_cons pe_int pa_nil))) (pa_cons (Ak.pe_cx c_l_next hr (by walk_at "lv") (by rfl) (takes_of rfl rfl rfl rfl) (pa_cons (pv 0) (pa_cons pe_int pa_nil))) pa_nil))) (Ak.pe_cx c_l_next hr (by walk_at "lv") (by rfl) (takes_of rfl rfl rfl rfl) (pa_cons (pv 0) (pa_cons pe_int pa_nil))) (by intro _ _; rfl)))
      (pss_cons (ps_set (i := 2) sc_l_setting.nd rfl (Or.inl rfl) (pe_op (Ak.op_plusK (K := K) (by rfl)) pe_int (pe_ix (Ak.ix_K (K := K) (by rfl)) (pe_lst (pa_cons (Ak.pe_cx c_l_next hr (by walk_at "lv") (by rfl) (takes_of rfl rfl rfl rfl) (pa_cons (pv 0) (pa_cons pe_int pa_nil))) (pa_cons (Ak.pe_cx c_l_next hr (by walk_at "lv") (by rfl) (takes_of rfl rfl rfl rfl) (pa_cons (pv 0) (pa_cons pe_int pa_nil))) pa_nil))) (Ak.pe_cx c_l_next hr (by walk_at "lv") (by rfl) (takes_of rfl rfl rfl rfl) (pa_cons (pv 0) (pa_cons pe_int pa_nil))) (by intro _ _; rfl))))
      (pss_cons (ps_set (i := 3) sc_l_setting.nd rfl (Or.inl rfl) (pe_ix (Ak.ix_K (K := K) (by rfl)) (pe_lst (pa_cons (Ak.pe_cx c_l_next hr (by walk_at "lv") (by rfl) (takes_of rfl rfl rfl rfl) (pa_cons (pv 0) (pa_cons pe_int pa_nil))) (pa_cons (Ak.pe_cx c_l_next hr (by walk_at "lv") (by rfl) (takes_of rfl rfl rfl rfl) (pa_cons (pv 0) (pa_cons pe_int pa_nil))) pa_nil))) (Ak.pe_cx c_l_next hr (by walk_at "lv") (by rfl) (takes_of rfl rfl rfl rfl) (pa_cons (pv 0) (pa_cons pe_int pa_nil))) (by intro _ _; rfl)))
      (pss_cons (ps_set (i := 4) sc_l_setting.nd rfl (Or.inl rfl) (pe_op (Ak.op_plusK (K := K) (by rfl)) (pe_op (Ak.op_plusK (K := K) (by rfl)) (pv 1) (pv 2)) (pe_ix (Ak.ix_K (K := K) (by rfl)) (pe_lst (pa_cons pe_int (pa_cons pe_int (pa_cons pe_int (pa_cons pe_int (pa_cons (pe_op op_sub (Ak.pe_cx c_l_next hr (by walk_at "lv") (by rfl) (takes_of rfl rfl rfl rfl) (pa_cons (pv 0) (pa_cons pe_int pa_nil))) pe_int) pa_nil)))))) (Ak.pe_cx c_l_next hr (by walk_at "lv") (by rfl) (takes_of rfl rfl rfl rfl) (pa_cons (pv 0) (pa_cons pe_int pa_nil))) (by intro _ _; rfl))))
      (pss_cons (ps_set (i := 4) sc_l_setting.nd rfl (Or.inl rfl) (pe_ix (Ak.ix_K (K := K) (by rfl)) (pe_lst (pa_cons (pv 4) (pa_cons (pe_op (Ak.op_plusK (K := K) (by rfl)) pe_int (Ak.pe_cx c_l_next hr (by walk_at "lv") (by rfl) (takes_of rfl rfl rfl rfl) (pa_cons (pv 0) (pa_cons pe_int pa_nil)))) (pa_cons pe_int pa_nil)))) (pe_callB (Ak.cr_maxK (K := K) (by rfl) rfl) (by rfl) g_max (by decide +kernel) (pa_cons pe_int (pa_cons (pe_op op_sub (Ak.pe_cx c_l_next hr (by walk_at "lv") (by rfl) (takes_of rfl rfl rfl rfl) (pa_cons (pv 0) (pa_cons pe_int pa_nil))) pe_int) pa_nil))) (by intro _ _; rfl)))
      (pss_one (ps_ret (pe_tup (pa_cons (pe_callB (Ak.cr_minK (K := K) (by rfl) rfl) (by rfl) g_min (by decide +kernel) (pa_cons pe_int (pa_cons (pe_callB (Ak.cr_maxK (K := K) (by rfl) rfl) (by rfl) g_max (by decide +kernel) (pa_cons pe_int (pa_cons (pv 4) pa_nil))) pa_nil))) (pa_cons (pv 3) (pa_cons (pv 1) (pa_cons (pv 2) pa_nil)))))))))))), ?_⟩
    have e0 : L2.start N_l_setting [V.ref d] = [some (V.ref d), none, none, none, none] := rfl
    rw [e0]
    try dsimp only [cxOf]
    walk_at "rd"
    refine Ak.pickP (fun v => 0 ≤ v ∧ v ≤ 8) (by walk_at "sq") (by omega) (by show _ < (2 : Int); omega) (by walk_at "pk") (fun late hlate => ?_)
    walk_at "rd"
    refine Ak.pickP (fun v => 0 ≤ v ∧ v ≤ 15) (by walk_at "sq") (by omega) (by show _ < (2 : Int); omega) (by walk_at "pk") (fun ah hah => ?_)
    walk_at "rd"
    refine Ak.pickP (fun v => 0 ≤ v ∧ v ≤ 16) (by walk_at "sq") (by omega) (by show _ < (2 : Int); omega) (by walk_at "pk") (fun wide hwide => ?_)
    walk_at "rd"
    refine Ak.pickP (fun v => True) (by walk_at "sq") (by omega) (by show _ < (5 : Int); omega) (by
      intro x hx
      (repeat (rcases List.mem_cons.mp hx with rfl | hx; · exact ⟨_, rfl, trivial⟩))
      exact absurd hx List.not_mem_nil) (fun mk _ => ?_)
    walk_at "rd"
    refine Ak.pickP (fun v => True) (by walk_at "sq") (by omega) (by show _ < (3 : Int); omega) (by
      intro x hx
      (repeat (rcases List.mem_cons.mp hx with rfl | hx; · exact ⟨_, rfl, trivial⟩))
      exact absurd hx List.not_mem_nil) (fun mk2 _ => ?_)
    walk_at "rd"
    exact k _ _ _ _ _ _ ⟨by omega, by omega, by omega, by omega, by omega, by omega, by omega, by omega⟩ (Ak.fresh_of [d] (by walk_at "as") (by walk_at "kp")) upd_same (by walk_at "dc") (by walk_at "kp")
end
end Ak

namespace Ak
open PySem PySem.Spec PyProof.Rows L2
section
variable {P : Program} {w : World} {K : PySem.W.Frag} {mg : Str → Option Value} {base : Heap}
theorem like_step {n : Nat} {f : Addr} {fd : FuncData} (F : L2.Fun K "_law_like" "_law_like" s_l_like f fd) (g_isinstance : mg "isinstance" = none) (g_bool : mg "bool" = none) (g_str : mg "str" = none) (g_int : mg "int" = none) (g_dict : mg "dict" = none) (g_tuple : mg "tuple" = none) (g_list : mg "list" = none)
    (g_len : mg "len" = none) (g_range : mg "range" = none) (c_l_like : CalX P w K mg base (n + 1) "_law_like" (spLike K n)) : FnOk P w K mg base (L2.CX P w) (n + 2) f fd ["_law_found", "_law_due"] (spLike K (n + 1)) := by
  refine Fun.okX F sc_l_like (fun vs H Q E h => ?_) (fun cdv A outer s H vs Q E hr h => ?_)
  · obtain ⟨_, _, rfl, _⟩ := h
    rfl
  · obtain ⟨x, y, rfl, al, k⟩ := h
    refine ⟨_, (pss_cons (ps_if (Ak.pt_truK (K := K) (by rfl) (pe_callB (Ak.cr_isiK (K := K) (by rfl)) (by rfl) g_isinstance (by decide +kernel) (pa_cons (pv 1) (pa_cons (Ak.pe_ty (T := "bool") (by rfl) g_bool (by decide +kernel)) pa_nil))))
      (pss_one (ps_ret (pe_and (pe_callB (Ak.cr_isiK (K := K) (by rfl)) (by rfl) g_isinstance (by decide +kernel) (pa_cons (pv 0) (pa_cons (Ak.pe_ty (T := "bool") (by rfl) g_bool (by decide +kernel)) pa_nil))) (pe_one (pe_cmpR (Ak.op_eqK (K := K) (by rfl) hr.units) (pv 0) (pv 1) (nomark _))))))
      pss_nil)
      (pss_cons (ps_if (Ak.pt_truK (K := K) (by rfl) (pe_callB (Ak.cr_isiK (K := K) (by rfl)) (by rfl) g_isinstance (by decide +kernel) (pa_cons (pv 1) (pa_cons (Ak.pe_ty (T := "str") (by rfl) g_str (by decide +kernel)) pa_nil))))
      (pss_one (ps_ret (pe_and (pe_callB (Ak.cr_isiK (K := K) (by rfl)) (by rfl) g_isinstance (by decide +kernel) (pa_cons (pv 0) (pa_cons (Ak.pe_ty (T := "str") (by rfl) g_str (by decide +kernel)) pa_nil))) (pe_one (pe_cmpR (Ak.op_eqK (K := K) (by rfl) hr.units) (pv 0) (pv 1) (nomark _))))))
      pss_nil)
      (pss_cons (ps_if (Ak.pt_truK (K := K) (by rfl) (pe_callB (Ak.cr_isiK (K := K) (by rfl)) (by rfl) g_isinstance (by decide +kernel) (pa_cons (pv 1) (pa_cons (Ak.pe_ty (T := "int") (by rfl) g_int (by decide +kernel)) pa_nil))))
      (pss_one (ps_ret (pe_and (pe_callB (Ak.cr_isiK (K := K) (by rfl)) (by rfl) g_isinstance (by decide +kernel) (pa_cons (pv 0) (pa_cons (Ak.pe_ty (T := "int") (by rfl) g_int (by decide +kernel)) pa_nil))) (pe_and (pe_not (pe_callB (Ak.cr_isiK (K := K) (by rfl)) (by rfl) g_isinstance (by decide +kernel) (pa_cons (pv 0) (pa_cons (Ak.pe_ty (T := "bool") (by rfl) g_bool (by decide +kernel)) pa_nil)))) (pe_one (pe_cmpR (Ak.op_eqK (K := K) (by rfl) hr.units) (pv 0) (pv 1) (nomark _)))))))
      pss_nil)
      (pss_cons (ps_if (pt_cmpR Ak.op_isNon (pv 1) pe_non (nomark _))
      (pss_one (ps_ret (pe_cmpR Ak.op_isNon (pv 0) pe_non (nomark _))))
      pss_nil)
      (pss_cons (ps_if (Ak.pt_truK (K := K) (by rfl) (pe_callB (Ak.cr_isiK (K := K) (by rfl)) (by rfl) g_isinstance (by decide +kernel) (pa_cons (pv 1) (pa_cons (Ak.pe_ty (T := "dict") (by rfl) g_dict (by decide +kernel)) pa_nil))))
      (pss_cons ps_never
      (pss_one ps_never))
      pss_nil)
      (pss_cons (ps_if (PW.pt (pw_or (pt_cmpR (Ak.op_neK (K := K) (by rfl) hr.units) (pe_callB (Ak.cr_isiK (K := K) (by rfl)) (by rfl) g_isinstance (by decide +kernel) (pa_cons (pv 1) (pa_cons (Ak.pe_ty (T := "tuple") (by rfl) g_tuple (by decide +kernel)) pa_nil))) (pe_callB (Ak.cr_isiK (K := K) (by rfl)) (by rfl) g_isinstance (by decide +kernel) (pa_cons (pv 0) (pa_cons (Ak.pe_ty (T := "tuple") (by rfl) g_tuple (by decide +kernel)) pa_nil))) (nomark _)) (pw_or1 (pt_cmpR (Ak.op_neK (K := K) (by rfl) hr.units) (pe_callB (Ak.cr_isiK (K := K) (by rfl)) (by rfl) g_isinstance (by decide +kernel) (pa_cons (pv 1) (pa_cons (Ak.pe_ty (T := "list") (by rfl) g_list (by decide +kernel)) pa_nil))) (pe_callB (Ak.cr_isiK (K := K) (by rfl)) (by rfl) g_isinstance (by decide +kernel) (pa_cons (pv 0) (pa_cons (Ak.pe_ty (T := "list") (by rfl) g_list (by decide +kernel)) pa_nil))) (nomark _)))))
      (pss_one (ps_ret pe_bl))
      pss_nil)
      (pss_cons (ps_if (pt_cmpR (Ak.op_neK (K := K) (by rfl) hr.units) (pe_callB (Ak.cr_lenK (K := K) (by rfl)) (by rfl) g_len (by decide +kernel) (pa_cons (pv 0) pa_nil)) (pe_callB (Ak.cr_lenK (K := K) (by rfl)) (by rfl) g_len (by decide +kernel) (pa_cons (pv 1) pa_nil)) (nomark _))
      (pss_one (ps_ret pe_bl))
      pss_nil)
      (pss_cons (ps_for (passes_of rfl) rfl (pi_range1 (by rfl) g_range (pa_cons (pe_callB (Ak.cr_lenK (K := K) (by rfl)) (by rfl) g_len (by decide +kernel) (pa_cons (pv 1) pa_nil)) pa_nil)) (pg_name (i := 3) sc_l_like.nd rfl (Or.inl rfl))
      (pss_one (ps_if (pt_not (Ak.pt_truK (K := K) (by rfl) (Ak.pe_cx c_l_like hr (by walk_at "lv") (by rfl) (takes_of rfl rfl rfl rfl) (pa_cons (pe_ix (Ak.ix_K (K := K) (by rfl)) (pv 0) (pv 3) (by intro _ _; rfl)) (pa_cons (pe_ix (Ak.ix_K (K := K) (by rfl)) (pv 1) (pv 3) (by intro _ _; rfl)) pa_nil)))))
      (pss_one (ps_ret pe_bl))
      pss_nil)))
      (pss_one (ps_ret pe_bl)))))))))), ?_⟩
    have e0 : L2.start N_l_like [x, y] = [some (x), some (y), none, none] := rfl
    rw [e0]
    try dsimp only [cxOf]
    rcases al with ⟨b, rfl, rfl⟩ | ⟨b, rfl, rfl⟩ | ⟨b, rfl, rfl⟩ | ⟨rfl, rfl⟩ | ⟨a, b, xs, ys, rfl, rfl, hx, hy, hl, hz, hk⟩ | ⟨a, b, xs, ys, rfl, rfl, hx, hy, hl, hz, hk⟩
    · walk_at "rd"
      rw [decide_eq_true rfl]
      exact k
    · walk_at "rd"
      rw [decide_eq_true rfl]
      exact k
    · walk_at "rd"
      rw [decide_eq_true rfl]
      exact k
    · walk_at "rd"
      exact k
    all_goals
      walk_at "rd"
      refine Ak.w_iteN (fun z => absurd (by rw [hl]) z) (fun _ => ?_)
      walk_at "rd"
      refine Ak.l_forR1 (by omega) (by omega) (fun _ σ H' => (∃ v, σ = [some (.ref a), some (.ref b), none, v]) ∧ H' = H) ⟨⟨none, rfl⟩, rfl⟩ (fun i σ' H' hi q => ?_) (fun σ' H' q => ?_)
      · obtain ⟨⟨v, rfl⟩, rfl⟩ := q
        have i1 : i < ys.length := by omega
        have i2 : i < xs.length := by omega
        have q1 : atI xs (i : Int) = some (xs[i]'i2) := atI_nat (List.getElem?_eq_getElem i2)
        have q2 : atI ys (i : Int) = some (ys[i]'i1) := atI_nat (List.getElem?_eq_getElem i1)
        walk_at "rd"
        refine Ak.like_go (hk i _ _ (List.getElem?_eq_getElem i2) (List.getElem?_eq_getElem i1)) ?_
        walk_at "rd"
        exact ⟨⟨_, rfl⟩, rfl⟩
      · obtain ⟨⟨v, rfl⟩, rfl⟩ := q
        walk_at "rd"
        exact k
theorem ok_like {f : Addr} {fd : FuncData} (F : L2.Fun K "_law_like" "_law_like" s_l_like f fd) (g_isinstance : mg "isinstance" = none) (g_bool : mg "bool" = none) (g_str : mg "str" = none) (g_int : mg "int" = none) (g_dict : mg "dict" = none) (g_tuple : mg "tuple" = none) (g_list : mg "list" = none)
    (g_len : mg "len" = none) (g_range : mg "range" = none) (gf : mg "_law_like" = some (.ref f)) (b : Binds K fd ["_law_found", "_law_due"] []) : ∀ n, CalX P w K mg base (n + 1) "_law_like" (spLike K n)
  | 0 => ⟨f, fd, ["_law_found", "_law_due"], ⟨fun _ _ _ _ ⟨_, _, _, al, _⟩ => al.elim, fun _ _ _ _ _ _ _ _ _ _ _ _ _ ⟨_, _, _, al, _⟩ => al.elim⟩, gf, F.kp, b⟩
  | n + 1 => ⟨f, fd, ["_law_found", "_law_due"], like_step F g_isinstance g_bool g_str g_int g_dict g_tuple g_list g_len g_range (ok_like F g_isinstance g_bool g_str g_int g_dict g_tuple g_list g_len g_range gf b n), gf, F.kp, b⟩
end
end Ak

namespace Ak
open PySem PySem.Spec PyProof.Rows L2
section
variable {P : Program} {w : World} {K : PySem.W.Frag} {mg : Str → Option Value} {base : Heap} {C : Addr}
theorem ok_check_number {b : Addr} {f : Addr} {fd : FuncData} (F : L2.Fun K "check_number" "check_number" s_check_number f fd) (B : BoundsT K w mg b) : FnOk P w K mg base (L2.CX P w) 1 f fd ["word", "number"] spCheckNumber := by
  refine Fun.okX F sc_check_number (fun vs H Q E h => ?_) (fun cdv A outer s H vs Q E hr h => ?_)
  · obtain ⟨_, _, _, _, rfl, _⟩ := h
    rfl
  · obtain ⟨wd, n, lo, hi, rfl, hb, h0, h1, hQ⟩ := h
    refine ⟨_, (pss_cons (ps_asg (pe_ix (Ak.ix_kd (K := K) (w := w) (by rfl) (by rfl)) (Ak.pe_cls (by rfl) B.g) (pv 0) (by intro _ _; rfl)) (Ak.pg_tupK (K := K) (n := 2) (by rfl) rfl (pgs_cons (pg_name (i := 2) sc_check_number.nd rfl (Or.inl rfl)) (pgs_cons (pg_name (i := 3) sc_check_number.nd rfl (Or.inl rfl)) pgs_nil))))
      (pss_one (ps_if (PW.pt (pw_or (pt_cmpR op_lt (pv 1) (pv 2) (nomark _)) (pw_or1 (pt_cmpR op_gt (pv 1) (pv 3) (nomark _)))))
      (pss_one ps_never)
      pss_nil))), ?_⟩
    have e0 : L2.start N_check_number [V.str wd, V.int n] = [some (V.str wd), some (V.int n), none, none] := rfl
    rw [e0]
    try dsimp only [cxOf]
    obtain ⟨t, kt, st⟩ := B.get wd lo hi hb
    walk_at "rd"
    refine ⟨b, wd, _, rfl, rfl, kt, ?_⟩
    have st' := st H
    walk_at "rd"
    refine Ak.w_ite (fun z => by omega) (fun _ => ?_)
    walk_at "rd"
    refine Ak.w_ite (fun z => by omega) (fun _ => ?_)
    walk_at "rd"
    exact hQ
end
end Ak

namespace Ak
open PySem PySem.Spec PyProof.Rows L2
section
variable {P : Program} {w : World} {K : PySem.W.Frag} {mg : Str → Option Value} {base : Heap} {C : Addr}
theorem ok_check_mark {f : Addr} {fd : FuncData} (F : L2.Fun K "check_mark" "check_mark" s_check_mark f fd) : FnOk P w K mg base (L2.CX P w) 1 f fd ["mark", "marks"] spCheckMark := by
  refine Fun.okX F sc_check_mark (fun vs H Q E h => ?_) (fun cdv A outer s H vs Q E hr h => ?_)
  · obtain ⟨_, _, rfl, _⟩ := h
    rfl
  · obtain ⟨k, m, rfl, k0, k1, hQ⟩ := h
    refine ⟨_, (pss_one (ps_if (PW.pt (pw_or (pt_cmpR op_lt (pv 0) pe_int (nomark _)) (pw_or1 (pt_cmpR op_ge (pv 0) (pv 1) (nomark _)))))
      (pss_one ps_never)
      pss_nil)), ?_⟩
    have e0 : L2.start N_check_mark [V.int k, V.int m] = [some (V.int k), some (V.int m)] := rfl
    rw [e0]
    try dsimp only [cxOf]
    walk_at "rd"
    refine Ak.w_ite (fun z => by omega) (fun _ => ?_)
    walk_at "rd"
    refine Ak.w_ite (fun z => by omega) (fun _ => ?_)
    walk_at "rd"
    exact hQ
theorem ok_check_setting {f : Addr} {fd : FuncData} (F : L2.Fun K "check_setting" "check_setting" s_check_setting f fd) (c_check_number : CalX P w K mg base 1 "check_number" spCheckNumber) : FnOk P w K mg base (L2.CX P w) 2 f fd ["setting"] (spCheckSetting K) := by
  refine Fun.okX F sc_check_setting (fun vs H Q E h => ?_) (fun cdv A outer s H vs Q E hr h => ?_)
  · obtain ⟨_, _, _, _, _, rfl, _⟩ := h
    rfl
  · obtain ⟨q, m, w, l, a, rfl, hq, so, k⟩ := h
    obtain ⟨so1, so2, so3, so4, so5, so6, so7, so8⟩ := so
    refine ⟨_, (pss_cons (ps_asg (pv 0) (Ak.pg_tupK (K := K) (n := 4) (by rfl) rfl (pgs_cons (pg_name (i := 1) sc_check_setting.nd rfl (Or.inl rfl)) (pgs_cons (pg_name (i := 2) sc_check_setting.nd rfl (Or.inl rfl)) (pgs_cons (pg_name (i := 3) sc_check_setting.nd rfl (Or.inl rfl)) (pgs_cons (pg_name (i := 4) sc_check_setting.nd rfl (Or.inl rfl)) pgs_nil))))))
      (pss_cons (ps_expr (Ak.pe_cx c_check_number hr (by walk_at "lv") (by rfl) (takes_of rfl rfl rfl rfl) (pa_cons pe_str (pa_cons (pv 1) pa_nil))))
      (pss_cons (ps_expr (Ak.pe_cx c_check_number hr (by walk_at "lv") (by rfl) (takes_of rfl rfl rfl rfl) (pa_cons pe_str (pa_cons (pv 2) pa_nil))))
      (pss_cons (ps_expr (Ak.pe_cx c_check_number hr (by walk_at "lv") (by rfl) (takes_of rfl rfl rfl rfl) (pa_cons pe_str (pa_cons (pv 3) pa_nil))))
      (pss_one (ps_expr (Ak.pe_cx c_check_number hr (by walk_at "lv") (by rfl) (takes_of rfl rfl rfl rfl) (pa_cons pe_str (pa_cons (pv 4) pa_nil))))))))), ?_⟩
    have e0 : L2.start N_check_setting [V.ref q] = [some (V.ref q), none, none, none, none] := rfl
    rw [e0]
    try dsimp only [cxOf]
    walk_at "rd"
    refine ⟨_, _, _, _, rfl, .marks, so1, so2, ?_⟩
    walk_at "rd"
    refine ⟨_, _, _, _, rfl, .wide, so3, so4, ?_⟩
    walk_at "rd"
    refine ⟨_, _, _, _, rfl, .late, so5, so6, ?_⟩
    walk_at "rd"
    refine ⟨_, _, _, _, rfl, .ahead, so7, so8, ?_⟩
    walk_at "rd"
    exact k _ Keep.refl
end
end Ak

namespace Ak
open PySem PySem.Spec PyProof.Rows L2
section
variable {P : Program} {w : World} {K : PySem.W.Frag} {mg : Str → Option Value} {base : Heap} {C : Addr}
theorem w_nin01 {H : Hp} {Q : VK} {t : Addr} {i : Int} (e : H t = some (.tup [.int 0, .int 1])) (h : i = 0 ∨ i = 1) (q : Q (.bl false) H) : rNinX K (.int i) (.ref t) H Q := by
  refine w_ninO e rfl rfl rfl ?_
  rcases h with rfl | rfl
  · exact q
  · exact q
theorem ok_check_bits {f : Addr} {fd : FuncData} (F : L2.Fun K "check_bits" "check_bits" s_check_bits f fd) (g_len : mg "len" = none) : FnOk P w K mg base (L2.CX P w) 1 f fd ["bits", "wide"] (spCheckBits K) := by
  refine Fun.okX F sc_check_bits (fun vs H Q E h => ?_) (fun cdv A outer s H vs Q E hr h => ?_)
  · obtain ⟨_, _, _, rfl, _⟩ := h
    rfl
  · obtain ⟨b, bs, wi, rfl, hb, hl, h01, h16, k⟩ := h
    refine ⟨_, (pss_cons (ps_if (pt_cmpR (Ak.op_neK (K := K) (by rfl) hr.units) (pe_callB (Ak.cr_lenK (K := K) (by rfl)) (by rfl) g_len (by decide +kernel) (pa_cons (pv 0) pa_nil)) (pv 1) (nomark _))
      (pss_one ps_never)
      pss_nil)
      (pss_one (ps_for (passes_of rfl) rfl (Ak.pi_tupK (K := K) (by rfl) (pv 0)) (pg_name (i := 2) sc_check_bits.nd rfl (Or.inl rfl))
      (pss_one (ps_if (pt_cmpR (Ak.op_ninK (K := K) (by rfl)) (pv 2) (pe_tup (pa_cons pe_int (pa_cons pe_int pa_nil))) (by rfl))
      (pss_one ps_never)
      pss_nil))))), ?_⟩
    have e0 : L2.start N_check_bits [V.ref b, V.int wi] = [some (V.ref b), some (V.int wi), none] := rfl
    rw [e0]
    try dsimp only [cxOf]
    walk_at "rd"
    refine Ak.w_iteN (fun z => absurd (by rw [List.length_map]; exact hl) z) (fun _ => ?_)
    walk_at "rd"
    refine l_forTup hb (fun _ σ' H' => ∃ v, σ' = [some (.ref b), some (.int wi), v] ∧ Keep [] H H') ⟨none, rfl, Keep.refl⟩ (fun i σ' H' _ pv => by obtain ⟨_, _, pv⟩ := pv; exact pv.seqT nin_nil hb) (fun i x σ' H' hx pv => ?_) (fun σ' H' pv => ?_)
    · obtain ⟨v, rfl, hk⟩ := pv
      obtain ⟨c, hc, rfl⟩ := map_at hx
      walk_at "rd"
      refine w_nin01 (by walk_at "lk") (h01 _ (List.mem_of_getElem? hc)) ?_
      walk_at "rd"
      exact ⟨_, rfl, by walk_at "kp"⟩
    · obtain ⟨v, rfl, hk⟩ := pv
      walk_at "rd"
      exact k _ hk
theorem ok_check_telling {f : Addr} {fd : FuncData} (F : L2.Fun K "check_telling" "check_telling" s_check_telling f fd) (c_check_mark : CalX P w K mg base 1 "check_mark" spCheckMark) (c_check_bits : CalX P w K mg base 1 "check_bits" (spCheckBits K)) : FnOk P w K mg base (L2.CX P w) 2 f fd ["told", "marks", "wide"] (spCheckTelling K) := by
  refine Fun.okX F sc_check_telling (fun vs H Q E h => ?_) (fun cdv A outer s H vs Q E hr h => ?_)
  · obtain ⟨_, _, _, _, _, _, rfl, _⟩ := h
    rfl
  · obtain ⟨q, b, mk, bs, m, wi, rfl, hq, hb, k0, k1, hl, h01, h16, k⟩ := h
    refine ⟨_, (pss_cons (ps_asg (pv 0) (Ak.pg_tupK (K := K) (n := 2) (by rfl) rfl (pgs_cons (pg_name (i := 3) sc_check_telling.nd rfl (Or.inl rfl)) (pgs_cons (pg_name (i := 4) sc_check_telling.nd rfl (Or.inl rfl)) pgs_nil))))
      (pss_cons (ps_expr (Ak.pe_cx c_check_mark hr (by walk_at "lv") (by rfl) (takes_of rfl rfl rfl rfl) (pa_cons (pv 3) (pa_cons (pv 1) pa_nil))))
      (pss_one (ps_expr (Ak.pe_cx c_check_bits hr (by walk_at "lv") (by rfl) (takes_of rfl rfl rfl rfl) (pa_cons (pv 4) (pa_cons (pv 2) pa_nil))))))), ?_⟩
    have e0 : L2.start N_check_telling [V.ref q, V.int m, V.int wi] = [some (V.ref q), some (V.int m), some (V.int wi), none, none] := rfl
    rw [e0]
    try dsimp only [cxOf]
    walk_at "rd"
    refine ⟨mk, m, rfl, k0, k1, ?_⟩
    walk_at "rd"
    refine ⟨b, bs, wi, rfl, hb, hl, h01, h16, fun H' hk => ?_⟩
    walk_at "rd"
    exact k _ hk
theorem ok_mouth_init {f : Addr} {fd : FuncData} (F : L2.Fun K "__init__" "Mouth.__init__" s_Mouth___init f fd) (T : MouthT K C) (c_check_setting : CalX P w K mg base 2 "check_setting" (spCheckSetting K)) : FnOk P w K mg base (L2.CX P w) 3 f fd ["self", "setting"] (spMouthInit K C) := by
  refine Fun.okX F sc_Mouth___init (fun vs H Q E h => ?_) (fun cdv A outer s H vs Q E hr h => ?_)
  · obtain ⟨_, _, _, _, _, _, _, rfl, _⟩ := h
    rfl
  · obtain ⟨p, q, m, wi, l, a, dx, rfl, hq, so, hp, k⟩ := h
    obtain ⟨cl, n1, n2, n3, n4, n5, n6⟩ := T
    refine ⟨_, (pss_cons (ps_expr (Ak.pe_cx c_check_setting hr (by walk_at "lv") (by rfl) (takes_of rfl rfl rfl rfl) (pa_cons (pv 1) pa_nil)))
      (pss_cons (ps_asg (pv 1) (Ak.pg_tupK (K := K) (n := 4) (by rfl) rfl (pgs_cons (pg_name (i := 2) sc_Mouth___init.nd rfl (Or.inl rfl)) (pgs_cons (pg_name (i := 3) sc_Mouth___init.nd rfl (Or.inl rfl)) (pgs_cons (pg_name (i := 4) sc_Mouth___init.nd rfl (Or.inl rfl)) (pgs_cons (pg_name (i := 5) sc_Mouth___init.nd rfl (Or.inl rfl)) pgs_nil))))))
      (pss_cons (Ak.ps_fldK (K := K) (by rfl) (pv 0) (pv 2) rfl)
      (pss_cons (Ak.ps_fldK (K := K) (by rfl) (pv 0) (pv 3) rfl)
      (pss_cons (Ak.ps_fldK (K := K) (by rfl) (pv 0) (pv 5) rfl)
      (pss_cons (Ak.ps_fldK (K := K) (by rfl) (pv 0) (pe_un un_neg pe_int) rfl)
      (pss_cons (Ak.ps_fldK (K := K) (by rfl) (pv 0) (pe_un un_neg pe_int) rfl)
      (pss_one (Ak.ps_fldK (K := K) (by rfl) (pv 0) pe_dnewK rfl))))))))), ?_⟩
    have e0 : L2.start N_Mouth___init [V.ref p, V.ref q] = [some (V.ref p), some (V.ref q), none, none, none, none] := rfl
    rw [e0]
    try dsimp only [cxOf]
    walk_at "rd"
    refine ⟨q, m, wi, l, a, rfl, hq, so, fun H' hk => ?_⟩
    have hp' : H' p = some (.ins C dx []) := by walk_at "lk"
    walk_at "rd"
    refine k _ _ ⟨dx, upd_same, ?_⟩ ?_ (by walk_at "kp")
    · show _ = some (HO.dK [])
      walk_at "lk"
    · exact fresh_of [p] (by walk_at "as") (by walk_at "kp")
theorem ok_is_full {f : Addr} {fd : FuncData} (F : L2.Fun K "is_full" "Mouth.is_full" s_Mouth_is_full f fd) (T : MouthT K C) : FnOk P w K mg base (L2.CX P w) 1 f fd ["self"] (spIsFull C) := by
  refine Fun.okX F sc_Mouth_is_full (fun vs H Q E h => ?_) (fun cdv A outer s H vs Q E hr h => ?_)
  · obtain ⟨_, _, _, _, _, _, _, _, rfl, _⟩ := h
    rfl
  · obtain ⟨p, c, m, wi, a, l, g, ks, rfl, ⟨dx, hp, hc⟩, hQ⟩ := h
    obtain ⟨cl, n1, n2, n3, n4, n5, n6⟩ := T
    refine ⟨_, (pss_one (ps_ret (pe_cmpR op_gt (pe_op (Ak.op_plusK (K := K) (by rfl)) (Ak.pe_fldK (K := K) (by rfl) (pv 0) (by rfl)) pe_int) (pe_op (Ak.op_plusK (K := K) (by rfl)) (Ak.pe_fldK (K := K) (by rfl) (pv 0) (by rfl)) (Ak.pe_fldK (K := K) (by rfl) (pv 0) (by rfl))) (nomark _)))), ?_⟩
    have e0 : L2.start N_Mouth_is_full [V.ref p] = [some (V.ref p)] := rfl
    rw [e0]
    try dsimp only [cxOf]
    walk_at "rd"
    exact hQ
theorem ok_mlast {f : Addr} {fd : FuncData} (F : L2.Fun K "last" "Mouth.last" s_Mouth_last f fd) (T : MouthT K C) : FnOk P w K mg base (L2.CX P w) 1 f fd ["self"] (spMLast C) := by
  refine Fun.okX F sc_Mouth_last (fun vs H Q E h => ?_) (fun cdv A outer s H vs Q E hr h => ?_)
  · obtain ⟨_, _, _, _, _, _, _, _, rfl, _⟩ := h
    rfl
  · obtain ⟨p, c, m, wi, a, l, g, ks, rfl, ⟨dx, hp, hc⟩, hQ⟩ := h
    obtain ⟨cl, n1, n2, n3, n4, n5, n6⟩ := T
    refine ⟨_, (pss_one (ps_ret (Ak.pe_fldK (K := K) (by rfl) (pv 0) (by rfl)))), ?_⟩
    have e0 : L2.start N_Mouth_last [V.ref p] = [some (V.ref p)] := rfl
    rw [e0]
    try dsimp only [cxOf]
    walk_at "rd"
    exact hQ
theorem ok_sure {f : Addr} {fd : FuncData} (F : L2.Fun K "sure" "Mouth.sure" s_Mouth_sure f fd) (T : MouthT K C) (g_sorted : mg "sorted" = none) : FnOk P w K mg base (L2.CX P w) 1 f fd ["self"] (spSure C) := by
  refine Fun.okX F sc_Mouth_sure (fun vs H Q E h => ?_) (fun cdv A outer s H vs Q E hr h => ?_)
  · obtain ⟨_, _, _, _, _, _, _, _, rfl, _⟩ := h
    rfl
  · obtain ⟨p, c, m, wi, a, l, g, ks, rfl, ⟨dx, hp, hc⟩, k⟩ := h
    obtain ⟨cl, n1, n2, n3, n4, n5, n6⟩ := T
    refine ⟨_, (pss_one (ps_ret (pe_callB (Ak.cr_sortK (K := K) (by rfl) rfl) (by rfl) g_sorted (by decide +kernel) (pa_cons (Ak.pe_fldK (K := K) (by rfl) (pv 0) (by rfl)) pa_nil)))), ?_⟩
    have e0 : L2.start N_Mouth_sure [V.ref p] = [some (V.ref p)] := rfl
    rw [e0]
    try dsimp only [cxOf]
    walk_at "rd"
    exact k _ _ (by walk_at "as") upd_same (by walk_at "kp")
theorem w_fmt {te : TE} {σ : L2.St} {H : Hp} {Q : VK} (h : te σ H fun x H1 => (∃ y : Str, x = .str y ∧ y.length ≤ sizeLine ∧ Q (.str y) H1) ∨ ∃ i : Int, x = .int i ∧ i.natAbs.log2 < 1920 ∧ Q (.str (toString i)) H1) : tFmt te σ H Q := h
theorem log2_small {n : Nat} (h : n < 1152921504606846976) : n.log2 < 60 := by
  rcases Nat.eq_zero_or_pos n with rfl | z
  · decide
  · exact (Nat.log2_lt (by omega)).mpr h
theorem fmt_len {acc : Str} {i : Int} (h1 : acc.length ≤ 1000) (h2 : i.natAbs.log2 < 60) : (acc ++ Str.ofString (toString i)).length ≤ 1100 := by
  have e := int_text_length_le (k := 60) (by decide) h2
  rw [Str.length_append, PySem.ofString_length]
  omega
theorem ok_send {CF : Addr} {f : Addr} {fd : FuncData} (F : L2.Fun K "send" "Mouth.send" s_Mouth_send f fd) (T : MouthT K C) (x_Full : RaiseC K mg "Full" CF) (m_Mouth_is_full : MetX P w K mg base 1 C "is_full" (spIsFull C)) : FnOk P w K mg base (L2.CX P w) 2 f fd ["self"] (spSend C CF) := by
  refine Fun.okX F sc_Mouth_send (fun vs H Q E h => ?_) (fun cdv A outer s H vs Q E hr h => ?_)
  · obtain ⟨_, _, _, _, _, _, _, _, rfl, _⟩ := h
    rfl
  · obtain ⟨p, c, m, wi, a, l, g, ks, rfl, hM, m0, l0, l1, kE, k⟩ := h
    obtain ⟨dx, hp, hc⟩ := id hM
    have pc := hM.ne
    obtain ⟨cl, n1, n2, n3, n4, n5, n6⟩ := T
    refine ⟨_, (pss_cons (ps_if (Ak.pt_truK (K := K) (by rfl) (Ak.pe_mx0 (pv 0) m_Mouth_is_full hr (by walk_at "lv") (takes_of rfl rfl rfl rfl)))
      (pss_one (ps_raise rfl (takes_of rfl rfl rfl rfl) (pmk_ownA PySem.F.excBase_ValueError x_Full.q x_Full.g x_Full.k x_Full.r rfl (pa_cons (pe_joined (.cons pe_str (.cons (pe_fmt (pe_op (Ak.op_plusK (K := K) (by rfl)) (Ak.pe_fldK (K := K) (by rfl) (pv 0) (by rfl)) pe_int)) (.cons pe_str .nil)))) pa_nil))))
      pss_nil)
      (pss_cons (ps_fldaug (pv 0) pe_int in_add)
      (pss_one (ps_ret (pe_tup (pa_cons (Ak.pe_fldK (K := K) (by rfl) (pv 0) (by rfl)) (pa_cons (pe_op op_mod (Ak.pe_fldK (K := K) (by rfl) (pv 0) (by rfl)) (Ak.pe_fldK (K := K) (by rfl) (pv 0) (by rfl))) pa_nil))))))), ?_⟩
    have e0 : L2.start N_Mouth_send [V.ref p] = [some (V.ref p)] := rfl
    rw [e0]
    try dsimp only [cxOf]
    walk_at "rd"
    refine ⟨p, c, m, wi, a, l, g, ks, rfl, hM, ?_⟩
    walk_at "rd"
    refine Ak.w_ite (fun z => ?_) (fun z => ?_)
    · walk_at "rd"
      refine ⟨_, rfl, by decide, ?_⟩
      show tFmt _ _ _ _
      refine w_fmt ?_
      walk_at "rd"
      have hb : (l + 1).natAbs.log2 < 60 := log2_small (by omega)
      have e1 := fmt_len (acc := Str.empty ++ "letter ") (i := l + 1) (by decide) hb
      refine Or.inr ⟨_, rfl, by omega, _, rfl, by rw [sizeLine_eq]; omega, ?_⟩
      refine ⟨_, rfl, ?_, ?_⟩
      · rw [Str.length_append, sizeLine_eq]
        have : (Str.ofString " is too far ahead").length = 17 := by decide +kernel
        omega
      · exact ⟨by show 1 ≤ sizeLine; decide, kE z⟩
    · walk_at "rd"
      exact k z _ _ (fresh_of [p] (by walk_at "as") (by walk_at "kp")) upd_same ⟨dx, by walk_at "lk", by walk_at "lk"⟩ (by walk_at "kp")
theorem ok_numbers {f : Addr} {fd : FuncData} (F : L2.Fun K "_numbers_of" "Mouth._numbers_of" s_Mouth__numbers_of f fd) (T : MouthT K C) (g_enumerate : mg "enumerate" = none) (g_sorted : mg "sorted" = none) : FnOk P w K mg base (L2.CX P w) 1 f fd ["self", "told"] (spNumbers K C) := by
  refine Fun.okX F sc_Mouth__numbers_of (fun vs H Q E h => ?_) (fun cdv A outer s H vs Q E hr h => ?_)
  · obtain ⟨_, _, _, _, _, _, _, _, _, _, _, _, rfl, _⟩ := h
    rfl
  · obtain ⟨p, c, q, b, m, wi, a, l, g, ks, mk, bs, rfl, ⟨dx, hp, hc⟩, hq, hb, m0, h16, k⟩ := h
    obtain ⟨cl, n1, n2, n3, n4, n5, n6⟩ := T
    refine ⟨_, (pss_cons (ps_asg (pv 1) (Ak.pg_tupK (K := K) (n := 2) (by rfl) rfl (pgs_cons (pg_name (i := 2) sc_Mouth__numbers_of.nd rfl (Or.inl rfl)) (pgs_cons (pg_name (i := 3) sc_Mouth__numbers_of.nd rfl (Or.inl rfl)) pgs_nil))))
      (pss_cons (ps_set (i := 4) sc_Mouth__numbers_of.nd rfl (Or.inr rfl) (pe_op op_sub (Ak.pe_fldK (K := K) (by rfl) (pv 0) (by rfl)) (pe_op op_mod (pe_op op_sub (Ak.pe_fldK (K := K) (by rfl) (pv 0) (by rfl)) (pv 2)) (Ak.pe_fldK (K := K) (by rfl) (pv 0) (by rfl)))))
      (pss_cons (ps_setLc (i := 5) (own := [("back", 6), ("bit", 7)])  rfl sc_Mouth__numbers_of.nd rfl rfl (sw_true rfl rfl rfl (by decide +kernel)) (Ak.pi_enumTS (K := K) (by rfl) (by rfl) g_enumerate (pa_cons (pv 3) pa_nil) (pk_cons pe_int pk_nil)) (blkOk_by (N := N_Mouth__numbers_of) (sc := defScope s_Mouth__numbers_of) (by decide +kernel)) (fun _ _ _ _ _ => by exact (Ak.pg_tupK (K := K) (n := 2) (by rfl) rfl (pgs_cons (pg_name (i := 6) sc_Mouth__numbers_of.nd rfl (Or.inl rfl)) (pgs_cons (pg_name (i := 7) sc_Mouth__numbers_of.nd rfl (Or.inl rfl)) pgs_nil)))) (fun _ _ _ _ _ => by exact (pts_one (pt_cmpR (Ak.op_eqK (K := K) (by rfl) hr.units) (pv 7) pe_int (nomark _)))) (fun _ _ _ _ _ => by exact (pe_op op_sub (pv 4) (pv 6))))
      (pss_one (ps_ret (pe_callB (Ak.cr_sortK (K := K) (by rfl) rfl) (by rfl) g_sorted (by decide +kernel) (pa_cons (pe_op (Ak.op_plusK (K := K) (by rfl)) (pe_lst (pa_cons (pv 4) pa_nil)) (pv 5)) pa_nil))))))), ?_⟩
    have e0 : L2.start N_Mouth__numbers_of [V.ref p, V.ref q] = [some (V.ref p), some (V.ref q), none, none, none, none, none, none] := rfl
    rw [e0]
    try dsimp only [cxOf]
    walk_at "rd"
    change kLcE _ _ _ _ _ _ _ _ _ _
    refine l_lcE hb (by decide) (by decide) (fun i => (othersOf (newestOf m l mk) bs i).map V.int) rfl (fun D i x t H' hD hx hk hd nt => ?_) (fun D H' hD hk hd => ?_)
    · obtain ⟨v, hv, rfl⟩ := map_at hx
      walk_at "rd"
      refine Ak.w_ite (fun z => ?_) (fun z => ?_)
      · subst z
        walk_at "rd"
        refine kIn_go hD (by walk_at "lk") (by walk_at "kp") ?_ (by rw [others_yes hv, List.map_append]; rfl)
        have := others_len (n := newestOf m l mk) (bs := bs) (i := i)
        have hi := (List.getElem?_eq_some_iff.mp hv).1
        rw [List.length_map, sizeLine_eq]
        omega
      · exact kOut_go (by walk_at "lk") (by walk_at "kp") (by rw [others_no (fun e => z (by rw [hv] at e; exact Option.some.inj e))])
    · rw [List.length_map] at hd
      have e1 : (othersOf (newestOf m l mk) bs bs.length).length ≤ 16 := Nat.le_trans others_len h16
      walk_at "rd"
      refine w_sortO (ns := allOf (newestOf m l mk) bs) upd_same fun r nr => ?_
      walk_at "rd"
      exact k _ _ (fresh_of [] (by walk_at "as") (by walk_at "kp")) upd_same (by walk_at "kp")
theorem hear_all {n : Int} {bs ks : List Int} {i : Nat} (h : i < (foundOf n bs ks).length) : (foundOf n bs ks)[i] ∉ ks ++ (foundOf n bs ks).take i := by
  intro m
  rcases List.mem_append.mp m with m | m
  · have := List.getElem_mem h
    unfold foundOf at this
    have q := (List.mem_filter.mp this).2
    unfold foundOf at m
    rw [decide_eq_true m] at q
    cases q
  · have nd : (foundOf n bs ks).Nodup := (srt_nodup all_nd).filter _
    obtain ⟨j, hj, e⟩ := List.mem_iff_getElem.mp m
    rw [List.length_take] at hj
    rw [List.getElem_take] at e
    have := List.pairwise_iff_getElem.mp nd j i (by omega) h (by omega)
    exact this e
theorem ok_hear {CB : Addr} {f : Addr} {fd : FuncData} (F : L2.Fun K "hear" "Mouth.hear" s_Mouth_hear f fd) (T : MouthT K C) (g_max : mg "max" = none) (x_BadBits : RaiseC K mg "BadBits" CB) (c_check_telling : CalX P w K mg base 2 "check_telling" (spCheckTelling K)) (m_Mouth_numbers_of : MetX P w K mg base 1 C "_numbers_of" (spNumbers K C)) : FnOk P w K mg base (L2.CX P w) 3 f fd ["self", "told"] (spHear K C CB) := by
  refine Fun.okX F sc_Mouth_hear (fun vs H Q E h => ?_) (fun cdv A outer s H vs Q E hr h => ?_)
  · obtain ⟨_, _, _, _, _, _, _, _, _, _, _, _, rfl, _⟩ := h
    rfl
  · obtain ⟨p, c, q, b, m, wi, a, l, g, ks, mk, bs, rfl, hM, hq, hb, k0, k1, hl, h01, h16, hks, kE, k⟩ := h
    obtain ⟨dx, hp, hc⟩ := id hM
    have pc := hM.ne
    obtain ⟨cl, n1, n2, n3, n4, n5, n6⟩ := T
    refine ⟨_, (pss_cons (ps_expr (Ak.pe_cx c_check_telling hr (by walk_at "lv") (by rfl) (takes_of rfl rfl rfl rfl) (pa_cons (pv 1) (pa_cons (Ak.pe_fldK (K := K) (by rfl) (pv 0) (by rfl)) (pa_cons (Ak.pe_fldK (K := K) (by rfl) (pv 0) (by rfl)) pa_nil)))))
      (pss_cons (ps_set (i := 2) sc_Mouth_hear.nd rfl (Or.inl rfl) (Ak.pe_mx (pv 0) m_Mouth_numbers_of hr (by walk_at "lv") (takes_of rfl rfl rfl rfl) (pa_cons (pv 1) pa_nil)))
      (pss_cons (ps_if (pt_cmpR op_lt (pe_ix (Ak.ix_K (K := K) (by rfl)) (pv 2) pe_int (by intro _ _; rfl)) pe_int (nomark _))
      (pss_one (ps_raise rfl (takes_of rfl rfl rfl rfl) (pmk_own PySem.F.excBase_ValueError x_BadBits.q x_BadBits.g x_BadBits.k x_BadBits.r rfl)))
      pss_nil)
      (pss_cons (ps_setLc (i := 3) (own := [("number", 4)]) (g := (gName 4)) rfl sc_Mouth_hear.nd rfl rfl (sw_true rfl rfl rfl (by decide +kernel)) (Ak.pi_listK (K := K) (by rfl) (pv 2)) (blkOk_by (N := N_Mouth_hear) (sc := defScope s_Mouth_hear) (by decide +kernel)) (fun _ _ _ _ _ => by exact (pg_name (i := 4) sc_Mouth_hear.nd rfl (Or.inl rfl))) (fun _ _ _ _ _ => by exact (pts_one (pt_cmp (pc_dnotin (hu_of hr) (pv 4) (Ak.pe_fldK (K := K) (by rfl) (pv 0) (by rfl))) rfl))) (fun _ _ _ _ _ => by exact (pv 4)))
      (pss_cons (ps_for (passes_of rfl) rfl (Ak.pi_listK (K := K) (by rfl) (pv 3)) (pg_name (i := 5) sc_Mouth_hear.nd rfl (Or.inl rfl))
      (pss_one (ps_dput (hu_of hr) (Ak.pe_fldK (K := K) (by rfl) (pv 0) (by rfl)) (pv 5) pe_bl rfl)))
      (pss_cons (Ak.ps_fldK (K := K) (by rfl) (pv 0) (pe_callB (Ak.cr_maxK (K := K) (by rfl) rfl) (by rfl) g_max (by decide +kernel) (pa_cons (Ak.pe_fldK (K := K) (by rfl) (pv 0) (by rfl)) (pa_cons (pe_ix (Ak.ix_K (K := K) (by rfl)) (pv 2) (pe_un un_neg pe_int) (by intro _ _; rfl)) pa_nil))) rfl)
      (pss_one (ps_ret (pv 3))))))))), ?_⟩
    have e0 : L2.start N_Mouth_hear [V.ref p, V.ref q] = [some (V.ref p), some (V.ref q), none, none, none, none] := rfl
    rw [e0]
    try dsimp only [cxOf]
    walk_at "rd"
    refine ⟨q, b, mk, bs, m, wi, rfl, hq, hb, k0, k1, hl, h01, h16, fun H1 hk1 => ?_⟩
    walk_at "rd"
    refine ⟨p, c, q, b, m, wi, a, l, g, ks, mk, bs, rfl, hM.keep hk1 nin_nil nin_nil, hk1.seqT nin_nil hq, hk1.seqT nin_nil hb, by omega, h16, fun f H2 hf hf2 hk2 => ?_⟩
    have hk12 := hk1.trans hk2
    have hM2 := hM.keep hk12 nin_nil nin_nil
    obtain ⟨dx2, hp2, hc2⟩ := id hM2
    obtain ⟨x0, ex0, hx0, hx0'⟩ := srt_first (ns := allOf (newestOf m l mk) bs) (List.cons_ne_nil _ _)
    obtain ⟨x9, ex9, hx9, hx9'⟩ := srt_last (ns := allOf (newestOf m l mk) bs) (List.cons_ne_nil _ _)
    have e9 : x9 = newestOf m l mk := Int.le_antisymm (all_le hx9) (hx9' _ List.mem_cons_self)
    walk_at "rd"
    refine Ak.w_ite (fun z => ?_) (fun z => ?_)
    · walk_at "rd"
      exact kE ⟨x0, hx0, z⟩ _ hk12
    · walk_at "rd"
      refine Ak.l_lcL (xs := (srt (allOf (newestOf m l mk) bs)).map V.int) (SqL.of hf2) (fun i => (((srt (allOf (newestOf m l mk) bs)).take i).filter fun x => !decide (x ∈ ks)).map V.int) rfl (fun D i x H' hD hx hk hd => ?_) (fun D H' hD hk hd => ?_)
      · obtain ⟨c', hc', rfl⟩ := map_at hx
        have hp' : H' p = some (.ins C dx2 (mouthF m wi a l g c)) := by walk_at "lk"
        walk_at "rd"
        refine Ak.w_iteN (fun z => ?_) (fun z => ?_)
        · walk_at "rd"
          refine kIn_go hD hd hk ?_ (filt_yes hc' (by rw [decide_eq_false z]; rfl))
          have e := filt_len (l := srt (allOf (newestOf m l mk) bs)) (i := i) (p := fun x => !decide (x ∈ ks)) (f := V.int)
          have e2 := all_len (n := newestOf m l mk) (bs := bs)
          rw [srt_len] at e
          rw [sizeLine_eq]
          omega
        · exact kOut_go hd hk (filt_no hc' (by rw [decide_eq_true z]; exact Bool.false_ne_true))
      · rw [List.length_map, List.take_length] at hd
        have hd' : H' D = some (.lst ((foundOf (newestOf m l mk) bs ks).map V.int)) := hd
        have hp3 : H' p = some (.ins C dx2 (mouthF m wi a l g c)) := by walk_at "lk"
        have hc3 : H' c = some (.dK (sureD ks)) := by walk_at "lk"
        have hf3 : H' f = some (.lst ((srt (allOf (newestOf m l mk) bs)).map V.int)) := by walk_at "lk"
        have fl : (foundOf (newestOf m l mk) bs ks).length ≤ 17 := by
          have e := List.length_filter_le (fun x => !decide (x ∈ ks)) (srt (allOf (newestOf m l mk) bs))
          have e2 := all_len (n := newestOf m l mk) (bs := bs)
          rw [srt_len] at e
          unfold foundOf
          omega
        have cD : D ≠ c := ne_of hd' hc3 (by intro z; cases z)
        have cf : f ≠ c := ne_of hf3 hc3 (by intro z; cases z)
        walk_at "rd"
        refine l_forList (xs := (foundOf (newestOf m l mk) bs ks).map V.int) (SqL.of hd') (fun i σ' H4 => ∃ v5, σ' = [some (.ref p), some (.ref q), some (.ref f), some (.ref D), none, v5] ∧ Keep [c] H' H4 ∧ H4 c = some (.dK (sureD (ks ++ (foundOf (newestOf m l mk) bs ks).take i))))
          ⟨none, rfl, Keep.refl, by rw [List.take_zero, List.append_nil]; exact hc3⟩ (fun i σ' H4 _ pv => by obtain ⟨_, _, pv, _⟩ := pv; exact pv.seqL (nin_cons cD nin_nil) (SqL.of hd')) (fun i x σ' H4 hx pv => ?_) (fun σ' H4 pv => ?_)
        · obtain ⟨v5, rfl, hk4, hc4⟩ := pv
          obtain ⟨y, hy, rfl⟩ := map_at hx
          obtain ⟨hi, ey⟩ := List.getElem?_eq_some_iff.mp hy
          have nin : y ∉ ks ++ (foundOf (newestOf m l mk) bs ks).take i := ey ▸ hear_all hi
          have hp4 : H4 p = some (.ins C dx2 (mouthF m wi a l g c)) := by walk_at "lk"
          walk_at "rd"
          refine w_dputN hc4 nin ?_ ⟨_, rfl, by walk_at "kp", ?_⟩
          · rw [List.length_append, List.length_take, sizeLine_eq]
            omega
          · rw [upd_same, take_at hy, List.append_assoc]
        · obtain ⟨v5, rfl, hk4, hc4⟩ := pv
          rw [List.length_map, List.take_length] at hc4
          have hp4 : H4 p = some (.ins C dx2 (mouthF m wi a l g c)) := by walk_at "lk"
          have hf4 : H4 f = some (.lst ((srt (allOf (newestOf m l mk) bs)).map V.int)) := by walk_at "lk"
          have hd4 : H4 D = some (.lst ((foundOf (newestOf m l mk) bs ks).map V.int)) := by walk_at "lk"
          have pD : D ≠ p := ne_of hd4 hp4 (by intro z; cases z)
          have hk14 : Keep [p, c] H H4 := ((hk12.trans hk).mono sub_nil).trans (hk4.mono (fun b hb => by rw [List.mem_singleton.mp hb]; exact List.mem_cons_of_mem _ List.mem_cons_self))
          walk_at "rd"
          rw [e9]
          refine k (fun x hx => by have := hx0' x hx; omega) _ _ (hk12.2 _ hD) ((upd_ne pD).trans hd4) ⟨dx2, upd_same, ?_⟩ (hk14.set List.mem_cons_self)
          exact (upd_ne (Ne.symm pc)).trans hc4
end
end Ak

namespace Ak
open PySem PySem.Spec PyProof.Rows L2
section
variable {P : Program} {w : World} {K : PySem.W.Frag} {mg : Str → Option Value} {base : Heap}
theorem ok_own_mouth {f : Addr} {fd : FuncData} (F : L2.Fun K "_law_mouth" "_law_mouth" s_l_mouth f fd) : FnOk P w K mg base (L2.CX P w) 1 f fd [] spOwnMouth := by
  refine Fun.okX F sc_l_mouth (fun vs H Q E h => ?_) (fun cdv A outer s H vs Q E hr h => ?_)
  · obtain ⟨rfl, _⟩ := h
    rfl
  · obtain ⟨rfl, k⟩ := h
    refine ⟨_, (pss_one (ps_ret (pe_disp (pps_cons pe_str pe_int (pps_cons pe_str (pe_lst pa_nil) pps_nil)) (by rfl) (by rfl) (fun z => by cases z) (by decide)))), ?_⟩
    have e0 : L2.start N_l_mouth [] = [] := rfl
    rw [e0]
    try dsimp only [cxOf]
    walk_at "rd"
    refine Ak.l_disp [(Sum.inr "sent", .int 0), (Sum.inr "sure", .ref _)] (by walk_at "lk") (Nat.le_of_ble_eq_true rfl) (merge_ok _ (by walk_at "nd")) ?_
    refine k _ _ _ (by walk_at "as") ?_ upd_same ?_ (by walk_at "kp")
    · exact fresh_of [] (by walk_at "as") (by walk_at "kp")
    · walk_at "lk"
theorem ok_own_full {f : Addr} {fd : FuncData} (F : L2.Fun K "_law_is_full" "_law_is_full" s_l_is_full f fd) (g_max : mg "max" = none) : FnOk P w K mg base (L2.CX P w) 1 f fd ["_law_setting_here", "_law_mouth_here"] (spOwnFull K) := by
  refine Fun.okX F sc_l_is_full (fun vs H Q E h => ?_) (fun cdv A outer s H vs Q E hr h => ?_)
  · obtain ⟨_, _, _, _, _, _, _, _, _, rfl, _⟩ := h
    rfl
  · obtain ⟨q, o, m, wi, l, a, n, S, g, rfl, hq, ⟨c, ho, hc⟩, hS, hg, k⟩ := h
    refine ⟨_, (pss_one (ps_ret (pe_cmpR op_gt (pe_dget (hu_of hr) (pv 1) pe_str (by intro _ _; rfl)) (pe_op (Ak.op_plusK (K := K) (by rfl)) (pe_callB (Ak.cr_maxK (K := K) (by rfl) rfl) (by rfl) g_max (by decide +kernel) (pa_cons (pe_op (Ak.op_plusK (K := K) (by rfl)) (pe_lst (pa_cons (pe_un un_neg pe_int) pa_nil)) (pe_dget (hu_of hr) (pv 1) pe_str (by intro _ _; rfl))) pa_nil)) (pe_ix (Ak.ix_K (K := K) (by rfl)) (pv 0) pe_int (by intro _ _; rfl))) (nomark _)))), ?_⟩
    have e0 : L2.start N_l_is_full [V.ref q, V.ref o] = [some (V.ref q), some (V.ref o)] := rfl
    rw [e0]
    try dsimp only [cxOf]
    walk_at "rd"
    refine w_maxL (ns := -1 :: S) (SqL.of upd_same) (Nat.succ_pos _) (fun g' h1 h2 => ?_)
    obtain rfl : g' = g := IsMx.uniq ⟨h1, h2⟩ hg
    walk_at "rd"
    exact k _ (by walk_at "kp")
theorem ok_own_hear {f : Addr} {fd : FuncData} (F : L2.Fun K "_law_hear" "_law_hear" s_l_hear f fd) (g_min : mg "min" = none) (g_range : mg "range" = none) (g_sorted : mg "sorted" = none) : FnOk P w K mg base (L2.CX P w) 1 f fd ["_law_setting_here", "_law_mouth_here", "_law_told_here"] (spOwnHear K) := by
  refine Fun.okX F sc_l_hear (fun vs H Q E h => ?_) (fun cdv A outer s H vs Q E hr h => ?_)
  · obtain ⟨_, _, _, _, _, _, _, _, _, _, _, _, rfl, _⟩ := h
    rfl
  · obtain ⟨q, o, t, b, m, wi, l, a, n, S, mk, bs, rfl, hq, ht, hb, ⟨c, ho, hc⟩, k0, k1, hl, h16, hS, kE, k⟩ := h
    refine ⟨_, (pss_cons (ps_set (i := 3) sc_l_hear.nd rfl (Or.inr rfl) (pe_op op_sub (pe_dget (hu_of hr) (pv 1) pe_str (by intro _ _; rfl)) pe_int))
      (pss_cons (ps_while (passes_of rfl) (pt_cmpR (Ak.op_neK (K := K) (by rfl) hr.units) (pe_op op_mod (pv 3) (pe_ix (Ak.ix_K (K := K) (by rfl)) (pv 0) pe_int (by intro _ _; rfl))) (pe_ix (Ak.ix_K (K := K) (by rfl)) (pv 2) pe_int (by intro _ _; rfl)) (nomark _))
      (pss_one (ps_set (i := 3) sc_l_hear.nd rfl (Or.inr rfl) (pe_op op_sub (pv 3) pe_int))))
      (pss_cons (ps_set (i := 4) sc_l_hear.nd rfl (Or.inl rfl) (pe_op (Ak.op_plusK (K := K) (by rfl)) (pe_lst (pa_cons (pv 3) pa_nil)) (pe_lc (own := [("_law_far", 5)]) (g := (gName 5)) rfl sc_l_hear.nd (pi_range2 (by rfl) g_range (pa_cons pe_int (pa_cons (pe_op (Ak.op_plusK (K := K) (by rfl)) (pe_ix (Ak.ix_K (K := K) (by rfl)) (pv 0) pe_int (by intro _ _; rfl)) pe_int) pa_nil))) (blkOk_by (N := N_l_hear) (sc := defScope s_l_hear) (by decide +kernel)) (fun _ _ _ _ _ => by exact (pg_name (i := 5) sc_l_hear.nd rfl (Or.inl rfl))) (fun _ _ _ _ _ => by exact (pts_one (pt_cmpR (Ak.op_eqK (K := K) (by rfl) hr.units) (pe_ix (Ak.ix_K (K := K) (by rfl)) (pe_ix (Ak.ix_K (K := K) (by rfl)) (pv 2) pe_int (by intro _ _; rfl)) (pe_op op_sub (pv 5) pe_int) (by intro _ _; rfl)) pe_int (nomark _)))) (fun _ _ _ _ _ => by exact (pe_op op_sub (pv 3) (pv 5))))))
      (pss_cons (ps_if (pt_cmpR op_lt (pe_callB (Ak.cr_minK (K := K) (by rfl) rfl) (by rfl) g_min (by decide +kernel) (pa_cons (pv 4) pa_nil)) pe_int (nomark _))
      (pss_one (ps_ret pe_non))
      pss_nil)
      (pss_cons (ps_set (i := 6) sc_l_hear.nd rfl (Or.inl rfl) (pe_callB (Ak.cr_sortK (K := K) (by rfl) rfl) (by rfl) g_sorted (by decide +kernel) (pa_cons (pe_lc (own := [("_law_one", 7)]) (g := (gName 7)) rfl sc_l_hear.nd (Ak.pi_listK (K := K) (by rfl) (pv 4)) (blkOk_by (N := N_l_hear) (sc := defScope s_l_hear) (by decide +kernel)) (fun _ _ _ _ _ => by exact (pg_name (i := 7) sc_l_hear.nd rfl (Or.inl rfl))) (fun _ _ _ _ _ => by exact (pts_one (pt_cmpR (Ak.op_ninK (K := K) (by rfl)) (pv 7) (pe_dget (hu_of hr) (pv 1) pe_str (by intro _ _; rfl)) (by rfl)))) (fun _ _ _ _ _ => by exact (pv 7))) pa_nil)))
      (pss_cons (ps_dput (hu_of hr) (pv 1) pe_str (pe_callB (Ak.cr_sortK (K := K) (by rfl) rfl) (by rfl) g_sorted (by decide +kernel) (pa_cons (pe_op (Ak.op_plusK (K := K) (by rfl)) (pe_dget (hu_of hr) (pv 1) pe_str (by intro _ _; rfl)) (pv 6)) pa_nil)) rfl)
      (pss_one (ps_ret (pv 6))))))))), ?_⟩
    have e0 : L2.start N_l_hear [V.ref q, V.ref o, V.ref t] = [some (V.ref q), some (V.ref o), some (V.ref t), none, none, none, none, none] := rfl
    rw [e0]
    try dsimp only [cxOf]
    walk_at "rd"
    refine l_while (fun j σ' H' => ∃ i, σ' = [some (V.ref q), some (V.ref o), some (V.ref t), some (V.int i), none, none, none, none] ∧ H' = H ∧ i ≤ n - 1 ∧ newestOf m (n - 1) mk ≤ i ∧ j = (i - newestOf m (n - 1) mk).toNat) _ ⟨_, rfl, rfl, Int.le_refl _, newest_le (by omega), rfl⟩ (fun j σ' H' w => ?_)
    obtain ⟨i, rfl, rfl, i0, i1, rfl⟩ := w
    walk_at "rd"
    refine Ak.w_iteN (fun z => ?_) (fun z => ?_)
    · have lt : newestOf m (n - 1) mk < i := by
        have : i ≠ newestOf m (n - 1) mk := fun e => z (by rw [e]; exact newest_mod k0 k1)
        omega
      walk_at "rd"
      exact ⟨_, by omega, i - 1, rfl, rfl, by omega, by omega, rfl⟩
    · walk_at "rd"
      have en := newest_uniq k0 k1 i0 i1 z
      rw [en]
      clear i0 i1 z en i
      generalize newestOf m (n - 1) mk = N at *
      rename_i t0 nt0
      refine l_lcR2 ⟨by decide, by decide, by omega, by omega⟩ (fun i => (othersOf N bs i).map V.int) rfl (fun D i H2 hD hi hk hd => ?_) (fun D H2 hD hk hd => ?_)
      · have hi' : i < bs.length := by omega
        have hv : bs[i]? = some bs[i] := List.getElem?_eq_getElem hi'
        have ea : atI (bs.map V.int) (1 + (i : Int) - 1) = some (.int bs[i]) := by
          rw [show 1 + (i : Int) - 1 = ((i : Nat) : Int) by omega]
          refine atI_nat ?_
          rw [List.getElem?_map, hv]
          rfl
        generalize bs[i] = v at hv ea
        walk_at "rd"
        refine Ak.w_ite (fun z => ?_) (fun z => ?_)
        · subst z
          walk_at "rd"
          refine kIn_go hD hd hk ?_ (by rw [others_yes hv, List.map_append]; rfl)
          have := others_len (n := N) (bs := bs) (i := i)
          rw [List.length_map, sizeLine_eq]
          omega
        · exact kOut_go hd hk (by rw [others_no (fun e => z (by rw [hv] at e; exact Option.some.inj e))])
      · have el : (wi + 1 - 1).toNat = bs.length := by omega
        rw [el] at hd
        have e1 : (othersOf N bs bs.length).length ≤ 16 := Nat.le_trans others_len h16
        have ho2 : H2 o = some (.dK (ownMF n c)) := by walk_at "lk"
        have hc2 : H2 c = some (.lst (S.map V.int)) := by walk_at "lk"
        walk_at "rd"
        rename_i r nr
        have hr2 : upd H2 r (.lst ([.int N] ++ (othersOf N bs bs.length).map V.int)) r = some (.lst ((allOf N bs).map V.int)) := upd_same
        refine w_minL (ns := allOf N bs) (SqL.of hr2) (Nat.succ_pos _) (fun x0 h1 h2 => ?_)
        walk_at "rd"
        refine Ak.w_ite (fun z => ?_) (fun z => ?_)
        · walk_at "rd"
          exact kE ⟨x0, h1, z⟩ _ (by walk_at "kp")
        · walk_at "rd"
          refine Ak.l_lcL (xs := (allOf N bs).map V.int) (SqL.of hr2) (fun i => (((allOf N bs).take i).filter fun x => !decide (x ∈ S)).map V.int) rfl (fun D3 i x H3 hD3 hx hk3 hd3 => ?_) (fun D3 H3 hD3 hk3 hd3 => ?_)
          · obtain ⟨c', hc', rfl⟩ := map_at hx
            have ho3 : H3 o = some (.dK (ownMF n c)) := by walk_at "lk"
            have hc3 : H3 c = some (.lst (S.map V.int)) := by walk_at "lk"
            walk_at "rd"
            refine Ak.w_iteN (fun z => ?_) (fun z => ?_)
            · walk_at "rd"
              refine kIn_go hD3 hd3 hk3 ?_ (filt_yes hc' (by rw [decide_eq_false z]; rfl))
              have e := filt_len (l := allOf N bs) (i := i) (p := fun x => !decide (x ∈ S)) (f := V.int)
              have e2 := all_len (n := N) (bs := bs)
              rw [sizeLine_eq]
              omega
            · exact kOut_go hd3 hk3 (filt_no hc' (by rw [decide_eq_true z]; exact Bool.false_ne_true))
          · rw [List.length_map, List.take_length] at hd3
            have ho3 : H3 o = some (.dK (ownMF n c)) := by walk_at "lk"
            have hc3 : H3 c = some (.lst (S.map V.int)) := by walk_at "lk"
            have fl : (foundL N bs S).length ≤ 17 := by
              have e := List.length_filter_le (fun x => !decide (x ∈ S)) (allOf N bs)
              have e2 := all_len (n := N) (bs := bs)
              unfold foundL
              rw [srt_len]
              omega
            walk_at "rd"
            rename_i f nf
            have hf4 : upd H3 f (.lst ((foundL N bs S).map V.int)) f = some (.lst ((foundL N bs S).map V.int)) := upd_same
            change rPlus K (.ref c) (.ref f) (upd H3 f (.lst ((foundL N bs S).map V.int))) _
            refine w_plusL (by walk_at "lk") hf4 (by rw [List.length_map, List.length_map, sizeLine_eq]; omega) fun r2 nr2 => ?_
            walk_at "rd"
            refine w_sortO (ns := S ++ foundL N bs S) (by rw [List.map_append]; exact upd_same) fun r3 nr3 => ?_
            have fo : f ≠ o := Ne.symm (ne_of_none ho3 nf)
            have n3o : r3 ≠ o := by
              refine Ne.symm (ne_of_none (H := H3) ho3 ?_)
              exact free_upd (free_upd nr3)
            have n3f : r3 ≠ f := by
              refine Ne.symm (ne_of_none hf4 (free_upd nr3))
            have n2f : r2 ≠ f := Ne.symm (ne_of_none hf4 nr2)
            have n2o : r2 ≠ o := Ne.symm (ne_of_none ho3 (free_upd nr2))
            walk_at "rd"
            have nfH : H' f = none := by
              refine fresh_of [] nf ?_
              walk_at "kp"
            refine k (fun x hx => by have := h2 x hx; omega) f _ nfH ?_ ⟨r3, upd_same, ?_⟩ ?_
            · rw [upd_ne fo, upd_ne (Ne.symm n3f), upd_ne (Ne.symm n2f)]
              exact hf4
            · rw [upd_ne n3o]
              exact upd_same
            · refine Keep.set (S := [o]) ?_ List.mem_cons_self
              walk_at "kp"
end
end Ak

namespace Ak
open PySem PySem.Spec PyProof.Rows L2
theorem told_gives2 {X : Cx} {g C0 C1 C2 C3 C4 C5 C6 : Addr} {cdg : Value} {q : Str} {tab : Value → Str → Prop} (g_BitsError : X.mg "BitsError" = some (.ref C0)) (g_BadSetting : X.mg "BadSetting" = some (.ref C1)) (g_BadMark : X.mg "BadMark" = some (.ref C2))
    (g_BadBits : X.mg "BadBits" = some (.ref C3)) (g_Full : X.mg "Full" = some (.ref C4)) (g_BadEvent : X.mg "BadEvent" = some (.ref C5)) (g_BadText : X.mg "BadText" = some (.ref C6)) (g_isinstance : X.mg "isinstance" = none) (g_ValueError : X.mg "ValueError" = none)
    (ht : ∀ cls wd, tab cls wd → ∃ D, cls = .ref D ∧ ((wd = "mark" ∧ OneBad X.K C0 C1 C2 C3 C4 C5 C6 D false true false false false false) ∨ (wd = "bits" ∧ OneBad X.K C0 C1 C2 C3 C4 C5 C6 D false false true false false false) ∨
      (wd = "full" ∧ OneBad X.K C0 C1 C2 C3 C4 C5 C6 D false false false true false false))) :
    LamX.GivesTo X N_l_told "_law_told" (defScope s_l_told) g cdg (defBody s_l_told) "_law_work" q (TTold2 tab) := by
  intro f c' s H Q tl act hc h
  refine ⟨_, pss_one (ps_try_as (X := (cxOf C8.CX0 X.prog X.w X.K X.mg X.base N_l_told "_law_told" (defScope s_l_told) g cdg X.A X.stack s H C8.E0).nox) (i := 1) (c := .ref C0)
      (tb := fun W D σ H => ∃ Ech : XK, (∀ cls d σ' H', σ'.length = 5 → Ech cls d H' → W cls d σ' H') ∧ σ[0]? = some (some (.ref f)) ∧ H c' = some (LamX.CodeO c' q) ∧ tl Ech H D.rt)
      rfl rfl sc_l_told.nd rfl rfl ⟨by rfl, by decide, .inl g_BitsError⟩ takes0 (fun W pn xe tk _ => ?_) (fun a oe cls d pn hz hf => (pss_cons (ps_set (i := 2) sc_l_told.nd rfl (Or.inl rfl) (pe_lst (pa_cons (pe_callB (Ak.call_isE2 (K := X.K) (by rfl) hz hf) (by rfl) g_isinstance (by decide +kernel) (pa_cons (pv 1) (pa_cons (Ak.pe_cls (by rfl) g_BadSetting) pa_nil))) (pa_cons (pe_callB (Ak.call_isE2 (K := X.K) (by rfl) hz hf) (by rfl) g_isinstance (by decide +kernel) (pa_cons (pv 1) (pa_cons (Ak.pe_cls (by rfl) g_BadMark) pa_nil))) (pa_cons (pe_callB (Ak.call_isE2 (K := X.K) (by rfl) hz hf) (by rfl) g_isinstance (by decide +kernel) (pa_cons (pv 1) (pa_cons (Ak.pe_cls (by rfl) g_BadBits) pa_nil))) (pa_cons (pe_callB (Ak.call_isE2 (K := X.K) (by rfl) hz hf) (by rfl) g_isinstance (by decide +kernel) (pa_cons (pv 1) (pa_cons (Ak.pe_cls (by rfl) g_Full) pa_nil))) pa_nil))))))
      (pss_cons (ps_set (i := 2) sc_l_told.nd rfl (Or.inl rfl) (pe_op (Ak.op_plusK (K := X.K) (by rfl)) (pv 2) (pe_lst (pa_cons (pe_callB (Ak.call_isE2 (K := X.K) (by rfl) hz hf) (by rfl) g_isinstance (by decide +kernel) (pa_cons (pv 1) (pa_cons (Ak.pe_cls (by rfl) g_BadEvent) pa_nil))) (pa_cons (pe_callB (Ak.call_isE2 (K := X.K) (by rfl) hz hf) (by rfl) g_isinstance (by decide +kernel) (pa_cons (pv 1) (pa_cons (Ak.pe_cls (by rfl) g_BadText) pa_nil))) pa_nil)))))
      (pss_cons (ps_set (i := 3) sc_l_told.nd rfl (Or.inl rfl) (pe_lst (pa_cons pe_str (pa_cons pe_str (pa_cons pe_str (pa_cons pe_str (pa_cons pe_str (pa_cons pe_str pa_nil))))))))
      (pss_cons (ps_if (PW.pt (pw_or (pt_cmpR op_ne (Ak.pe_bmK (K := X.K) (by rfl) PySem.F.plainAttrs_list PySem.F.slot_list_count PySem.F.type_list_count (Ak.mt_countK (K := X.K) (by rfl)) (pv 2) (pa_cons pe_bl pa_nil)) pe_int (nomark _)) (pw_or1 (pt_not (Ak.pt_truK (K := X.K) (by rfl) (pe_callB (Ak.call_isE2 (K := X.K) (by rfl) hz hf) (by rfl) g_isinstance (by decide +kernel) (pa_cons (pv 1) (pa_cons (Ak.pe_ty (T := "ValueError") (by rfl) g_ValueError (by decide +kernel)) pa_nil))))))))
      (pss_one (ps_ret (pe_tup (pa_cons pe_str pa_nil))))
      pss_nil)
      (pss_cons (ps_set (i := 4) sc_l_told.nd rfl (Or.inl rfl) (pe_ix (Ak.ix_K (K := X.K) (by rfl)) (pv 3) (Ak.pe_bmK (K := X.K) (by rfl) PySem.F.plainAttrs_list PySem.F.slot_list_index PySem.F.type_list_index (Ak.mt_indexK (K := X.K) (by rfl)) (pv 2) (pa_cons pe_bl pa_nil)) (by intro _ _; rfl)))
      (pss_cons (ps_if (pt_cmpR op_eq (pv 4) pe_str (nomark _))
      (pss_one ps_never)
      pss_nil)
      (pss_cons (ps_if (pt_cmpR op_eq (pv 4) pe_str (nomark _))
      (pss_one ps_never)
      pss_nil)
      (pss_one (ps_ret (pe_ifExp (pt_cmpR op_eq (pv 4) pe_str (nomark _)) Ak.pe_never (pe_tup (pa_cons (pv 4) pa_nil)))))))))))))), ?_⟩
  · refine ⟨fun pins s' σ H' D I h' => ?_⟩
    obtain ⟨Ech, hW, h1, h2, h3⟩ := h'
    exact (pss_one (ps_ret (act _ pn xe Ech _ _ (takesLen tk) (fun cls d σ' H' e l => hW cls d σ' H' l e)))).run pins s' σ H' D I ⟨h1, h2, h3⟩
  · refine ⟨_, fun cls d σ' H' hl he => ?_, rfl, hc, h⟩
    obtain ⟨rfl, wd, tb, k⟩ := he
    obtain ⟨D, rfl, ho⟩ := ht _ _ tb
    have hm : PySem.W.exmOne X.K (.ref D) (.ref C0) = some true := by
      rcases ho with ⟨_, o⟩ | ⟨_, o⟩ | ⟨_, o⟩ <;> exact o.m
    refine ⟨true, hm, fun _ a ha => ?_, fun z => nomatch z⟩
    obtain ⟨v0, v1, v2, v3, v4, rfl⟩ : ∃ v0 v1 v2 v3 v4, σ' = [v0, v1, v2, v3, v4] := by
      match σ', hl with
      | [v0, v1, v2, v3, v4], _ => exact ⟨v0, v1, v2, v3, v4, rfl⟩
    rcases ho with ⟨rfl, o⟩ | ⟨rfl, o⟩ | ⟨rfl, o⟩
    · obtain ⟨m, x, k1, k2, k3, k4, k5, k6, kv⟩ := o
      walk_at "rd"
      refine Ak.w_iteN (fun z => absurd rfl z) (fun _ => ?_)
      walk_at "rd"
      refine Ak.w_idxI 1 1 rfl (by walk_at "lk") (by rfl) (by rfl) (by rfl) (by rfl) (by exact bl_ahead [false, true, false, false, false, false] 1 rfl) ?_
      walk_at "rd"
      refine Ak.w_ite (fun z => absurd z (by decide +kernel)) (fun _ => ?_)
      walk_at "rd"
      refine Ak.w_ite (fun z => absurd z (by decide +kernel)) (fun _ => ?_)
      walk_at "rd"
      refine Ak.w_ite (fun z => absurd z (by decide +kernel)) (fun _ => ?_)
      walk_at "rd"
      refine k _ _ ?_ ?_ upd_same
      · exact fresh_of [] (by walk_at "as") (by walk_at "kp")
      · walk_at "kp"
    · obtain ⟨m, x, k1, k2, k3, k4, k5, k6, kv⟩ := o
      walk_at "rd"
      refine Ak.w_iteN (fun z => absurd rfl z) (fun _ => ?_)
      walk_at "rd"
      refine Ak.w_idxI 2 2 rfl (by walk_at "lk") (by rfl) (by rfl) (by rfl) (by rfl) (by exact bl_ahead [false, false, true, false, false, false] 2 rfl) ?_
      walk_at "rd"
      refine Ak.w_ite (fun z => absurd z (by decide +kernel)) (fun _ => ?_)
      walk_at "rd"
      refine Ak.w_ite (fun z => absurd z (by decide +kernel)) (fun _ => ?_)
      walk_at "rd"
      refine Ak.w_ite (fun z => absurd z (by decide +kernel)) (fun _ => ?_)
      walk_at "rd"
      refine k _ _ ?_ ?_ upd_same
      · exact fresh_of [] (by walk_at "as") (by walk_at "kp")
      · walk_at "kp"
    · obtain ⟨m, x, k1, k2, k3, k4, k5, k6, kv⟩ := o
      walk_at "rd"
      refine Ak.w_iteN (fun z => absurd rfl z) (fun _ => ?_)
      walk_at "rd"
      refine Ak.w_idxI 3 3 rfl (by walk_at "lk") (by rfl) (by rfl) (by rfl) (by rfl) (by exact bl_ahead [false, false, false, true, false, false] 3 rfl) ?_
      walk_at "rd"
      refine Ak.w_ite (fun z => absurd z (by decide +kernel)) (fun _ => ?_)
      walk_at "rd"
      refine Ak.w_ite (fun z => absurd z (by decide +kernel)) (fun _ => ?_)
      walk_at "rd"
      refine Ak.w_ite (fun z => absurd z (by decide +kernel)) (fun _ => ?_)
      walk_at "rd"
      refine k _ _ ?_ ?_ upd_same
      · exact fresh_of [] (by walk_at "as") (by walk_at "kp")
      · walk_at "kp"
end Ak

namespace Ak
open PySem PySem.Spec PyProof.Rows L2
/-! ### the law's world: dice, a list of tuples, what each of them stands for -/
/-- not a list of ints -/
def NoInts (H : Hp) (b : Addr) : Prop := ∀ ns : List Int, H b ≠ some (.lst (ns.map V.int))
theorem NoInts.dice {K : PySem.W.Frag} {H0 H : Hp} {d : Addr} (x : Dice K H0 H d) : NoInts H d := by
  obtain ⟨⟨a, ns, i, m, r, h1, h2⟩, h3, h4⟩ := x
  intro ms e
  rw [h1] at e
  cases ms with
  | nil => cases e
  | cons n t => cases e
/-- no list, no tuple, no table, no code object -/
structure Solid (o : HO) : Prop where
  l : ∀ xs, o ≠ .lst xs
  t : ∀ xs, o ≠ .tup xs
  b : ∀ ps, o ≠ .tbl ps
  x : ∀ φ, o ≠ .ext φ
theorem Solid.ins {C dx : Addr} {fs : List (Str × V)} : Solid (.ins C dx fs) := ⟨fun _ z => (by cases z), fun _ z => (by cases z), fun _ z => (by cases z), fun _ z => (by cases z)⟩
theorem Solid.dK {kvs : List (Key × V)} : Solid (.dK kvs) := ⟨fun _ z => (by cases z), fun _ z => (by cases z), fun _ z => (by cases z), fun _ z => (by cases z)⟩
theorem NoInts.solid {H : Hp} {b : Addr} {o : HO} (h : H b = some o) (s : Solid o) : NoInts H b := fun ns e => s.l _ (Option.some.inj (h.symm.trans e))
theorem Dice.ext' {K : PySem.W.Frag} {H0 H H' : Hp} {d : Addr} (x : Dice K H0 H d) (e : Ext0 H H') : Dice K H0 H' d := by
  obtain ⟨⟨a, ns, i, m, r, h1, h2⟩, h3, h4⟩ := x
  exact ⟨⟨a, ns, i, m, r, e _ _ h1 (fun _ z => by cases z), h2⟩, h3, h4.trans e⟩
theorem Keep.ext {H H' : Hp} (k : Keep [] H H') : Ext0 H H' := fun b o h _ => k.1 b o nin_nil h
/-- neither a table nor a code object -/
def Plain (H : Hp) (b : Addr) : Prop := ∃ o, H b = some o ∧ (∀ ps, o ≠ .tbl ps) ∧ ∀ φ, o ≠ .ext φ
theorem Plain.lst {H : Hp} {b : Addr} {xs : List V} (h : H b = some (.lst xs)) : Plain H b := ⟨_, h, fun _ z => (by cases z), fun _ z => (by cases z)⟩
theorem Plain.solid {H : Hp} {b : Addr} {o : HO} (h : H b = some o) (s : Solid o) : Plain H b := ⟨o, h, s.b, s.x⟩
theorem Tabs.keep {T : List (Addr × Str)} {S : List Addr} {H H' : Hp} (t : LamX.Tabs T H) (k : Keep S H H') (n : ∀ b, b ∈ S → Plain H b) : LamX.Tabs T H' := by
  intro x hx
  obtain ⟨ps, h1, h2, h3⟩ := t x hx
  refine ⟨ps, k.1 _ _ (fun m => ?_) h1, h2, fun pos cv hcv => ?_⟩
  · obtain ⟨o, e, ne, _⟩ := n _ m
    rw [h1] at e
    exact ne ps (Option.some.inj e).symm
  · obtain ⟨c, e1, e2⟩ := h3 pos cv hcv
    refine ⟨c, e1, k.1 _ _ (fun m => ?_) e2⟩
    obtain ⟨o, e, _, ne⟩ := n _ m
    rw [e2] at e
    exact ne _ (Option.some.inj e).symm
theorem plain0 {H : Hp} : ∀ c, c ∈ ([] : List Addr) → Plain H c := fun _ m => absurd m List.not_mem_nil
theorem plain1 {H : Hp} {b : Addr} (h : Plain H b) : ∀ c, c ∈ [b] → Plain H c := fun c m => by rw [List.mem_singleton.mp m]; exact h
theorem Tabs.one {P : Addr} {q : Str} {H : Hp} (h : LamX.TabS H P q) : LamX.Tabs [(P, q)] H := fun p hp => by rw [List.mem_singleton.mp hp]; exact h
/-- behind a call that changed what is new alone -/
theorem Keep.fresh {S T : List Addr} {H H1 H2 : Hp} (l : Keep T H1 H2) (h : ∀ b, b ∈ T → H b = none) (k : Keep S H H1) : Keep S H H2 :=
  ⟨fun b u n e => l.1 b u (fun m => by rw [h b m] at e; cases e) (k.1 b u n e), fun b e => k.2 b (l.2 b e)⟩
theorem Keep.old {S : List Addr} {H0 H H' : Hp} (old : ∀ b, H b = none → H0 b = none) (k : Keep S H H') : ∀ b, H' b = none → H0 b = none := fun b e => old b (k.2 b e)
/-- all but S and the tables stay -/
def KeepX (S : List Addr) (H H' : Hp) : Prop := ∀ a o, a ∉ S → H a = some o → (∀ ps, o ≠ .tbl ps) → H' a = some o
theorem Keep.x {S : List Addr} {H H' : Hp} (k : Keep S H H') : KeepX S H H' := fun a o n h _ => k.1 a o n h
theorem KeepX.ext {H H' : Hp} (e : Ext0 H H') : KeepX [] H H' := fun a o _ h n => e a o h n
theorem KeepX.trans {S : List Addr} {H H1 H2 : Hp} (a : KeepX S H H1) (b : KeepX S H1 H2) : KeepX S H H2 := fun c o n h t => b c o n (a c o n h t) t
theorem KeepX.mono {S T : List Addr} {H H1 : Hp} (a : KeepX T H H1) (h : ∀ b, b ∈ T → b ∈ S) : KeepX S H H1 := fun c o n => a c o fun m => n (h c m)
theorem KeepX.mono0 {S : List Addr} {H H1 : Hp} (a : KeepX [] H H1) : KeepX S H H1 := a.mono sub_nil
theorem KeepX.fresh {S T : List Addr} {H H1 H2 : Hp} (l : KeepX T H1 H2) (h : ∀ b, b ∈ T → b ∈ S ∨ H b = none) (k : KeepX S H H1) : KeepX S H H2 := fun a o n e t => l a o (fun m => by
  rcases h a m with z | z
  · exact n z
  · rw [e] at z; cases z) (k a o n e t) t
theorem KeepX.fresh' {S T : List Addr} {H H1 H2 : Hp} (l : KeepX T H1 H2) (h : ∀ b, b ∈ T → b ∈ S ∨ ∀ o, H b = some o → ¬ ∀ ps, o ≠ .tbl ps) (k : KeepX S H H1) : KeepX S H H2 := fun a o n e t => l a o (fun m => by
  rcases h a m with z | z
  · exact n z
  · exact z o e t) (k a o n e t) t
theorem Dice.keepX {K : PySem.W.Frag} {H0 H H1 : Hp} {d : Addr} {S : List Addr} (x : Dice K H0 H d) (k : KeepX S H H1) (nd : d ∉ S) (n : ∀ b, b ∈ S → H0 b = none) : Dice K H0 H1 d := by
  obtain ⟨⟨a, ns, i, m, r, h1, h2⟩, h3, h4⟩ := x
  exact ⟨⟨a, ns, i, m, r, k _ _ nd h1 (fun _ z => by cases z), h2⟩, h3, fun b o h t => k b o (fun m => by rw [n b m] at h; cases h) (h4 b o h t) t⟩
theorem Dice.own {K : PySem.W.Frag} {H0 H1 H2 : Hp} {d D : Addr} {o : HO} (x : Dice K H0 H1 d) (y : Dice K H0 H2 d) (n : H1 D = none) (ne : d ≠ D) : Dice K H0 (upd H2 D o) d := by
  obtain ⟨⟨a, ns, i, m, r, h1, h2⟩, h3, h4⟩ := y
  exact ⟨⟨a, ns, i, m, r, (upd_ne ne).trans h1, h2⟩, h3, fun b u h t => by
    rw [upd_ne (fun z => by
      have := x.ext b u h t
      rw [z, n] at this
      cases this)]
    exact h4 b u h t⟩
/-- what follows an if, said once -/
theorem cut_if {c : Bool} {t u : TS} {D : Ends} {σ : L2.St} {H : Hp} (N : L2.St → Hp → Prop) (a : ∀ σ' H', N σ' H' → D.nx σ' H') (b : (∀ σ' H', N σ' H' → D.nx σ' H') → if c = true then t D σ H else u D σ H) : if c = true then t D σ H else u D σ H := b a
/-! alike -/
section
variable {K : PySem.W.Frag} {H : Hp} {n : Nat} {p q : Addr}
theorem al_int {i : Int} : Alike K H (n + 1) (.int i) (.int i) := Or.inr (Or.inl ⟨i, rfl, rfl⟩)
theorem al_bl {b : Bool} : Alike K H (n + 1) (.bl b) (.bl b) := Or.inl ⟨b, rfl, rfl⟩
theorem al_str {s : Str} : Alike K H (n + 1) (.str s) (.str s) := Or.inr (Or.inr (Or.inl ⟨s, rfl, rfl⟩))
theorem al_non : Alike K H (n + 1) .non .non := Or.inr (Or.inr (Or.inr (Or.inl ⟨rfl, rfl⟩)))
inductive AlL (K : PySem.W.Frag) (H : Hp) (n : Nat) : List V → List V → Prop
  | nil : AlL K H n [] []
  | cons {x y : V} {xs ys : List V} (h : Alike K H n x y) (t : AlL K H n xs ys) : AlL K H n (x :: xs) (y :: ys)
theorem AlL.len {xs ys : List V} (h : AlL K H n xs ys) : xs.length = ys.length := by
  induction h with
  | nil => rfl
  | cons _ _ ih => rw [List.length_cons, List.length_cons, ih]
theorem AlL.at {xs ys : List V} (h : AlL K H n xs ys) : ∀ (k : Nat) u v, xs[k]? = some u → ys[k]? = some v → Alike K H n u v := by
  induction h with
  | nil => intro k u v a _; simp at a
  | cons h t ih =>
    intro k u v a b
    match k, a, b with
    | 0, a, b => cases a; cases b; exact h
    | k + 1, a, b => exact ih k u v (by simpa using a) (by simpa using b)
theorem al_tup {xs ys : List V} (hx : H p = some (.tup xs)) (hy : H q = some (.tup ys)) (h : AlL K H n xs ys) (hl : xs.length ≤ 16777216) : Alike K H (n + 1) (.ref p) (.ref q) :=
  Or.inr (Or.inr (Or.inr (Or.inr (Or.inl ⟨p, q, _, _, rfl, rfl, SqT.of hx, SqT.of hy, h.len, hl, h.at⟩))))
theorem al_lst {xs ys : List V} (hx : H p = some (.lst xs)) (hy : H q = some (.lst ys)) (h : AlL K H n xs ys) (hl : xs.length ≤ 16777216) : Alike K H (n + 1) (.ref p) (.ref q) :=
  Or.inr (Or.inr (Or.inr (Or.inr (Or.inr ⟨p, q, _, _, rfl, rfl, SqL.of hx, SqL.of hy, h.len, hl, h.at⟩))))
theorem AlL.same {xs : List V} (h : ∀ x, x ∈ xs → Alike K H n x x) : AlL K H n xs xs := by
  induction xs with
  | nil => exact .nil
  | cons x r ih => exact .cons (h x List.mem_cons_self) (ih fun y hy => h y (List.mem_cons_of_mem _ hy))
theorem AlL.ints {ns : List Int} : AlL K H (n + 1) (ns.map V.int) (ns.map V.int) := AlL.same fun x hx => by
  obtain ⟨i, _, rfl⟩ := List.mem_map.mp hx
  exact al_int
end
end Ak

namespace Ak
open PySem PySem.Spec PyProof.Rows L2
structure SdG where
  E : Type
  tt : E → Addr
  tp : E → List V
  own : E → List Addr
  ok : Hp → E → Nat → Prop
  keep : ∀ {H H' : Hp} {S : List Addr} {e : E} {n : Nat}, ok H e n → KeepX S H H' → (∀ a, a ∈ own e → a ∉ S) → (∀ b, b ∈ S → NoInts H b) → (∀ b, b ∈ S → ∀ xs, H b ≠ some (.tup xs)) → ok H' e n
  mono : ∀ {H : Hp} {e : E} {n n' : Nat}, ok H e n → n ≤ n' → ok H e n'
  live : ∀ {H : Hp} {e : E} {n : Nat}, ok H e n → ∀ a, a ∈ own e → ∃ o, H a = some o ∧ Solid o
structure SidesG (G : SdG) (H0 H : Hp) (sd : Addr) (L : List G.E) (n : Nat) : Prop where
  lst : H sd = some (.lst (L.map fun e => V.ref (G.tt e)))
  new : H0 sd = none
  tup : ∀ e, e ∈ L → H (G.tt e) = some (.tup (G.tp e))
  side : ∀ e, e ∈ L → G.ok H e n
  fresh : ∀ e, e ∈ L → ∀ a, a ∈ G.own e → H0 a = none
  dis : L.Pairwise fun e u => ∀ a, a ∈ G.own e → a ∉ G.own u
structure WdG (G : SdG) (K : PySem.W.Frag) (T : List (Addr × Str)) (H0 H : Hp) (d sd : Addr) (L : List G.E) (n : Nat) : Prop where
  dice : Dice K H0 H d
  sides : SidesG G H0 H sd L n
  tabs : LamX.Tabs T H
  sne : sd ≠ d
theorem pw_sym {α : Type} {R : α → α → Prop} (sy : ∀ {a b}, R a b → R b a) : ∀ {L : List α}, L.Pairwise R → ∀ {a b : α}, a ∈ L → b ∈ L → a ≠ b → R a b
  | [], _, a, _, h, _, _ => absurd h List.not_mem_nil
  | x :: r, p, a, b, ha, hb, ne => by
    obtain ⟨p1, p2⟩ := List.pairwise_cons.mp p
    rcases List.mem_cons.mp ha with ea | ha'
    · rcases List.mem_cons.mp hb with eb | hb'
      · exact absurd (ea.trans eb.symm) ne
      · exact ea ▸ p1 b hb'
    · rcases List.mem_cons.mp hb with eb | hb'
      · exact sy (eb ▸ p1 a ha')
      · exact pw_sym sy p2 ha' hb' ne
section
variable {G : SdG} {K : PySem.W.Frag} {T : List (Addr × Str)} {H0 H H' : Hp} {d sd : Addr} {L : List G.E} {n : Nat}
theorem WdG.nil (dc : Dice K H0 H d) (t : LamX.Tabs T H) (hs : H sd = some (.lst [])) (n0 : H0 sd = none) (ne : sd ≠ d) : WdG G K T H0 H d sd [] n :=
  ⟨dc, ⟨hs, n0, fun _ h => absurd h List.not_mem_nil, fun _ h => absurd h List.not_mem_nil, fun _ h => absurd h List.not_mem_nil, List.Pairwise.nil⟩, t, ne⟩
theorem WdG.lam (x : WdG G K T H0 H d sd L n) (e : Ext0 H H') (t : LamX.Tabs T H') : WdG G K T H0 H' d sd L n :=
  ⟨x.dice.ext' e, ⟨e _ _ x.sides.lst (fun _ z => by cases z), x.sides.new, fun u hu => e _ _ (x.sides.tup u hu) (fun _ z => by cases z), fun u hu => G.keep (x.sides.side u hu) (KeepX.ext e) (fun _ _ => nin_nil) (fun b hb => absurd hb List.not_mem_nil) (fun b hb => absurd hb List.not_mem_nil), x.sides.fresh, x.sides.dis⟩, t, x.sne⟩
theorem WdG.keep0 (x : WdG G K T H0 H d sd L n) (k : Keep [] H H') : WdG G K T H0 H' d sd L n := x.lam k.ext (Tabs.keep x.tabs k plain0)
theorem WdG.mono {n' : Nat} (x : WdG G K T H0 H d sd L n) (h : n ≤ n') : WdG G K T H0 H d sd L n' := ⟨x.dice, ⟨x.sides.lst, x.sides.new, x.sides.tup, fun u hu => G.mono (x.sides.side u hu) h, x.sides.fresh, x.sides.dis⟩, x.tabs, x.sne⟩
theorem WdG.next (x : WdG G K T H0 H d sd L n) (k : Keep [d] H H') (dc : Dice K H0 H' d) : WdG G K T H0 H' d sd L n := by
  obtain ⟨xs, hd⟩ := x.dice.lst
  have nt : ∀ b, b ∈ [d] → ∀ ys, H b ≠ some (.tup ys) := fun b hb ys e => by rw [List.mem_singleton.mp hb, hd] at e; cases e
  refine ⟨dc, ⟨k.1 _ _ (nin_cons x.sne nin_nil) x.sides.lst, x.sides.new, fun u hu => k.1 _ _ (fun m => nt _ m _ (x.sides.tup u hu)) (x.sides.tup u hu), fun u hu => ?_, x.sides.fresh, x.sides.dis⟩, Tabs.keep x.tabs k (plain1 (Plain.lst hd)), x.sne⟩
  refine G.keep (x.sides.side u hu) k.x (fun a ha m => ?_) (fun b hb => by rw [List.mem_singleton.mp hb]; exact NoInts.dice x.dice) nt
  obtain ⟨o, ho, so⟩ := G.live (x.sides.side u hu) a ha
  rw [List.mem_singleton.mp m, hd] at ho
  exact so.l _ (Option.some.inj ho).symm
/-- one of them has gone on -/
theorem WdG.turnX {e : G.E} (x : WdG G K T H0 H d sd L n) (he : e ∈ L) (k : KeepX (G.own e) H H') (tb : LamX.Tabs T H') (s : G.ok H' e (n + 1)) : WdG G K T H0 H' d sd L (n + 1) := by
  have lv := G.live (x.sides.side e he)
  obtain ⟨xs, hd⟩ := x.dice.lst
  have nl : ∀ b, b ∈ G.own e → ∀ ys, H b ≠ some (.lst ys) := fun b hb ys z => by
    obtain ⟨o, ho, so⟩ := lv b hb
    exact so.l _ (Option.some.inj (ho.symm.trans z))
  have nt : ∀ b, b ∈ G.own e → ∀ ys, H b ≠ some (.tup ys) := fun b hb ys z => by
    obtain ⟨o, ho, so⟩ := lv b hb
    exact so.t _ (Option.some.inj (ho.symm.trans z))
  refine ⟨x.dice.keepX k (fun m => nl _ m _ hd) (x.sides.fresh e he), ⟨k _ _ (fun m => nl _ m _ x.sides.lst) x.sides.lst (fun _ z => by cases z), x.sides.new, fun u hu => k _ _ (fun m => nt _ m _ (x.sides.tup u hu)) (x.sides.tup u hu) (fun _ z => by cases z), fun u hu => ?_, x.sides.fresh, x.sides.dis⟩, tb, x.sne⟩
  by_cases q : u = e
  · rw [q]; exact s
  · refine G.mono (G.keep (x.sides.side u hu) k (fun a ha m => ?_) (fun b hb ys => nl b hb _) nt) (Nat.le_succ n)
    exact pw_sym (fun {a b} h c hc m => h c m hc) x.sides.dis hu he q a ha m
theorem WdG.turn {e : G.E} (x : WdG G K T H0 H d sd L n) (he : e ∈ L) (k : Keep (G.own e) H H') (s : G.ok H' e (n + 1)) : WdG G K T H0 H' d sd L (n + 1) :=
  x.turnX he k.x (Tabs.keep x.tabs k (fun b hb => by obtain ⟨o, ho, so⟩ := G.live (x.sides.side e he) b hb; exact Plain.solid ho so)) s
theorem NoInts.refs {b : Addr} {f : G.E → Addr} {u : G.E} (hu : u ∈ L) (h : H b = some (.lst (L.map fun e => V.ref (f e)))) : NoInts H b := fun ns e => by
  rw [h] at e
  cases L with
  | nil => exact absurd hu List.not_mem_nil
  | cons y r =>
    cases ns with
    | nil => cases e
    | cons z q => cases e
/-- one more; s: it stands behind the store too -/
theorem WdG.add {e : G.E} (x : WdG G K T H0 H d sd L n) (old : ∀ b, H b = none → H0 b = none) (k : Keep [] H H') (ht : H' (G.tt e) = some (.tup (G.tp e))) (nw : ∀ a, a ∈ G.own e → H a = none)
    (s : G.ok (upd H' sd (.lst ((L.map fun e => V.ref (G.tt e)) ++ [.ref (G.tt e)]))) e n) : WdG G K T H0 (upd H' sd (.lst ((L.map fun e => V.ref (G.tt e)) ++ [.ref (G.tt e)]))) d sd (L ++ [e]) n := by
  have y := x.keep0 k
  have hs := y.sides.lst
  have kU : Keep [sd] H' (upd H' sd (.lst ((L.map fun e => V.ref (G.tt e)) ++ [.ref (G.tt e)]))) := Keep.refl.set List.mem_cons_self
  have nt : ∀ b, b ∈ [sd] → ∀ ys, H' b ≠ some (.tup ys) := fun b hb ys z => by rw [List.mem_singleton.mp hb, hs] at z; cases z
  refine ⟨y.dice.keep kU (nin_cons (Ne.symm y.sne) nin_nil) (none_in none_nil y.sides.new), ⟨?_, y.sides.new, fun u hu => ?_, fun u hu => ?_, fun u hu a ha => ?_, ?_⟩, Tabs.keep y.tabs kU (plain1 (Plain.lst hs)), y.sne⟩
  · rw [upd_same, List.map_append]
    rfl
  · rcases List.mem_append.mp hu with hu | hu
    · exact kU.1 _ _ (fun z => nt _ z _ (y.sides.tup u hu)) (y.sides.tup u hu)
    · rw [List.mem_singleton.mp hu]
      exact kU.1 _ _ (fun z => nt _ z _ ht) ht
  · rcases List.mem_append.mp hu with hu | hu
    · refine G.keep (y.sides.side u hu) kU.x (fun a ha m => ?_) (fun b hb => by rw [List.mem_singleton.mp hb]; exact NoInts.refs hu hs) nt
      obtain ⟨o, ho, so⟩ := G.live (y.sides.side u hu) a ha
      rw [List.mem_singleton.mp m, hs] at ho
      exact so.l _ (Option.some.inj ho).symm
    · rw [List.mem_singleton.mp hu]
      exact s
  · rcases List.mem_append.mp hu with hu | hu
    · exact y.sides.fresh u hu a ha
    · rw [List.mem_singleton.mp hu] at ha
      exact old _ (nw a ha)
  · refine List.pairwise_append.mpr ⟨y.sides.dis, List.pairwise_singleton _ _, fun u hu v hv a ha m => ?_⟩
    rw [List.mem_singleton.mp hv] at m
    obtain ⟨o, ho, _⟩ := G.live (x.sides.side u hu) a ha
    rw [nw a m] at ho
    cases ho
theorem pickG {r : Int} (r0 : 0 ≤ r) (r1 : r < L.length) : ∃ e, e ∈ L ∧ atI (L.map fun e => V.ref (G.tt e)) r = some (.ref (G.tt e)) := by
  obtain ⟨k, rfl⟩ : ∃ k : Nat, r = (k : Int) := ⟨r.toNat, by omega⟩
  have hl : k < L.length := by omega
  refine ⟨L[k], List.getElem_mem hl, atI_nat ?_⟩
  rw [List.getElem?_map, List.getElem?_eq_getElem hl]
  rfl
end
end Ak

namespace Ak
open PySem PySem.Spec PyProof.Rows L2
/-! ### a mouth and the law's own beside -/
structure ME where
  t : Addr
  p : Addr
  c : Addr
  q : Addr
  o : Addr
theorem OwnMAt.keepX {S : List Addr} {H H' : Hp} {o : Addr} {n : Int} {ks : List Int} (x : OwnMAt H o n ks) (k : KeepX S H H') (no : o ∉ S) (nl : ∀ b, b ∈ S → NoInts H b) : OwnMAt H' o n ks := by
  obtain ⟨c, h1, h2⟩ := x
  exact ⟨c, k _ _ no h1 (fun _ z => by cases z), k _ _ (fun z => nl c z ks h2) h2 (fun _ z => by cases z)⟩
theorem OwnMAt.keep {S : List Addr} {H H' : Hp} {o : Addr} {n : Int} {ks : List Int} (x : OwnMAt H o n ks) (k : Keep S H H') (no : o ∉ S) (nl : ∀ b, b ∈ S → NoInts H b) : OwnMAt H' o n ks := x.keepX k.x no nl
theorem MouthAt.keepX {C : Addr} {S : List Addr} {H H' : Hp} {p c : Addr} {m w a l g : Int} {ks : List Int} (x : MouthAt C H p c m w a l g ks) (k : KeepX S H H') (np : p ∉ S) (nc : c ∉ S) : MouthAt C H' p c m w a l g ks := by
  obtain ⟨dx, h1, h2⟩ := x
  exact ⟨dx, k _ _ np h1 (fun _ z => by cases z), k _ _ nc h2 (fun _ z => by cases z)⟩
structure MData (C : Addr) (H : Hp) (e : ME) (n : Nat) (m w l a lst g : Int) (ks : List Int) : Prop where
  set : H e.q = some (.tup [.int m, .int w, .int l, .int a])
  so : SetOk m w l a
  mo : MouthAt C H e.p e.c m w a lst g ks
  own : OwnMAt H e.o (lst + 1) (srt ks)
  nd : ks.Nodup
  mx : IsMx g ks
  rg : ∀ x, x ∈ ks → 0 ≤ x ∧ x ≤ lst
  l0 : -1 ≤ lst
  l1 : lst < n
  len : ks.length ≤ 20 * n
def MouthOk (C : Addr) (H : Hp) (e : ME) (n : Nat) : Prop := ∃ m w l a lst g ks, MData C H e n m w l a lst g ks
theorem MData.keepX {C : Addr} {H H' : Hp} {S : List Addr} {e : ME} {n : Nat} {m w l a lst g : Int} {ks : List Int} (x : MData C H e n m w l a lst g ks) (k : KeepX S H H') (no : ∀ a, a ∈ [e.p, e.c, e.o] → a ∉ S) (nl : ∀ b, b ∈ S → NoInts H b) (nt : ∀ b, b ∈ S → ∀ xs, H b ≠ some (.tup xs)) : MData C H' e n m w l a lst g ks :=
  ⟨k _ _ (fun z => nt _ z _ x.set) x.set (fun _ z => by cases z), x.so, x.mo.keepX k (no _ List.mem_cons_self) (no _ (List.mem_cons_of_mem _ List.mem_cons_self)),
    x.own.keepX k (no _ (List.mem_cons_of_mem _ (List.mem_cons_of_mem _ List.mem_cons_self))) nl, x.nd, x.mx, x.rg, x.l0, x.l1, x.len⟩
theorem MData.keep0 {C : Addr} {H H' : Hp} {e : ME} {n : Nat} {m w l a lst g : Int} {ks : List Int} (x : MData C H e n m w l a lst g ks) (k : KeepX [] H H') : MData C H' e n m w l a lst g ks :=
  x.keepX k (fun _ _ => nin_nil) (fun b hb => absurd hb List.not_mem_nil) (fun b hb => absurd hb List.not_mem_nil)
def mouthG (C : Addr) : SdG where
  E := ME
  tt := fun e => e.t
  tp := fun e => [.ref e.p, .ref e.q, .ref e.o]
  own := fun e => [e.p, e.c, e.o]
  ok := MouthOk C
  keep := fun {H H' S e n} x k no nl nt => by
    obtain ⟨m, w, l, a, lst, g, ks, x⟩ := x
    exact ⟨m, w, l, a, lst, g, ks, x.keepX k no nl nt⟩
  mono := fun {H e n n'} x h => by
    obtain ⟨m, w, l, a, lst, g, ks, x⟩ := x
    exact ⟨m, w, l, a, lst, g, ks, x.set, x.so, x.mo, x.own, x.nd, x.mx, x.rg, x.l0, by have := x.l1; omega, by have := x.len; omega⟩
  live := fun {H e n} x b hb => by
    obtain ⟨m, w, l, a, lst, g, ks, x⟩ := x
    obtain ⟨dx, h1, h2⟩ := x.mo
    obtain ⟨c, h3, h4⟩ := x.own
    rcases List.mem_cons.mp hb with rfl | hb
    · exact ⟨_, h1, Solid.ins⟩
    · rcases List.mem_cons.mp hb with rfl | hb
      · exact ⟨_, h2, Solid.dK⟩
      · rw [List.mem_singleton.mp hb]
        exact ⟨_, h3, Solid.dK⟩
abbrev mkE (C t p c q o : Addr) : (mouthG C).E := ME.mk t p c q o
theorem IsMx.srt {g : Int} {ks : List Int} (x : IsMx g ks) : IsMx g (srt ks) := ⟨by
  rcases List.mem_cons.mp x.1 with h | h
  · exact List.mem_cons.mpr (Or.inl h)
  · exact List.mem_cons.mpr (Or.inr (srt_mem.mpr h)), fun y hy => x.2 y (by
  rcases List.mem_cons.mp hy with h | h
  · exact List.mem_cons.mpr (Or.inl h)
  · exact List.mem_cons.mpr (Or.inr (srt_mem.mp h)))⟩
theorem found_eq {n : Int} {bs ks : List Int} : foundOf n bs ks = foundL n bs (srt ks) := by
  unfold foundOf foundL
  rw [srt_filter]
  congr 1
  refine List.filter_congr fun x _ => ?_
  by_cases h : x ∈ ks
  · rw [decide_eq_true h, decide_eq_true (srt_mem.mpr h)]
  · rw [decide_eq_false h, decide_eq_false (fun z => h (srt_mem.mp z))]
theorem found_mem {n x : Int} {bs ks : List Int} (h : x ∈ foundOf n bs ks) : x ∈ allOf n bs ∧ x ∉ ks := by
  have h2 := List.mem_filter.mp h
  refine ⟨srt_mem.mp h2.1, fun z => ?_⟩
  have := h2.2
  rw [decide_eq_true z] at this
  cases this
theorem found_in {n x : Int} {bs ks : List Int} (h : x ∈ allOf n bs) (nk : x ∉ ks) : x ∈ foundOf n bs ks := List.mem_filter.mpr ⟨srt_mem.mpr h, by rw [decide_eq_false nk]; rfl⟩
theorem found_len {n : Int} {bs ks : List Int} (h : bs.length ≤ 16) : (foundOf n bs ks).length ≤ 17 := by
  have e := List.length_filter_le (fun x => !decide (x ∈ ks)) (srt (allOf n bs))
  have e2 := all_len (n := n) (bs := bs)
  rw [srt_len] at e
  unfold foundOf
  omega
theorem found_nd {n : Int} {bs ks : List Int} (h : ks.Nodup) : (ks ++ foundOf n bs ks).Nodup :=
  List.nodup_append.mpr ⟨h, (srt_nodup all_nd).filter _, fun a ha b hb e => (found_mem hb).2 (e ▸ ha)⟩
theorem found_srt {n : Int} {bs ks : List Int} : srt (srt ks ++ foundL n bs (srt ks)) = srt (ks ++ foundOf n bs ks) := by
  rw [← found_eq]
  exact srt_congr ((srt_perm ks).append_right _)
theorem found_mx {n g : Int} {bs ks : List Int} (x : IsMx g ks) : IsMx (max g n) (ks ++ foundOf n bs ks) := by
  have hn : n ∈ allOf n bs := List.mem_cons_self
  refine ⟨?_, fun y hy => ?_⟩
  · by_cases q : n ≤ g
    · rw [show max g n = g by omega]
      rcases List.mem_cons.mp x.1 with h | h
      · exact List.mem_cons.mpr (Or.inl h)
      · exact List.mem_cons.mpr (Or.inr (List.mem_append.mpr (Or.inl h)))
    · rw [show max g n = n by omega]
      exact List.mem_cons.mpr (Or.inr (List.mem_append.mpr (Or.inr (found_in hn (fun z => q (x.2 n (List.mem_cons_of_mem _ z)))))))
  · rcases List.mem_cons.mp hy with h | h
    · have := x.2 y (List.mem_cons.mpr (Or.inl h))
      omega
    · rcases List.mem_append.mp h with h | h
      · have := x.2 y (List.mem_cons_of_mem _ h)
        omega
      · have := all_le (found_mem h).1
        omega
def spLawIs (C : Addr) : Sp := fun vs H Q _ => ∃ (e : ME) (n : Nat), vs = [.ref e.p, .ref e.q, .ref e.o] ∧ MouthOk C H e n ∧ n ≤ 1000 ∧ ∀ H', Keep [] H H' → Q (.bl true) H'
section
variable {P : Program} {w : World} {K : PySem.W.Frag} {mg : Str → Option Value} {base : Heap} {C : Addr}
theorem ok_law_is {f : Addr} {fd : FuncData} (F : L2.Fun K "_law_is" "_law_is" s_l_is f fd) (g_range : mg "range" = none) (m_Mouth_sure : MetX P w K mg base 1 C "sure" (spSure C)) (m_Mouth_last : MetX P w K mg base 1 C "last" (spMLast C)) (m_Mouth_is_full : MetX P w K mg base 1 C "is_full" (spIsFull C))
    (c_l_is_full : CalX P w K mg base 1 "_law_is_full" (spOwnFull K)) (c_l_like : CalX P w K mg base 4 "_law_like" (spLike K 3)) : FnOk P w K mg base (L2.CX P w) 5 f fd ["_law_mouth_here", "_law_setting_here", "_law_own"] (spLawIs C) := by
  refine Fun.okX F sc_l_is (fun vs H Q E h => ?_) (fun cdv A outer s H vs Q E hr h => ?_)
  · obtain ⟨_, _, rfl, _⟩ := h
    rfl
  · obtain ⟨e, n, rfl, hM, hn, k⟩ := h
    obtain ⟨m, wi, l, a, lst, g, ks, x⟩ := hM
    obtain ⟨dx, hp, hc⟩ := id x.mo
    obtain ⟨c2, ho, hc2⟩ := id x.own
    have hq := x.set
    have len := x.len
    refine ⟨_, (pss_cons (ps_for (passes_of rfl) rfl (pi_range1 (by rfl) g_range (pa_cons pe_int pa_nil)) (pg_name (i := 3) sc_l_is.nd rfl (Or.inl rfl))
      (pss_cons (ps_set (i := 4) sc_l_is.nd rfl (Or.inl rfl) (Ak.pe_mx0 (pv 0) m_Mouth_sure hr (by walk_at "lv") (takes_of rfl rfl rfl rfl)))
      (pss_cons (ps_set (i := 5) sc_l_is.nd rfl (Or.inl rfl) (pe_lst (pa_cons (pe_dget (hu_of hr) (pv 2) pe_str (by intro _ _; rfl)) (pa_cons (pe_op op_sub (pe_dget (hu_of hr) (pv 2) pe_str (by intro _ _; rfl)) pe_int) (pa_cons (Ak.pe_cx c_l_is_full hr (by walk_at "lv") (by rfl) (takes_of rfl rfl rfl rfl) (pa_cons (pv 1) (pa_cons (pv 2) pa_nil))) pa_nil)))))
      (pss_cons (ps_if (pt_not (Ak.pt_truK (K := K) (by rfl) (Ak.pe_cx c_l_like hr (by walk_at "lv") (by rfl) (takes_of rfl rfl rfl rfl) (pa_cons (pe_lst (pa_cons (pv 4) (pa_cons (Ak.pe_mx0 (pv 0) m_Mouth_last hr (by walk_at "lv") (takes_of rfl rfl rfl rfl)) (pa_cons (Ak.pe_mx0 (pv 0) m_Mouth_is_full hr (by walk_at "lv") (takes_of rfl rfl rfl rfl)) pa_nil)))) (pa_cons (pv 5) pa_nil)))))
      (pss_one (ps_ret pe_bl))
      pss_nil)
      (pss_one (ps_expr (Ak.pe_bmK (K := K) (by rfl) PySem.F.plainAttrs_list PySem.F.slot_list_append PySem.F.type_list_append mt_append (pv 4) (pa_cons (pe_un un_neg pe_int) pa_nil))))))))
      (pss_one (ps_ret pe_bl))), ?_⟩
    have e0 : L2.start N_l_is [V.ref e.p, V.ref e.q, V.ref e.o] = [some (V.ref e.p), some (V.ref e.q), some (V.ref e.o), none, none, none] := rfl
    rw [e0]
    try dsimp only [cxOf]
    walk_at "rd"
    refine Ak.l_forR1 (by decide) (by decide) (fun i σ' H' => ∃ v3 v4 v5, σ' = [some (.ref e.p), some (.ref e.q), some (.ref e.o), v3, v4, v5] ∧ Keep [] H H') ⟨none, none, none, rfl, Keep.refl⟩ (fun i σ' H' hi pv => ?_) (fun σ' H' pv => ?_)
    · obtain ⟨v3, v4, v5, rfl, hk⟩ := pv
      have hp' : H' e.p = some (.ins C dx (mouthF m wi a lst g e.c)) := by walk_at "lk"
      have ho' : H' e.o = some (.dK (ownMF (lst + 1) c2)) := by walk_at "lk"
      walk_at "rd"
      refine ⟨e.p, e.c, m, wi, a, lst, g, ks, rfl, x.mo.keep hk nin_nil nin_nil, fun f H1 nf hf k1 => ?_⟩
      have hk1 := hk.trans k1
      have ho1 : H1 e.o = some (.dK (ownMF (lst + 1) c2)) := by walk_at "lk"
      have hq1 : H1 e.q = some (.tup [.int m, .int wi, .int l, .int a]) := by walk_at "lk"
      walk_at "rd"
      refine ⟨e.q, e.o, m, wi, l, a, lst + 1, srt ks, g, rfl, SqT.of hq1, x.own.keep hk1 nin_nil (fun b hb => absurd hb List.not_mem_nil), by rw [srt_len]; omega, x.mx.srt, fun H2 k2 => ?_⟩
      have hf2 : H2 f = some (.lst ((srt ks).map V.int)) := k2.1 _ _ nin_nil hf
      have hk2 := hk1.trans k2
      have hp2 : H2 e.p = some (.ins C dx (mouthF m wi a lst g e.c)) := by walk_at "lk"
      have hc22 : H2 c2 = some (.lst ((srt ks).map V.int)) := by walk_at "lk"
      walk_at "rd"
      rename_i due nd
      have k3 : Keep [] H2 (upd H2 due (.lst [.ref c2, .int (lst + 1 - 1), .bl (decide (g + a < lst + 1))])) := Keep.refl.new nd
      refine ⟨e.p, e.c, m, wi, a, lst, g, ks, rfl, x.mo.keep (hk2.trans k3) nin_nil nin_nil, ?_⟩
      have hp3 := k3.1 _ _ nin_nil hp2
      walk_at "rd"
      refine ⟨e.p, e.c, m, wi, a, lst, g, ks, rfl, x.mo.keep (hk2.trans k3) nin_nil nin_nil, ?_⟩
      walk_at "rd"
      rename_i got ng
      have hc24 : upd (upd H2 due (.lst [.ref c2, .int (lst + 1 - 1), .bl (decide (g + a < lst + 1))])) got (.lst [.ref f, .int lst, .bl (decide (g + a < lst + 1))]) c2 = some (.lst ((srt ks).map V.int)) := by walk_at "lk"
      have hf4 : upd (upd H2 due (.lst [.ref c2, .int (lst + 1 - 1), .bl (decide (g + a < lst + 1))])) got (.lst [.ref f, .int lst, .bl (decide (g + a < lst + 1))]) f = some (.lst ((srt ks).map V.int)) := by walk_at "lk"
      have hd4 : upd (upd H2 due (.lst [.ref c2, .int (lst + 1 - 1), .bl (decide (g + a < lst + 1))])) got (.lst [.ref f, .int lst, .bl (decide (g + a < lst + 1))]) due = some (.lst [.ref c2, .int (lst + 1 - 1), .bl (decide (g + a < lst + 1))]) := by walk_at "lk"
      have e1 : lst + 1 - 1 = lst := by omega
      refine like_go (al_lst upd_same hd4 (.cons (al_lst hf4 hc24 AlL.ints (by rw [List.length_map, srt_len]; omega)) (.cons (by rw [e1]; exact al_int) (.cons al_bl .nil))) (Nat.le_of_ble_eq_true rfl)) ?_
      have nfH : H f = none := hk.2 _ nf
      have sf : ((srt ks).map V.int).length < sizeLine := by rw [List.length_map, srt_len, sizeLine_eq]; omega
      walk_at "rd"
      exact ⟨_, _, _, rfl, by walk_at "kp"⟩
    · obtain ⟨v3, v4, v5, rfl, hk⟩ := pv
      walk_at "rd"
      exact k _ hk
end
end Ak

namespace Ak
open PySem PySem.Spec PyProof.Rows L2
section
variable {P : Program} {w : World} {K : PySem.W.Frag} {mg : Str → Option Value} {base : Heap} {C : Addr}
def tb3 (C3 : Addr) : Value → Str → Prop := fun cls wd => cls = Value.ref C3 ∧ wd = ("bits" : Str)
def tbF (C4 : Addr) : Value → Str → Prop := fun cls wd => cls = Value.ref C4 ∧ wd = ("full" : Str)
def spLaw (K : PySem.W.Frag) (PT : Addr) : Sp := fun vs H Q _ => ∃ (a : Addr) (ns : List Int), vs = [.ref a] ∧ SqL K H a (ns.map V.int) ∧ ns.length ≤ 63 ∧ H PT = some (.tbl #[]) ∧ ∀ H', Q (.bl true) H'
theorem srt_nil : srt [] = [] := by unfold srt; simp
theorem ok_law {f cL PT fT C0 C1 C2 C3 C4 C5 C6 : Addr} {oc : Value} {od an odT anT : Option Addr} {osl oslT : Array (Option Value)} {kV doc pm ct kVT docT pmT cdT ctT ocT : Value}
    (lk : K.lookup f = some ⟨oc, od, .func (PySem.W.fnOf "law" "law" (defArgs s_law) (defBody s_law) (defScope s_law) .none kV doc pm an (.ref cL) ct), osl⟩) (hcd : PySem.W.codeIn K (.ref cL) "law" = true)
    (TB : LamX.TabB base mg cL PT)
    (lkT : K.lookup fT = some ⟨ocT, odT, .func (PySem.W.fnOf "_law_told" "_law_told" (defArgs s_l_told) (defBody s_l_told) (defScope s_l_told) .none kVT docT pmT anT cdT ctT), oslT⟩) (hcT : PySem.W.codeIn K cdT "_law_told" = true) (hkT : PySem.W.keepIn K (.ref fT) = true) (g__law_told : mg "_law_told" = some (.ref fT))
    (bT : L2.Binds K (PySem.W.fnOf "_law_told" "_law_told" (defArgs s_l_told) (defBody s_l_told) (defScope s_l_told) .none kVT docT pmT anT cdT ctT) ["_law_work"] [])
    (g_BitsError : mg "BitsError" = some (.ref C0)) (g_BadSetting : mg "BadSetting" = some (.ref C1)) (g_BadMark : mg "BadMark" = some (.ref C2))
    (g_BadBits : mg "BadBits" = some (.ref C3)) (g_Full : mg "Full" = some (.ref C4)) (g_BadEvent : mg "BadEvent" = some (.ref C5)) (g_BadText : mg "BadText" = some (.ref C6)) (g_isinstance : mg "isinstance" = none) (g_ValueError : mg "ValueError" = none) (g_range : mg "range" = none) (g_tuple : mg "tuple" = none) (g_int : mg "int" = none) (g_list : mg "list" = none)
    (ob : OneBad K C0 C1 C2 C3 C4 C5 C6 C3 false false true false false false) (obF : OneBad K C0 C1 C2 C3 C4 C5 C6 C4 false false false true false false)
    (c_l_dice : CalX P w K mg base 1 "_law_dice" (spDice K)) (c_l_next : CalX P w K mg base 1 "_law_next" (spNext K)) (c_l_setting : CalX P w K mg base 2 "_law_setting" (spSetting K)) (c_l_mouth : CalX P w K mg base 1 "_law_mouth" spOwnMouth)
    (c_l_is_full : CalX P w K mg base 1 "_law_is_full" (spOwnFull K)) (c_l_hear : CalX P w K mg base 1 "_law_hear" (spOwnHear K)) (c_l_like : CalX P w K mg base 4 "_law_like" (spLike K 3)) (c_l_is : CalX P w K mg base 5 "_law_is" (spLawIs C)) (k_Mouth : MakX P w K mg base 3 "Mouth" C (spMouthInit K C))
    (m_Mouth_send : MetX P w K mg base 2 C "send" (spSend C C4)) (m_Mouth_hear : MetX P w K mg base 3 C "hear" (spHear K C C3)) :
    FnOk P w K mg base (L2.CX P w) 6 f (PySem.W.fnOf "law" "law" (defArgs s_law) (defBody s_law) (defScope s_law) .none kV doc pm an (.ref cL) ct) ["_law_script"] (spLaw K PT) := by
  refine fn_of lk hcd sc_law (fun vs H Q E h => ?_) (fun A outer s H vs Q E hr h => ?_)
  · obtain ⟨_, _, rfl, _⟩ := h
    rfl
  · obtain ⟨a, ns, rfl, hS, hl, hPT, k⟩ := h
    have g1 : ∀ cls wd, tbF C4 cls wd → ∃ D, cls = .ref D ∧ ((wd = "mark" ∧ OneBad K C0 C1 C2 C3 C4 C5 C6 D false true false false false false) ∨ (wd = "bits" ∧ OneBad K C0 C1 C2 C3 C4 C5 C6 D false false true false false false) ∨
      (wd = "full" ∧ OneBad K C0 C1 C2 C3 C4 C5 C6 D false false false true false false)) := fun cls wd ⟨e1, e2⟩ => ⟨C4, e1, Or.inr (Or.inr ⟨e2, obF⟩)⟩
    have g2 : ∀ cls wd, tb3 C3 cls wd → ∃ D, cls = .ref D ∧ ((wd = "mark" ∧ OneBad K C0 C1 C2 C3 C4 C5 C6 D false true false false false false) ∨ (wd = "bits" ∧ OneBad K C0 C1 C2 C3 C4 C5 C6 D false false true false false false) ∨
      (wd = "full" ∧ OneBad K C0 C1 C2 C3 C4 C5 C6 D false false false true false false)) := fun cls wd ⟨e1, e2⟩ => ⟨C3, e1, Or.inr (Or.inl ⟨e2, ob⟩)⟩
    refine ⟨_, (pss_cons (ps_set (i := 1) sc_law.nd rfl (Or.inr rfl) (Ak.pe_cx c_l_dice hr (by walk_at "lv") (by rfl) (takes_of rfl rfl rfl rfl) (pa_cons (pv 0) pa_nil)))
      (pss_cons (ps_set (i := 2) sc_law.nd rfl (Or.inl rfl) (pe_lst pa_nil))
      (pss_cons (ps_for (passes_of rfl) rfl (pi_range1 (by rfl) g_range (pa_cons pe_int pa_nil)) (pg_name (i := 3) sc_law.nd rfl (Or.inl rfl))
      (pss_cons (ps_set (i := 4) sc_law.nd rfl (Or.inl rfl) (Ak.pe_cx c_l_setting hr (by walk_at "lv") (by rfl) (takes_of rfl rfl rfl rfl) (pa_cons (pv 1) pa_nil)))
      (pss_one (ps_expr (Ak.pe_bmK (K := K) (by rfl) PySem.F.plainAttrs_list PySem.F.slot_list_append PySem.F.type_list_append mt_append (pv 2) (pa_cons (pe_tup (pa_cons (Ak.pe_kx k_Mouth hr (by walk_at "lv") (by rfl) (takes_of rfl rfl rfl rfl) (pa_cons (pv 4) pa_nil)) (pa_cons (pv 4) (pa_cons (Ak.pe_cx0 c_l_mouth hr (by walk_at "lv") (by rfl) (takes_of rfl rfl rfl rfl)) pa_nil)))) pa_nil))))))
      (pss_cons (ps_for (passes_of rfl) rfl (pi_range1 (by rfl) g_range (pa_cons (Ak.pe_cx c_l_next hr (by walk_at "lv") (by rfl) (takes_of rfl rfl rfl rfl) (pa_cons (pv 1) (pa_cons (pe_ix (Ak.ix_K (K := K) (by rfl)) (pe_lst (pa_cons pe_int (pa_cons pe_int (pa_cons pe_int (pa_cons pe_int pa_nil))))) (Ak.pe_cx c_l_next hr (by walk_at "lv") (by rfl) (takes_of rfl rfl rfl rfl) (pa_cons (pv 1) (pa_cons pe_int pa_nil))) (by intro _ _; rfl)) pa_nil))) pa_nil)) (pg_name (i := 5) sc_law.nd rfl (Or.inl rfl))
      (pss_cons (ps_asg (pe_ix (Ak.ix_K (K := K) (by rfl)) (pv 2) (Ak.pe_cx c_l_next hr (by walk_at "lv") (by rfl) (takes_of rfl rfl rfl rfl) (pa_cons (pv 1) (pa_cons pe_int pa_nil))) (by intro _ _; rfl)) (Ak.pg_tupK (K := K) (n := 3) (by rfl) rfl (pgs_cons (pg_name (i := 6) sc_law.nd rfl (Or.inr rfl)) (pgs_cons (pg_name (i := 4) sc_law.nd rfl (Or.inl rfl)) (pgs_cons (pg_name (i := 7) sc_law.nd rfl (Or.inl rfl)) pgs_nil)))))
      (pss_cons (ps_if (pt_cmpR op_gt (Ak.pe_cx c_l_next hr (by walk_at "lv") (by rfl) (takes_of rfl rfl rfl rfl) (pa_cons (pv 1) (pa_cons pe_int pa_nil))) pe_int (nomark _))
      (pss_cons (ps_set (i := 8) sc_law.nd rfl (Or.inl rfl) (pe_tup (pa_cons (pe_dget (hu_of hr) (pv 7) pe_str (by intro _ _; rfl)) (pa_cons (pe_op op_mod (pe_dget (hu_of hr) (pv 7) pe_str (by intro _ _; rfl)) (pe_ix (Ak.ix_K (K := K) (by rfl)) (pv 4) pe_int (by intro _ _; rfl))) pa_nil))))
      (pss_cons (ps_if (Ak.pt_truK (K := K) (by rfl) (Ak.pe_cx c_l_is_full hr (by walk_at "lv") (by rfl) (takes_of rfl rfl rfl rfl) (pa_cons (pv 4) (pa_cons (pv 7) pa_nil))))
      (pss_one (ps_set (i := 8) sc_law.nd rfl (Or.inl rfl) (pe_tup (pa_cons pe_str pa_nil))))
      (pss_one (ps_dput (hu_of hr) (pv 7) pe_str (pe_op (Ak.op_plusK (K := K) (by rfl)) (pe_dget (hu_of hr) (pv 7) pe_str (by intro _ _; rfl)) pe_int) rfl)))
      (pss_one (ps_set (i := 9) sc_law.nd rfl (Or.inl rfl) (LamX.pe_lamcall (k := 2) (T := [(PT, (envOfC "law" (defScope s_law) s.heap.objs.size f (.ref cL)).qual ++ "<lambda>")]) (TT := TTold2 (tbF C4)) (t := fun E => tMethX C "send" (spSend C C4) (wOut E) (tVar 6) tNil) (by rfl) g__law_told hkT lkT hcT bT sc_l_told rfl (Or.inl rfl) (told_gives2 g_BitsError g_BadSetting g_BadMark g_BadBits g_Full g_BadEvent g_BadText g_isinstance g_ValueError g1) TB rfl (List.mem_singleton.mpr rfl) (fun p hp _ => by rw [List.mem_singleton.mp hp]; rfl) (hr.mono (by decide)) (LamX.lamS_by (by show LamX.lamSB (defScope s_law) _ = true; decide +kernel)) rfl (fun _ _ _ _ _ => rfl) (fun _ _ _ _ _ _ _ hr' => Ak.pe_mx0 (pv 6) m_Mouth_send hr' (by decide) (takes_of rfl rfl rfl rfl)))))))
      (pss_cons (ps_set (i := 10) sc_law.nd rfl (Or.inr rfl) (pe_op (Ak.op_plusK (K := K) (by rfl)) pe_int (Ak.pe_cx c_l_next hr (by walk_at "lv") (by rfl) (takes_of rfl rfl rfl rfl) (pa_cons (pv 1) (pa_cons pe_int pa_nil)))))
      (pss_cons (ps_set (i := 11) sc_law.nd rfl (Or.inl rfl) (pe_callTy (Ak.cr_tupK (K := K) (by rfl)) (by rfl) g_tuple (by decide +kernel) (pa_cons (pe_lc (own := [("_law_k", 3)]) (g := (gName 3)) (tt := tYes) rfl sc_law.nd (pi_range1 (by rfl) g_range (pa_cons (pe_ix (Ak.ix_K (K := K) (by rfl)) (pv 4) pe_int (by intro _ _; rfl)) pa_nil)) (blkOk_by (N := N_law) (sc := defScope s_law) (by decide +kernel)) (fun _ _ _ _ _ => by exact (pg_name (i := 3) sc_law.nd rfl (Or.inl rfl))) (fun _ _ _ _ _ => by exact pts_nil) (fun _ _ _ _ _ => by exact (pe_callTy Ak.cr_intX (by rfl) g_int (by decide +kernel) (pa_cons (pe_cmpR (Ak.op_eqK (K := K) (by rfl) hr.units) (Ak.pe_cx c_l_next hr (by walk_at "lv") (by rfl) L2.takes0 (pa_cons (pv 1) (pa_cons (pv 10) pa_nil))) pe_int (nomark _)) pa_nil)))) pa_nil)))
      (pss_cons (ps_set (i := 12) sc_law.nd rfl (Or.inl rfl) (pe_ix (Ak.ix_K (K := K) (by rfl)) (pe_lst (pa_cons pe_int (pa_cons pe_int (pa_cons (Ak.pe_cx c_l_next hr (by walk_at "lv") (by rfl) (takes_of rfl rfl rfl rfl) (pa_cons (pv 1) (pa_cons pe_int pa_nil))) (pa_cons (Ak.pe_cx c_l_next hr (by walk_at "lv") (by rfl) (takes_of rfl rfl rfl rfl) (pa_cons (pv 1) (pa_cons pe_int pa_nil))) pa_nil))))) (Ak.pe_cx c_l_next hr (by walk_at "lv") (by rfl) (takes_of rfl rfl rfl rfl) (pa_cons (pv 1) (pa_cons pe_int pa_nil))) (by intro _ _; rfl)))
      (pss_cons (ps_set (i := 13) sc_law.nd rfl (Or.inr rfl) (pe_tup (pa_cons (pe_op op_mod (pe_op op_sub (pe_op op_sub (pe_dget (hu_of hr) (pv 7) pe_str (by intro _ _; rfl)) pe_int) (pv 12)) (pe_ix (Ak.ix_K (K := K) (by rfl)) (pv 4) pe_int (by intro _ _; rfl))) (pa_cons (pv 11) pa_nil))))
      (pss_cons (ps_set (i := 8) sc_law.nd rfl (Or.inl rfl) (Ak.pe_cx c_l_hear hr (by walk_at "lv") (by rfl) (takes_of rfl rfl rfl rfl) (pa_cons (pv 4) (pa_cons (pv 7) (pa_cons (pv 13) pa_nil)))))
      (pss_cons (ps_set (i := 8) sc_law.nd rfl (Or.inl rfl) (pe_ifExp (pt_cmpR Ak.op_isNon (pv 8) pe_non (nomark _)) (pe_tup (pa_cons pe_str pa_nil)) (pv 8)))
      (pss_one (ps_set (i := 9) sc_law.nd rfl (Or.inl rfl) (LamX.pe_lamcall (k := 3) (T := [(PT, (envOfC "law" (defScope s_law) s.heap.objs.size f (.ref cL)).qual ++ "<lambda>")]) (TT := TTold2 (tb3 C3)) (t := fun E => tMethX C "hear" (spHear K C C3) (wOut E) (tVar 6) (tCons (tVar 13) tNil)) (by rfl) g__law_told hkT lkT hcT bT sc_l_told rfl (Or.inl rfl) (told_gives2 g_BitsError g_BadSetting g_BadMark g_BadBits g_Full g_BadEvent g_BadText g_isinstance g_ValueError g2) TB rfl (List.mem_singleton.mpr rfl) (fun p hp _ => by rw [List.mem_singleton.mp hp]; rfl) hr (LamX.lamS_by (by show LamX.lamSB (defScope s_law) _ = true; decide +kernel)) rfl (fun _ _ _ _ _ => rfl) (fun _ _ _ _ _ _ _ hr' => Ak.pe_mx (pv 6) m_Mouth_hear hr' (by decide) (takes_of rfl rfl rfl rfl) (pa_cons (pv 13) pa_nil))))))))))))
      (pss_cons (ps_if (pt_not (Ak.pt_truK (K := K) (by rfl) (Ak.pe_cx c_l_like hr (by walk_at "lv") (by rfl) (takes_of rfl rfl rfl rfl) (pa_cons (pv 9) (pa_cons (pv 8) pa_nil)))))
      (pss_one (ps_ret pe_bl))
      pss_nil)
      (pss_cons (ps_if (Ak.pt_truK (K := K) (by rfl) (pe_callB (Ak.cr_isiK (K := K) (by rfl)) (by rfl) g_isinstance (by decide +kernel) (pa_cons (pv 9) (pa_cons (Ak.pe_ty (T := "list") (by rfl) g_list (by decide +kernel)) pa_nil))))
      (pss_one (ps_expr (Ak.pe_bm0K (K := K) (by rfl) PySem.F.plainAttrs_list PySem.F.slot_list_clear PySem.F.type_list_clear mt_clear (pv 9))))
      pss_nil)
      (pss_one (ps_for (passes_of rfl) rfl (Ak.pi_listK (K := K) (by rfl) (pv 2)) (Ak.pg_tupK (K := K) (n := 3) (by rfl) rfl (pgs_cons (pg_name (i := 14) sc_law.nd rfl (Or.inl rfl)) (pgs_cons (pg_name (i := 15) sc_law.nd rfl (Or.inl rfl)) (pgs_cons (pg_name (i := 16) sc_law.nd rfl (Or.inl rfl)) pgs_nil))))
      (pss_one (ps_if (pt_not (Ak.pt_truK (K := K) (by rfl) (Ak.pe_cx c_l_is hr (by walk_at "lv") (by rfl) (takes_of rfl rfl rfl rfl) (pa_cons (pv 14) (pa_cons (pv 15) (pa_cons (pv 16) pa_nil))))))
      (pss_one (ps_ret pe_bl))
      pss_nil)))))))))
      (pss_one (ps_ret pe_bl)))))), ?_⟩
    have e0 : L2.start N_law [V.ref a] = [some (V.ref a), none, none, none, none, none, none, none, none, none, none, none, none, none, none, none, none] := rfl
    rw [e0]
    try dsimp only [cxOf]
    walk_at "rd"
    refine ⟨a, ns, rfl, hS, hl, fun d H1 hd dc k1 => ?_⟩
    have tN : LamX.Tabs [(PT, (envOfC "law" (defScope s_law) s.heap.objs.size f (.ref cL)).qual ++ "<lambda>")] H1 := Tabs.one (LamX.TabS.nil (k1.1 _ _ nin_nil hPT))
    have old0 := k1.old (fun _ e => e)
    obtain ⟨xs0, hd0⟩ := dc.lst
    walk_at "rd"
    rename_i sd nsd
    have nsd2 : sd ≠ d := Ne.symm (ne_of_none hd0 nsd)
    have x0 : WdG (mouthG C) K [(PT, (envOfC "law" (defScope s_law) s.heap.objs.size f (.ref cL)).qual ++ "<lambda>")] H (upd H1 sd (.lst [])) d sd [] 0 := WdG.nil (dc.keep (S := []) (by walk_at "kp") nin_nil none_nil) (Tabs.keep tN (S := []) (by walk_at "kp") plain0) upd_same (old0 _ nsd) nsd2
    refine Ak.l_forR1 (by decide) (by decide) (fun i σ' H' => ∃ v3 v4 L, σ' = [some (.ref a), some (.ref d), some (.ref sd), v3, v4, none, none, none, none, none, none, none, none, none, none, none, none] ∧ L.length = i ∧ WdG (mouthG C) K [(PT, (envOfC "law" (defScope s_law) s.heap.objs.size f (.ref cL)).qual ++ "<lambda>")] H H' d sd L 0 ∧ ∀ b, H' b = none → H b = none)
      ⟨none, none, [], rfl, rfl, x0, Keep.old (S := []) old0 (by walk_at "kp")⟩ (fun i σ' H' hi pv => ?_) (fun σ' H' pv => ?_)
    · obtain ⟨v3, v4, L, rfl, hL, x, old⟩ := pv
      have dcx := x.dice
      obtain ⟨xs1, hd1⟩ := dcx.lst
      walk_at "rd"
      refine ⟨H, d, rfl, dcx, fun q m wi l ah H2 so nq hq dc2 k2 => ?_⟩
      have x2 := x.next k2 dc2
      have old2 := Keep.old old k2
      have hs2 := x2.sides.lst
      walk_at "rd"
      intro p dx np ndx nxp
      refine ⟨p, q, m, wi, l, ah, dx, rfl, SqT.of (by walk_at "lk"), so, upd_same, fun c1 H3 hM nc1 k3 => ⟨rfl, ?_⟩⟩
      obtain ⟨dx', hp3, hc1⟩ := hM
      have k3' : Keep [] H2 H3 := Keep.fresh k3 (fun b hb => by rw [List.mem_singleton.mp hb]; exact np) ((Keep.refl.own ndx).own np)
      have nc1' : H2 c1 = none := free_upd (free_upd nc1)
      walk_at "rd"
      refine ⟨rfl, fun o c2 H4 no nc2 ho hc2 k4 => ?_⟩
      have no' : H2 o = none := k3'.2 _ no
      have nc2' : H2 c2 = none := k3'.2 _ nc2
      walk_at "rd"
      rename_i t nt
      have k5 : Keep [] H2 (upd H4 t (.tup [.ref p, .ref q, .ref o])) := (k3'.trans k4).new nt
      have nes : ∀ b, H2 b = none → sd ≠ b := fun b nb => ne_of_none hs2 nb
      have hq5 : upd H4 t (.tup [.ref p, .ref q, .ref o]) q = some (.tup [.int m, .int wi, .int l, .int ah]) := by walk_at "lk"
      have hp5 : upd H4 t (.tup [.ref p, .ref q, .ref o]) p = some (.ins C dx' (mouthF m wi ah (-1) (-1) c1)) := by walk_at "lk"
      have hc15 : upd H4 t (.tup [.ref p, .ref q, .ref o]) c1 = some (.dK (sureD [])) := by walk_at "lk"
      have ho5 : upd H4 t (.tup [.ref p, .ref q, .ref o]) o = some (.dK (ownMF 0 c2)) := by walk_at "lk"
      have hc25 : upd H4 t (.tup [.ref p, .ref q, .ref o]) c2 = some (.lst []) := by walk_at "lk"
      have hs5 := k5.1 _ _ nin_nil hs2
      refine ⟨_, _, L ++ [mkE C t p c1 q o], rfl, by rw [List.length_append, hL]; rfl, x2.add (e := mkE C t p c1 q o) old2 k5 upd_same (fun b hb => ?_) ⟨m, wi, l, ah, -1, -1, [], ?_, so, ⟨dx', ?_, ?_⟩, ⟨c2, ?_, ?_⟩, List.nodup_nil, ⟨List.mem_cons_self, fun x hx => ?_⟩, fun x hx => absurd hx List.not_mem_nil, by omega, by omega, Nat.zero_le _⟩,
        Keep.old (S := [sd]) old2 (k5.mono sub_nil |>.set List.mem_cons_self)⟩
      · rcases List.mem_cons.mp hb with rfl | hb
        · exact np
        · rcases List.mem_cons.mp hb with rfl | hb
          · exact nc1'
          · rw [List.mem_singleton.mp hb]; exact no'
      · exact (upd_ne (ne_of hq5 hs5 (by intro z; cases z))).trans hq5
      · exact (upd_ne (Ne.symm (nes _ np))).trans hp5
      · exact (upd_ne (Ne.symm (nes _ nc1'))).trans hc15
      · exact (upd_ne (Ne.symm (nes _ no'))).trans ho5
      · rw [srt_nil]
        exact (upd_ne (Ne.symm (nes _ nc2'))).trans hc25
      · rw [List.mem_singleton.mp hx]
        exact Int.le_refl _
    · obtain ⟨v3, v4, L, rfl, hL, x, old⟩ := pv
      have dcx := x.dice
      obtain ⟨xs1, hd1⟩ := dcx.lst
      walk_at "rd"
      refine Ak.pickP (fun v => 0 < v ∧ v ≤ 901) (by walk_at "sq") (by omega) (by show _ < (4 : Int); omega) (by walk_at "pk") (fun many hmany => ?_)
      walk_at "rd"
      rename_i turns H3 xs3 t0 t1 dc3 hd3 k3
      have x3 := x.next (H' := H3) (by walk_at "kp") dc3
      refine Ak.l_forR1 (by omega) (by omega) (fun i σ' H' => ∃ v3 v4 v5 v6 v7 v8 v9 v10 v11 v12 v13 v14 v15 v16, σ' = [some (.ref a), some (.ref d), some (.ref sd), v3, v4, v5, v6, v7, v8, v9, v10, v11, v12, v13, v14, v15, v16] ∧ WdG (mouthG C) K [(PT, (envOfC "law" (defScope s_law) s.heap.objs.size f (.ref cL)).qual ++ "<lambda>")] H H' d sd L i)
        ⟨_, _, _, _, _, _, _, _, _, _, _, _, _, _, rfl, x3⟩ (fun i σ' H' hi pv => ?_) (fun σ' H' pv => ?_)
      · obtain ⟨v3, v4, v5, v6, v7, v8, v9, v10, v11, v12, v13, v14, v15, v16, rfl, x⟩ := pv
        have dcx := x.dice
        obtain ⟨xs1, hd1⟩ := dcx.lst
        walk_at "rd"
        rename_i r H4 xs4 r0 r1 dc4 hd4 k4
        have x4 := x.next k4 dc4
        obtain ⟨e, he, hat⟩ := pickG (L := L) r0 (by rw [hL]; exact r1)
        refine w_ixL (SqL.of x4.sides.lst) hat ?_
        have ht := x4.sides.tup e he
        have ht' : H4 e.t = some (.tup [.ref e.p, .ref e.q, .ref e.o]) := ht
        change gTup _ _ _ (.ref e.t) _ _ _
        walk_at "rd"
        rename_i r2 H5 xs5 b0 b1 dc5 hd5 k5
        have x5 := x4.next k5 dc5
        refine cut_if (fun σ' H' => ∃ v3 vd vf v10 v11 v12 v13 v14 v15 v16, σ' = [some (.ref a), some (.ref d), some (.ref sd), v3, some (.ref e.q), some (.int i), some (.ref e.p), some (.ref e.o), some vd, some vf, v10, v11, v12, v13, v14, v15, v16] ∧ Alike K H' 3 vf vd ∧
          ((∃ t xs, vf = .ref t ∧ H' t = some (.tup xs) ∧ WdG (mouthG C) K [(PT, (envOfC "law" (defScope s_law) s.heap.objs.size f (.ref cL)).qual ++ "<lambda>")] H H' d sd L (i + 1)) ∨ (∃ f xs, vf = .ref f ∧ H' f = some (.lst xs) ∧ WdG (mouthG C) K [(PT, (envOfC "law" (defScope s_law) s.heap.objs.size f (.ref cL)).qual ++ "<lambda>")] H (upd H' f (.lst [])) d sd L (i + 1)))) (fun σ' H' pv => ?_) (fun rest => ?_)
        · obtain ⟨v3, vd, vf, v10, v11, v12, v13, v14, v15, v16, rfl, al, wd⟩ := pv
          walk_at "rd"
          refine like_go al ?_
          walk_at "rd"
          rcases wd with ⟨t, xs, rfl, ht, x9⟩ | ⟨fl, xs, rfl, hf, x9⟩
          · walk_at "rd"
            refine l_forList (xs := L.map fun e => V.ref e.t) (SqL.of x9.sides.lst) (fun _ σ' H7 => ∃ v14 v15 v16, σ' = [some (.ref a), some (.ref d), some (.ref sd), v3, some (.ref e.q), some (.int i), some (.ref e.p), some (.ref e.o), some vd, some (.ref t), v10, v11, v12, v13, v14, v15, v16] ∧ WdG (mouthG C) K [(PT, (envOfC "law" (defScope s_law) s.heap.objs.size f (.ref cL)).qual ++ "<lambda>")] H H7 d sd L (i + 1)) ⟨_, _, _, rfl, x9⟩ (fun j σ' H7 _ pv => by obtain ⟨_, _, _, _, x8⟩ := pv; exact SqL.of x8.sides.lst) (fun j x σ' H7 hx pv => ?_) (fun σ' H7 pv => ?_)
            · obtain ⟨v14, v15, v16, rfl, x10⟩ := pv
              obtain ⟨u, hu, eu⟩ := List.mem_map.mp (List.mem_of_getElem? hx)
              subst eu
              have ht8 : H7 u.t = some (.tup [.ref u.p, .ref u.q, .ref u.o]) := x10.sides.tup u hu
              walk_at "rd"
              refine ⟨u, i + 1, rfl, x10.sides.side u hu, by omega, fun H8 k8 => ?_⟩
              walk_at "rd"
              exact ⟨_, _, _, rfl, x10.keep0 k8⟩
            · obtain ⟨v14, v15, v16, rfl, x10⟩ := pv
              exact ⟨_, _, _, _, _, _, _, _, _, _, _, _, _, _, rfl, x10⟩
          · walk_at "rd"
            refine l_forList (xs := L.map fun e => V.ref e.t) (SqL.of x9.sides.lst) (fun _ σ' H7 => ∃ v14 v15 v16, σ' = [some (.ref a), some (.ref d), some (.ref sd), v3, some (.ref e.q), some (.int i), some (.ref e.p), some (.ref e.o), some vd, some (.ref fl), v10, v11, v12, v13, v14, v15, v16] ∧ WdG (mouthG C) K [(PT, (envOfC "law" (defScope s_law) s.heap.objs.size f (.ref cL)).qual ++ "<lambda>")] H H7 d sd L (i + 1)) ⟨_, _, _, rfl, x9⟩ (fun j σ' H7 _ pv => by obtain ⟨_, _, _, _, x8⟩ := pv; exact SqL.of x8.sides.lst) (fun j x σ' H7 hx pv => ?_) (fun σ' H7 pv => ?_)
            · obtain ⟨v14, v15, v16, rfl, x10⟩ := pv
              obtain ⟨u, hu, eu⟩ := List.mem_map.mp (List.mem_of_getElem? hx)
              subst eu
              have ht8 : H7 u.t = some (.tup [.ref u.p, .ref u.q, .ref u.o]) := x10.sides.tup u hu
              walk_at "rd"
              refine ⟨u, i + 1, rfl, x10.sides.side u hu, by omega, fun H8 k8 => ?_⟩
              walk_at "rd"
              exact ⟨_, _, _, rfl, x10.keep0 k8⟩
            · obtain ⟨v14, v15, v16, rfl, x10⟩ := pv
              exact ⟨_, _, _, _, _, _, _, _, _, _, _, _, _, _, rfl, x10⟩
        · obtain ⟨m, wi, l, ah, lst, g, ks, D5⟩ := x5.sides.side e he
          obtain ⟨o1, o2, o3, o4, o5, o6, o7, o8⟩ := id D5.so
          obtain ⟨c2, ho, hc2⟩ := id D5.own
          have hq : H5 e.q = some (.tup [.int m, .int wi, .int l, .int ah]) := D5.set
          have l0 := D5.l0
          have l1 := D5.l1
          have len := D5.len
          refine Ak.w_ite (fun z => ?_) (fun z => ?_)
          · walk_at "rd"
            rename_i td ntd
            have k6' : Keep [] H5 (upd H5 td (.tup [.int (lst + 1), .int ((lst + 1) % m)])) := Keep.refl.new ntd
            have D6' := D5.keep0 k6'.x
            refine ⟨e.q, e.o, m, wi, l, ah, lst + 1, srt ks, g, rfl, SqT.of D6'.set, D6'.own, by rw [srt_len]; omega, D5.mx.srt, fun H6 k6 => ?_⟩
            have k56 := k6'.trans k6
            have ho6 : H6 e.o = some (.dK (ownMF (lst + 1) c2)) := k56.1 _ _ nin_nil ho
            have htd6 : H6 td = some (.tup [.int (lst + 1), .int ((lst + 1) % m)]) := k6.1 _ _ nin_nil upd_same
            have x6 := x5.keep0 k56
            have D6 := D5.keep0 k56.x
            walk_at "rd"
            refine Ak.w_ite (fun zf => ?_) (fun zf => ?_)
            · walk_at "rd"
              rename_i fd' nfd
              have x7 := x6.keep0 (Keep.refl.new (o := .tup [.str "full"]) nfd)
              have D7 := D6.keep0 (Keep.refl.new (o := .tup [.str "full"]) nfd).x
              refine ⟨x7.tabs, fun H9 ext tabs9 => ?_⟩
              have x9 := x7.lam ext tabs9
              have D9 := D7.keep0 (KeepX.ext ext)
              have hfd9 := ext _ _ (upd_same (H := H6) (a := fd') (o := .tup [.str "full"])) (fun _ z => by cases z)
              obtain ⟨dx, hp, hc⟩ := id D9.mo
              refine Ak.w_meth (ta := tVar 6) (tr := tNil) ?_
              walk_at "rd"
              refine ⟨e.p, e.c, m, wi, ah, lst, g, ks, rfl, D9.mo, by omega, l0, by omega, fun _ => ⟨rfl, "full", ⟨rfl, rfl⟩, fun pd H11 npd k11 hpd => ?_⟩, fun nz => absurd zf nz⟩
              have x11 := x9.keep0 k11
              have hfd11 := k11.1 _ _ nin_nil hfd9
              refine Ak.w_name ?_
              exact rest _ _ ⟨_, _, _, _, _, _, _, _, _, _, rfl, al_tup hpd hfd11 (.cons al_str .nil) (Nat.le_of_ble_eq_true rfl), Or.inl ⟨_, _, rfl, hpd, x11.mono (Nat.le_succ i)⟩⟩
            · walk_at "rd"
              have k7 : Keep [e.o] H6 (upd H6 e.o (.dK (ownMF (lst + 1 + 1) c2))) := Keep.refl.set List.mem_cons_self
              have so6 : ∀ b, b ∈ [e.o] → Plain H6 b := plain1 (Plain.solid ho6 Solid.dK)
              have tb7 := Tabs.keep x6.tabs k7 so6
              refine ⟨tb7, fun H9 ext tabs9 => ?_⟩
              have k69 : KeepX [e.o] H6 H9 := k7.x.trans (KeepX.ext ext).mono0
              obtain ⟨dx6, hp6, hc6⟩ := id D6.mo
              have npo : e.p ≠ e.o := ne_of hp6 ho6 (by intro z; cases z)
              have nco : e.c ≠ e.o := ne_of hc6 ho6 (by
                intro z
                have z2 := HO.dK.inj z
                cases ks with
                | nil => cases z2
                | cons y r => cases z2)
              have hM9 := D6.mo.keepX k69 (nin_cons npo nin_nil) (nin_cons nco nin_nil)
              have ho9 := ext _ _ (upd_same (H := H6) (a := e.o) (o := .dK (ownMF (lst + 1 + 1) c2))) (fun _ z => by cases z)
              obtain ⟨dx, hp, hc⟩ := id hM9
              refine Ak.w_meth (ta := tVar 6) (tr := tNil) ?_
              walk_at "rd"
              refine ⟨e.p, e.c, m, wi, ah, lst, g, ks, rfl, hM9, by omega, l0, by omega, fun zz => absurd zz zf, fun _ t H11 nt ht hM11 k11 => ?_⟩
              have k611 : KeepX [e.p, e.c, e.o] H6 H11 := (k69.mono (fun b hb => by rw [List.mem_singleton.mp hb]; exact List.mem_cons_of_mem _ (List.mem_cons_of_mem _ List.mem_cons_self))).trans (k11.x.mono (fun b hb => by rw [List.mem_singleton.mp hb]; exact List.mem_cons_self))
              have tabs11 := Tabs.keep tabs9 k11 (plain1 (Plain.solid hp Solid.ins))
              have hc26 : H6 c2 = some (.lst ((srt ks).map V.int)) := k56.1 _ _ nin_nil hc2
              have ok11 : MouthOk C H11 e (i + 1) := ⟨m, wi, l, ah, lst + 1, g, ks, k611 _ _ (by
                  intro mm
                  rcases List.mem_cons.mp mm with z1 | mm
                  · exact ne_of D6.set hp6 (by intro z; cases z) z1
                  · rcases List.mem_cons.mp mm with z1 | mm
                    · exact ne_of D6.set hc6 (by intro z; cases z) z1
                    · exact ne_of D6.set ho6 (by intro z; cases z) (List.mem_singleton.mp mm)) D6.set (fun _ z => by cases z), D6.so, hM11,
                ⟨c2, k11.1 _ _ (nin_cons (Ne.symm (by
                  intro z1
                  rw [z1, ho9] at hp
                  cases hp)) nin_nil) ho9, k611 _ _ (by
                  intro mm
                  rcases List.mem_cons.mp mm with z1 | mm
                  · exact ne_of hc26 hp6 (by intro z; cases z) z1
                  · rcases List.mem_cons.mp mm with z1 | mm
                    · exact ne_of hc26 hc6 (by intro z; cases z) z1
                    · exact ne_of hc26 ho6 (by intro z; cases z) (List.mem_singleton.mp mm)) hc26 (fun _ z => by cases z)⟩, D6.nd, D6.mx, fun x hx => by have := D6.rg x hx; omega, by omega, by omega, by omega⟩
              have x11 := x6.turnX (e := e) he k611 tabs11 ok11
              have htd11 : H11 td = some (.tup [.int (lst + 1), .int ((lst + 1) % m)]) := k611 _ _ (by
                  intro mm
                  rcases List.mem_cons.mp mm with z1 | mm
                  · exact ne_of htd6 hp6 (by intro z; cases z) z1
                  · rcases List.mem_cons.mp mm with z1 | mm
                    · exact ne_of htd6 hc6 (by intro z; cases z) z1
                    · exact ne_of htd6 ho6 (by intro z; cases z) (List.mem_singleton.mp mm)) htd6 (fun _ z => by cases z)
              refine Ak.w_name ?_
              exact rest _ _ ⟨_, _, _, _, _, _, _, _, _, _, rfl, al_tup ht htd11 (.cons al_int (.cons al_int .nil)) (Nat.le_of_ble_eq_true rfl), Or.inl ⟨_, _, rfl, ht, x11⟩⟩
          · walk_at "rd"
            rename_i r6 H6 xs6 f0 f1 dc6 hd6 k6
            have k56 := k6
            have nod : ∀ b, b ∈ [e.p, e.c, e.o] → b ∉ [d] := fun b hb m => by
              obtain ⟨o, hob, so⟩ := (mouthG C).live (x5.sides.side e he) b hb
              rw [List.mem_singleton.mp m, hd5] at hob
              exact so.l _ (Option.some.inj hob).symm
            have D6 := D5.keepX k6.x nod (fun b hb => by rw [List.mem_singleton.mp hb]; exact NoInts.dice dc5) (fun b hb ys z => by rw [List.mem_singleton.mp hb, hd5] at z; cases z)
            have hq6 := D6.set
            walk_at "rd"
            refine ⟨wi, rfl, by omega, by omega, fun D hD => lc_range (fun j Hx => ∃ bs : List Int, bs.length = j ∧ Bits bs ∧ Hx D = some (.lst (bs.map V.int)) ∧ Dice K H Hx d ∧ Keep [d] H5 Hx)
              ⟨[], rfl, fun x hx => absurd hx List.not_mem_nil, upd_same, dc6.keep (S := []) (Keep.refl.own hD) nin_nil none_nil, k6.new hD⟩ (fun j H7 hj pv => ?_) (fun H7 pv => ?_)⟩
            · obtain ⟨bs, hbl, h01, hbD, dc7, k57⟩ := pv
              obtain ⟨xs7, hd7⟩ := dc7.lst
              have nDd : D ≠ d := Ne.symm (ne_of_none hd5 (k6.2 _ hD))
              walk_at "rd"
              rename_i r8 H8 xs8 j0 j1 dc8 hd8 k8
              refine ⟨bs.map V.int, by walk_at "lk", by rw [List.length_map, sizeLine_eq]; omega, bs ++ [if decide (r8 = 0) = true then 1 else 0], by rw [List.length_append, hbl]; rfl, fun x hx => ?_, by rw [upd_same, List.map_append]; rfl, dc6.own dc8 hD (Ne.symm nDd), (k57.trans k8).own (k6.2 _ hD)⟩
              rcases List.mem_append.mp hx with hx | hx
              · exact h01 x hx
              · rw [List.mem_singleton.mp hx]
                split
                · exact Or.inr rfl
                · exact Or.inl rfl
            · obtain ⟨bs, hbl, h01, hbD, dc7, k57⟩ := pv
              have hbl' : (bs.length : Int) = wi := by omega
              have h16 : bs.length ≤ 16 := by omega
              have x7 := x5.next k57 dc7
              have D7 := D5.keepX k57.x nod (fun b hb => by rw [List.mem_singleton.mp hb]; exact NoInts.dice dc5) (fun b hb ys z => by rw [List.mem_singleton.mp hb, hd5] at z; cases z)
              obtain ⟨xs7, hd7⟩ := dc7.lst
              clear k6 k56 dc6 hd6 f0 f1 D6 hq6
              walk_at "rd"
              rename_i b nb n1 Ha xa a0 a1 dca hda ka n2 Hb xb b0 b1 dcb hdb kb lp nlp n3 Hc xc c0 c1 dcc hdc kc
              have hb0 : upd H7 b (.tup (bs.map V.int)) b = some (.tup (bs.map V.int)) := upd_same
              have nbd : b ≠ d := Ne.symm (ne_of_none hd7 nb)
              have hbc : Hc b = some (.tup (bs.map V.int)) := by walk_at "lk"
              refine Ak.pickP (fun v => True) (by walk_at "sq") (by omega) (by show _ < (4 : Int); omega) (by
                intro x hx
                (repeat (rcases List.mem_cons.mp hx with rfl | hx; · exact ⟨_, rfl, trivial⟩))
                exact absurd hx List.not_mem_nil) (fun far _ => ?_)
              have k7c : Keep [d] H7 Hc := by walk_at "kp"
              have x8 := x7.next k7c dcc
              have nod7 : ∀ b, b ∈ [e.p, e.c, e.o] → b ∉ [d] := nod
              have D8 := D7.keepX k7c.x nod7 (fun b hb => by rw [List.mem_singleton.mp hb]; exact NoInts.dice dc7) (fun b hb ys z => by rw [List.mem_singleton.mp hb, hd7] at z; cases z)
              obtain ⟨c3, ho8, hc8⟩ := id D8.own
              have hq8 : Hc e.q = some (.tup [.int m, .int wi, .int l, .int ah]) := D8.set
              walk_at "rd"
              rename_i tq ntq
              generalize hmk : (lst + 1 - 1 - far) % m = mk
              have mk0 : 0 ≤ mk := by rw [← hmk]; exact Int.emod_nonneg _ (by omega)
              have mk1 : mk < m := by rw [← hmk]; exact Int.emod_lt_of_pos _ (by omega)
              have e1 : lst + 1 - 1 = lst := by omega
              have k9 : Keep [] Hc (upd Hc tq (.tup [.int mk, .ref b])) := Keep.refl.new ntq
              have x9 := x8.keep0 k9
              have D9 := D8.keep0 k9.x
              have htq9 : upd Hc tq (.tup [.int mk, .ref b]) tq = some (.tup [.int mk, .ref b]) := upd_same
              have hb9 := k9.1 _ _ nin_nil hbc
              generalize upd Hc tq (.tup [.int mk, .ref b]) = H9 at k9 x9 D9 htq9 hb9 ⊢
              obtain ⟨c4, ho9, hc9⟩ := id D9.own
              by_cases bad : ∃ x, x ∈ allOf (newestOf m lst mk) bs ∧ x < 0
              · refine ⟨e.q, e.o, tq, b, m, wi, l, ah, lst + 1, srt ks, mk, bs, rfl, SqT.of D9.set, SqT.of htq9, SqT.of hb9, D9.own, mk0, mk1, hbl', h16, by rw [srt_len]; omega, fun _ H10 k10 => ?_, fun good => ?_⟩
                · walk_at "rd"
                  rename_i fd' nfd
                  have k911 : Keep [] H9 (upd H10 fd' (.tup [.str "bits"])) := k10.new nfd
                  have x11 := x9.keep0 k911
                  have D11 := D9.keep0 k911.x
                  refine ⟨x11.tabs, fun H12 ext tabs12 => ?_⟩
                  have x12 := x11.lam ext tabs12
                  have D12 := D11.keep0 (KeepX.ext ext)
                  have hfd12 := ext _ _ (upd_same (H := H10) (a := fd') (o := .tup [.str "bits"])) (fun _ z => by cases z)
                  have htq12 := ext _ _ (k911.1 _ _ nin_nil htq9) (fun _ z => by cases z)
                  have hb12 := ext _ _ (k911.1 _ _ nin_nil hb9) (fun _ z => by cases z)
                  obtain ⟨dx, hp, hc⟩ := id D12.mo
                  refine Ak.w_meth (ta := tVar 6) (tr := tCons (tVar 13) tNil) ?_
                  walk_at "rd"
                  refine ⟨e.p, e.c, tq, b, m, wi, ah, lst, g, ks, mk, bs, rfl, D12.mo, SqT.of htq12, SqT.of hb12, mk0, mk1, hbl', h01, h16, by omega, fun _ H13 k13 => ⟨rfl, "bits", ⟨rfl, rfl⟩, fun pd H14 npd k14 hpd => ?_⟩, fun good => ?_⟩
                  · have x14 := x12.keep0 (k13.trans k14)
                    have hfd14 := (k13.trans k14).1 _ _ nin_nil hfd12
                    refine Ak.w_name ?_
                    exact rest _ _ ⟨_, _, _, _, _, _, _, _, _, _, rfl, al_tup hpd hfd14 (.cons al_str .nil) (Nat.le_of_ble_eq_true rfl), Or.inl ⟨_, _, rfl, hpd, x14.mono (Nat.le_succ i)⟩⟩
                  · obtain ⟨x, hx, hx0⟩ := bad
                    have := good x hx
                    omega
                · rw [e1] at good
                  obtain ⟨x, hx, hx0⟩ := bad
                  have := good x hx
                  omega
              · have good : ∀ x, x ∈ allOf (newestOf m lst mk) bs → 0 ≤ x := fun x hx => by
                  by_cases q : 0 ≤ x
                  · exact q
                  · exact absurd ⟨x, hx, by omega⟩ bad
                refine ⟨e.q, e.o, tq, b, m, wi, l, ah, lst + 1, srt ks, mk, bs, rfl, SqT.of D9.set, SqT.of htq9, SqT.of hb9, D9.own, mk0, mk1, hbl', h16, by rw [srt_len]; omega, fun bd => ?_, fun _ df H10 ndf hdf hO10 k10 => ?_⟩
                · rw [e1] at bd
                  exact absurd bd bad
                · rw [e1] at hdf hO10
                  walk_at "rd"
                  obtain ⟨dx9, hp9, hcc9⟩ := id D9.mo
                  have npo : e.p ≠ e.o := ne_of hp9 ho9 (by intro z; cases z)
                  have nco : e.c ≠ e.o := ne_of hcc9 ho9 (by
                    intro z
                    have z2 := HO.dK.inj z
                    cases ks with
                    | nil => cases z2
                    | cons y r => cases z2)
                  have tb10 := Tabs.keep x9.tabs k10 (plain1 (Plain.solid ho9 Solid.dK))
                  refine ⟨tb10, fun H12 ext tabs12 => ?_⟩
                  have k912 : KeepX [e.o] H9 H12 := k10.x.trans (KeepX.ext ext).mono0
                  have hM12 := D9.mo.keepX k912 (nin_cons npo nin_nil) (nin_cons nco nin_nil)
                  have hdf12 := ext _ _ hdf (fun _ z => by cases z)
                  have hO12 := hO10.keepX (KeepX.ext ext) nin_nil (fun b hb => absurd hb List.not_mem_nil)
                  have htq12 := k912 _ _ (nin_cons (ne_of htq9 ho9 (by intro z; cases z)) nin_nil) htq9 (fun _ z => by cases z)
                  have hb12 := k912 _ _ (nin_cons (ne_of hb9 ho9 (by intro z; cases z)) nin_nil) hb9 (fun _ z => by cases z)
                  obtain ⟨dx, hp, hc⟩ := id hM12
                  obtain ⟨c12, ho12, hc12⟩ := id hO12
                  refine Ak.w_meth (ta := tVar 6) (tr := tCons (tVar 13) tNil) ?_
                  walk_at "rd"
                  refine ⟨e.p, e.c, tq, b, m, wi, ah, lst, g, ks, mk, bs, rfl, hM12, SqT.of htq12, SqT.of hb12, mk0, mk1, hbl', h01, h16, by omega, fun bd => absurd bd bad, fun _ f2 H13 nf2 hf2 hM13 k13 => ?_⟩
                  have pl12 : ∀ b, b ∈ [e.p, e.c] → Plain H12 b := fun b hb => by
                    rcases List.mem_cons.mp hb with rfl | hb
                    · exact Plain.solid hp Solid.ins
                    · rw [List.mem_singleton.mp hb]; exact Plain.solid hc Solid.dK
                  have tabs13 := Tabs.keep tabs12 k13 pl12
                  have k14 : Keep [f2] H13 (upd H13 f2 (.lst [])) := Keep.refl.set List.mem_cons_self
                  have tabs14 := Tabs.keep tabs13 k14 (plain1 (Plain.lst hf2))
                  have k1214 : KeepX [e.p, e.c] H12 (upd H13 f2 (.lst [])) := KeepX.fresh k14.x (fun b hb => by rw [List.mem_singleton.mp hb]; exact Or.inr nf2) k13.x
                  have f2o : f2 ≠ e.o := fun z => by rw [z, ho12] at nf2; cases nf2
                  have sub1 : ∀ b, b ∈ [e.o] → b ∈ [e.p, e.c, e.o] := fun b hb => by rw [List.mem_singleton.mp hb]; exact List.mem_cons_of_mem _ (List.mem_cons_of_mem _ List.mem_cons_self)
                  have sub2 : ∀ b, b ∈ [e.p, e.c] → b ∈ [e.p, e.c, e.o] := fun b hb => by
                    rcases List.mem_cons.mp hb with rfl | hb
                    · exact List.mem_cons_self
                    · rw [List.mem_singleton.mp hb]; exact List.mem_cons_of_mem _ List.mem_cons_self
                  have k914 : KeepX [e.p, e.c, e.o] H9 (upd H13 f2 (.lst [])) := (k912.mono sub1).trans (k1214.mono sub2)
                  have hn : newestOf m lst mk ≤ lst := newest_le (by omega)
                  have fl := found_len (n := newestOf m lst mk) (ks := ks) h16
                  have oe : e.o ∉ [e.p, e.c] := nin_cons (Ne.symm npo) (nin_cons (Ne.symm nco) nin_nil)
                  have ni12 : ∀ b, b ∈ [e.p, e.c] → NoInts H12 b := fun b hb => by
                    rcases List.mem_cons.mp hb with rfl | hb
                    · exact NoInts.solid hp Solid.ins
                    · rw [List.mem_singleton.mp hb]; exact NoInts.solid hc Solid.dK
                  have pf2 : e.p ≠ f2 := fun z => by rw [← z, hp] at nf2; cases nf2
                  have cf2 : e.c ≠ f2 := fun z => by rw [← z, hc] at nf2; cases nf2
                  have ok14 : MouthOk C (upd H13 f2 (.lst [])) e (i + 1) := ⟨m, wi, l, ah, lst, max g (newestOf m lst mk), ks ++ foundOf (newestOf m lst mk) bs ks, k914 _ _ (by
                      intro mm
                      rcases List.mem_cons.mp mm with z1 | mm
                      · exact ne_of D9.set hp9 (by intro z; cases z) z1
                      · rcases List.mem_cons.mp mm with z1 | mm
                        · exact ne_of D9.set hcc9 (by intro z; cases z) z1
                        · exact ne_of D9.set ho9 (by intro z; cases z) (List.mem_singleton.mp mm)) D9.set (fun _ z => by cases z), D9.so, hM13.keep k14 (nin_cons pf2 nin_nil) (nin_cons cf2 nin_nil),
                    by
                      have q := hO12.keepX k1214 oe ni12
                      rw [found_srt] at q
                      exact q, found_nd D9.nd, found_mx D9.mx, fun x hx => by
                      rcases List.mem_append.mp hx with hx | hx
                      · exact D9.rg x hx
                      · have h1 := good x (found_mem hx).1
                        have h2 := all_le (found_mem hx).1
                        omega, l0, by omega, by rw [List.length_append]; omega⟩
                  have x14 := x9.turnX (e := e) he k914 tabs14 ok14
                  have hdf13 := k13.1 _ _ (nin_cons (ne_of hdf12 hp (by intro z; cases z)) (nin_cons (ne_of hdf12 hc (by intro z; cases z)) nin_nil)) hdf12
                  rw [← found_eq] at hdf13
                  refine Ak.w_name ?_
                  exact rest _ _ ⟨_, _, _, _, _, _, _, _, _, _, rfl, al_lst hf2 hdf13 AlL.ints (by rw [List.length_map]; omega), Or.inr ⟨_, _, rfl, hf2, x14⟩⟩
      · obtain ⟨v3, v4, v5, v6, v7, v8, v9, v10, v11, v12, v13, v14, v15, v16, rfl, x⟩ := pv
        walk_at "rd"
        exact k _
end
end Ak
namespace Ak
open PySem PySem.Spec PyProof.Rows L2
theorem all_mk {l : PySem.W.OpenLaw} {w : World} {K : PySem.W.Frag} {h : Heap} {mg : Str → Option Value} {fa A_Mouth A_BadBits A_Full A_BitsError A_BadSetting A_BadMark A_BadEvent A_BadText A_l_told A_BOUNDS A_t1 A_t2 A_t3 A_t4 A_t5 A_t6 A_l_like A_l_next A_l_dice A_l_setting A_check_number A_check_mark A_check_setting A_check_bits A_check_telling A_Mouth___init A_Mouth_is_full A_Mouth_last A_Mouth_sure A_Mouth_send A_Mouth__numbers_of A_Mouth_hear A_l_mouth A_l_is_full A_l_hear A_l_is A_law A_code A_tab : Addr} {ocL kVL docL pmL ctL ocC : Value} {odL anL odC : Option Addr} {oslL oslC : Array (Option Value)} {vsC : Array Value} {esB : Array DictEntry} {nB : Nat} {ocT kVT docT pmT cdT ctT : Value} {odT anT : Option Addr} {oslT : Array (Option Value)}
    (X : K.In h) (G : h.Ns mainGlobals mg) (hfa : mg "law" = some (.ref fa))
    (a_Mouth : PySem.W.nsIn K mainGlobals "Mouth" = some (some (.ref A_Mouth)))
    (pg_Mouth : PySem.W.plainGet K A_Mouth Str.empty = true)
    (hd_Mouth : PySem.W.hasDictIn K A_Mouth = true)
    (po_Mouth : PySem.W.plainOver K A_Mouth = true)
    (sa_Mouth : PySem.W.findIn K (.ref A_Mouth) "__setattr__" = some (some (.builtin "object.__setattr__")))
    (mk_Mouth : PySem.W.makesIn K A_Mouth = true)
    (kc_Mouth : PySem.W.keepIn K (.ref A_Mouth) = true)
    (na_Mouth__marks : PySem.W.findIn K (.ref A_Mouth) "_marks" = some none)
    (na_Mouth__wide : PySem.W.findIn K (.ref A_Mouth) "_wide" = some none)
    (na_Mouth__ahead : PySem.W.findIn K (.ref A_Mouth) "_ahead" = some none)
    (na_Mouth__last : PySem.W.findIn K (.ref A_Mouth) "_last" = some none)
    (na_Mouth__greatest : PySem.W.findIn K (.ref A_Mouth) "_greatest" = some none)
    (na_Mouth__sure : PySem.W.findIn K (.ref A_Mouth) "_sure" = some none)
    (a_BadBits : PySem.W.nsIn K mainGlobals "BadBits" = some (some (.ref A_BadBits)))
    (xq_BadBits : PySem.W.excIn K A_BadBits [.type "ValueError", .type "Exception", .type "BaseException", .type "object"] "ValueError.__new__" = true)
    (xk_BadBits : PySem.W.keepIn K (.ref A_BadBits) = true)
    (xs_BadBits : PySem.W.subIn K (.ref A_BadBits) (.type "BaseException") = some true)
    (xt_BadBits : PySem.W.typeIn K (.ref A_BadBits) = some (.type "type"))
    (a_Full : PySem.W.nsIn K mainGlobals "Full" = some (some (.ref A_Full)))
    (xq_Full : PySem.W.excIn K A_Full [.type "ValueError", .type "Exception", .type "BaseException", .type "object"] "ValueError.__new__" = true)
    (xk_Full : PySem.W.keepIn K (.ref A_Full) = true)
    (xs_Full : PySem.W.subIn K (.ref A_Full) (.type "BaseException") = some true)
    (xt_Full : PySem.W.typeIn K (.ref A_Full) = some (.type "type"))
    (a_BitsError : PySem.W.nsIn K mainGlobals "BitsError" = some (some (.ref A_BitsError)))
    (a_BadSetting : PySem.W.nsIn K mainGlobals "BadSetting" = some (some (.ref A_BadSetting)))
    (a_BadMark : PySem.W.nsIn K mainGlobals "BadMark" = some (some (.ref A_BadMark)))
    (a_BadEvent : PySem.W.nsIn K mainGlobals "BadEvent" = some (some (.ref A_BadEvent)))
    (a_BadText : PySem.W.nsIn K mainGlobals "BadText" = some (some (.ref A_BadText)))
    (oh_BadBits_0 : PySem.W.findIn K (.ref A_BadBits) "__getattribute__" = some (some (.builtin "BaseException.__getattribute__")))
    (oh_BadBits_1 : PySem.W.findIn K (.ref A_BadBits) "__getattr__" = some none)
    (oh_BadBits_2 : PySem.W.subIn K (.ref A_BadBits) (.type "BaseException") = some true)
    (oh_BadBits_3 : PySem.W.hasDictIn K A_BadBits = true)
    (oh_BadBits_4 : PySem.W.findIn K (.ref A_BadBits) "__class__" = some (some (.builtin "object.__class__")))
    (oc_hn : PySem.W.specialIn K (.builtin "object.__class__") "__get__" = some (some (.builtin "getset_descriptor.__get__")))
    (oc_ht : PySem.W.takesIn K (.builtin "object.__class__") = some true)
    (om_BadBits : PySem.W.mroIn K A_BadBits (.type "object") = some true)
    (ok_BadBits_0 : PySem.W.kitOne K (.ref A_BadBits) (.ref A_BadSetting) = some false)
    (ok_BadBits_1 : PySem.W.kitOne K (.ref A_BadBits) (.ref A_BadMark) = some false)
    (ok_BadBits_2 : PySem.W.kitOne K (.ref A_BadBits) (.ref A_BadBits) = some true)
    (ok_BadBits_3 : PySem.W.kitOne K (.ref A_BadBits) (.ref A_Full) = some false)
    (ok_BadBits_4 : PySem.W.kitOne K (.ref A_BadBits) (.ref A_BadEvent) = some false)
    (ok_BadBits_5 : PySem.W.kitOne K (.ref A_BadBits) (.ref A_BadText) = some false)
    (ox_BadBits : PySem.W.exmOne K (.ref A_BadBits) (.ref A_BitsError) = some true)
    (ov_BadBits : PySem.W.kitOne K (.ref A_BadBits) (.type "ValueError") = some true)
    (oh_Full_0 : PySem.W.findIn K (.ref A_Full) "__getattribute__" = some (some (.builtin "BaseException.__getattribute__")))
    (oh_Full_1 : PySem.W.findIn K (.ref A_Full) "__getattr__" = some none)
    (oh_Full_2 : PySem.W.subIn K (.ref A_Full) (.type "BaseException") = some true)
    (oh_Full_3 : PySem.W.hasDictIn K A_Full = true)
    (oh_Full_4 : PySem.W.findIn K (.ref A_Full) "__class__" = some (some (.builtin "object.__class__")))
    (om_Full : PySem.W.mroIn K A_Full (.type "object") = some true)
    (ok_Full_0 : PySem.W.kitOne K (.ref A_Full) (.ref A_BadSetting) = some false)
    (ok_Full_1 : PySem.W.kitOne K (.ref A_Full) (.ref A_BadMark) = some false)
    (ok_Full_2 : PySem.W.kitOne K (.ref A_Full) (.ref A_BadBits) = some false)
    (ok_Full_3 : PySem.W.kitOne K (.ref A_Full) (.ref A_Full) = some true)
    (ok_Full_4 : PySem.W.kitOne K (.ref A_Full) (.ref A_BadEvent) = some false)
    (ok_Full_5 : PySem.W.kitOne K (.ref A_Full) (.ref A_BadText) = some false)
    (ox_Full : PySem.W.exmOne K (.ref A_Full) (.ref A_BitsError) = some true)
    (ov_Full : PySem.W.kitOne K (.ref A_Full) (.type "ValueError") = some true)
    (a_l_told : PySem.W.nsIn K mainGlobals "_law_told" = some (some (.ref A_l_told)))
    (lkT : K.lookup A_l_told = some ⟨ocT, odT, .func (PySem.W.fnOf "_law_told" "_law_told" (defArgs s_l_told) (defBody s_l_told) (defScope s_l_told) .none kVT docT pmT anT cdT ctT), oslT⟩)
    (hcT : PySem.W.codeIn K cdT "_law_told" = true)
    (hkT : PySem.W.keepIn K (.ref A_l_told) = true)
    (a_BOUNDS : PySem.W.nsIn K mainGlobals "BOUNDS" = some (some (.ref A_BOUNDS)))
    (lkB : K.lookup A_BOUNDS = some { cls := .type "dict", data := .dict esB nB })
    (klB : PySem.W.KeysLit w.params esB.toList)
    (nB1 : PySem.W.nsIn K A_BOUNDS "marks" = some (some (.ref A_t1)))
    (nB2 : PySem.W.nsIn K A_BOUNDS "wide" = some (some (.ref A_t2)))
    (nB3 : PySem.W.nsIn K A_BOUNDS "late" = some (some (.ref A_t3)))
    (nB4 : PySem.W.nsIn K A_BOUNDS "ahead" = some (some (.ref A_t4)))
    (nB5 : PySem.W.nsIn K A_BOUNDS "room" = some (some (.ref A_t5)))
    (nB6 : PySem.W.nsIn K A_BOUNDS "wait" = some (some (.ref A_t6)))
    (sB1 : ∀ H, SqT K H A_t1 [.int 2, .int 64])
    (sB2 : ∀ H, SqT K H A_t2 [.int 0, .int 16])
    (sB3 : ∀ H, SqT K H A_t3 [.int 0, .int 8])
    (sB4 : ∀ H, SqT K H A_t4 [.int 1, .int 16])
    (sB5 : ∀ H, SqT K H A_t5 [.int 1, .int 8])
    (sB6 : ∀ H, SqT K H A_t6 [.int 1, .int 20])
    (F_l_like : ∃ fd, L2.Fun K "_law_like" "_law_like" s_l_like A_l_like fd)
    (a_l_like : PySem.W.nsIn K mainGlobals "_law_like" = some (some (.ref A_l_like)))
    (z_isinstance : PySem.W.nsIn K mainGlobals "isinstance" = some none)
    (z_bool : PySem.W.nsIn K mainGlobals "bool" = some none)
    (z_str : PySem.W.nsIn K mainGlobals "str" = some none)
    (z_int : PySem.W.nsIn K mainGlobals "int" = some none)
    (z_dict : PySem.W.nsIn K mainGlobals "dict" = some none)
    (z_tuple : PySem.W.nsIn K mainGlobals "tuple" = some none)
    (z_list : PySem.W.nsIn K mainGlobals "list" = some none)
    (z_len : PySem.W.nsIn K mainGlobals "len" = some none)
    (z_range : PySem.W.nsIn K mainGlobals "range" = some none)
    (F_l_next : ∃ fd, L2.Fun K "_law_next" "_law_next" s_l_next A_l_next fd)
    (a_l_next : PySem.W.nsIn K mainGlobals "_law_next" = some (some (.ref A_l_next)))
    (F_l_dice : ∃ fd, L2.Fun K "_law_dice" "_law_dice" s_l_dice A_l_dice fd)
    (a_l_dice : PySem.W.nsIn K mainGlobals "_law_dice" = some (some (.ref A_l_dice)))
    (F_l_setting : ∃ fd, L2.Fun K "_law_setting" "_law_setting" s_l_setting A_l_setting fd)
    (z_max : PySem.W.nsIn K mainGlobals "max" = some none)
    (z_min : PySem.W.nsIn K mainGlobals "min" = some none)
    (a_l_setting : PySem.W.nsIn K mainGlobals "_law_setting" = some (some (.ref A_l_setting)))
    (F_check_number : ∃ fd, L2.Fun K "check_number" "check_number" s_check_number A_check_number fd)
    (a_check_number : PySem.W.nsIn K mainGlobals "check_number" = some (some (.ref A_check_number)))
    (F_check_mark : ∃ fd, L2.Fun K "check_mark" "check_mark" s_check_mark A_check_mark fd)
    (a_check_mark : PySem.W.nsIn K mainGlobals "check_mark" = some (some (.ref A_check_mark)))
    (F_check_setting : ∃ fd, L2.Fun K "check_setting" "check_setting" s_check_setting A_check_setting fd)
    (a_check_setting : PySem.W.nsIn K mainGlobals "check_setting" = some (some (.ref A_check_setting)))
    (F_check_bits : ∃ fd, L2.Fun K "check_bits" "check_bits" s_check_bits A_check_bits fd)
    (a_check_bits : PySem.W.nsIn K mainGlobals "check_bits" = some (some (.ref A_check_bits)))
    (F_check_telling : ∃ fd, L2.Fun K "check_telling" "check_telling" s_check_telling A_check_telling fd)
    (a_check_telling : PySem.W.nsIn K mainGlobals "check_telling" = some (some (.ref A_check_telling)))
    (F_Mouth___init : ∃ fd, L2.Fun K "__init__" "Mouth.__init__" s_Mouth___init A_Mouth___init fd)
    (ci_Mouth___init : PySem.W.findIn K (.ref A_Mouth) "__init__" = some (some (.ref A_Mouth___init)))
    (ii_Mouth___init : PySem.W.isFn K (.ref A_Mouth___init) = true)
    (F_Mouth_is_full : ∃ fd, L2.Fun K "is_full" "Mouth.is_full" s_Mouth_is_full A_Mouth_is_full fd)
    (ci_Mouth_is_full : PySem.W.findIn K (.ref A_Mouth) "is_full" = some (some (.ref A_Mouth_is_full)))
    (ii_Mouth_is_full : PySem.W.isFn K (.ref A_Mouth_is_full) = true)
    (F_Mouth_last : ∃ fd, L2.Fun K "last" "Mouth.last" s_Mouth_last A_Mouth_last fd)
    (ci_Mouth_last : PySem.W.findIn K (.ref A_Mouth) "last" = some (some (.ref A_Mouth_last)))
    (ii_Mouth_last : PySem.W.isFn K (.ref A_Mouth_last) = true)
    (F_Mouth_sure : ∃ fd, L2.Fun K "sure" "Mouth.sure" s_Mouth_sure A_Mouth_sure fd)
    (z_sorted : PySem.W.nsIn K mainGlobals "sorted" = some none)
    (ci_Mouth_sure : PySem.W.findIn K (.ref A_Mouth) "sure" = some (some (.ref A_Mouth_sure)))
    (ii_Mouth_sure : PySem.W.isFn K (.ref A_Mouth_sure) = true)
    (F_Mouth_send : ∃ fd, L2.Fun K "send" "Mouth.send" s_Mouth_send A_Mouth_send fd)
    (ci_Mouth_send : PySem.W.findIn K (.ref A_Mouth) "send" = some (some (.ref A_Mouth_send)))
    (ii_Mouth_send : PySem.W.isFn K (.ref A_Mouth_send) = true)
    (F_Mouth__numbers_of : ∃ fd, L2.Fun K "_numbers_of" "Mouth._numbers_of" s_Mouth__numbers_of A_Mouth__numbers_of fd)
    (z_enumerate : PySem.W.nsIn K mainGlobals "enumerate" = some none)
    (ci_Mouth__numbers_of : PySem.W.findIn K (.ref A_Mouth) "_numbers_of" = some (some (.ref A_Mouth__numbers_of)))
    (ii_Mouth__numbers_of : PySem.W.isFn K (.ref A_Mouth__numbers_of) = true)
    (F_Mouth_hear : ∃ fd, L2.Fun K "hear" "Mouth.hear" s_Mouth_hear A_Mouth_hear fd)
    (ci_Mouth_hear : PySem.W.findIn K (.ref A_Mouth) "hear" = some (some (.ref A_Mouth_hear)))
    (ii_Mouth_hear : PySem.W.isFn K (.ref A_Mouth_hear) = true)
    (F_l_mouth : ∃ fd, L2.Fun K "_law_mouth" "_law_mouth" s_l_mouth A_l_mouth fd)
    (a_l_mouth : PySem.W.nsIn K mainGlobals "_law_mouth" = some (some (.ref A_l_mouth)))
    (F_l_is_full : ∃ fd, L2.Fun K "_law_is_full" "_law_is_full" s_l_is_full A_l_is_full fd)
    (a_l_is_full : PySem.W.nsIn K mainGlobals "_law_is_full" = some (some (.ref A_l_is_full)))
    (F_l_hear : ∃ fd, L2.Fun K "_law_hear" "_law_hear" s_l_hear A_l_hear fd)
    (a_l_hear : PySem.W.nsIn K mainGlobals "_law_hear" = some (some (.ref A_l_hear)))
    (F_l_is : ∃ fd, L2.Fun K "_law_is" "_law_is" s_l_is A_l_is fd)
    (a_l_is : PySem.W.nsIn K mainGlobals "_law_is" = some (some (.ref A_l_is)))
    (a_law : PySem.W.nsIn K mainGlobals "law" = some (some (.ref A_law)))
    (lk_law : K.lookup A_law = some ⟨ocL, odL, .func (PySem.W.fnOf "law" "law" (defArgs s_law) (defBody s_law) (defScope s_law) .none kVL docL pmL anL (.ref A_code) ctL), oslL⟩)
    (hc_law : PySem.W.codeIn K (.ref A_code) "law" = true)
    (lk_code : K.lookup A_code = some ⟨ocC, odC, .fields vsC, oslC⟩)
    (ht_law : (vsC[11]? : Option Value) = some (.ref A_tab))
    (hh_law : PySem.W.codeHdIn K A_code A_tab = true)
    (nt_law : K.lookup A_tab = none)
    (z_ValueError : PySem.W.nsIn K mainGlobals "ValueError" = some none)
    (hT : h.get? A_tab = some { cls := .none, data := .fields #[] }) : LamX.LawAtS l w K (L2.CX l.prog w) 6 63 "_law_script" mg fa h := by
  have e0 := hfa.symm.trans (PySem.W.mg_of X G a_law)
  cases e0
  have cl_Mouth : Cls K A_Mouth := ⟨pg_Mouth, hd_Mouth, po_Mouth, sa_Mouth⟩
  have T : MouthT K A_Mouth := ⟨cl_Mouth, na_Mouth__marks, na_Mouth__wide, na_Mouth__ahead, na_Mouth__last, na_Mouth__greatest, na_Mouth__sure⟩
  have x_BadBits : RaiseC K mg "BadBits" A_BadBits := ⟨xq_BadBits, PySem.W.mg_of X G a_BadBits, xk_BadBits, xs_BadBits, xt_BadBits⟩
  have x_Full : RaiseC K mg "Full" A_Full := ⟨xq_Full, PySem.W.mg_of X G a_Full, xk_Full, xs_Full, xt_Full⟩
  have ob : OneBad K A_BitsError A_BadSetting A_BadMark A_BadBits A_Full A_BadEvent A_BadText A_BadBits false false true false false false := ⟨ox_BadBits, ⟨oh_BadBits_0, oh_BadBits_1, oh_BadBits_2, oh_BadBits_3, oh_BadBits_4, oc_hn, oc_ht, om_BadBits⟩, ok_BadBits_0, ok_BadBits_1, ok_BadBits_2, ok_BadBits_3, ok_BadBits_4, ok_BadBits_5, ov_BadBits⟩
  have obF : OneBad K A_BitsError A_BadSetting A_BadMark A_BadBits A_Full A_BadEvent A_BadText A_Full false false false true false false := ⟨ox_Full, ⟨oh_Full_0, oh_Full_1, oh_Full_2, oh_Full_3, oh_Full_4, oc_hn, oc_ht, om_Full⟩, ok_Full_0, ok_Full_1, ok_Full_2, ok_Full_3, ok_Full_4, ok_Full_5, ov_Full⟩
  have bT : L2.Binds K (PySem.W.fnOf "_law_told" "_law_told" (defArgs s_l_told) (defBody s_l_told) (defScope s_l_told) .none kVT docT pmT anT cdT ctT) ["_law_work"] [] := (L2.fun_mk lkT hcT hkT).binds fun _ _ _ _ _ _ us hl => match us, hl with | [_], _ => rfl
  have B : BoundsT K w mg A_BOUNDS := bounds_mk (PySem.W.mg_of X G a_BOUNDS) lkB klB nB1 nB2 nB3 nB4 nB5 nB6 sB1 sB2 sB3 sB4 sB5 sB6
  obtain ⟨fd_l_like, F_l_like⟩ := F_l_like
  have b_l_like := F_l_like.binds (ps := ["_law_found", "_law_due"]) fun _ _ _ _ _ _ us hl => match us, hl with | [_, _], _ => rfl
  have g_isinstance := (PySem.W.mg_none_of X G z_isinstance)
  have g_bool := (PySem.W.mg_none_of X G z_bool)
  have g_str := (PySem.W.mg_none_of X G z_str)
  have g_int := (PySem.W.mg_none_of X G z_int)
  have g_dict := (PySem.W.mg_none_of X G z_dict)
  have g_tuple := (PySem.W.mg_none_of X G z_tuple)
  have g_list := (PySem.W.mg_none_of X G z_list)
  have g_len := (PySem.W.mg_none_of X G z_len)
  have g_range := (PySem.W.mg_none_of X G z_range)
  obtain ⟨fd_l_next, F_l_next⟩ := F_l_next
  have b_l_next := F_l_next.binds (ps := ["_law_dice_here", "_law_many"]) fun _ _ _ _ _ _ us hl => match us, hl with | [_, _], _ => rfl
  obtain ⟨fd_l_dice, F_l_dice⟩ := F_l_dice
  have b_l_dice := F_l_dice.binds (ps := ["_law_script"]) fun _ _ _ _ _ _ us hl => match us, hl with | [_], _ => rfl
  obtain ⟨fd_l_setting, F_l_setting⟩ := F_l_setting
  have b_l_setting := F_l_setting.binds (ps := ["_law_d"]) fun _ _ _ _ _ _ us hl => match us, hl with | [_], _ => rfl
  obtain ⟨fd_check_number, F_check_number⟩ := F_check_number
  have b_check_number := F_check_number.binds (ps := ["word", "number"]) fun _ _ _ _ _ _ us hl => match us, hl with | [_, _], _ => rfl
  obtain ⟨fd_check_mark, F_check_mark⟩ := F_check_mark
  have b_check_mark := F_check_mark.binds (ps := ["mark", "marks"]) fun _ _ _ _ _ _ us hl => match us, hl with | [_, _], _ => rfl
  obtain ⟨fd_check_setting, F_check_setting⟩ := F_check_setting
  have b_check_setting := F_check_setting.binds (ps := ["setting"]) fun _ _ _ _ _ _ us hl => match us, hl with | [_], _ => rfl
  obtain ⟨fd_check_bits, F_check_bits⟩ := F_check_bits
  have b_check_bits := F_check_bits.binds (ps := ["bits", "wide"]) fun _ _ _ _ _ _ us hl => match us, hl with | [_, _], _ => rfl
  obtain ⟨fd_check_telling, F_check_telling⟩ := F_check_telling
  have b_check_telling := F_check_telling.binds (ps := ["told", "marks", "wide"]) fun _ _ _ _ _ _ us hl => match us, hl with | [_, _, _], _ => rfl
  obtain ⟨fd_Mouth___init, F_Mouth___init⟩ := F_Mouth___init
  have b_Mouth___init := F_Mouth___init.binds (ps := ["self", "setting"]) fun _ _ _ _ _ _ us hl => match us, hl with | [_, _], _ => rfl
  obtain ⟨fd_Mouth_is_full, F_Mouth_is_full⟩ := F_Mouth_is_full
  have b_Mouth_is_full := F_Mouth_is_full.binds (ps := ["self"]) fun _ _ _ _ _ _ us hl => match us, hl with | [_], _ => rfl
  obtain ⟨fd_Mouth_last, F_Mouth_last⟩ := F_Mouth_last
  have b_Mouth_last := F_Mouth_last.binds (ps := ["self"]) fun _ _ _ _ _ _ us hl => match us, hl with | [_], _ => rfl
  obtain ⟨fd_Mouth_sure, F_Mouth_sure⟩ := F_Mouth_sure
  have b_Mouth_sure := F_Mouth_sure.binds (ps := ["self"]) fun _ _ _ _ _ _ us hl => match us, hl with | [_], _ => rfl
  obtain ⟨fd_Mouth_send, F_Mouth_send⟩ := F_Mouth_send
  have b_Mouth_send := F_Mouth_send.binds (ps := ["self"]) fun _ _ _ _ _ _ us hl => match us, hl with | [_], _ => rfl
  obtain ⟨fd_Mouth__numbers_of, F_Mouth__numbers_of⟩ := F_Mouth__numbers_of
  have b_Mouth__numbers_of := F_Mouth__numbers_of.binds (ps := ["self", "told"]) fun _ _ _ _ _ _ us hl => match us, hl with | [_, _], _ => rfl
  obtain ⟨fd_Mouth_hear, F_Mouth_hear⟩ := F_Mouth_hear
  have b_Mouth_hear := F_Mouth_hear.binds (ps := ["self", "told"]) fun _ _ _ _ _ _ us hl => match us, hl with | [_, _], _ => rfl
  obtain ⟨fd_l_mouth, F_l_mouth⟩ := F_l_mouth
  have b_l_mouth := F_l_mouth.binds (ps := []) fun _ _ _ _ _ _ us hl => match us, hl with | [], _ => rfl
  obtain ⟨fd_l_is_full, F_l_is_full⟩ := F_l_is_full
  have b_l_is_full := F_l_is_full.binds (ps := ["_law_setting_here", "_law_mouth_here"]) fun _ _ _ _ _ _ us hl => match us, hl with | [_, _], _ => rfl
  obtain ⟨fd_l_hear, F_l_hear⟩ := F_l_hear
  have b_l_hear := F_l_hear.binds (ps := ["_law_setting_here", "_law_mouth_here", "_law_told_here"]) fun _ _ _ _ _ _ us hl => match us, hl with | [_, _, _], _ => rfl
  obtain ⟨fd_l_is, F_l_is⟩ := F_l_is
  have b_l_is := F_l_is.binds (ps := ["_law_mouth_here", "_law_setting_here", "_law_own"]) fun _ _ _ _ _ _ us hl => match us, hl with | [_, _, _], _ => rfl
  refine ⟨PySem.W.fnOf "law" "law" (defArgs s_law) (defBody s_law) (defScope s_law) .none kVL docL pmL anL (.ref A_code) ctL, [(A_code, A_tab)], spLaw K A_tab, fun p hp => ?_, fun p hp => ?_, fun p hp => ?_, fun s u => .of_eq rfl, fun H a ns hl _ hPT hS => ?_, fun base _ _ hTB => ?_⟩
  · rw [List.mem_singleton.mp hp]; exact hT
  · rw [List.mem_singleton.mp hp]; exact nt_law
  · rw [List.mem_singleton.mp hp]; exact PySem.W.codeHd_of_K X hh_law
  · exact ⟨a, ns, rfl, hS, hl, hPT _ (List.mem_singleton.mpr rfl), fun _ => rfl⟩
  · have TB := hTB _ (List.mem_singleton.mpr rfl)
    have c_l_next : CalX l.prog w K mg base 1 "_law_next" _ := ⟨A_l_next, fd_l_next, _, ok_next F_l_next (PySem.W.mg_none_of X G z_len), PySem.W.mg_of X G a_l_next, F_l_next.kp, b_l_next⟩
    have c_l_dice : CalX l.prog w K mg base 1 "_law_dice" _ := ⟨A_l_dice, fd_l_dice, _, ok_dice F_l_dice (PySem.W.mg_none_of X G z_len) (PySem.W.mg_none_of X G z_int), PySem.W.mg_of X G a_l_dice, F_l_dice.kp, b_l_dice⟩
    have c_l_like : CalX l.prog w K mg base 4 "_law_like" (spLike K 3) := ok_like F_l_like g_isinstance g_bool g_str g_int g_dict g_tuple g_list g_len g_range (PySem.W.mg_of X G a_l_like) b_l_like 3
    have c_l_setting : CalX l.prog w K mg base 2 "_law_setting" _ := ⟨A_l_setting, fd_l_setting, _, ok_setting F_l_setting (PySem.W.mg_none_of X G z_max) (PySem.W.mg_none_of X G z_min) c_l_next, PySem.W.mg_of X G a_l_setting, F_l_setting.kp, b_l_setting⟩
    have c_check_number : CalX l.prog w K mg base 1 "check_number" _ := ⟨A_check_number, fd_check_number, _, ok_check_number F_check_number B, PySem.W.mg_of X G a_check_number, F_check_number.kp, b_check_number⟩
    have c_check_mark : CalX l.prog w K mg base 1 "check_mark" _ := ⟨A_check_mark, fd_check_mark, _, ok_check_mark F_check_mark , PySem.W.mg_of X G a_check_mark, F_check_mark.kp, b_check_mark⟩
    have c_check_setting : CalX l.prog w K mg base 2 "check_setting" _ := ⟨A_check_setting, fd_check_setting, _, ok_check_setting F_check_setting c_check_number, PySem.W.mg_of X G a_check_setting, F_check_setting.kp, b_check_setting⟩
    have c_check_bits : CalX l.prog w K mg base 1 "check_bits" _ := ⟨A_check_bits, fd_check_bits, _, ok_check_bits F_check_bits (PySem.W.mg_none_of X G z_len), PySem.W.mg_of X G a_check_bits, F_check_bits.kp, b_check_bits⟩
    have c_check_telling : CalX l.prog w K mg base 2 "check_telling" _ := ⟨A_check_telling, fd_check_telling, _, ok_check_telling F_check_telling c_check_mark c_check_bits, PySem.W.mg_of X G a_check_telling, F_check_telling.kp, b_check_telling⟩
    have k_Mouth : MakX l.prog w K mg base 3 "Mouth" A_Mouth _ := ⟨A_Mouth___init, fd_Mouth___init, _, ⟨mk_Mouth, ci_Mouth___init, ii_Mouth___init, kc_Mouth⟩, ok_mouth_init F_Mouth___init T c_check_setting, PySem.W.mg_of X G a_Mouth, b_Mouth___init⟩
    have m_Mouth_is_full : MetX l.prog w K mg base 1 A_Mouth "is_full" _ := ⟨A_Mouth_is_full, fd_Mouth_is_full, _, cl_Mouth, ⟨ci_Mouth_is_full, ii_Mouth_is_full, F_Mouth_is_full.kp⟩, ok_is_full F_Mouth_is_full T, b_Mouth_is_full⟩
    have m_Mouth_last : MetX l.prog w K mg base 1 A_Mouth "last" _ := ⟨A_Mouth_last, fd_Mouth_last, _, cl_Mouth, ⟨ci_Mouth_last, ii_Mouth_last, F_Mouth_last.kp⟩, ok_mlast F_Mouth_last T, b_Mouth_last⟩
    have m_Mouth_sure : MetX l.prog w K mg base 1 A_Mouth "sure" _ := ⟨A_Mouth_sure, fd_Mouth_sure, _, cl_Mouth, ⟨ci_Mouth_sure, ii_Mouth_sure, F_Mouth_sure.kp⟩, ok_sure F_Mouth_sure T (PySem.W.mg_none_of X G z_sorted), b_Mouth_sure⟩
    have m_Mouth_send : MetX l.prog w K mg base 2 A_Mouth "send" _ := ⟨A_Mouth_send, fd_Mouth_send, _, cl_Mouth, ⟨ci_Mouth_send, ii_Mouth_send, F_Mouth_send.kp⟩, ok_send F_Mouth_send T x_Full m_Mouth_is_full, b_Mouth_send⟩
    have m_Mouth_numbers_of : MetX l.prog w K mg base 1 A_Mouth "_numbers_of" _ := ⟨A_Mouth__numbers_of, fd_Mouth__numbers_of, _, cl_Mouth, ⟨ci_Mouth__numbers_of, ii_Mouth__numbers_of, F_Mouth__numbers_of.kp⟩, ok_numbers F_Mouth__numbers_of T (PySem.W.mg_none_of X G z_enumerate) (PySem.W.mg_none_of X G z_sorted), b_Mouth__numbers_of⟩
    have m_Mouth_hear : MetX l.prog w K mg base 3 A_Mouth "hear" _ := ⟨A_Mouth_hear, fd_Mouth_hear, _, cl_Mouth, ⟨ci_Mouth_hear, ii_Mouth_hear, F_Mouth_hear.kp⟩, ok_hear F_Mouth_hear T (PySem.W.mg_none_of X G z_max) x_BadBits c_check_telling m_Mouth_numbers_of, b_Mouth_hear⟩
    have c_l_mouth : CalX l.prog w K mg base 1 "_law_mouth" _ := ⟨A_l_mouth, fd_l_mouth, _, ok_own_mouth F_l_mouth , PySem.W.mg_of X G a_l_mouth, F_l_mouth.kp, b_l_mouth⟩
    have c_l_is_full : CalX l.prog w K mg base 1 "_law_is_full" _ := ⟨A_l_is_full, fd_l_is_full, _, ok_own_full F_l_is_full (PySem.W.mg_none_of X G z_max), PySem.W.mg_of X G a_l_is_full, F_l_is_full.kp, b_l_is_full⟩
    have c_l_hear : CalX l.prog w K mg base 1 "_law_hear" _ := ⟨A_l_hear, fd_l_hear, _, ok_own_hear F_l_hear (PySem.W.mg_none_of X G z_min) (PySem.W.mg_none_of X G z_range) (PySem.W.mg_none_of X G z_sorted), PySem.W.mg_of X G a_l_hear, F_l_hear.kp, b_l_hear⟩
    have c_l_is : CalX l.prog w K mg base 5 "_law_is" _ := ⟨A_l_is, fd_l_is, _, ok_law_is F_l_is (PySem.W.mg_none_of X G z_range) m_Mouth_sure m_Mouth_last m_Mouth_is_full c_l_is_full c_l_like, PySem.W.mg_of X G a_l_is, F_l_is.kp, b_l_is⟩
    exact ok_law lk_law hc_law TB lkT hcT hkT (PySem.W.mg_of X G a_l_told) bT (PySem.W.mg_of X G a_BitsError) (PySem.W.mg_of X G a_BadSetting) (PySem.W.mg_of X G a_BadMark) (PySem.W.mg_of X G a_BadBits) (PySem.W.mg_of X G a_Full) (PySem.W.mg_of X G a_BadEvent) (PySem.W.mg_of X G a_BadText) (PySem.W.mg_none_of X G z_isinstance) (PySem.W.mg_none_of X G z_ValueError) (PySem.W.mg_none_of X G z_range) (PySem.W.mg_none_of X G z_tuple) (PySem.W.mg_none_of X G z_int) (PySem.W.mg_none_of X G z_list) ob obF c_l_dice c_l_next c_l_setting c_l_mouth c_l_is_full c_l_hear c_l_like c_l_is k_Mouth m_Mouth_send m_Mouth_hear
end Ak
local macro_rules | `(tactic| walk_at "fi") => `(tactic| (refine' ⟨_, L2.fun_mk ?l ?c ?k⟩; (case l => k_is); (case c => k_is); (case k => k_is)))
local macro_rules | `(tactic| walk_at "vals") => `(tactic| first | exact .nil | exact .cons (by first | rfl | exact ⟨_, rfl⟩) (by walk_at "vals"))
local macro_rules | `(tactic| walk_at "kl") => `(tactic| first | exact trivial | (refine ⟨⟨_, _, rfl, rfl⟩, ?_⟩; walk_at "kl"))
local macro_rules | `(tactic| walk_at "sqk") => `(tactic| (refine' Ak.sqT_of ?l ?c ?d ?z ?v; (case l => k_is); (case c => rfl); (case d => rfl); (case z => exact Nat.le_of_ble_eq_true rfl); (case v => walk_at "vals")))
open PySem PySem.W PyProof.Rows in
set_option maxRecDepth 100000 in
set_option maxHeartbeats 0 in
theorem PySem.Challenge.cw_ackbits_k03_mouths_holds : PySem.Challenge.rw_ackbits_k03_mouths.Holds := by
  w_on; o_law; k_head; (case hw => w_witness2)
  k_fill
  refine LamX.walk_ofTs (l := PySem.Challenge.rw_ackbits_k03_mouths) (n := 63) (k := 6) (x := "_law_script") (CX := fun w => L2.CX (PySem.Challenge.rw_ackbits_k03_mouths).prog w) rfl (by decide) rfl ⟨rfl, by decide, by decide⟩ (fun w h Y => PySem.W.km_in_of Y) ?F (fun _ _ _ _ _ z => Ak.cx_none z)
  case F =>
    intro w mg fa h Y KX G hmg
    refine' Ak.all_mk KX G hmg ?a_Mouth ?pg_Mouth ?hd_Mouth ?po_Mouth ?sa_Mouth ?mk_Mouth ?kc_Mouth ?na_Mouth__marks ?na_Mouth__wide ?na_Mouth__ahead ?na_Mouth__last ?na_Mouth__greatest ?na_Mouth__sure ?a_BadBits ?xq_BadBits ?xk_BadBits ?xs_BadBits ?xt_BadBits ?a_Full ?xq_Full ?xk_Full ?xs_Full ?xt_Full ?a_BitsError ?a_BadSetting ?a_BadMark ?a_BadEvent ?a_BadText ?oh_BadBits_0 ?oh_BadBits_1 ?oh_BadBits_2 ?oh_BadBits_3 ?oh_BadBits_4 ?oc_hn ?oc_ht ?om_BadBits ?ok_BadBits_0 ?ok_BadBits_1 ?ok_BadBits_2 ?ok_BadBits_3 ?ok_BadBits_4 ?ok_BadBits_5 ?ox_BadBits ?ov_BadBits ?oh_Full_0 ?oh_Full_1 ?oh_Full_2 ?oh_Full_3 ?oh_Full_4 ?om_Full ?ok_Full_0 ?ok_Full_1 ?ok_Full_2 ?ok_Full_3 ?ok_Full_4 ?ok_Full_5 ?ox_Full ?ov_Full ?a_l_told ?lkT ?hcT ?hkT ?a_BOUNDS ?lkB ?klB ?nB1 ?nB2 ?nB3 ?nB4 ?nB5 ?nB6 ?sB1 ?sB2 ?sB3 ?sB4 ?sB5 ?sB6 ?F_l_like ?a_l_like ?z_isinstance ?z_bool ?z_str ?z_int ?z_dict ?z_tuple ?z_list ?z_len ?z_range ?F_l_next ?a_l_next ?F_l_dice ?a_l_dice ?F_l_setting ?z_max ?z_min ?a_l_setting ?F_check_number ?a_check_number ?F_check_mark ?a_check_mark ?F_check_setting ?a_check_setting ?F_check_bits ?a_check_bits ?F_check_telling ?a_check_telling ?F_Mouth___init ?ci_Mouth___init ?ii_Mouth___init ?F_Mouth_is_full ?ci_Mouth_is_full ?ii_Mouth_is_full ?F_Mouth_last ?ci_Mouth_last ?ii_Mouth_last ?F_Mouth_sure ?z_sorted ?ci_Mouth_sure ?ii_Mouth_sure ?F_Mouth_send ?ci_Mouth_send ?ii_Mouth_send ?F_Mouth__numbers_of ?z_enumerate ?ci_Mouth__numbers_of ?ii_Mouth__numbers_of ?F_Mouth_hear ?ci_Mouth_hear ?ii_Mouth_hear ?F_l_mouth ?a_l_mouth ?F_l_is_full ?a_l_is_full ?F_l_hear ?a_l_hear ?F_l_is ?a_l_is ?a_law ?lk_law ?hc_law ?lk_code ?ht_law ?hh_law ?nt_law ?z_ValueError ?hT
    (case a_Mouth => k_is)
    (case a_BadBits => k_is)
    (case a_Full => k_is)
    (case a_BitsError => k_is)
    (case a_BadSetting => k_is)
    (case a_BadMark => k_is)
    (case a_BadEvent => k_is)
    (case a_BadText => k_is)
    (case a_l_told => k_is)
    (case a_BOUNDS => k_is)
    (case a_l_like => k_is)
    (case a_l_next => k_is)
    (case a_l_dice => k_is)
    (case a_l_setting => k_is)
    (case a_check_number => k_is)
    (case a_check_mark => k_is)
    (case a_check_setting => k_is)
    (case a_check_bits => k_is)
    (case a_check_telling => k_is)
    (case a_l_mouth => k_is)
    (case a_l_is_full => k_is)
    (case a_l_hear => k_is)
    (case a_l_is => k_is)
    (case a_law => k_is)
    (case ci_Mouth___init => k_is)
    (case ci_Mouth_is_full => k_is)
    (case ci_Mouth_last => k_is)
    (case ci_Mouth_sure => k_is)
    (case ci_Mouth_send => k_is)
    (case ci_Mouth__numbers_of => k_is)
    (case ci_Mouth_hear => k_is)
    (case pg_Mouth => k_is)
    (case hd_Mouth => k_is)
    (case po_Mouth => k_is)
    (case sa_Mouth => k_is)
    (case mk_Mouth => k_is)
    (case kc_Mouth => k_is)
    (case na_Mouth__marks => k_is)
    (case na_Mouth__wide => k_is)
    (case na_Mouth__ahead => k_is)
    (case na_Mouth__last => k_is)
    (case na_Mouth__greatest => k_is)
    (case na_Mouth__sure => k_is)
    (case xq_BadBits => k_exc)
    (case xk_BadBits => k_is)
    (case xs_BadBits => k_is)
    (case xt_BadBits => k_is)
    (case xq_Full => k_exc)
    (case xk_Full => k_is)
    (case xs_Full => k_is)
    (case xt_Full => k_is)
    (case oh_BadBits_0 => k_is)
    (case oh_BadBits_1 => k_is)
    (case oh_BadBits_2 => k_is)
    (case oh_BadBits_3 => k_is)
    (case oh_BadBits_4 => k_is)
    (case oc_hn => k_is)
    (case oc_ht => k_is)
    (case om_BadBits => k_is)
    (case ok_BadBits_0 => kernel_rfl)
    (case ok_BadBits_1 => kernel_rfl)
    (case ok_BadBits_2 => kernel_rfl)
    (case ok_BadBits_3 => kernel_rfl)
    (case ok_BadBits_4 => kernel_rfl)
    (case ok_BadBits_5 => kernel_rfl)
    (case ox_BadBits => kernel_rfl)
    (case ov_BadBits => kernel_rfl)
    (case oh_Full_0 => k_is)
    (case oh_Full_1 => k_is)
    (case oh_Full_2 => k_is)
    (case oh_Full_3 => k_is)
    (case oh_Full_4 => k_is)
    (case om_Full => k_is)
    (case ok_Full_0 => kernel_rfl)
    (case ok_Full_1 => kernel_rfl)
    (case ok_Full_2 => kernel_rfl)
    (case ok_Full_3 => kernel_rfl)
    (case ok_Full_4 => kernel_rfl)
    (case ok_Full_5 => kernel_rfl)
    (case ox_Full => kernel_rfl)
    (case ov_Full => kernel_rfl)
    (case lkT => k_is)
    (case hcT => k_is)
    (case hkT => k_is)
    (case lkB => k_is)
    (case klB => walk_at "kl")
    (case nB1 => k_is)
    (case nB2 => k_is)
    (case nB3 => k_is)
    (case nB4 => k_is)
    (case nB5 => k_is)
    (case nB6 => k_is)
    (case sB1 => walk_at "sqk")
    (case sB2 => walk_at "sqk")
    (case sB3 => walk_at "sqk")
    (case sB4 => walk_at "sqk")
    (case sB5 => walk_at "sqk")
    (case sB6 => walk_at "sqk")
    (case F_l_like => walk_at "fi")
    (case z_isinstance => k_is)
    (case z_bool => k_is)
    (case z_str => k_is)
    (case z_int => k_is)
    (case z_dict => k_is)
    (case z_tuple => k_is)
    (case z_list => k_is)
    (case z_len => k_is)
    (case z_range => k_is)
    (case F_l_next => walk_at "fi")
    (case F_l_dice => walk_at "fi")
    (case F_l_setting => walk_at "fi")
    (case z_max => k_is)
    (case z_min => k_is)
    (case F_check_number => walk_at "fi")
    (case F_check_mark => walk_at "fi")
    (case F_check_setting => walk_at "fi")
    (case F_check_bits => walk_at "fi")
    (case F_check_telling => walk_at "fi")
    (case F_Mouth___init => walk_at "fi")
    (case ii_Mouth___init => k_is)
    (case F_Mouth_is_full => walk_at "fi")
    (case ii_Mouth_is_full => k_is)
    (case F_Mouth_last => walk_at "fi")
    (case ii_Mouth_last => k_is)
    (case F_Mouth_sure => walk_at "fi")
    (case z_sorted => k_is)
    (case ii_Mouth_sure => k_is)
    (case F_Mouth_send => walk_at "fi")
    (case ii_Mouth_send => k_is)
    (case F_Mouth__numbers_of => walk_at "fi")
    (case z_enumerate => k_is)
    (case ii_Mouth__numbers_of => k_is)
    (case F_Mouth_hear => walk_at "fi")
    (case ii_Mouth_hear => k_is)
    (case F_l_mouth => walk_at "fi")
    (case F_l_is_full => walk_at "fi")
    (case F_l_hear => walk_at "fi")
    (case F_l_is => walk_at "fi")
    (case lk_law => k_is)
    (case hc_law => k_is)
    (case lk_code => k_is)
    (case ht_law => rfl)
    (case hh_law => kernel_rfl)
    (case nt_law => kernel_rfl)
    (case z_ValueError => k_is)
    (case hT => exact PySem.W.km_tabs_of Y _ (by k_mem))
#print axioms PySem.Challenge.cw_ackbits_k03_mouths_holds
