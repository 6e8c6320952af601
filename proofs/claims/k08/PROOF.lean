import PyProof.Rows.All
import Wide.All
import OpenK.AllK
import Wide.FinOn
import HandS.ForMost
import HandS.Exc
import HandS.WordsExc
import HandS.ExcOwn
import HandS.ExcIs
import HandS.ExcField
import HandS.TryOnly
import HandS.IsInst
import HandS.Conv
import HandS.Zip
import HandS.Codes
import HandS.Lambda
import HandS.EndTab
import HandS.Small
import HandS.SetFor
import HandS.SortInts
import HandS.HotCalls
import HandS.NestedK
import KE.GoesEnumKw
import KE.GoesMore
import HandS.SortKw
import HandS.More
import HandS.FStr
import PySem.Challenge.RW_ackbits_k08_loads
set_option Elab.async false
set_option linter.all false
set_option maxRecDepth 100000
set_option maxHeartbeats 4000000
namespace Ak
open PySem PySem.Spec PyProof.Rows L2

/-! ### heaps: what is kept but for S -/
def Keep (S : List Addr) (H H' : Hp) : Prop := (∀ a o, a ∉ S → H a = some o → H' a = some o) ∧ ∀ a, H' a = none → H a = none
section
variable {S T : List Addr} {H H1 H2 : Hp} {a p : Addr} {o : HO} {K : PySem.W.Frag} {xs : List V}
theorem Keep.refl : Keep S H H := ⟨fun _ _ _ h => h, fun _ h => h⟩
theorem Keep.mono (h : ∀ b, b ∈ T → b ∈ S) (k : Keep T H H1) : Keep S H H1 := ⟨fun b u n e => k.1 b u (fun m => n (h b m)) e, k.2⟩
theorem Keep.trans (k : Keep S H H1) (l : Keep S H1 H2) : Keep S H H2 := ⟨fun b u n e => l.1 b u n (k.1 b u n e), fun b e => k.2 b (l.2 b e)⟩
/-- behind a call -/
theorem Keep.call (l : Keep T H1 H2) (h : ∀ b, b ∈ T → b ∈ S) (k : Keep S H H1) : Keep S H H2 := k.trans (l.mono h)
theorem Keep.new (k : Keep S H H1) (n : H1 p = none) : Keep S H (upd H1 p o) := ⟨fun b u m e => by
  have e1 := k.1 b u m e
  rw [upd_ne (ne_of_none e1 n)]
  exact e1, fun b e => by
  by_cases q : b = p
  · rw [q, upd_same] at e; cases e
  · rw [upd_ne q] at e; exact k.2 b e⟩
theorem Keep.set (k : Keep S H H1) (m : p ∈ S) : Keep S H (upd H1 p o) := ⟨fun b u n e => by
  have e1 := k.1 b u n e
  have q : b ≠ p := fun z => n (z ▸ m)
  rw [upd_ne q]
  exact e1, fun b e => by
  by_cases q : b = p
  · rw [q, upd_same] at e; cases e
  · rw [upd_ne q] at e; exact k.2 b e⟩
theorem Keep.new' (n : H1 p = none) (k : Keep S H H1) : Keep S H (upd H1 p o) := k.new n
theorem Keep.set' (m : p ∈ S) (k : Keep S H H1) : Keep S H (upd H1 p o) := k.set m
theorem Keep.at (k : Keep S H H1) (n : a ∉ S) (e : H a = some o) : H1 a = some o := k.1 a o n e
theorem Keep.free (k : Keep S H H1) (e : H1 a = none) : H a = none := k.2 a e
theorem Keep.seqL (k : Keep S H H1) (n : a ∉ S) (e : SqL K H a xs) : SqL K H1 a xs := by
  rcases e with e | e
  · rcases e with e | ⟨o, e⟩
    · exact Or.inl (Or.inl (k.1 _ _ n e))
    · exact Or.inl (Or.inr ⟨o, k.1 _ _ n e⟩)
  · exact Or.inr e
theorem Keep.seqT (k : Keep S H H1) (n : a ∉ S) (e : SqT K H a xs) : SqT K H1 a xs := by
  rcases e with e | e
  · rcases e with e | ⟨o, e⟩
    · exact Or.inl (Or.inl (k.1 _ _ n e))
    · exact Or.inl (Or.inr ⟨o, k.1 _ _ n e⟩)
  · exact Or.inr e
theorem nin_nil : a ∉ ([] : List Addr) := List.not_mem_nil
theorem nin_cons {b : Addr} (h : a ≠ b) (t : a ∉ S) : a ∉ b :: S := fun m => by
  rcases List.mem_cons.mp m with z | z
  · exact h z
  · exact t z
theorem ne_new {b : Addr} (h' : H b = none) (h : H a = some o) : a ≠ b := ne_of_none h h'
theorem sub_nil : ∀ b : Addr, b ∈ ([] : List Addr) → b ∈ S := fun _ m => absurd m List.not_mem_nil
theorem sub_cons {b : Addr} (h : b ∈ S) (t : ∀ c, c ∈ T → c ∈ S) : ∀ c, c ∈ b :: T → c ∈ S := fun c m => by
  rcases List.mem_cons.mp m with z | z
  · exact z ▸ h
  · exact t c z
theorem at_upd (h : a ≠ p) (e : H a = some o) {u : HO} : upd H p u a = some o := (upd_ne h).trans e
theorem at_new (n : H p = none) (e : H a = some o) {u : HO} : upd H p u a = some o := (upd_ne (ne_of_none e n)).trans e
theorem free_upd {u : HO} (e : upd H p u a = none) : H a = none := by
  by_cases q : a = p
  · rw [q, upd_same] at e; cases e
  · rw [upd_ne q] at e; exact e
theorem SqL.upd {u : HO} (h : SqL K H a xs) (n : H p = none) : SqL K (upd H p u) a xs := Keep.seqL (S := []) (Keep.refl.new n) nin_nil h
theorem SqT.upd {u : HO} (h : SqT K H a xs) (n : H p = none) : SqT K (upd H p u) a xs := Keep.seqT (S := []) (Keep.refl.new n) nin_nil h
end

/-! ### general operators -/
section
variable {X : Cx}
def rPlus (K : PySem.W.Frag) : R2 := fun x y H Q => rI0 (fun i j => .int (i + j)) x y H Q ∨ rCat x y H Q ∨ (∃ i j, x = .str i ∧ y = .str j ∧ i.length + j.length ≤ sizeLine ∧ Q (.str (i ++ j)) H) ∨ rCatT K x y H Q
theorem op_plus : OpR X (binaryOp .Add) (rPlus X.K) := OpR.or op_add (OpR.or op_cat (OpR.or op_add_str op_catT))
abbrev rMinus : R2 := rI0 fun i j => .int (i - j)
def rTimes : R2 := fun x y H Q => rI CMul (fun i j => .int (i * j)) x y H Q ∨ rRep x y H Q
theorem op_times : OpR X (binaryOp .Mult) rTimes := OpR.or op_mul op_rep
abbrev rMod : R2 := rI (fun _ j => 0 < j) fun i j => .int (i % j)
abbrev rDiv : R2 := rI CDiv fun i j => .int (i / j)
abbrev rPow : R2 := rI CPow fun i j => .int (i ^ j.toNat)
def rEqX (K : PySem.W.Frag) : R2 := fun x y H Q => rEq x y H Q ∨ rEqD K x y H Q
theorem op_eqX (hu : X.A.units + 64 < cLine) : OpR X (compareOp .Eq) (rEqX X.K) := OpR.or op_eq (op_eqD hu)
def rNeX (K : PySem.W.Frag) : R2 := fun x y H Q => rNe x y H Q ∨ rNeD K x y H Q
theorem op_neX (hu : X.A.units + 64 < cLine) : OpR X (compareOp .NotEq) (rNeX X.K) := OpR.or op_ne (op_neD hu)
abbrev rLt : R2 := rI0 fun i j => .bl (decide (i < j))
abbrev rLe : R2 := rI0 fun i j => .bl (decide (i ≤ j))
abbrev rGt : R2 := rI0 fun i j => .bl (decide (j < i))
abbrev rGe : R2 := rI0 fun i j => .bl (decide (j ≤ i))
def tTru (K : PySem.W.Frag) (ta : TE) : TT := fun σ H Q => ta σ H fun x H' => ∃ k, TruV K x H' k ∧ Q k H'
theorem pt_tru {a : Expr} {ta : TE} (ha : PE X a ta) (he : ∀ whole, isTrue a X.env whole = (do let v ← whole; standAt a.pos; holding [v] (truthy v)) := by intro _; rfl) : PT X a (tTru X.K ta) := pt_truth ha he
def rIsNon : R2 := fun x y H Q => y = .non ∧ Q (.bl (decide (x = .non))) H
def rNotNon : R2 := fun x y H Q => y = .non ∧ Q (.bl (!decide (x = .non))) H
theorem op_isNon : OpR X (compareOp .Is) rIsNon := op_isN
theorem op_notNon : OpR X (compareOp .IsNot) rNotNon := op_notN
def rInX (K : PySem.W.Frag) : R2 := fun x y H Q => rIn K false x y H Q ∨ ∃ (c : Nat) (z : Str), x = .str ⟨#[c]⟩ ∧ y = .str z ∧ Q (.bl (decide (c ∈ z.cps.toList))) H
theorem op_inX : OpR X (compareOp .In) (rInX X.K) := OpR.or op_in_seq op_in_sign
def rNinX (K : PySem.W.Frag) : R2 := fun x y H Q => rIn K true x y H Q ∨ ∃ (c : Nat) (z : Str), x = .str ⟨#[c]⟩ ∧ y = .str z ∧ Q (.bl (!decide (c ∈ z.cps.toList))) H
theorem op_ninX : OpR X (compareOp .NotIn) (rNinX X.K) := OpR.or op_notIn_seq op_notIn_sign
/-- len, max, min, int, tuple, list, isinstance -/
def rLenX (K : PySem.W.Frag) : List V → Hp → VK → Prop := fun xs H Q => ∃ x n, xs = [x] ∧ LenV K x H n ∧ Q (.int (n : Nat)) H
theorem cr_lenX : CallR X (.builtin "len") (rLenX X.K) := call_len
def rMaxX (K : PySem.W.Frag) : List V → Hp → VK → Prop := fun xs H Q => (∃ i j, xs = [.int i, .int j] ∧ Q (.int (if j > i then j else i)) H) ∨ rMax K xs H Q
theorem cr_maxX (hc : X.calm = true) : CallR X (.builtin "max") (rMaxX X.K) := CallR.or (call_max2 hc) (cr_max hc)
def rMinX (K : PySem.W.Frag) : List V → Hp → VK → Prop := fun xs H Q => (∃ i j, xs = [.int i, .int j] ∧ Q (.int (if j < i then j else i)) H) ∨ rMin K xs H Q
theorem cr_minX (hc : X.calm = true) : CallR X (.builtin "min") (rMinX X.K) := CallR.or (call_min2 hc) (cr_min hc)
def rIntX : List V → Hp → VK → Prop := fun xs H Q => (∃ i, xs = [.int i] ∧ Q (.int i) H) ∨ ∃ k, xs = [.bl k] ∧ Q (.int (if k then 1 else 0)) H
theorem cr_intX : CallR X (.type "int") rIntX := call_int1
def rTupX (K : PySem.W.Frag) : List V → Hp → VK → Prop := fun xs H Q => ∃ p ys, xs = [.ref p] ∧ ((SqL K H p ys ∧ ∀ l, H l = none → Q (.ref l) (upd H l (.tup ys))) ∨ (SqT K H p ys ∧ Q (.ref p) H))
theorem cr_tupX : CallR X (.type "tuple") (rTupX X.K) := call_tuple_of
def rLisX (K : PySem.W.Frag) : List V → Hp → VK → Prop := fun xs H Q => ∃ p ys, xs = [.ref p] ∧ (SqL K H p ys ∨ SqT K H p ys) ∧ ∀ l, H l = none → Q (.ref l) (upd H l (.lst ys))
theorem cr_lisX : CallR X (.type "list") (rLisX X.K) := call_list_of
end

/-! ### calls of defs of the text: what they let out goes to W -/
def tCallX (sp : Sp) (W : WX) (t : TA) : TE := fun σ H Q => t σ H fun vs H1 => sp vs H1 Q (WE W σ)
def tMethX (C : Addr) (m : Str) (sp : Sp) (W : WX) (ta : TE) (t : TA) : TE := fun σ H Q => ta σ H fun x H1 => ∃ a dx fs, x = .ref a ∧ H1 a = some (.ins C dx fs) ∧ fs.lookup m = none ∧ t σ H1 fun vs H2 => sp (x :: vs) H2 Q (WE W σ)
def tMakeX (C : Addr) (sp : Sp) (W : WX) (t : TA) : TE := fun σ H Q => t σ H fun vs H1 => ∀ x dx, H1 x = none → H1 dx = none → dx ≠ x →
  sp (.ref x :: vs) (upd (upd H1 dx (.own x)) x (.ins C dx [])) (fun v H2 => v = .non ∧ Q (.ref x) H2) (WE W σ)
structure CalX (P : Program) (w : World) (K : PySem.W.Frag) (mg : Str → Option Value) (base : Heap) (k : Nat) (x : Str) (sp : Sp) : Prop where
  ex : ∃ (f : Addr) (fd : FuncData) (ps : List Str), FnOk P w K mg base (L2.CX P w) k f fd ps sp ∧ mg x = some (.ref f) ∧ PySem.W.keepIn K (.ref f) = true ∧ Binds K fd ps []
structure MetX (P : Program) (w : World) (K : PySem.W.Frag) (mg : Str → Option Value) (base : Heap) (k : Nat) (C : Addr) (m : Str) (sp : Sp) : Prop where
  ex : ∃ (f : Addr) (fd : FuncData) (ps : List Str), Cls K C ∧ Meth K C m f ∧ FnOk P w K mg base (L2.CX P w) k f fd ps sp ∧ Binds K fd ps []
structure MakX (P : Program) (w : World) (K : PySem.W.Frag) (mg : Str → Option Value) (base : Heap) (k : Nat) (x : Str) (C : Addr) (sp : Sp) : Prop where
  ex : ∃ (f : Addr) (fd : FuncData) (ps : List Str), Mk K C f ∧ FnOk P w K mg base (L2.CX P w) k f fd ps sp ∧ mg x = some (.ref C) ∧ Binds K fd ps []
section
variable {X : Cx} {W : WX} {k j : Nat} {C : Addr} {x m : Str} {sp : Sp} {p pos apos : Pos} {e o : Expr} {es : List Expr} {ta : TE} {t : TA}
theorem pe_cx (c : CalX X.prog X.w X.K X.mg X.base k x sp) (hr : Room j X.A) (hk : k ≤ j) (hg : Gl X x) (tk : Takes X W) (ha : PA X (e :: es) t)
    (hdb : (x == ("__debug__" : Str)) = false := by decide) (he : starEach (e :: es) X.env = (false, eval e X.env) :: starEach es X.env := by rfl)
    (hpl : (backTo pos (starEach es X.env)).any (·.1) = false := by rfl) : PE X (.Call (.Name x p) (e :: es) [] pos) (tCallX sp W t) := by
  obtain ⟨f, fd, ps, F, hm, hkp, hb⟩ := c.ex
  exact pe_callS F (hr.mono hk) hg hm hkp hb (fun σ => passAt tk σ) ha hdb he hpl
theorem pe_cx0 (c : CalX X.prog X.w X.K X.mg X.base k x sp) (hr : Room j X.A) (hk : k ≤ j) (hg : Gl X x) (tk : Takes X W)
    (hdb : (x == ("__debug__" : Str)) = false := by decide) : PE X (.Call (.Name x p) [] [] pos) (tCallX sp W tNil) := by
  obtain ⟨f, fd, ps, F, hm, hkp, hb⟩ := c.ex
  refine ⟨fun pn s₀ σ₀ H₀ Q₀ I₀ q₀ => ?_⟩
  refine wpAny_Call_Name_kw (ld_glob I₀ hg hm ?_ hdb)
  exact PySem.W.callWith_K0 I₀.kIn hkp (run_fnS (us := []) F (hr.mono hk) hb (passAt tk σ₀) I₀ .nil q₀)
theorem pe_mx {pl : Sem Bool} (he : PE X o ta) (c : MetX X.prog X.w X.K X.mg X.base k C m sp) (hr : Room j X.A) (hk : k ≤ j) (tk : Takes X W) (ha : PA X (e :: es) t)
    (hst : starEach (e :: es) X.env = (false, eval e X.env) :: starEach es X.env := by rfl) (hpl : (backTo pos (starEach es X.env)).any (·.1) = false := by rfl)
    (ht : eval (.Call (.Attribute o m apos) (e :: es) [] pos) X.env = (do
      let ov ← eval o X.env
      standAt apos.atName
      let (f, first) ← holding [ov] (getMethod ov m pl)
      callWith pos f first (backTo pos (starEach (e :: es) X.env)) (backToKw pos (keywordEach [] X.env))) := by rfl) :
    PE X (.Call (.Attribute o m apos) (e :: es) [] pos) (tMethX C m sp W ta t) := by
  obtain ⟨f, fd, ps, c, hm, F, hb⟩ := c.ex
  refine ⟨fun pn s₀ σ₀ H₀ Q₀ I₀ q₀ => ?_⟩
  refine PySem.W.methodCall_KW (pl := pl) (thn (he.run pn s₀ σ₀ H₀ _ I₀ q₀) fun u₀ s₁ ⟨x₁, H₁, I₁, rx, a₀, dx₀, fs₀, ex, ea, l₀, q₁⟩ => ?_) ht
  subst ex
  obtain rfl : u₀ = Value.ref a₀ := rx
  refine getmeth_ok I₁ ea c hm l₀ ?_
  refine PySem.W.callWith_K (first := [.ref a₀]) (h₀ := X.base) I₁.ok.mod.kin hm.kp (thn (ha.run pos pn s₁ σ₀ H₁ _ I₁ q₁) fun us s₂ ⟨vs, H₂, I₂, r₂, q₂⟩ => ⟨I₂.kIn, ?_⟩) hst hpl
  exact run_fnS (us := .ref a₀ :: us) (vs := .ref a₀ :: vs) F (hr.mono hk) hb (passAt tk σ₀) I₂ (.cons rfl r₂) q₂
theorem pe_mx0 {pl : Sem Bool} (he : PE X o ta) (c : MetX X.prog X.w X.K X.mg X.base k C m sp) (hr : Room j X.A) (hk : k ≤ j) (tk : Takes X W)
    (ht : eval (.Call (.Attribute o m apos) [] [] pos) X.env = (do
      let ov ← eval o X.env
      standAt apos.atName
      let (f, first) ← holding [ov] (getMethod ov m pl)
      callWith pos f first (backTo pos (starEach [] X.env)) (backToKw pos (keywordEach [] X.env))) := by rfl) :
    PE X (.Call (.Attribute o m apos) [] [] pos) (tMethX C m sp W ta tNil) := by
  obtain ⟨f, fd, ps, c, hm, F, hb⟩ := c.ex
  refine ⟨fun pn s₀ σ₀ H₀ Q₀ I₀ q₀ => ?_⟩
  refine PySem.W.methodCall_KW (pl := pl) (thn (he.run pn s₀ σ₀ H₀ _ I₀ q₀) fun u₀ s₁ ⟨x₁, H₁, I₁, rx, a₀, dx₀, fs₀, ex, ea, l₀, q₁⟩ => ?_) ht
  subst ex
  obtain rfl : u₀ = Value.ref a₀ := rx
  refine getmeth_ok I₁ ea c hm l₀ ?_
  exact PySem.W.callWith_K0 (first := [.ref a₀]) I₁.kIn hm.kp (run_fnS (us := [.ref a₀]) (vs := [.ref a₀]) F (hr.mono hk) hb (passAt tk σ₀) I₁ (.cons rfl .nil) q₁)
theorem pe_kx (c : MakX X.prog X.w X.K X.mg X.base k x C sp) (hr : Room j X.A) (hk : k + 1 ≤ j) (hg : Gl X x) (tk : Takes X W) (ha : PA X (e :: es) t)
    (hdb : (x == ("__debug__" : Str)) = false := by decide) (he : starEach (e :: es) X.env = (false, eval e X.env) :: starEach es X.env := by rfl)
    (hpl : (backTo pos (starEach es X.env)).any (·.1) = false := by rfl) : PE X (.Call (.Name x p) (e :: es) [] pos) (tMakeX C sp W t) := by
  obtain ⟨f, fd, ps, M, F, hm, hb⟩ := c.ex
  refine ⟨fun pn s₀ σ₀ H₀ Q₀ I₀ q₀ => ?_⟩
  refine wpAny_Call_Name_kw (ld_glob I₀ hg hm ?_ hdb)
  refine PySem.W.callWith_K (h₀ := X.base) I₀.ok.mod.kin M.kp (thn (ha.run pos pn s₀ σ₀ H₀ _ I₀ q₀) fun us s₁ ⟨vs, H₁, I₁, r₁, q₁⟩ => ⟨I₁.kIn, ?_⟩) he hpl
  have hq := q₁ (s₁.heap.objs.size + 1) s₁.heap.objs.size (I₁.hok.fresh (Nat.le_succ _)) (I₁.hok.fresh (Nat.le_refl _)) (Nat.ne_of_lt (Nat.lt_succ_self _))
  have I₂ := Inv.made (C := C) I₁
  have r₂ : Vals (V.ref (s₁.heap.objs.size + 1) :: vs) (Value.ref (s₁.heap.objs.size + 1) :: us) := .cons rfl r₁
  have hl : (Value.ref (s₁.heap.objs.size + 1) :: us).length = ps.length := by rw [← r₂.length]; exact F.len _ _ _ _ hq
  have b := hb { s₁ with heap := (s₁.heap.push PySem.W.emptyDict).push (PySem.W.instObj C s₁.heap.objs.size) } (Value.ref (s₁.heap.objs.size + 1) :: us) I₂.kIn (by rw [List.append_nil]; exact hl)
  rw [List.append_nil] at b
  refine wpAny_call (make_map (f := f) I₁.kIn M.makes M.init (beq_iff_eq.mp M.fn) (codeAny_mono (F.run _ X.stack _ _ ⟨Value.ref (s₁.heap.objs.size + 1) :: us, []⟩ (Value.ref (s₁.heap.objs.size + 1) :: us) _ _ (WE W σ₀) ((hr.mono hk).make C us [])
    (I₂.env0.make C us []) b r₂ hq) fun r s' hq' => ?_))
  cases r with
  | error e => exact passAt tk σ₀ pn _ _ e s' I₂ hq'
  | ok fl =>
    cases fl with
    | ret u =>
      obtain ⟨v, H', I₃, rv, ev, q₃⟩ := I₂.after hq'
      subst ev
      exact ⟨rv, ⟨V.ref (s₁.heap.objs.size + 1), H', I₃, rfl, q₃⟩⟩
    | next => exact False.elim hq'
    | brk => exact False.elim hq'
    | cont => exact False.elim hq'
end

abbrev wOut (E : XK) : WX := fun cls d _ H => E cls d H

/-! ### readings, one step each -/
section
variable {K : PySem.W.Frag} {σ : L2.St} {H H1 : Hp} {Q : VK} {QT : Bool → Hp → Prop} {QA : List V → Hp → Prop} {D : Ends} {ta tb te tv : TE} {tt tu : TT} {t u : TS} {tr : TA} {g : TG} {gs : TGs} {r : R2} {v x y z : V} {i j : Int} {n : Nat} {a b p : Addr} {xs ys : List V} {f : Str} {W : WX} {sp : Sp}
theorem w_seq (h : t { D with nx := u D } σ H) : tSeq t u D σ H := h
theorem w_asg (h : te σ H fun x H1 => g x σ H1 D.nx) : tAsg te g D σ H := h
theorem w_name {R : L2.St → Hp → Prop} (h : R (σ.set n (some v)) H) : gName n v σ H R := h
theorem w_ret (h : te σ H D.rt) : tRet te D σ H := h
theorem w_retN (h : D.rt .non H) : tRetN D σ H := h
theorem w_drop (h : te σ H fun _ H1 => D.nx σ H1) : tDrop te D σ H := h
theorem w_next (h : D.nx σ H) : tNext D σ H := h
theorem w_brk (h : D.bk σ H) : tBreak D σ H := h
theorem w_cont (h : D.ct σ H) : tCont D σ H := h
theorem w_if (h : tt σ H fun b H1 => if b = true then t D σ H1 else u D σ H1) : tIfS tt t u D σ H := h
theorem w_ite {c : Prop} [Decidable c] {A B : Prop} (h1 : c → A) (h2 : ¬ c → B) : if decide c = true then A else B := by
  by_cases q : c
  · rw [if_pos (decide_eq_true q)]; exact h1 q
  · rw [if_neg (by rw [decide_eq_false q]; exact Bool.false_ne_true)]; exact h2 q
theorem w_iteN {c : Prop} [Decidable c] {A B : Prop} (h1 : ¬ c → A) (h2 : c → B) : if (!decide c) = true then A else B := by
  by_cases q : c
  · rw [if_neg (by rw [decide_eq_true q]; exact Bool.false_ne_true)]; exact h2 q
  · rw [if_pos (by rw [decide_eq_false q]; rfl)]; exact h1 q
theorem w_iteT {b : Bool} {A B : Prop} (e : b = true) (h : A) : if b = true then A else B := by rw [if_pos e]; exact h
theorem w_iteF {b : Bool} {A B : Prop} (e : b = false) (h : B) : if b = true then A else B := by rw [if_neg (by rw [e]; exact Bool.false_ne_true)]; exact h
theorem w_iteB {b : Bool} {A B : Prop} (h1 : b = true → A) (h2 : b = false → B) : if b = true then A else B := by cases b with | true => exact h1 rfl | false => exact h2 rfl
theorem w_var (e : σ[n]? = some (some v)) (h : Q v H) : tVar n σ H Q := ⟨v, e, h⟩
theorem w_c (h : Q v H) : tC v σ H Q := h
theorem w_op (h : ta σ H fun x H1 => tb σ H1 fun y H2 => r x y H2 Q) : tOp r ta tb σ H Q := h
theorem w_un {q : V → Hp → VK → Prop} (h : ta σ H fun x H1 => q x H1 Q) : tUn q ta σ H Q := h
theorem w_I0 {gi : Int → Int → V} (h : Q (gi i j) H) : rI0 gi (.int i) (.int j) H Q := ⟨i, j, rfl, rfl, h⟩
theorem w_I {C : Int → Int → Prop} {gi : Int → Int → V} (c : C i j) (h : Q (gi i j) H) : rI C gi (.int i) (.int j) H Q := ⟨i, j, rfl, rfl, c, h⟩
theorem w_U {gi : Int → V} (h : Q (gi i) H) : rU gi (.int i) H Q := ⟨i, rfl, h⟩
theorem w_plusI (h : Q (.int (i + j)) H) : rPlus K (.int i) (.int j) H Q := Or.inl ⟨i, j, rfl, rfl, h⟩
theorem w_plusL (ha : H a = some (.lst xs)) (hb : H b = some (.lst ys)) (hl : xs.length + ys.length ≤ sizeLine) (h : ∀ p, H p = none → Q (.ref p) (upd H p (.lst (xs ++ ys)))) : rPlus K (.ref a) (.ref b) H Q := Or.inr (Or.inl ⟨a, b, xs, ys, rfl, rfl, ha, hb, hl, h⟩)
theorem w_plusS {s z : Str} (hl : s.length + z.length ≤ sizeLine) (h : Q (.str (s ++ z)) H) : rPlus K (.str s) (.str z) H Q := Or.inr (Or.inr (Or.inl ⟨s, z, rfl, rfl, hl, h⟩))
theorem w_timesI (c : CMul i j) (h : Q (.int (i * j)) H) : rTimes (.int i) (.int j) H Q := Or.inl ⟨i, j, rfl, rfl, c, h⟩
theorem w_timesL (ha : H a = some (.lst xs)) (h1 : -(2 ^ 63) ≤ i) (h2 : i < 2 ^ 63) (hl : xs.length * i.toNat ≤ sizeLine) (h : ∀ p, H p = none → Q (.ref p) (upd H p (.lst (List.replicate i.toNat xs).flatten))) : rTimes (.ref a) (.int i) H Q := Or.inr ⟨a, i, xs, rfl, rfl, ha, h1, h2, hl, h⟩
theorem w_test (h : te σ H fun x H' => ∃ k, x = .bl k ∧ QT k H') : tTest te σ H QT := h
theorem w_tB (h : te σ H fun x H' => ∃ k, x = .bl k ∧ QT k H') : tB te σ H QT := h
theorem w_bl {k : Bool} {R : Bool → Prop} (h : R k) : ∃ k', V.bl k = .bl k' ∧ R k' := ⟨k, rfl, h⟩
theorem w_tru (h : te σ H fun x H' => ∃ k, TruV K x H' k ∧ QT k H') : tTru K te σ H QT := h
theorem w_truB {k : Bool} {R : Bool → Prop} (h : R k) : ∃ k', TruV K (.bl k) H k' ∧ R k' := ⟨k, rfl, h⟩
theorem w_truI {R : Bool → Prop} (h : R (i != 0)) : ∃ k', TruV K (.int i) H k' ∧ R k' := ⟨_, rfl, h⟩
theorem w_truL {R : Bool → Prop} (e : SqL K H a xs) (h : R (!xs.isEmpty)) : ∃ k', TruV K (.ref a) H k' ∧ R k' := ⟨_, Or.inl ⟨xs, e, rfl⟩, h⟩
theorem w_truT {R : Bool → Prop} (e : SqT K H a xs) (h : R (!xs.isEmpty)) : ∃ k', TruV K (.ref a) H k' ∧ R k' := ⟨_, Or.inr (Or.inl ⟨xs, e, rfl⟩), h⟩
theorem w_and (h : tt σ H fun c H1 => if c = true then tu σ H1 QT else QT false H1) : tAnd tt tu σ H QT := h
theorem w_or (h : tt σ H fun c H1 => if c = true then QT true H1 else tu σ H1 QT) : tOr tt tu σ H QT := h
theorem w_not (h : tt σ H fun c H1 => QT (!c) H1) : tNot tt σ H QT := h
theorem w_andV (h : ta σ H fun x H1 => ∃ c, x = .bl c ∧ if c = true then tb σ H1 Q else Q (.bl false) H1) : tAndV ta tb σ H Q := h
theorem w_orV (h : ta σ H fun x H1 => ∃ c, x = .bl c ∧ if c = true then Q (.bl true) H1 else tb σ H1 Q) : tOrV ta tb σ H Q := h
theorem w_notV (h : ta σ H fun x H1 => ∃ c, x = .bl c ∧ Q (.bl (!c)) H1) : tNotV ta σ H Q := h
theorem w_ifx (h : tt σ H fun c H1 => if c = true then ta σ H1 Q else tb σ H1 Q) : tIf tt ta tb σ H Q := h
theorem w_eq (s : scal x y = true) (h : Q (.bl (decide (x = y))) H) : rEqX K x y H Q := Or.inl ⟨s, h⟩
theorem w_ne (s : scal x y = true) (h : Q (.bl (!decide (x = y))) H) : rNeX K x y H Q := Or.inl ⟨s, h⟩
theorem w_eqI (h : Q (.bl (decide (i = j))) H) : rEqX K (.int i) (.int j) H Q := w_eq rfl (by
  have e : decide (V.int i = V.int j) = decide (i = j) := by
    by_cases q : i = j
    · subst q; rw [decide_eq_true rfl, decide_eq_true rfl]
    · rw [decide_eq_false q, decide_eq_false (fun z => q (V.int.inj z))]
  rw [e]; exact h)
theorem w_neI (h : Q (.bl (!decide (i = j))) H) : rNeX K (.int i) (.int j) H Q := w_ne rfl (by
  have e : decide (V.int i = V.int j) = decide (i = j) := by
    by_cases q : i = j
    · subst q; rw [decide_eq_true rfl, decide_eq_true rfl]
    · rw [decide_eq_false q, decide_eq_false (fun z => q (V.int.inj z))]
  rw [e]; exact h)
theorem w_eqS {s z : Str} (h : Q (.bl (decide (s = z))) H) : rEqX K (.str s) (.str z) H Q := w_eq rfl (by
  have e : decide (V.str s = V.str z) = decide (s = z) := by
    by_cases q : s = z
    · subst q; rw [decide_eq_true rfl, decide_eq_true rfl]
    · rw [decide_eq_false q, decide_eq_false (fun w => q (V.str.inj w))]
  rw [e]; exact h)
theorem w_neS {s z : Str} (h : Q (.bl (!decide (s = z))) H) : rNeX K (.str s) (.str z) H Q := w_ne rfl (by
  have e : decide (V.str s = V.str z) = decide (s = z) := by
    by_cases q : s = z
    · subst q; rw [decide_eq_true rfl, decide_eq_true rfl]
    · rw [decide_eq_false q, decide_eq_false (fun w => q (V.str.inj w))]
  rw [e]; exact h)
theorem w_eqB {s z : Bool} (h : Q (.bl (decide (s = z))) H) : rEqX K (.bl s) (.bl z) H Q := w_eq rfl (by
  have e : decide (V.bl s = V.bl z) = decide (s = z) := by cases s <;> cases z <;> rfl
  rw [e]; exact h)
theorem w_neB {s z : Bool} (h : Q (.bl (!decide (s = z))) H) : rNeX K (.bl s) (.bl z) H Q := w_ne rfl (by
  have e : decide (V.bl s = V.bl z) = decide (s = z) := by cases s <;> cases z <;> rfl
  rw [e]; exact h)
theorem w_eqD {d e : PyData} (hd : Dp K H x d) (he : Dp K H y e) (s1 : SeqAt.shaped d = true) (s2 : SeqAt.shaped e = true) (h : Q (.bl (PyData.eqv d e)) H) : rEqX K x y H Q := Or.inr ⟨d, e, hd, he, s1, s2, h⟩
theorem w_neD {d e : PyData} (hd : Dp K H x d) (he : Dp K H y e) (s1 : SeqAt.shaped d = true) (s2 : SeqAt.shaped e = true) (h : Q (.bl (!PyData.eqv d e)) H) : rNeX K x y H Q := Or.inr ⟨d, e, hd, he, s1, s2, h⟩
theorem w_isN (h : Q (.bl (decide (x = .non))) H) : rIsNon x .non H Q := ⟨rfl, h⟩
theorem w_notN (h : Q (.bl (!decide (x = .non))) H) : rNotNon x .non H Q := ⟨rfl, h⟩
theorem w_inL (e : SqL K H a xs) (fx : flatV x = true) (fa : xs.all flatV = true) (h : Q (.bl (inV x xs)) H) : rInX K x (.ref a) H Q := Or.inl ⟨a, xs, rfl, Or.inl e, fx, fa, h⟩
theorem w_inT (e : SqT K H a xs) (fx : flatV x = true) (fa : xs.all flatV = true) (h : Q (.bl (inV x xs)) H) : rInX K x (.ref a) H Q := Or.inl ⟨a, xs, rfl, Or.inr e, fx, fa, h⟩
theorem w_ninL (e : SqL K H a xs) (fx : flatV x = true) (fa : xs.all flatV = true) (h : Q (.bl (!inV x xs)) H) : rNinX K x (.ref a) H Q := Or.inl ⟨a, xs, rfl, Or.inl e, fx, fa, h⟩
theorem w_ninT (e : SqT K H a xs) (fx : flatV x = true) (fa : xs.all flatV = true) (h : Q (.bl (!inV x xs)) H) : rNinX K x (.ref a) H Q := Or.inl ⟨a, xs, rfl, Or.inr e, fx, fa, h⟩
theorem w_ixL (e : SqL K H a xs) (q : atI xs i = some v) (h : Q v H) : rIx K (.ref a) (.int i) H Q := Or.inl ⟨a, xs, i, v, rfl, rfl, e, q, h⟩
theorem w_ixT (e : SqT K H a xs) (q : atI xs i = some v) (h : Q v H) : rIx K (.ref a) (.int i) H Q := Or.inr (Or.inl ⟨a, xs, i, v, rfl, rfl, e, q, h⟩)
theorem w_nil (h : QA [] H) : tNil σ H QA := h
theorem w_cons (h : ta σ H fun x H1 => tr σ H1 fun xs H2 => QA (x :: xs) H2) : tCons ta tr σ H QA := h
theorem w_tup (h : tr σ H fun xs H1 => xs.length ≤ sizeLine ∧ ∀ p, H1 p = none → Q (.ref p) (upd H1 p (.tup xs))) : tTup tr σ H Q := h
theorem w_lst (h : tr σ H fun xs H1 => xs.length ≤ sizeLine ∧ ∀ p, H1 p = none → Q (.ref p) (upd H1 p (.lst xs))) : tLst tr σ H Q := h
theorem w_cb {q : List V → Hp → VK → Prop} (h : tr σ H fun vs H1 => q vs H1 Q) : tCB q tr σ H Q := h
theorem w_lenL (e : SqL K H a xs) (h : Q (.int xs.length) H) : rLenX K [.ref a] H Q := ⟨_, _, rfl, Or.inl ⟨xs, e, rfl⟩, h⟩
theorem w_lenT (e : SqT K H a xs) (h : Q (.int xs.length) H) : rLenX K [.ref a] H Q := ⟨_, _, rfl, Or.inr ⟨xs, e, rfl⟩, h⟩
theorem w_lenS {s : Str} (e : s.length ≤ sizeLine) (h : Q (.int (s.length : Nat)) H) : rLenX K [.str s] H Q := ⟨_, _, rfl, ⟨e, rfl⟩, h⟩
theorem w_max2 (h : Q (.int (max i j)) H) : rMaxX K [.int i, .int j] H Q := Or.inl ⟨i, j, rfl, by
  have e : (if j > i then j else i) = max i j := by rw [Int.max_def]; split <;> split <;> omega
  rw [e]; exact h⟩
theorem w_min2 (h : Q (.int (min i j)) H) : rMinX K [.int i, .int j] H Q := Or.inl ⟨i, j, rfl, by
  have e : (if j < i then j else i) = min i j := by rw [Int.min_def]; split <;> split <;> omega
  rw [e]; exact h⟩
theorem w_maxL {ns : List Int} (e : SqL K H a (ns.map V.int)) (q : 0 < ns.length) (h : ∀ m, m ∈ ns → (∀ y, y ∈ ns → y ≤ m) → Q (.int m) H) : rMaxX K [.ref a] H Q := Or.inr ⟨a, ns, rfl, e, q, h⟩
theorem w_minL {ns : List Int} (e : SqL K H a (ns.map V.int)) (q : 0 < ns.length) (h : ∀ m, m ∈ ns → (∀ y, y ∈ ns → m ≤ y) → Q (.int m) H) : rMinX K [.ref a] H Q := Or.inr ⟨a, ns, rfl, e, q, h⟩
theorem w_intI (h : Q (.int i) H) : rIntX [.int i] H Q := Or.inl ⟨i, rfl, h⟩
theorem w_intB {k : Bool} (h : Q (.int (if k then 1 else 0)) H) : rIntX [.bl k] H Q := Or.inr ⟨k, rfl, h⟩
theorem w_tupL (e : SqL K H a xs) (h : ∀ p, H p = none → Q (.ref p) (upd H p (.tup xs))) : rTupX K [.ref a] H Q := ⟨a, xs, rfl, Or.inl ⟨e, h⟩⟩
theorem w_tupT (e : SqT K H a xs) (h : Q (.ref a) H) : rTupX K [.ref a] H Q := ⟨a, xs, rfl, Or.inr ⟨e, h⟩⟩
theorem w_lisL (e : SqL K H a xs) (h : ∀ p, H p = none → Q (.ref p) (upd H p (.lst xs))) : rLisX K [.ref a] H Q := ⟨a, xs, rfl, Or.inl e, h⟩
theorem w_lisT (e : SqT K H a xs) (h : ∀ p, H p = none → Q (.ref p) (upd H p (.lst xs))) : rLisX K [.ref a] H Q := ⟨a, xs, rfl, Or.inr e, h⟩
theorem w_isi {c : V} {cu ty : Value} {k : Bool} (hc : ClsV c cu) (ht : TyX K H x ty) (hk : PySem.W.kitOne K ty cu = some k) (h : Q (.bl k) H) : rIsi K [x, c] H Q := ⟨x, c, ty, cu, k, rfl, hc, ht, hk, h⟩
def kFld (K : PySem.W.Frag) (f : Str) (x : V) (H1 : Hp) (Q : VK) : Prop := ∃ a C dx fs v, x = .ref a ∧ H1 a = some (.ins C dx fs) ∧ Cls K C ∧ NoAttr K C f ∧ fs.lookup f = some v ∧ Q v H1
theorem w_fldE (h : ta σ H fun x H1 => kFld K f x H1 Q) : tFld K ta f σ H Q := h
theorem w_fldK {C dx : Addr} {fs : List (Str × V)} (e : H a = some (.ins C dx fs)) (c : Cls K C) (nn : NoAttr K C f) (l : fs.lookup f = some v) (h : Q v H) : kFld K f (.ref a) H Q := ⟨a, C, dx, fs, v, rfl, e, c, nn, l, h⟩
def kSFld (K : PySem.W.Frag) (f : Str) (y : V) (x : V) (H2 : Hp) (R : Hp → Prop) : Prop := ∃ a C dx fs, x = .ref a ∧ H2 a = some (.ins C dx fs) ∧ Cls K C ∧ NoAttr K C f ∧ fs.length < 1000 ∧ R (upd H2 a (.ins C dx (putF f y fs)))
theorem w_sfld (h : tv σ H fun y H1 => ta σ H1 fun x H2 => kSFld K f y x H2 (D.nx σ)) : sFld K ta tv f D σ H := h
theorem w_sfldK {C dx : Addr} {fs : List (Str × V)} {R : Hp → Prop} (e : H a = some (.ins C dx fs)) (c : Cls K C) (nn : NoAttr K C f) (l : fs.length < 1000) (h : R (upd H a (.ins C dx (putF f y fs)))) : kSFld K f y (.ref a) H R := ⟨a, C, dx, fs, rfl, e, c, nn, l, h⟩
theorem w_call (h : tr σ H fun vs H1 => sp vs H1 Q (WE W σ)) : tCallX sp W tr σ H Q := h
def kMeth (C : Addr) (m : Str) (x : V) (H1 : Hp) (R : Prop) : Prop := ∃ a dx fs, x = .ref a ∧ H1 a = some (.ins C dx fs) ∧ fs.lookup m = none ∧ R
theorem w_meth {C : Addr} {m : Str} (h : ta σ H fun x H1 => kMeth C m x H1 (tr σ H1 fun vs H2 => sp (x :: vs) H2 Q (WE W σ))) : tMethX C m sp W ta tr σ H Q := h
theorem w_methK {C dx : Addr} {m : Str} {fs : List (Str × V)} {R : Prop} (e : H a = some (.ins C dx fs)) (l : fs.lookup m = none) (h : R) : kMeth C m (.ref a) H R := ⟨a, dx, fs, rfl, e, l, h⟩
theorem w_make {C : Addr} (h : tr σ H fun vs H1 => ∀ x dx, H1 x = none → H1 dx = none → dx ≠ x → sp (.ref x :: vs) (upd (upd H1 dx (.own x)) x (.ins C dx [])) (fun v H2 => v = .non ∧ Q (.ref x) H2) (WE W σ)) : tMakeX C sp W tr σ H Q := h
theorem w_gtup {R : L2.St → Hp → Prop} (e : SqT K H a xs) (l : xs.length = n) (h : gs xs σ H R) : gTup K n gs (.ref a) σ H R := ⟨a, xs, rfl, e, l, h⟩
theorem w_gnil {R : L2.St → Hp → Prop} (h : R σ H) : gNil [] σ H R := ⟨rfl, h⟩
theorem w_gcons {R : L2.St → Hp → Prop} (h : g v σ H fun σ' H' => gs xs σ' H' R) : gCons g gs (v :: xs) σ H R := ⟨v, xs, rfl, h⟩
theorem w_gsub {ts : TSet} {R : L2.St → Hp → Prop} (h : ta σ H fun o H1 => tb σ H1 fun i H2 => ts o i v H2 fun H3 => R σ H3) : gSub ta tb ts v σ H R := h
theorem w_setL {R : Hp → Prop} {m : Nat} (e : H a = some (.lst xs)) (q : ixN xs.length i = some m) (h : R (upd H a (.lst (xs.set m v)))) : rSetL (.ref a) (.int i) v H R := ⟨a, xs, i, m, rfl, rfl, e, q, h⟩
/-! dicts -/
def kDGet (x y : V) (H : Hp) (Q : VK) : Prop := ∃ a v, x = .ref a ∧ DGet H a y (some v) ∧ Q v H
theorem w_dget (h : ta σ H fun x H1 => tb σ H1 fun y H2 => kDGet x y H2 Q) : tDGet ta tb σ H Q := h
theorem w_dgetS {kvs : List (Key × V)} {s : Str} (e : H a = some (.dK kvs)) (q : valV kvs (Sum.inr s) = some v) (h : Q v H) : kDGet (.ref a) (.str s) H Q := ⟨a, v, rfl, q ▸ DGet.k (k := Sum.inr s) e, h⟩
theorem w_dgetI {kvs : List (Key × V)} (e : H a = some (.dK kvs)) (q : valV kvs (Sum.inl i) = some v) (h : Q v H) : kDGet (.ref a) (.int i) H Q := ⟨a, v, rfl, q ▸ DGet.k (k := Sum.inl i) e, h⟩
def kDPut (v x y : V) (H : Hp) (R : Hp → Prop) : Prop := ∃ a H4, x = .ref a ∧ DPut H a y v H4 ∧ R H4
theorem w_dput (h : tv σ H fun v H1 => ta σ H1 fun x H2 => tb σ H2 fun y H3 => kDPut v x y H3 (D.nx σ)) : sDPut ta tb tv D σ H := h
theorem w_dputS {R : Hp → Prop} {kvs : List (Key × V)} {s : Str} (e : H a = some (.dK kvs)) (l : kvs.length < sizeLine) (h : R (upd H a (.dK (putK kvs (Sum.inr s) v)))) : kDPut v (.ref a) (.str s) H R := ⟨a, _, rfl, DPut.k (k := Sum.inr s) e l, h⟩
theorem w_dputI {R : Hp → Prop} {kvs : List (Key × V)} (e : H a = some (.dK kvs)) (l : kvs.length < sizeLine) (h : R (upd H a (.dK (putK kvs (Sum.inl i) v)))) : kDPut v (.ref a) (.int i) H R := ⟨a, _, rfl, DPut.k (k := Sum.inl i) e l, h⟩
/-! methods of built-in values -/
theorem w_bm {T : String} {q : V → List V → Hp → VK → Prop} (h : ta σ H fun x H1 => tyV K T x H1 ∧ tr σ H1 fun xs H2 => q x xs H2 Q) : tBM K T q ta tr σ H Q := h
theorem w_bm0 {T : String} {q : V → List V → Hp → VK → Prop} (h : ta σ H fun x H1 => tyV K T x H1 ∧ q x [] H1 Q) : tBM0 K T q ta σ H Q := h
theorem w_app (e : H a = some (.lst xs)) (l : xs.length < sizeLine) (h : Q .non (upd H a (.lst (xs ++ [v])))) : rAppend (.ref a) [v] H Q := ⟨a, xs, v, rfl, rfl, e, l, h⟩
theorem w_clear (e : H a = some (.lst xs)) (h : Q .non (upd H a (.lst []))) : rClear (.ref a) [] H Q := ⟨a, xs, rfl, rfl, e, h⟩
theorem tyL (e : H a = some (.lst xs)) : tyV K "list" (.ref a) H := Or.inl ⟨rfl, xs, SqL.of e⟩
/-! loops -/
def kForL (K : PySem.W.Frag) (g : TG) (t : TS) (D : Ends) (σ : L2.St) (x : V) (H1 : Hp) : Prop := ∃ a, x = .ref a ∧ (∃ xs, SqL K H1 a xs) ∧ ∃ W : Nat → Nat → L2.St → Hp → Prop, (∃ m, W 0 m σ H1) ∧ ∀ i m σ H, W i m σ H →
      ((Itl K a).stop i H ∧ D.nx σ H) ∨ ((Itl K a).go i H ∧ ∃ N : L2.St → Hp → Prop, (∀ σ' H', N σ' H' → ∃ m', m' < m ∧ W (i + 1) m' σ' H') ∧ ∀ x H', (Itl K a).yld i H x H' → g x σ H' fun σ2 H2 => t { D with nx := N, ct := N, bk := D.nx } σ2 H2)
theorem w_forList (h : te σ H fun x H1 => kForL K g t D σ x H1) : tFor (iList K te) g t D σ H := h
theorem l_forList (e : SqL K H a xs) (Pv : Nat → L2.St → Hp → Prop) (h0 : Pv 0 σ H) (hl : ∀ i σ' H', i ≤ xs.length → Pv i σ' H' → SqL K H' a xs)
    (hs : ∀ i x σ' H', xs[i]? = some x → Pv i σ' H' → g x σ' H' fun σ2 H2 => t { D with nx := Pv (i + 1), ct := Pv (i + 1), bk := D.nx } σ2 H2) (hd : ∀ σ' H', Pv xs.length σ' H' → D.nx σ' H') : kForL K g t D σ (.ref a) H :=
  ⟨a, rfl, ⟨xs, e⟩, for_list Pv h0 hl hs hd⟩
def kForR1 (g : TG) (t : TS) (D : Ends) (σ : L2.St) (vs : List V) (H1 : Hp) : Prop := ∃ j : Int, vs = [.int j] ∧ -(2 ^ 62) ≤ j ∧ j < 2 ^ 62 ∧ ∃ W : Nat → Nat → L2.St → Hp → Prop, (∃ m, W 0 m σ H1) ∧ ∀ i m σ H, W i m σ H →
  ((Itr 0 j.toNat).stop i H ∧ D.nx σ H) ∨ ((Itr 0 j.toNat).go i H ∧ ∃ N : L2.St → Hp → Prop, (∀ σ' H', N σ' H' → ∃ m', m' < m ∧ W (i + 1) m' σ' H') ∧ ∀ x H', (Itr 0 j.toNat).yld i H x H' → g x σ H' fun σ2 H2 => t { D with nx := N, ct := N, bk := D.nx } σ2 H2)
theorem w_forR1 (h : tr σ H fun vs H1 => kForR1 g t D σ vs H1) : tFor (iRng1 tr) g t D σ H := h
theorem l_forR1 (lo : -(2 ^ 62) ≤ j) (hi : j < 2 ^ 62) (Pv : Nat → L2.St → Hp → Prop) (h0 : Pv 0 σ H)
    (hs : ∀ i σ' H', i < j.toNat → Pv i σ' H' → g (.int i) σ' H' fun σ2 H2 => t { D with nx := Pv (i + 1), ct := Pv (i + 1), bk := D.nx } σ2 H2) (hd : ∀ σ' H', Pv j.toNat σ' H' → D.nx σ' H') : kForR1 g t D σ [.int j] H :=
  ⟨j, rfl, lo, hi, for_range Pv h0 (fun i σ' H' hi q => by rw [Int.zero_add]; exact hs i σ' H' hi q) hd⟩
def kForR2 (g : TG) (t : TS) (D : Ends) (σ : L2.St) (vs : List V) (H1 : Hp) : Prop := ∃ i j : Int, vs = [.int i, .int j] ∧ (-(2 ^ 62) ≤ i ∧ i < 2 ^ 62 ∧ -(2 ^ 62) ≤ j ∧ j < 2 ^ 62) ∧ ∃ W : Nat → Nat → L2.St → Hp → Prop, (∃ m, W 0 m σ H1) ∧ ∀ k m σ H, W k m σ H →
  ((Itr i (j - i).toNat).stop k H ∧ D.nx σ H) ∨ ((Itr i (j - i).toNat).go k H ∧ ∃ N : L2.St → Hp → Prop, (∀ σ' H', N σ' H' → ∃ m', m' < m ∧ W (k + 1) m' σ' H') ∧ ∀ x H', (Itr i (j - i).toNat).yld k H x H' → g x σ H' fun σ2 H2 => t { D with nx := N, ct := N, bk := D.nx } σ2 H2)
theorem w_forR2 (h : tr σ H fun vs H1 => kForR2 g t D σ vs H1) : tFor (iRng2 tr) g t D σ H := h
theorem l_forR2 (b : -(2 ^ 62) ≤ i ∧ i < 2 ^ 62 ∧ -(2 ^ 62) ≤ j ∧ j < 2 ^ 62) (Pv : Nat → L2.St → Hp → Prop) (h0 : Pv 0 σ H)
    (hs : ∀ k σ' H', k < (j - i).toNat → Pv k σ' H' → g (.int (i + k)) σ' H' fun σ2 H2 => t { D with nx := Pv (k + 1), ct := Pv (k + 1), bk := D.nx } σ2 H2) (hd : ∀ σ' H', Pv (j - i).toNat σ' H' → D.nx σ' H') : kForR2 g t D σ [.int i, .int j] H :=
  ⟨i, j, rfl, b, for_range Pv h0 hs hd⟩
end
theorem sz_of {n : Nat} (h : Nat.ble n sizeLine = true) : n ≤ sizeLine := Nat.le_of_ble_eq_true h
theorem sz_lt {n : Nat} (h : Nat.ble (n + 1) sizeLine = true) : n < sizeLine := Nat.le_of_ble_eq_true h
theorem look_hd {k : Str} {v : V} {l : List (Str × V)} : List.lookup k ((k, v) :: l) = some v := by simp [List.lookup]
theorem look_tl {k j : Str} {v : V} {l : List (Str × V)} (h : (k == j) = false) : List.lookup k ((j, v) :: l) = List.lookup k l := by simp [List.lookup, h]
theorem look_nil {k : Str} : List.lookup k ([] : List (Str × V)) = none := rfl
theorem putF_hd {k : Str} {v x : V} {l : List (Str × V)} : putF k v ((k, x) :: l) = (k, v) :: l := by simp [putF]
theorem putF_tl {k j : Str} {v x : V} {l : List (Str × V)} (h : ¬ j = k) : putF k v ((j, x) :: l) = (j, x) :: putF k v l := by simp [putF, h]
theorem putF_nil {k : Str} {v : V} : putF k v [] = [(k, v)] := rfl
section
variable {κ : Type} [DecidableEq κ] {k j : κ} {v x : V} {l : List (κ × V)}
theorem val_hd : valV ((k, v) :: l) k = some v := by simp [valV]
theorem val_tl (h : ¬ j = k) : valV ((j, x) :: l) k = valV l k := by simp [valV, h]
theorem val_nil : valV ([] : List (κ × V)) k = none := rfl
end
/-! ### all but tables are as in H0 -/
abbrev Ext0 (H0 H : Hp) : Prop := LamX.ExtN H0 H
section
variable {K : PySem.W.Frag} {H0 H H1 : Hp} {a p : Addr} {xs : List V} {o : HO} {S : List Addr}
theorem Ext0.refl : Ext0 H H := LamX.ExtN.refl H
theorem Ext0.seqL (h : SqL K H0 a xs) (e : Ext0 H0 H) : SqL K H a xs := by
  rcases h with h | h
  · rcases h with h | ⟨o, h⟩
    · exact Or.inl (Or.inl (e _ _ h (fun _ z => by cases z)))
    · exact Or.inl (Or.inr ⟨o, e _ _ h (fun _ z => by cases z)⟩)
  · exact Or.inr h
theorem Ext0.seqT (h : SqT K H0 a xs) (e : Ext0 H0 H) : SqT K H a xs := by
  rcases h with h | h
  · rcases h with h | ⟨o, h⟩
    · exact Or.inl (Or.inl (e _ _ h (fun _ z => by cases z)))
    · exact Or.inl (Or.inr ⟨o, e _ _ h (fun _ z => by cases z)⟩)
  · exact Or.inr h
theorem Ext0.keep (e : Ext0 H0 H) (k : Keep S H H1) (n : ∀ b, b ∈ S → H0 b = none) : Ext0 H0 H1 := fun b o h nt =>
  k.1 b o (fun m => by rw [n b m] at h; cases h) (e b o h nt)
theorem Ext0.kept (k : Keep S H H1) (e : Ext0 H0 H) (n : ∀ b, b ∈ S → H0 b = none) : Ext0 H0 H1 := e.keep k n
theorem Ext0.set (e : Ext0 H0 H) (n : H0 p = none) : Ext0 H0 (upd H p o) := fun b u h nt => by
  rw [upd_ne (ne_of_none h n)]
  exact e b u h nt
theorem Ext0.new (e : Ext0 H0 H) (n : H p = none) : Ext0 H0 (upd H p o) := fun b u h nt => by
  rw [upd_ne (ne_of_none (e b u h nt) n)]
  exact e b u h nt
/-- fresh behind is fresh ahead, but for tables -/
theorem Ext0.at (e : Ext0 H0 H) (h : H0 a = some o) (nt : ∀ ps, o ≠ .tbl ps) : H a = some o := e a o h nt
theorem none_in {b : Addr} (h : ∀ c, c ∈ S → H0 c = none) (n : H0 b = none) : ∀ c, c ∈ b :: S → H0 c = none := fun c m => by
  rcases List.mem_cons.mp m with z | z
  · rw [z]; exact n
  · exact h c z
theorem none_nil : ∀ c, c ∈ ([] : List Addr) → H0 c = none := fun _ m => absurd m List.not_mem_nil
end
/-! ### the dice -/
structure Dice (K : PySem.W.Frag) (H0 H : Hp) (d : Addr) : Prop where
  at_ : ∃ (a : Addr) (ns : List Int) (i m r : Int), H d = some (.lst [.ref a, .int i, .int m, .int r]) ∧ SqL K H0 a (ns.map V.int) ∧ ns.length ≤ 63 ∧ 0 ≤ i
  new : H0 d = none
  ext : Ext0 H0 H
theorem Dice.keep {K : PySem.W.Frag} {H0 H H1 : Hp} {d : Addr} {S : List Addr} (x : Dice K H0 H d) (k : Keep S H H1) (nd : d ∉ S) (n : ∀ b, b ∈ S → H0 b = none) : Dice K H0 H1 d := by
  obtain ⟨⟨a, ns, i, m, r, h1, h2⟩, h3, h4⟩ := x
  exact ⟨⟨a, ns, i, m, r, k.1 _ _ nd h1, h2⟩, h3, h4.keep k n⟩
theorem Dice.lst {K : PySem.W.Frag} {H0 H : Hp} {d : Addr} (x : Dice K H0 H d) : ∃ xs, H d = some (.lst xs) := by
  obtain ⟨⟨a, ns, i, m, r, h1, h2⟩, h3, h4⟩ := x
  exact ⟨_, h1⟩
def spNext (K : PySem.W.Frag) : Sp := fun vs H Q _ => ∃ (H0 : Hp) (d : Addr) (n : Int), vs = [.ref d, .int n] ∧ 0 < n ∧ n < 1073741824 ∧ Dice K H0 H d ∧
  ∀ r H', 0 ≤ r → r < n → Dice K H0 H' d → Keep [d] H H' → Q (.int r) H'
def spDice (K : PySem.W.Frag) : Sp := fun vs H Q _ => ∃ (a : Addr) (ns : List Int), vs = [.ref a] ∧ SqL K H a (ns.map V.int) ∧ ns.length ≤ 63 ∧ ∀ d H', H d = none → Dice K H H' d → Keep [] H H' → Q (.ref d) H'
theorem next_go {K : PySem.W.Frag} {H0 H : Hp} {d : Addr} {n : Int} {Q : VK} {E : XK} (x : Dice K H0 H d) (h0 : 0 < n) (h1 : n < 1073741824) (h : ∀ r H' xs, 0 ≤ r → r < n → Dice K H0 H' d → H' d = some (.lst xs) → Keep [d] H H' → Q (.int r) H') : spNext K [.ref d, .int n] H Q E :=
  ⟨H0, d, n, rfl, h0, h1, x, fun r H' a b c k => by
    obtain ⟨xs, e⟩ := c.lst
    exact h r H' xs a b c e k⟩
theorem pickP {K : PySem.W.Frag} {H : Hp} {p : Addr} {i : Int} {xs : List V} {Q : VK} (Pr : Int → Prop) (e : SqL K H p xs) (i0 : 0 ≤ i) (i1 : i < xs.length) (hp : ∀ x, x ∈ xs → ∃ v, x = .int v ∧ Pr v) (h : ∀ v, Pr v → Q (.int v) H) : rIx K (.ref p) (.int i) H Q := by
  have hl : i.toNat < xs.length := by omega
  obtain ⟨v, ev, pv⟩ := hp _ (List.getElem_mem hl)
  have e2 : i = ((i.toNat : Nat) : Int) := by omega
  refine w_ixL e (v := .int v) ?_ (h v pv)
  rw [e2]
  refine atI_nat ?_
  rw [List.getElem?_eq_getElem hl, ev]
/-! ### settings -/
structure SetOk (m w l a : Int) : Prop where
  m0 : 2 ≤ m
  m1 : m ≤ 64
  w0 : 0 ≤ w
  w1 : w ≤ 16
  l0 : 0 ≤ l
  l1 : l ≤ 8
  a0 : 1 ≤ a
  a1 : a ≤ 16
def spSetting (K : PySem.W.Frag) : Sp := fun vs H Q _ => ∃ (H0 : Hp) (d : Addr), vs = [.ref d] ∧ Dice K H0 H d ∧
  ∀ p m w l a H', SetOk m w l a → H p = none → H' p = some (.tup [.int m, .int w, .int l, .int a]) → Dice K H0 H' d → Keep [d] H H' → Q (.ref p) H'
/-! ### _law_like: the same data -/
def Alike (K : PySem.W.Frag) (H : Hp) : Nat → V → V → Prop
  | 0, _, _ => False
  | n + 1, x, y => (∃ b, x = .bl b ∧ y = .bl b) ∨ (∃ i, x = .int i ∧ y = .int i) ∨ (∃ s, x = .str s ∧ y = .str s) ∨ (x = .non ∧ y = .non) ∨
      (∃ a b xs ys, x = .ref a ∧ y = .ref b ∧ SqT K H a xs ∧ SqT K H b ys ∧ xs.length = ys.length ∧ xs.length ≤ 16777216 ∧ ∀ (k : Nat) u v, xs[k]? = some u → ys[k]? = some v → Alike K H n u v) ∨
      (∃ a b xs ys, x = .ref a ∧ y = .ref b ∧ SqL K H a xs ∧ SqL K H b ys ∧ xs.length = ys.length ∧ xs.length ≤ 16777216 ∧ ∀ (k : Nat) u v, xs[k]? = some u → ys[k]? = some v → Alike K H n u v)
def spLike (K : PySem.W.Frag) (n : Nat) : Sp := fun vs H Q _ => ∃ x y, vs = [x, y] ∧ Alike K H n x y ∧ Q (.bl true) H
theorem like_go {K : PySem.W.Frag} {H : Hp} {n : Nat} {x y : V} {Q : VK} {E : XK} (a : Alike K H n x y) (h : Q (.bl true) H) : spLike K n [x, y] H Q E := ⟨x, y, rfl, a, h⟩
theorem tyT {K : PySem.W.Frag} {H : Hp} {a : Addr} {xs : List V} (h : SqT K H a xs) : TyX K H (.ref a) (.type "tuple") := by
  rcases h with (h | ⟨o, h⟩) | ⟨o, its, n, h, c, _⟩
  · exact .base (.tup h)
  · exact .fTuple h
  · exact .kTuple h c
theorem tyLs {K : PySem.W.Frag} {H : Hp} {a : Addr} {xs : List V} (h : SqL K H a xs) : TyX K H (.ref a) (.type "list") := by
  rcases h with (h | ⟨o, h⟩) | ⟨o, its, n, h, c, _⟩
  · exact .base (.lst h)
  · exact .base (.frz h)
  · exact .kList h c
theorem w_isiB {K : PySem.W.Frag} {H : Hp} {x : V} {t u : String} {k : Bool} {Q : VK} (ht : TyX K H x (.type t)) (hk : kitB t u = some k) (h : Q (.bl k) H) : rIsi K [x, .ty u] H Q := w_isi (.ty u) ht (kit_ty hk) h
/-! ### any sequence that is tracked -/
def seqOf : HO → Option (List V)
  | .lst xs => some xs
  | .tup xs => some xs
  | .frz _ (.lst xs) => some xs
  | .frz _ (.tup xs) => some xs
  | _ => none
section
variable {K : PySem.W.Frag} {H : Hp} {Q : VK} {a : Addr} {xs : List V} {o : HO} {i : Int} {v x : V}
theorem seqOf_sq (e : H a = some o) (q : seqOf o = some xs) : SqL K H a xs ∨ SqT K H a xs := by
  cases o with
  | lst ys => cases q; exact Or.inl (SqL.of e)
  | tup ys => cases q; exact Or.inr (SqT.of e)
  | frz ob u =>
    cases u with
    | lst ys => cases q; exact Or.inl (Or.inl (Or.inr ⟨ob, e⟩))
    | tup ys => cases q; exact Or.inr (Or.inl (Or.inr ⟨ob, e⟩))
    | _ => cases q
  | _ => cases q
theorem w_ixO (e : H a = some o) (q : seqOf o = some xs) (r : atI xs i = some v) (h : Q v H) : rIx K (.ref a) (.int i) H Q := by
  rcases seqOf_sq (K := K) e q with s | s
  · exact w_ixL s r h
  · exact w_ixT s r h
theorem w_ixO2 (r : atI xs i = some v) (e : H a = some o) (q : seqOf o = some xs) (h : Q v H) : rIx K (.ref a) (.int i) H Q := w_ixO e q r h
theorem w_ixL2 (r : atI xs i = some v) (e : SqL K H a xs) (h : Q v H) : rIx K (.ref a) (.int i) H Q := w_ixL e r h
theorem w_ixT2 (r : atI xs i = some v) (e : SqT K H a xs) (h : Q v H) : rIx K (.ref a) (.int i) H Q := w_ixT e r h
theorem w_lenO (e : H a = some o) (q : seqOf o = some xs) (h : Q (.int xs.length) H) : rLenX K [.ref a] H Q := by
  rcases seqOf_sq (K := K) e q with s | s
  · exact w_lenL s h
  · exact w_lenT s h
theorem w_gtupO {n : Nat} {gs : TGs} {σ : L2.St} {R : L2.St → Hp → Prop} (e : H a = some (.tup xs)) (l : xs.length = n) (h : gs xs σ H R) : gTup K n gs (.ref a) σ H R := w_gtup (SqT.of e) l h
theorem w_lisO (e : H a = some o) (q : seqOf o = some xs) (h : ∀ p, H p = none → Q (.ref p) (upd H p (.lst xs))) : rLisX K [.ref a] H Q := by
  rcases seqOf_sq (K := K) e q with s | s
  · exact w_lisL s h
  · exact w_lisT s h
theorem w_inO (e : H a = some o) (q : seqOf o = some xs) (fx : flatV x = true) (fa : xs.all flatV = true) (h : Q (.bl (inV x xs)) H) : rInX K x (.ref a) H Q := by
  rcases seqOf_sq (K := K) e q with s | s
  · exact w_inL s fx fa h
  · exact w_inT s fx fa h
theorem w_ninO (e : H a = some o) (q : seqOf o = some xs) (fx : flatV x = true) (fa : xs.all flatV = true) (h : Q (.bl (!inV x xs)) H) : rNinX K x (.ref a) H Q := by
  rcases seqOf_sq (K := K) e q with s | s
  · exact w_ninL s fx fa h
  · exact w_ninT s fx fa h
theorem chkL {H1 : Hp} {ys : List V} (_ : SqL K H1 a ys) (g : SqL K H a xs) : SqL K H a xs := g
theorem chkT {H1 : Hp} {ys : List V} (_ : SqT K H1 a ys) (g : SqT K H a xs) : SqT K H a xs := g
end
theorem fresh_of (S : List Addr) {H H1 : Hp} {p : Addr} (n : H1 p = none) (k : Keep S H H1) : H p = none := k.2 p n
theorem w_iT {A B : Prop} (h : A) : if true = true then A else B := by rw [if_pos rfl]; exact h
theorem w_iF {A B : Prop} (h : B) : if false = true then A else B := by rw [if_neg Bool.false_ne_true]; exact h
theorem w_nT {A B : Prop} (h : B) : if (!true) = true then A else B := by rw [if_neg (by decide)]; exact h
theorem w_nF {A B : Prop} (h : A) : if (!false) = true then A else B := by rw [if_pos (by decide)]; exact h
def tyOf : HO → Option String
  | .lst _ => some "list"
  | .tup _ => some "tuple"
  | .dK _ => some "dict"
  | .frz _ (.lst _) => some "list"
  | .frz _ (.tup _) => some "tuple"
  | _ => none
theorem tyO {K : PySem.W.Frag} {H : Hp} {a : Addr} {o : HO} {t : String} (e : H a = some o) (q : tyOf o = some t) : TyX K H (.ref a) (.type t) := by
  cases o with
  | lst ys => cases q; exact .base (.lst e)
  | tup ys => cases q; exact .base (.tup e)
  | dK ys => cases q; exact .base (.dK e)
  | frz ob u =>
    cases u with
    | lst ys => cases q; exact .base (.frz e)
    | tup ys => cases q; exact .fTuple e
    | _ => cases q
  | _ => cases q
theorem pe_ty {X : Cx} {x : Str} {T : String} {pos : Pos} (hg : Gl X x) (hm : X.mg x = none) (hv : bootBuiltins x = some (.type T)) (hn : x ≠ "__name__" := by decide) (hd : (x == ("__debug__" : Str)) = false := by decide) : PE X (.Name x pos) (tC (.ty T)) := pe_bltn (v := .ty T) hg hm hv rfl hn hd
section
variable {H : Hp} {Q : VK} {a : Addr} {i : Int} {b : Bool} {s : Str}
theorem w_isNN (h : Q (.bl true) H) : rIsNon .non .non H Q := ⟨rfl, h⟩
theorem w_isNR (h : Q (.bl false) H) : rIsNon (.ref a) .non H Q := ⟨rfl, h⟩
theorem w_isNI (h : Q (.bl false) H) : rIsNon (.int i) .non H Q := ⟨rfl, h⟩
theorem w_isNB (h : Q (.bl false) H) : rIsNon (.bl b) .non H Q := ⟨rfl, h⟩
theorem w_isNS (h : Q (.bl false) H) : rIsNon (.str s) .non H Q := ⟨rfl, h⟩
theorem w_ntNN (h : Q (.bl false) H) : rNotNon .non .non H Q := ⟨rfl, h⟩
theorem w_ntNR (h : Q (.bl true) H) : rNotNon (.ref a) .non H Q := ⟨rfl, h⟩
theorem w_ntNI (h : Q (.bl true) H) : rNotNon (.int i) .non H Q := ⟨rfl, h⟩
/-- two bools that are told -/
theorem w_neTT {K : PySem.W.Frag} (h : Q (.bl false) H) : rNeX K (.bl b) (.bl b) H Q := w_ne rfl (by rw [decide_eq_true rfl]; exact h)
end
/-! ### stores into an instance -/
theorem lt_of {n m : Nat} (h : Nat.blt n m = true) : n < m := by simpa using h
theorem w_sfldP {K : PySem.W.Frag} {H : Hp} {a C dx : Addr} {f : Str} {y : V} {fs fs' : List (Str × V)} {R : Hp → Prop} (e : H a = some (.ins C dx fs)) (c : Cls K C) (nn : NoAttr K C f) (l : fs.length < 1000) (pf : putF f y fs = fs') (h : R (upd H a (.ins C dx fs'))) : kSFld K f y (.ref a) H R :=
  w_sfldK e c nn l (by rw [pf]; exact h)
theorem Keep.own {S : List Addr} {H H1 : Hp} {p : Addr} {o : HO} (k : Keep S H H1) (n : H p = none) : Keep S H (upd H1 p o) := ⟨fun b u m e => by
  rw [upd_ne (ne_of_none e n)]
  exact k.1 b u m e, fun b e => by
  by_cases q : b = p
  · rw [q, upd_same] at e; cases e
  · rw [upd_ne q] at e; exact k.2 b e⟩
theorem Keep.own' {S : List Addr} {H H1 : Hp} {p : Addr} {o : HO} (n : H p = none) (k : Keep S H H1) : Keep S H (upd H1 p o) := k.own n
/-! ### list comprehensions: out i is what is made behind i items -/
def PvOf (H : Hp) (D : Addr) (out : Nat → List V) (i : Nat) (H' : Hp) : Prop := Keep [] H H' ∧ H' D = some (.lst (out i))
def kIn (H : Hp) (D : Addr) (out : Nat → List V) (i : Nat) (y : V) (H4 : Hp) : Prop := ∃ acc, H4 D = some (.lst acc) ∧ acc.length < sizeLine ∧ PvOf H D out (i + 1) (upd H4 D (.lst (acc ++ [y])))
section
variable {K : PySem.W.Frag} {σ : L2.St} {H H4 : Hp} {Q : VK} {D a : Addr} {out : Nat → List V} {i : Nat} {x y : V} {xs : List V} {g : TG} {tt : TT} {te tl : TE} {tr : TA} {vs : List Nat}
theorem kIn_go (n : H D = none) (e : H4 D = some (.lst (out i))) (k : Keep [] H H4) (l : (out i).length < sizeLine) (o : out (i + 1) = out i ++ [y]) : kIn H D out i y H4 :=
  ⟨out i, e, l, k.own n, by rw [upd_same, o]⟩
theorem kOut_go (e : H4 D = some (.lst (out i))) (k : Keep [] H H4) (o : out (i + 1) = out i) : PvOf H D out (i + 1) H4 := ⟨k, by rw [o]; exact e⟩
theorem w_yes {QT : Bool → Hp → Prop} (h : QT true H) : tYes σ H QT := h
/-- a turn -/
abbrev LcTurn (H : Hp) (g : TG) (tt : TT) (te : TE) (vs : List Nat) (σ : L2.St) (D : Addr) (out : Nat → List V) (i : Nat) (x : V) (H' : Hp) : Prop :=
  g x (wipe σ vs) H' fun σ2 H2 => wipe σ2 vs = wipe σ vs ∧ tt σ2 H2 fun b H3 => if b = true then te σ2 H3 fun y H4 => kIn H D out i y H4 else PvOf H D out (i + 1) H3
def kLcL (K : PySem.W.Frag) (g : TG) (tt : TT) (te : TE) (vs : List Nat) (σ : L2.St) (x : V) (H1 : Hp) (Q : VK) : Prop := ∃ a, x = .ref a ∧ (∃ xs, SqL K H1 a xs) ∧ ∀ D, H1 D = none → ∃ W : Nat → Nat → Hp → Prop, (∃ m, W 0 m (upd H1 D (.lst []))) ∧ ∀ i m H, W i m H →
  ((Itl K a).stop i H ∧ Q (.ref D) H) ∨ ((Itl K a).go i H ∧ ∃ Nx : Hp → Prop, (∀ H', Nx H' → ∃ m', m' < m ∧ W (i + 1) m' H') ∧ ∀ x H', (Itl K a).yld i H x H' → g x (wipe σ vs) H' fun σ2 H2 => wipe σ2 vs = wipe σ vs ∧ tt σ2 H2 fun b H3 =>
    if b = true then te σ2 H3 fun y H4 => ∃ acc, H4 D = some (.lst acc) ∧ acc.length < sizeLine ∧ Nx (upd H4 D (.lst (acc ++ [y]))) else Nx H3)
theorem w_lcL (h : tl σ H fun x H1 => kLcL K g tt te vs σ x H1 Q) : tLc (iList K tl) g tt te vs σ H Q := h
theorem l_lcL (e : SqL K H a xs) (out : Nat → List V) (o0 : out 0 = [])
    (hs : ∀ D i x H', H D = none → xs[i]? = some x → Keep [] H H' → H' D = some (.lst (out i)) → LcTurn H g tt te vs σ D out i x H') (hd : ∀ D H', H D = none → Keep [] H H' → H' D = some (.lst (out xs.length)) → Q (.ref D) H') : kLcL K g tt te vs σ (.ref a) H Q :=
  ⟨a, rfl, ⟨xs, e⟩, fun D hD => lc_list (xs := xs) (PvOf H D out) ⟨Keep.refl.own hD, by rw [upd_same, o0]⟩ (fun _ _ _ q => q.1.seqL nin_nil e) (fun i x H' hx q => hs D i x H' hD hx q.1 q.2) fun H' q => hd D H' hD q.1 q.2⟩
def kLcT (K : PySem.W.Frag) (g : TG) (tt : TT) (te : TE) (vs : List Nat) (σ : L2.St) (x : V) (H1 : Hp) (Q : VK) : Prop := ∃ a, x = .ref a ∧ (∃ xs, SqT K H1 a xs) ∧ ∀ D, H1 D = none → ∃ W : Nat → Nat → Hp → Prop, (∃ m, W 0 m (upd H1 D (.lst []))) ∧ ∀ i m H, W i m H →
  ((Itt K a).stop i H ∧ Q (.ref D) H) ∨ ((Itt K a).go i H ∧ ∃ Nx : Hp → Prop, (∀ H', Nx H' → ∃ m', m' < m ∧ W (i + 1) m' H') ∧ ∀ x H', (Itt K a).yld i H x H' → g x (wipe σ vs) H' fun σ2 H2 => wipe σ2 vs = wipe σ vs ∧ tt σ2 H2 fun b H3 =>
    if b = true then te σ2 H3 fun y H4 => ∃ acc, H4 D = some (.lst acc) ∧ acc.length < sizeLine ∧ Nx (upd H4 D (.lst (acc ++ [y]))) else Nx H3)
theorem w_lcT (h : tl σ H fun x H1 => kLcT K g tt te vs σ x H1 Q) : tLc (iTup K tl) g tt te vs σ H Q := h
theorem l_lcT (e : SqT K H a xs) (out : Nat → List V) (o0 : out 0 = [])
    (hs : ∀ D i x H', H D = none → xs[i]? = some x → Keep [] H H' → H' D = some (.lst (out i)) → LcTurn H g tt te vs σ D out i x H') (hd : ∀ D H', H D = none → Keep [] H H' → H' D = some (.lst (out xs.length)) → Q (.ref D) H') : kLcT K g tt te vs σ (.ref a) H Q :=
  ⟨a, rfl, ⟨xs, e⟩, fun D hD => lc_tup (xs := xs) (PvOf H D out) ⟨Keep.refl.own hD, by rw [upd_same, o0]⟩ (fun _ _ _ q => q.1.seqT nin_nil e) (fun i x H' hx q => hs D i x H' hD hx q.1 q.2) fun H' q => hd D H' hD q.1 q.2⟩
def LcR (lo : Int) (n : Nat) (g : TG) (tt : TT) (te : TE) (vs : List Nat) (σ : L2.St) (H1 : Hp) (Q : VK) : Prop := ∀ D, H1 D = none → ∃ W : Nat → Nat → Hp → Prop, (∃ m, W 0 m (upd H1 D (.lst []))) ∧ ∀ i m H, W i m H →
  ((Itr lo n).stop i H ∧ Q (.ref D) H) ∨ ((Itr lo n).go i H ∧ ∃ Nx : Hp → Prop, (∀ H', Nx H' → ∃ m', m' < m ∧ W (i + 1) m' H') ∧ ∀ x H', (Itr lo n).yld i H x H' → g x (wipe σ vs) H' fun σ2 H2 => wipe σ2 vs = wipe σ vs ∧ tt σ2 H2 fun b H3 =>
    if b = true then te σ2 H3 fun y H4 => ∃ acc, H4 D = some (.lst acc) ∧ acc.length < sizeLine ∧ Nx (upd H4 D (.lst (acc ++ [y]))) else Nx H3)
def kLcR1 (g : TG) (tt : TT) (te : TE) (vs : List Nat) (σ : L2.St) (ws : List V) (H1 : Hp) (Q : VK) : Prop := ∃ j : Int, ws = [.int j] ∧ -(2 ^ 62) ≤ j ∧ j < 2 ^ 62 ∧ LcR 0 j.toNat g tt te vs σ H1 Q
def kLcR2 (g : TG) (tt : TT) (te : TE) (vs : List Nat) (σ : L2.St) (ws : List V) (H1 : Hp) (Q : VK) : Prop := ∃ i j : Int, ws = [.int i, .int j] ∧ (-(2 ^ 62) ≤ i ∧ i < 2 ^ 62 ∧ -(2 ^ 62) ≤ j ∧ j < 2 ^ 62) ∧ LcR i (j - i).toNat g tt te vs σ H1 Q
theorem w_lcR1 (h : tr σ H fun ws H1 => kLcR1 g tt te vs σ ws H1 Q) : tLc (iRng1 tr) g tt te vs σ H Q := h
theorem w_lcR2 (h : tr σ H fun ws H1 => kLcR2 g tt te vs σ ws H1 Q) : tLc (iRng2 tr) g tt te vs σ H Q := h
theorem l_lcR {lo : Int} {n : Nat} (out : Nat → List V) (o0 : out 0 = [])
    (hs : ∀ D i H', H D = none → i < n → Keep [] H H' → H' D = some (.lst (out i)) → LcTurn H g tt te vs σ D out i (.int (lo + i)) H') (hd : ∀ D H', H D = none → Keep [] H H' → H' D = some (.lst (out n)) → Q (.ref D) H') : LcR lo n g tt te vs σ H Q :=
  fun D hD => lc_range (PvOf H D out) ⟨Keep.refl.own hD, by rw [upd_same, o0]⟩ (fun i H' hi q => hs D i H' hD hi q.1 q.2) fun H' q => hd D H' hD q.1 q.2
theorem l_lcR1 {j : Int} (b : -(2 ^ 62) ≤ j ∧ j < 2 ^ 62) (out : Nat → List V) (o0 : out 0 = [])
    (hs : ∀ D i H', H D = none → i < j.toNat → Keep [] H H' → H' D = some (.lst (out i)) → LcTurn H g tt te vs σ D out i (.int i) H') (hd : ∀ D H', H D = none → Keep [] H H' → H' D = some (.lst (out j.toNat)) → Q (.ref D) H') : kLcR1 g tt te vs σ [.int j] H Q :=
  ⟨j, rfl, b.1, b.2, l_lcR out o0 (fun D i H' a b c d => by rw [Int.zero_add]; exact hs D i H' a b c d) hd⟩
theorem l_lcR2 {k j : Int} (b : -(2 ^ 62) ≤ k ∧ k < 2 ^ 62 ∧ -(2 ^ 62) ≤ j ∧ j < 2 ^ 62) (out : Nat → List V) (o0 : out 0 = [])
    (hs : ∀ D i H', H D = none → i < (j - k).toNat → Keep [] H H' → H' D = some (.lst (out i)) → LcTurn H g tt te vs σ D out i (.int (k + i)) H') (hd : ∀ D H', H D = none → Keep [] H H' → H' D = some (.lst (out (j - k).toNat)) → Q (.ref D) H') : kLcR2 g tt te vs σ [.int k, .int j] H Q :=
  ⟨k, j, rfl, b, l_lcR out o0 hs hd⟩
end
/-! ### lists of ints -/
theorem flat_ints (ns : List Int) : (ns.map V.int).all flatV = true := by
  induction ns with
  | nil => rfl
  | cons n r ih => simpa [flatV] using ih
theorem inV_ints (i : Int) (ns : List Int) : inV (.int i) (ns.map V.int) = decide (i ∈ ns) := by
  induction ns with
  | nil => simp [inV]
  | cons n r ih =>
    unfold inV at ih ⊢
    rw [List.map_cons, List.any_cons, ih]
    by_cases e : n = i
    · subst e; simp [eqV]
    · have e2 : ¬ i = n := fun z => e z.symm
      simp [eqV, e, e2]
section
variable {K : PySem.W.Frag} {H : Hp} {Q : VK} {a : Addr} {i : Int} {ns : List Int}
theorem w_inI (e : H a = some (.lst (ns.map V.int))) (h : Q (.bl (decide (i ∈ ns))) H) : rInX K (.int i) (.ref a) H Q := w_inL (SqL.of e) rfl (flat_ints ns) (by rw [inV_ints]; exact h)
theorem w_ninI (e : H a = some (.lst (ns.map V.int))) (h : Q (.bl (!decide (i ∈ ns))) H) : rNinX K (.int i) (.ref a) H Q := w_ninL (SqL.of e) rfl (flat_ints ns) (by rw [inV_ints]; exact h)
theorem map_at {x : V} {k : Nat} (h : (ns.map V.int)[k]? = some x) : ∃ c, ns[k]? = some c ∧ x = .int c := by
  rw [List.getElem?_map] at h
  cases e : ns[k]? with
  | none => rw [e] at h; cases h
  | some c => rw [e] at h; exact ⟨c, rfl, (Option.some.inj h).symm⟩
end
/-! ### zip of two tuples -/
def kForZ (K : PySem.W.Frag) (g : TG) (t : TS) (D : Ends) (σ : L2.St) (vs : List V) (H1 : Hp) : Prop := ∃ a b xs ys, vs = [.ref a, .ref b] ∧ ((SqL K H1 a xs ∧ SqL K H1 b ys ∧ ∃ W : Nat → Nat → L2.St → Hp → Prop, (∃ m, W 0 m σ H1) ∧ ∀ i m σ H, W i m σ H →
      ((Itz K a b).stop i H ∧ D.nx σ H) ∨ ((Itz K a b).go i H ∧ ∃ N : L2.St → Hp → Prop, (∀ σ' H', N σ' H' → ∃ m', m' < m ∧ W (i + 1) m' σ' H') ∧ ∀ v H', (Itz K a b).yld i H v H' → g v σ H' fun σ2 H2 => t { D with nx := N, ct := N, bk := D.nx } σ2 H2)) ∨
    (SqT K H1 a xs ∧ SqT K H1 b ys ∧ ∃ W : Nat → Nat → L2.St → Hp → Prop, (∃ m, W 0 m σ H1) ∧ ∀ i m σ H, W i m σ H →
      ((RZ.ItzT K a b).stop i H ∧ D.nx σ H) ∨ ((RZ.ItzT K a b).go i H ∧ ∃ N : L2.St → Hp → Prop, (∀ σ' H', N σ' H' → ∃ m', m' < m ∧ W (i + 1) m' σ' H') ∧ ∀ v H', (RZ.ItzT K a b).yld i H v H' → g v σ H' fun σ2 H2 => t { D with nx := N, ct := N, bk := D.nx } σ2 H2)))
section
variable {K : PySem.W.Frag} {σ : L2.St} {H : Hp} {a b : Addr} {xs ys : List V} {g : TG} {t : TS} {D : Ends} {tr : TA}
theorem w_forZ (h : tr σ H fun vs H1 => kForZ K g t D σ vs H1) : tFor (RZ.iZipA K tr) g t D σ H := h
theorem l_forZT (ea : SqT K H a xs) (eb : SqT K H b ys) (hl : xs.length = ys.length) (Pv : Nat → L2.St → Hp → Prop) (h0 : Pv 0 σ H) (hq : ∀ i σ' H', Pv i σ' H' → SqT K H' a xs ∧ SqT K H' b ys)
    (hs : ∀ (i : Nat) (x y : V) (T : Addr) (σ' : L2.St) (H' : Hp), xs[i]? = some x → ys[i]? = some y → Pv i σ' H' → H' T = none → g (.ref T) σ' (upd H' T (.tup [x, y])) fun σ2 H2 => t { D with nx := Pv (i + 1), ct := Pv (i + 1), bk := D.nx } σ2 H2)
    (hd : ∀ σ' H', Pv xs.length σ' H' → D.nx σ' H') : kForZ K g t D σ [.ref a, .ref b] H := ⟨a, b, xs, ys, rfl, Or.inr ⟨ea, eb, RZ.for_zipT hl Pv h0 hq hs hd⟩⟩
end
section
variable {α β : Type} {l : List α} {i : Nat} {c : α} {p : α → Bool} {f : α → β}
theorem take_at (h : l[i]? = some c) : l.take (i + 1) = l.take i ++ [c] := by rw [List.take_succ, h]; rfl
theorem filt_yes (h : l[i]? = some c) (q : p c = true) : ((l.take (i + 1)).filter p).map f = ((l.take i).filter p).map f ++ [f c] := by rw [take_at h, List.filter_append, List.map_append, List.filter_cons, if_pos q]; rfl
theorem filt_no (h : l[i]? = some c) (q : ¬ p c = true) : ((l.take (i + 1)).filter p).map f = ((l.take i).filter p).map f := by
  rw [take_at h, List.filter_append, List.map_append, List.filter_cons, if_neg q]
  simp
theorem filt_len : (((l.take i).filter p).map f).length ≤ l.length := by
  rw [List.length_map]
  exact Nat.le_trans (List.length_filter_le _ _) (by rw [List.length_take]; exact Nat.min_le_right _ _)
theorem map_succ (h : l[i]? = some c) : (l.take (i + 1)).map f = (l.take i).map f ++ [f c] := by rw [take_at h, List.map_append]; rfl
theorem range_succ {g : Nat → β} : (List.range (i + 1)).map g = (List.range i).map g ++ [g i] := by rw [List.range_succ, List.map_append]; rfl
theorem range_len {g : Nat → β} : ((List.range i).map g).length = i := by rw [List.length_map, List.length_range]
end
/-! ### the rules, the written part named -/
section
variable {X : Cx} {K : PySem.W.Frag} {a e o l value tg : Expr} {ta tv tl to : TE} {tr : TA} {f : Str} {pos pos' p tpos : Pos} {es elts : List Expr} {k kk n : Nat} {t : TGs}
theorem op_plusK (h : X.K = K) : OpR X (binaryOp .Add) (rPlus K) := h ▸ op_plus
theorem op_eqK (h : X.K = K) (hu : X.A.units + 64 < cLine) : OpR X (compareOp .Eq) (rEqX K) := h ▸ op_eqX hu
theorem op_neK (h : X.K = K) (hu : X.A.units + 64 < cLine) : OpR X (compareOp .NotEq) (rNeX K) := h ▸ op_neX hu
theorem op_inK (h : X.K = K) : OpR X (compareOp .In) (rInX K) := h ▸ op_inX
theorem op_ninK (h : X.K = K) : OpR X (compareOp .NotIn) (rNinX K) := h ▸ op_ninX
theorem cr_lenK (h : X.K = K) : CallR X (.builtin "len") (rLenX K) := h ▸ cr_lenX
theorem cr_maxK (h : X.K = K) (hc : X.calm = true) : CallR X (.builtin "max") (rMaxX K) := h ▸ cr_maxX hc
theorem cr_minK (h : X.K = K) (hc : X.calm = true) : CallR X (.builtin "min") (rMinX K) := h ▸ cr_minX hc
theorem cr_tupK (h : X.K = K) : CallR X (.type "tuple") (rTupX K) := h ▸ cr_tupX
theorem cr_lisK (h : X.K = K) : CallR X (.type "list") (rLisX K) := h ▸ cr_lisX
theorem cr_isiK (h : X.K = K) : CallR X (.builtin "isinstance") (rIsi K) := h ▸ call_isi
theorem ix_K (h : X.K = K) : IxR X (rIx K) := h ▸ ix_seq
theorem pe_fldK (h : X.K = K) (he : PE X e ta) (hb : attributeBase e f X.env (eval e X.env) = eval e X.env) : PE X (.Attribute e f pos) (tFld K ta f) := h ▸ pe_fld he hb
theorem ps_fldK (h : X.K = K) (ha : PE X o ta) (hv : PE X value tv) (hs : swapsWith value (some (.Attribute o f pos')) pos.line X.env = pure false) : PS X (.Assign [.Attribute o f pos'] value pos) (sFld K ta tv f) := h ▸ ps_fld ha hv hs
theorem pt_truK (h : X.K = K) (ha : PE X a ta) (he : ∀ whole, isTrue a X.env whole = (do let v ← whole; standAt a.pos; holding [v] (truthy v)) := by intro _; rfl) : PT X a (tTru K ta) := h ▸ pt_tru ha he
theorem pi_listK (h : X.K = K) (hl : PE X l tl) : PI X tg l (iList K tl) := h ▸ pi_list hl
theorem pi_tupK (h : X.K = K) (hl : PE X l tl) : PI X tg l (iTup K tl) := h ▸ pi_tup hl
theorem pi_zipK {e2 : Expr} (h : X.K = K) (hg : Gl X "zip") (hm : X.mg "zip" = none) (ha : PA X [e, e2] tr)
    (hs : starEach [e, e2] X.env = (false, eval e X.env) :: starEach [e2] X.env := by rfl) (hpl : (backTo pos (starEach [e2] X.env)).any (·.1) = false := by rfl) :
    PI X (.Tuple elts kk tpos) (.Call (.Name "zip" p) [e, e2] [] pos) (RZ.iZipA K tr) := h ▸ RZ.pi_zipA hg hm ha hs hpl
theorem pg_tupK (h : X.K = K) (hc : X.calm = true) (hg : PGs X es t) (hn : (assignEach es X.env).length = n := by rfl) (hst : (assignEach es X.env).findIdx? (·.1) = none := by rfl) : PG X (.Tuple es k pos) (gTup K n t) := h ▸ pg_tup hc hg hn hst
theorem pe_bm0K {T id : String} {name : Str} {apos cpos : Pos} {r : V → List V → Hp → VK → Prop} (h : X.K = K) (pa : PlainAttrs T) (slot : Slot T name id) (hty : typeOf (.builtin id) = pure (.type "method_descriptor")) (hm : MtR X id r) (ho : PE X o to)
    (hbase : attributeBase o name X.env (eval o X.env) = eval o X.env := by rfl) (hline : (apos.endLine == cpos.line) = true := by rfl) : PE X (.Call (.Attribute o name apos) [] [] cpos) (tBM0 K T r to) := h ▸ pe_bm0 pa slot hty hm ho hbase hline
theorem pe_bmK {T id : String} {name : Str} {apos cpos : Pos} {r : V → List V → Hp → VK → Prop} (h : X.K = K) (pa : PlainAttrs T) (slot : Slot T name id) (hty : typeOf (.builtin id) = pure (.type "method_descriptor")) (hm : MtR X id r) (ho : PE X o to) (ha : PA X (e :: es) tr)
    (hbase : attributeBase o name X.env (eval o X.env) = eval o X.env := by rfl)
    (hfew : ((backTo cpos (starEach (e :: es) X.env)).all (fun x => !x.1) && (backToKw cpos (keywordEach [] X.env)).all (fun x => x.1.isSome)
      && decide ((e :: es).length + ([] : List Keyword).length + (if ([] : List Keyword).isEmpty then 0 else 1) < 30)) = true := by rfl)
    (hline : (apos.endLine == cpos.line) = true := by rfl) (hs : starEach (e :: es) X.env = (false, eval e X.env) :: starEach es X.env := by rfl) (hplain : (backTo cpos (starEach es X.env)).any (·.1) = false := by rfl) :
    PE X (.Call (.Attribute o name apos) (e :: es) [] cpos) (tBM K T r to tr) := h ▸ pe_bm pa slot hty hm ho ha hbase hfew hline hs hplain
end
/-! ### while -/
def kTurn (W : Nat → L2.St → Hp → Prop) (tb : TS) (D : Ends) (m : Nat) (σ : L2.St) (H1 : Hp) : Prop := ∃ N : L2.St → Hp → Prop, (∀ σ' H', N σ' H' → ∃ m', m' < m ∧ W m' σ' H') ∧ tb { D with nx := N, ct := N, bk := D.nx } σ H1
theorem w_turn {W : Nat → L2.St → Hp → Prop} {tb : TS} {D : Ends} {m : Nat} {σ : L2.St} {H1 : Hp} (h : tb { D with nx := fun σ2 H2 => ∃ m', m' < m ∧ W m' σ2 H2, ct := fun σ2 H2 => ∃ m', m' < m ∧ W m' σ2 H2, bk := D.nx } σ H1) : kTurn W tb D m σ H1 := ⟨_, fun _ _ q => q, h⟩
theorem l_while {c : TT} {tb : TS} {D : Ends} {σ : L2.St} {H : Hp} (W : Nat → L2.St → Hp → Prop) (m0 : Nat) (h0 : W m0 σ H)
    (hs : ∀ m σ' H', W m σ' H' → c σ' H' fun b H1 => if b = true then kTurn W tb D m σ' H1 else D.nx σ' H1) : tWhile c tb D σ H := ⟨W, ⟨m0, h0⟩, hs⟩
/-! ### count of flat items -/
theorem countP_eqU {x : V} : ∀ {xs : List V} {us : List Value}, Vals xs us → xs.all flatV = true → us.countP (eqU x) = xs.countP fun y => eqV y x
  | _, _, .nil, _ => rfl
  | _, _, .cons r t, f => by
    rw [List.all_cons, Bool.and_eq_true] at f
    rw [List.countP_cons, List.countP_cons, countP_eqU t f.2, eqU_of r f.1]
def rCntX (K : PySem.W.Frag) : V → List V → Hp → VK → Prop := fun x xs H Q => ∃ (p : Addr) (ys : List V) (y : V), x = .ref p ∧ xs = [y] ∧ SqL K H p ys ∧ flatV y = true ∧ ys.all flatV = true ∧ Q (.int ((ys.countP fun z => eqV z y : Nat) : Int)) H
theorem mt_countX {X : Cx} : MtR X "list.count" (rCntX X.K) := by
  intro pn s₀ σ₀ H₀ x₀ xs₀ v₀ us₀ Q₀ I₀ rx rxs hq
  obtain ⟨p, ys, y, rfl, rfl, hs, fy, fa, q⟩ := hq
  cases rx
  obtain ⟨u, rfl, ru⟩ := rxs.one
  obtain ⟨its, rv, ⟨⟨cls, dd, data, sl⟩, n, ho, hc, hdn, hd⟩, hlen⟩ := I₀.list hs
  simp only at hc hd
  subst hc hd
  refine call_meets PySem.F.slot_list_count ⟨_, ho, rfl⟩ PySem.F.entry_list_count (PySem.F.args_list_count_2 _ _)
    (SeqAt.list_countAt p its.toArray n dd sl u (eqU y)) ⟨ho, fun z hz => mem_eqAt ru fy rv fa z (by simpa using hz), ?_⟩
  have ec : its.toArray.toList.countP (eqU y) = ys.countP fun z => eqV z y := countP_eqU rv fa
  refine ⟨.int ((ys.countP fun z => eqV z y : Nat) : Int), H₀, I₀.tok _, ⟨s₀.toks, ?_⟩, q⟩
  show Value.int ((its.toArray.toList.countP (eqU y) : Nat) : Int) s₀.toks = Value.int ((ys.countP fun z => eqV z y : Nat) : Int) s₀.toks
  rw [ec]
theorem mt_countK {X : Cx} {K : PySem.W.Frag} (h : X.K = K) : MtR X "list.count" (rCntX K) := h ▸ mt_countX
theorem mt_indexK {X : Cx} {K : PySem.W.Frag} (h : X.K = K) : MtR X "list.index" (rIndex K) := h ▸ mt_index
/-! ### an exception that is caught -/
theorem pe_never {X : Cx} {e : Expr} : PE X e (fun _ _ _ => False) := ⟨fun _ _ _ _ _ _ h => False.elim h⟩
def rIsE2 (K : PySem.W.Frag) (cls : Value) (d : Option Addr) (a : Addr) : List V → Hp → VK → Prop := fun xs H Q => ∃ D, cls = .ref D ∧ d = none ∧ ExcC K D ∧ rIsE K D a xs H Q
theorem call_isE2 {X : Cx} {K : PySem.W.Frag} {a : Addr} {cls : Value} {d : Option Addr} {oe : Obj} {pn : List (Addr × Obj)} (h : X.K = K) (hz : Zc cls d oe) (hf : ∃ vs, oe.data = .fields vs) : CallR (X.suite a ((a, oe) :: pn)) (.builtin "isinstance") (rIsE2 K cls d a) := by
  subst h
  intro pins s σ H xs us Q I r q
  obtain ⟨D, rfl, rfl, C, q⟩ := q
  exact call_isE C hz hf pins s σ H xs us Q I r q
theorem takesLen {X : Cx} {W : WX} (tk : Takes X W) : Takes X (fun cls d σ H => σ.length = X.N.length → W cls d σ H) := fun u s' x => by
  obtain ⟨a, B, sI, pins, σ, H, cls, d, e1, I, r1, r2, r3, r4, r5, r6, q⟩ := x
  exact tk u s' ⟨a, B, sI, pins, σ, H, cls, d, e1, I, r1, r2, r3, r4, r5, r6, q I.len⟩
/-! ### displays of dicts -/
theorem w_pairs0 {σ : L2.St} {H : Hp} {R : List (V × V) → Hp → Prop} (h : R [] H) : tPairs [] σ H R := h
theorem w_pairs {tk tv : TE} {r : List (TE × TE)} {σ : L2.St} {H : Hp} {R : List (V × V) → Hp → Prop} (h : tk σ H fun k H1 => tv σ H1 fun v H2 => tPairs r σ H2 fun ps H3 => R ((k, v) :: ps) H3) : tPairs ((tk, tv) :: r) σ H R := h
def kDisp (p : Addr) (ps : List (V × V)) (H2 : Hp) (Q : VK) : Prop := H2 p = some (.dK []) ∧ ∃ kvs : List (Key × V), ps = kvs.map (fun kv => (kV kv.1, kv.2)) ∧ kvs.length ≤ 15 ∧ Q (.ref p) (upd H2 p (.dK (mergeK [] kvs)))
theorem w_disp {trs : List (TE × TE)} {σ : L2.St} {H : Hp} {Q : VK} (h : ∀ p, H p = none → tPairs trs σ (upd H p (.dK [])) fun ps H2 => kDisp p ps H2 Q) : tDisp trs σ H Q := h
theorem l_disp {p : Addr} {H2 : Hp} {Q : VK} (kvs : List (Key × V)) (e : H2 p = some (.dK [])) (l : kvs.length ≤ 15) (m : mergeK [] kvs = kvs) (h : Q (.ref p) (upd H2 p (.dK kvs))) : kDisp p (kvs.map (fun kv => (kV kv.1, kv.2))) H2 Q :=
  ⟨e, kvs, rfl, l, by rw [m]; exact h⟩
theorem putK_new {kvs : List (Key × V)} {k : Key} {v : V} (h : k ∉ kvs.map (·.1)) : putK kvs k v = kvs ++ [(k, v)] := by
  unfold putK
  rw [if_neg]
  intro z
  rw [List.any_eq_true] at z
  obtain ⟨x, hx, e⟩ := z
  exact h (List.mem_map.mpr ⟨x, hx, of_decide_eq_true e⟩)
theorem merge_nd : ∀ (more kvs : List (Key × V)), ((kvs ++ more).map (·.1)).Nodup → mergeK kvs more = kvs ++ more
  | [], kvs, _ => by rw [List.append_nil]; rfl
  | (k, v) :: r, kvs, h => by
    have hk : k ∉ kvs.map (·.1) := fun m => by
      rw [List.map_append, List.map_cons, List.nodup_append] at h
      exact h.2.2 k m k List.mem_cons_self rfl
    show mergeK (putK kvs k v) r = _
    rw [putK_new hk, merge_nd r (kvs ++ [(k, v)]) (by rw [List.append_assoc]; exact h), List.append_assoc]
    rfl
theorem merge_ok (kvs : List (Key × V)) (h : (kvs.map (·.1)).Nodup) : mergeK [] kvs = kvs := merge_nd kvs [] h
theorem put_hd {κ : Type} [DecidableEq κ] {k : κ} {v x : V} {l : List (κ × V)} (h : k ∉ l.map (·.1)) : putK ((k, x) :: l) k v = (k, v) :: l := by
  unfold putK
  rw [if_pos (by rw [List.any_cons]; simp)]
  rw [List.map_cons, if_pos rfl]
  congr 1
  have e : ∀ y, y ∈ l → (if y.1 = k then (y.1, v) else y) = y := fun y hy => if_neg fun z => h (List.mem_map.mpr ⟨y, hy, z⟩)
  rw [List.map_congr_left e, List.map_id']
theorem put_tl {κ : Type} [DecidableEq κ] {k j : κ} {v x : V} {l : List (κ × V)} (h : ¬ j = k) : putK ((j, x) :: l) k v = (j, x) :: putK l k v := by
  unfold putK
  rw [List.any_cons, decide_eq_false h, Bool.false_or, List.map_cons, if_neg h]
  split <;> rfl
theorem w_dputP {H : Hp} {a : Addr} {v : V} {R : Hp → Prop} {kvs kvs' : List (Key × V)} {s : Str} (e : H a = some (.dK kvs)) (l : kvs.length < sizeLine) (p : putK kvs (Sum.inr s) v = kvs') (h : R (upd H a (.dK kvs'))) : kDPut v (.ref a) (.str s) H R := w_dputS e l (by rw [p]; exact h)
/-- == of scalars alone -/
theorem w_eq0S {s z : Str} {H : Hp} {Q : VK} (h : Q (.bl (decide (s = z))) H) : rEq (.str s) (.str z) H Q := ⟨rfl, by
  have e : decide (V.str s = V.str z) = decide (s = z) := by
    by_cases q : s = z
    · subst q; rw [decide_eq_true rfl, decide_eq_true rfl]
    · rw [decide_eq_false q, decide_eq_false (fun w => q (V.str.inj w))]
  rw [e]; exact h⟩
theorem w_ne0I {i j : Int} {H : Hp} {Q : VK} (h : Q (.bl (!decide (i = j))) H) : rNe (.int i) (.int j) H Q := ⟨rfl, by
  have e : decide (V.int i = V.int j) = decide (i = j) := by
    by_cases q : i = j
    · subst q; rw [decide_eq_true rfl, decide_eq_true rfl]
    · rw [decide_eq_false q, decide_eq_false (fun z => q (V.int.inj z))]
  rw [e]; exact h⟩
section
variable {κ : Type} {k j : κ} {x : V} {l : List (κ × V)}
theorem nk_nil : k ∉ ([] : List (κ × V)).map (·.1) := List.not_mem_nil
theorem nk_cons (h : ¬ k = j) (t : k ∉ l.map (·.1)) : k ∉ ((j, x) :: l).map (·.1) := fun m => by
  rw [List.map_cons] at m
  rcases List.mem_cons.mp m with z | z
  · exact h z
  · exact t z
theorem nd_nil : (([] : List (κ × V)).map (·.1)).Nodup := List.nodup_nil
theorem nd_cons (h : j ∉ l.map (·.1)) (t : (l.map (·.1)).Nodup) : (((j, x) :: l).map (·.1)).Nodup := by
  rw [List.map_cons]
  exact List.nodup_cons.mpr ⟨h, t⟩
end
theorem pe_cls {X : Cx} {x : Str} {C : Addr} {pos : Pos} (hg : Gl X x) (hm : X.mg x = some (.ref C)) (hd : (x == ("__debug__" : Str)) = false := by decide) : PE X (.Name x pos) (tC (.ref C)) := pe_glob (v := .ref C) hg hm rfl hd
section
variable {K : PySem.W.Frag} {H : Hp} {Q : VK} {a : Addr} {ys : List V} {y z : V} {cls : Value} {d : Option Addr}
theorem w_cnt {n : Nat} (e : H a = some (.lst ys)) (fy : flatV y = true) (fa : ys.all flatV = true) (hn : (ys.countP fun z => eqV z y) = n) (h : Q (.int (n : Nat)) H) : rCntX K (.ref a) [y] H Q := ⟨a, ys, y, rfl, rfl, SqL.of e, fy, fa, by rw [hn]; exact h⟩
theorem w_idx (j : Nat) (e : H a = some (.lst ys)) (fy : flatV y = true) (fa : ys.all flatV = true) (hz : ys[j]? = some z) (hy : eqV z y = true) (ha : ∀ (m : Nat) (z' : V), m < j → ys[m]? = some z' → eqV z' y = false) (h : Q (.int (j : Nat)) H) : rIndex K (.ref a) [y] H Q :=
  ⟨a, ys, y, j, z, rfl, rfl, SqL.of e, fy, fa, hz, hy, ha, h⟩
theorem w_isE {D C : Addr} {k : Bool} (hc : cls = .ref D) (hd : d = none) (x : ExcC K D) (hk : PySem.W.kitOne K (.ref D) (.ref C) = some k) (h : Q (.bl k) H) : rIsE2 K cls d a [.ref a, .ref C] H Q := ⟨D, hc, hd, x, .ref C, .ref C, k, rfl, fun _ r => r, hk, h⟩
theorem w_isET {D : Addr} {T : String} {k : Bool} (hc : cls = .ref D) (hd : d = none) (x : ExcC K D) (hk : PySem.W.kitOne K (.ref D) (.type T) = some k) (h : Q (.bl k) H) : rIsE2 K cls d a [.ref a, .ty T] H Q := ⟨D, hc, hd, x, .ty T, .type T, k, rfl, fun _ r => r, hk, h⟩
end
/-- what the text knows of an error class of its own (of six), without an __init__: which of the six it is -/
structure OneBad (K : PySem.W.Frag) (C0 C1 C2 C3 C4 C5 C6 D : Addr) (b1 b2 b3 b4 b5 b6 : Bool) : Prop where
  m : PySem.W.exmOne K (.ref D) (.ref C0) = some true
  x : ExcC K D
  k1 : PySem.W.kitOne K (.ref D) (.ref C1) = some b1
  k2 : PySem.W.kitOne K (.ref D) (.ref C2) = some b2
  k3 : PySem.W.kitOne K (.ref D) (.ref C3) = some b3
  k4 : PySem.W.kitOne K (.ref D) (.ref C4) = some b4
  k5 : PySem.W.kitOne K (.ref D) (.ref C5) = some b5
  k6 : PySem.W.kitOne K (.ref D) (.ref C6) = some b6
  kv : PySem.W.kitOne K (.ref D) (.type "ValueError") = some true
/-- told: what is returned, or the word of the refusal -/
def TTold2 (tab : Value → Str → Prop) : (XK → Hp → VK → Prop) → Hp → VK → Prop := fun tl H Q =>
  tl (fun cls d H' => d = none ∧ ∃ wd, tab cls wd ∧ ∀ p H2, H' p = none → Keep [] H' H2 → H2 p = some (.tup [.str wd]) → Q (.ref p) H2) H Q
theorem w_idxI {K : PySem.W.Frag} {H : Hp} {Q : VK} {a : Addr} {ys : List V} {y z : V} (j : Nat) (jj : Int) (ej : ((j : Nat) : Int) = jj) (e : H a = some (.lst ys)) (fy : flatV y = true) (fa : ys.all flatV = true) (hz : ys[j]? = some z) (hy : eqV z y = true)
    (ha : ∀ (m : Nat) (z' : V), m < j → ys[m]? = some z' → eqV z' y = false) (h : Q (.int jj) H) : rIndex K (.ref a) [y] H Q := w_idx j e fy fa hz hy ha (by rw [ej]; exact h)
/-- no True ahead of the j-th -/
theorem bl_ahead (bs : List Bool) (j : Nat) (h : (bs.take j).all (fun b => !b) = true) : ∀ (m : Nat) (z' : V), m < j → (bs.map V.bl)[m]? = some z' → eqV z' (.bl true) = false := fun m z' hm hz => by
  rw [List.getElem?_map] at hz
  cases e : bs[m]? with
  | none => rw [e] at hz; cases hz
  | some b =>
    rw [e] at hz
    cases hz
    have hb : b ∈ bs.take j := by
      rw [List.mem_iff_getElem?]
      exact ⟨m, by rw [List.getElem?_take, if_pos hm, e]⟩
    have := List.all_eq_true.mp h b hb
    cases b with
    | true => cases this
    | false => rfl
/-- a tuple of the written part -/
theorem sqT_of {K : PySem.W.Frag} {a : Addr} {xs : List V} {o : Obj} {its : Array Value} {n : Nat} (l : K.lookup a = some o) (c : o.cls = .type "tuple") (d : o.data = .seq its n) (z : its.size ≤ sizeLine) (v : Vals xs its.toList) : ∀ H, SqT K H a xs := fun _ => Or.inr ⟨o, its, n, l, c, d, z, v⟩
theorem cx_none {P : Program} {w : World} {H : Hp} {s : Shared} {e : Value} {s' : Shared} (h : L2.CX P w [] H s (fun _ _ _ => False) e s') : False := by
  obtain ⟨_, _, _, _, _, _, _, _, _, _, _, _, z⟩ := h
  exact z
end Ak
namespace Ak
open PySem PySem.Spec PyProof.Rows L2
/-! ### a built-in class called with keywords -/
theorem callWith_typeK {M : Model} {A : Around} {Eb : Value → Shared → Prop} {s : Shared} {env : Env} {pos : Pos} {T : String} {e : Expr} {rest : List Expr} {kws : List Keyword} {Q : Value → Shared → Prop}
    (h : wpAny M A (spliced (backTo pos (starEach (e :: rest) env))) (fun us s1 => wpAny M A (evalAll ((backToKw pos (keywordEach kws env)).map (·.2)))
      (fun ws s2 => wpAny M A (call (.type T) us (((backToKw pos (keywordEach kws env)).filterMap (·.1)).zip ws)) Q Eb s2) Eb s1) Eb s)
    (he : backTo pos (starEach (e :: rest) env) = (false, eval e env) :: backTo pos (starEach rest env) := by rfl) (hp : (backTo pos (starEach (e :: rest) env)).any (·.1) = false := by rfl)
    (ha : (backToKw pos (keywordEach kws env)).all (·.1.isSome) = true := by rfl) (hn : (backToKw pos (keywordEach kws env)).any (·.1.isNone) = false := by rfl) :
    wpAny M A (callWith pos (.type T) [] (backTo pos (starEach (e :: rest) env)) (backToKw pos (keywordEach kws env))) Q Eb s := by
  unfold callWith
  rw [he] at h
  have h2 := evalArgs_kwB (f := .type T) (Q := fun a s1 => wpAny M A (call (.type T) a.pos a.kw) Q Eb s1) ha h
  rw [← he] at h2
  refine wpAny_bind (wpAny_holding (wpAny_mono h2 (fun a s1 h1 => wpAny_bind (wpAny_standAt ?_)) fun _ _ z => z))
  simp only [hp, hn, Bool.or_false]
  refine wpAny_bind (wpAny_pure ?_)
  exact wpAny_bind (wpAny_mono h1 (fun r s2 hr => wpAny_bind (wpAny_holding (wpAny_point (wpAny_pure hr)))) fun _ _ z => z)
/-! ### enumerate(a tuple, start=c) -/
def IteT (K : PySem.W.Frag) (a : Addr) (c : Int) : It :=
  ⟨fun i H => ∃ (xs : List V) (x : V), SqT K H a xs ∧ xs[i]? = some x, fun i H v H' => ∃ T x, v = .ref T ∧ H T = none ∧ H' = upd H T (.tup [.int (c + (i : Int)), x]) ∧ ∀ xs, SqT K H a xs → xs[i]? = some x, fun i H => ∃ xs : List V, SqT K H a xs ∧ xs.length = i⟩
theorem turn_enumT {P : Program} {w : World} {K : PySem.W.Frag} {elts : List Expr} {kk : Nat} {tpos : Pos} (a e it : Addr) (c : Int) :
    Turn P w K (.Tuple elts kk tpos) (IteT K a c) [e, it] e (fun i h => (∃ old, IsEnum h e it (c + (i : Int)) old) ∧ h.IsTupleIter it a i ∧ e ≠ it) where
  mem := by simp
  obj := fun i h st b hb => by
    obtain ⟨⟨old, he⟩, ⟨o, ho, hc, hd⟩, _⟩ := st
    have e' : b = e ∨ b = it := by simpa using hb
    rcases e' with rfl | rfl
    · exact ⟨_, he, fun v q => nomatch q⟩
    · exact ⟨o, ho, fun v q => by rw [hd] at q; cases q⟩
  keep := fun i h h' st k => by
    obtain ⟨⟨old, he⟩, hi, hne⟩ := st
    exact ⟨⟨old, k e (by simp) _ he⟩, hi.at fun o q => k it (by simp) o q, hne⟩
  item := by
    intro X hP hw hK hc i pins s σ H E I hf st hg
    subst hP hw hK
    obtain ⟨⟨old, he⟩, hit, hne⟩ := st
    obtain ⟨xs, x, hq, hx⟩ := hg
    obtain ⟨its, rv, p, hz⟩ := I.tuple hq
    obtain ⟨u, hu, ru⟩ := rv.get hx
    have hel : e < s.heap.objs.size := Heap.lt_size he
    have hil : it < s.heap.objs.size := by obtain ⟨_, q, _⟩ := hit; exact Heap.lt_size q
    obtain ⟨ot, hot, hoc, n, hod⟩ := id p
    have hai : a ≠ it := fun z => by
      obtain ⟨o2, q2, q3, q4⟩ := hit
      rw [z, q2] at hot
      cases hot
      rw [q4] at hod
      cases hod
    have hea : e ≠ a := fun z => by
      rw [← z, show s.heap.get? e = _ from he] at hot
      cases hot
      cases hod
    have hi : i < its.toArray.size := by
      rw [List.size_toArray]
      exact (List.getElem?_eq_some_iff.mp hu).1
    refine wpAny_pyNext_enum_itemC (Draws.tuple (A := X.A.in1) (I.ok.hd hc) it a hai its.toArray) he ⟨hit, p⟩ hi hne (by simp [hne, hea]) fun u' h' tk hP ho hit' hT hsz hk => ?_
    obtain rfl : u' = u := by
      have hP' : its.toArray[i]? = some u' := hP
      rw [List.getElem?_toArray, hu] at hP'
      exact (Option.some.inj hP').symm
    refine ⟨_, rfl, wpAny_letOwnedTupleGo_enum (s := { s with heap := h', toks := tk + 1 }) ho fun h'' he' sb => ?_⟩
    have hT2 : h''.get? s.heap.objs.size = some { cls := .type "tuple", data := .seq #[.int (c + (i : Int)) tk, u'] } := (sb.2 _ (Nat.ne_of_gt hel)).trans hT
    have made : ObjOk X.prog X.w (upd H s.heap.objs.size (.tup [.int (c + (i : Int)), x])) h'' s.heap.objs.size (.tup [.int (c + (i : Int)), x]) :=
      ⟨by show 2 ≤ sizeLine; decide, [.int (c + (i : Int)) tk, u'], .cons ⟨_, rfl⟩ (.cons ru .nil), ⟨_, hT2, rfl, _, rfl⟩⟩
    have I1 : Inv X pins σ (upd H s.heap.objs.size (.tup [.int (c + (i : Int)), x])) { s with heap := h'', toks := tk + 1 } :=
      I.turnedNew (ch := [e, it]) (fun b ob hb q => (sb.2 b (fun z => hb (by simp [z]))).trans (hk b ob (fun z => hb (by simp [z])) (fun z => hb (by simp [z])) q)) hf (Nat.le_refl _) made
    refine ⟨.ref s.heap.objs.size, _, I1, rfl, ⟨_, x, rfl, I.hok.fresh (Nat.le_refl _), rfl, fun ys hy => by rw [I.tuple_inj hy hq]; exact hx⟩, ⟨⟨u', ?_⟩, hit'.1.at fun o q => (sb.2 it (Ne.symm hne)).trans q, hne⟩, fun b hb => ?_⟩
    · have e1 : c + ((i + 1 : Nat) : Int) = c + (i : Int) + 1 := by omega
      rw [e1]
      exact he'
    · have hlt : b < s.heap.objs.size := by
        have e' : b = e ∨ b = it := by simpa using hb
        rcases e' with rfl | rfl
        · exact hel
        · exact hil
      rw [upd_ne (Nat.ne_of_lt hlt)]
      exact (hf b hb).1
  done := by
    intro X hP hw hK hc i pins s σ H E I hf st hg
    subst hP hw hK
    obtain ⟨⟨old, he⟩, hit, hne⟩ := st
    obtain ⟨xs, hq, hx⟩ := hg
    obtain ⟨its, rv, p, hz⟩ := I.tuple hq
    obtain ⟨f0, f1, f2, f3, f4, f5⟩ := hf it (by simp)
    obtain ⟨ot, hot, hoc, n, hod⟩ := id p
    have hai : a ≠ it := fun z => by
      obtain ⟨o2, q2, q3, q4⟩ := hit
      rw [z, q2] at hot
      cases hot
      rw [q4] at hod
      cases hod
    have hi : i = its.toArray.size := by
      rw [List.size_toArray, ← rv.length]
      exact hx.symm
    rw [hi] at hit
    exact wpAny_pyNext_enum_endD (Draws.tuple (A := X.A.in1) (I.ok.hd hc) it a hai its.toArray) he ⟨hit, p⟩ fun h' eb => ⟨rfl, I.turned (t' := s.toks) (fun b o hb q => eb b o hb q) f0 f1 f3 f4 f5⟩
  self := fun A i s Q E st h => by
    obtain ⟨⟨_, he⟩, _⟩ := st
    exact wpAny_pyIter_enum he h
def iEnumTS (K : PySem.W.Frag) (ta tk : TA) : TI := fun σ H R => ta σ H fun vs H1 => tk σ H1 fun ks H2 => ∃ a xs c, vs = [.ref a] ∧ ks = [.int c] ∧ -(2 ^ 63) ≤ c ∧ c < 2 ^ 63 ∧ SqT K H2 a xs ∧ R (IteT K a c) H2
theorem pi_enumTS {X : Cx} {K : PySem.W.Frag} {e ke : Expr} {ta tk : TA} {p pos tpos kp : Pos} {elts : List Expr} {kk : Nat} (hX : X.K = K) (hg : Gl X "enumerate") (hm : X.mg "enumerate" = none) (ha : PA X [e] ta) (hk : PK X [⟨some "start", ke, kp⟩] tk)
    (he : backTo pos (starEach [e] X.env) = (false, eval e X.env) :: backTo pos (starEach [] X.env) := by rfl) (hs : (backTo pos (starEach [e] X.env)).any (·.1) = false := by rfl) :
    PI X (.Tuple elts kk tpos) (.Call (.Name "enumerate" p) [e] [⟨some "start", ke, kp⟩] pos) (iEnumTS K ta tk) := by
  subst hX
  refine ⟨fun pins s σ H R I h => ?_⟩
  refine wpAny_Call_Name_kw (ld_blt I hg hm PyProof.Rows.boot_enumerate (callWith_typeK (thn (ha.run pos pins s σ H _ I h) fun us s1 ⟨vs, H1, I1, r1, q1⟩ => thn (hk.run pos pins s1 σ H1 _ I1 q1) fun ws s2 ⟨ks, H2, I2, r2, q2⟩ => ?_) he hs))
  obtain ⟨a, xs, c, rfl, rfl, c0, c1, hq, q⟩ := q2
  obtain rfl := Vals.ref1 r1
  obtain ⟨w1, rfl, t, rfl⟩ := vals1 r2
  obtain ⟨its, rv, p', hz⟩ := I2.tuple hq
  show wpAny _ _ (call (.type "enumerate") [.ref a] [(Str.ofString "start", .int c t)]) _ _ s2
  refine enum_begins_start (begins_tuple a its.toArray) p' c0 c1 fun h' hen hit hsz hkp => wpAny_pyIter_enum hen ?_
  have I3 : Inv X pins σ H2 { s2 with heap := h' } := I2.kept (t' := s2.toks) hkp
  refine ⟨s2.heap.objs.size + 1, [s2.heap.objs.size + 1, s2.heap.objs.size], _, _, H2, rfl, I3, turn_enumT a (s2.heap.objs.size + 1) s2.heap.objs.size c, ⟨⟨.none, by rw [show c + ((0 : Nat) : Int) = c by omega]; exact hen⟩, ⟨_, hit, rfl, rfl⟩, Nat.succ_ne_self _⟩, fun b hb => ?_, q⟩
  have e' : b = s2.heap.objs.size + 1 ∨ b = s2.heap.objs.size := by simpa using hb
  have hle : s2.heap.objs.size ≤ b := by
    rcases e' with rfl | rfl
    · exact Nat.le_add_right _ _
    · exact Nat.le_refl _
  exact I2.fpOk hle (I2.hok.fresh hle)
end Ak
namespace Ak
open PySem PySem.Spec PyProof.Rows L2
/-! ### sorted ints -/
def srt (ns : List Int) : List Int := ns.mergeSort fun a b => decide (a ≤ b)
theorem srt_perm (ns : List Int) : (srt ns).Perm ns := List.mergeSort_perm _ _
theorem srt_le (ns : List Int) : (srt ns).Pairwise (· ≤ ·) := by
  have h := List.pairwise_mergeSort (le := fun (a b : Int) => decide (a ≤ b)) (fun a b c h1 h2 => by
    rw [decide_eq_true_eq] at h1 h2 ⊢
    omega) (fun a b => by
    rw [Bool.or_eq_true, decide_eq_true_eq, decide_eq_true_eq]
    omega) ns
  exact h.imp fun h1 => of_decide_eq_true h1
theorem srt_eq {ns ms : List Int} (p : ms.Perm ns) (s : ms.Pairwise (· ≤ ·)) : ms = srt ns :=
  List.Perm.eq_of_pairwise (le := fun (a b : Int) => a ≤ b) (fun a b _ _ h1 h2 => Int.le_antisymm h1 h2) s (srt_le ns) (p.trans (srt_perm ns).symm)
theorem srt_of {ns : List Int} (s : ns.Pairwise (· ≤ ·)) : srt ns = ns := (srt_eq (List.Perm.refl ns) s).symm
theorem srt_congr {ns ms : List Int} (p : ms.Perm ns) : srt ms = srt ns := srt_eq ((srt_perm ms).trans p) (srt_le ms)
theorem srt_mem {ns : List Int} {x : Int} : x ∈ srt ns ↔ x ∈ ns := (srt_perm ns).mem_iff
theorem srt_len {ns : List Int} : (srt ns).length = ns.length := (srt_perm ns).length_eq
theorem srt_filter {ns : List Int} (q : Int → Bool) : (srt ns).filter q = srt (ns.filter q) := srt_eq ((srt_perm ns).filter q) ((srt_le ns).filter q)
theorem srt_nodup {ns : List Int} (h : ns.Nodup) : (srt ns).Nodup := (srt_perm ns).nodup_iff.mpr h
/-- sorted: of a list of ints, of a dict's int keys, of any length -/
def rSortDI : List V → Hp → VK → Prop := fun xs H Q => ∃ (a : Addr) (kvs : List (Key × V)) (ks : List Int), xs = [.ref a] ∧ H a = some (.dK kvs) ∧ kvs.map (·.1) = ks.map Sum.inl ∧ ∀ (ys : List Int) (p : Addr), ys.Perm ks → ys.Pairwise (· ≤ ·) → H p = none → Q (.ref p) (upd H p (.lst (ys.map V.int)))
theorem cr_sortDI {X : Cx} (hcalm : X.calm = true) : CallR X (.builtin "sorted") rSortDI := by
  intro pins s σ H xs us Q I r q
  obtain ⟨a, kvs, ks, rfl, hd, hks, q⟩ := q
  obtain rfl := Vals.ref1 r
  obtain ⟨z, lo, vs, rel, dd⟩ := dk_rd I.hok (Or.inl hd)
  obtain ⟨ep, hat⟩ := dd.dictAt
  have hkeys : vs.map (·.1) = ks.map Sum.inl := rel.keys.symm.trans hks
  have hl : vs.length = ks.length := by
    have e := congrArg List.length hkeys
    rwa [List.length_map, List.length_map] at e
  have hz : vs.length ≤ sizeLine := by
    have e := congrArg List.length hks
    rw [List.length_map, List.length_map] at e
    omega
  refine Calls.call_function_entry PyProof.Rows.kind_sorted PyProof.Rows.plain_sorted PyProof.Rows.entry_sorted (PyProof.Rows.args_sorted1 _) ?_
  unfold Builtin.«sorted»
  refine wpAny_bind (m := checkCount "sorted" 1 1 _) (wpAny_pure ?_)
  refine wpAny_bind (PySem.W.kdu_collect (A := X.A.in1) (PySem.W.kdl_dict (knd := mixKind X.prog X.w) (kvs := vs) (ep := ep) lo) (I.ok.hd hcalm) hat hz fun h1 tk acc hk hacc => ?_)
  have hal : acc.toList.length = ks.length := by rw [Array.length_toList, hacc.1, hl]
  have hS : IntsAre acc.toList ks := ints_each hal fun j v e => by
    obtain ⟨k, x, e1, e2⟩ := hacc.2 j v (by rw [← Array.getElem?_toList]; exact e)
    have e3 : (vs.map (·.1))[j]? = some k := by rw [List.getElem?_map, e1]; rfl
    rw [hkeys, List.getElem?_map] at e3
    cases e4 : ks[j]? with
    | none => rw [e4] at e3; cases e3
    | some y =>
      rw [e4] at e3
      obtain rfl : Sum.inl y = k := Option.some.inj e3
      rcases keyIs_shape (show keyIs (Sum.inl y) v = true from e2) with ⟨i, t, ek, ev⟩ | ⟨z, t, ek, ev⟩
      · cases ek
        exact ⟨y, t, rfl, ev⟩
      · cases ek
  have I1 : Inv X pins σ H { s with heap := h1, toks := tk } := I.kept hk
  have hal2 : acc.toList.length ≤ sizeLine := by rw [hal, ← hl]; exact hz
  refine wpAny_bind (wpAny_newList ?_ hal2)
  have hoL : (h1.push (seqObj "list" acc.toList.toArray 0)).get? h1.objs.size = some (seqObj "list" acc.toList.toArray 0) := Heap.get?_push_size _ rfl
  show wpAny _ _ _ _ _ { s with heap := h1.push (seqObj "list" acc.toList.toArray 0), toks := tk }
  refine wpAny_bind (wpAny_holding (wpAny_call_entry PyProof.Rows.slot_list_sort ⟨_, hoL, rfl⟩ PyProof.Rows.entry_list_sort
    (SrtO.list_sort_ord (s := { s with heap := h1.push (seqObj "list" acc.toList.toArray 0), toks := tk }) SrtO.swo_int hoL hal2 (fun h2 => SrtO.ints_sortable hS h2) fun out g1 g2 => ⟨_, rfl, ?_⟩) (PyProof.Rows.args_list_sort _)))
  obtain ⟨k1, k2, k3⟩ := SrtO.ints_out hS g1 g2
  obtain ⟨e', he'⟩ := PyProof.Rows.sortedHeap_at (vs := acc.toList) (out := out.toArray) hoL
  have hlen : ((out.map SrtO.iv).map V.int).length ≤ sizeLine := by
    rw [List.length_map, k2.length_eq, ← hl]
    exact hz
  refine wpAny_pure ⟨_, rfl, .ref h1.objs.size, upd H h1.objs.size (.lst ((out.map SrtO.iv).map V.int)), I1.laid (t' := tk) (fun b u e => ?_) (Nat.le_refl _)
    (show ObjOk X.prog X.w _ _ _ (.lst ((out.map SrtO.iv).map V.int)) from ⟨hlen, out, e', vals_of_ints k1, he'⟩), rfl, q _ _ k2 k3 (I1.hok.fresh (Nat.le_refl _))⟩
  have hb : b < h1.objs.size := Heap.lt_size e
  rw [PyProof.Rows.sortedHeap_old (Nat.ne_of_lt hb) (by rw [size_push']; exact Nat.lt_succ_of_lt hb)]
  exact Heap.get?_push_of_some _ e
def rSortX (K : PySem.W.Frag) : List V → Hp → VK → Prop := fun xs H Q => rSortedI K xs H Q ∨ rSortDI xs H Q
theorem cr_sortK {X : Cx} {K : PySem.W.Frag} (h : X.K = K) (hc : X.calm = true) : CallR X (.builtin "sorted") (rSortX K) := by
  subst h
  exact CallR.or cr_sortedI (cr_sortDI hc)
/-! ### dicts whose keys are ints, each True -/
def sureD (ks : List Int) : List (Key × V) := ks.map fun k => (Sum.inl k, V.bl true)
section
variable {K : PySem.W.Frag} {H : Hp} {Q : VK} {a : Addr} {ns ks : List Int} {k : Int} {R : Hp → Prop}
theorem w_sortL (e : SqL K H a (ns.map V.int)) (h : ∀ p, H p = none → Q (.ref p) (upd H p (.lst ((srt ns).map V.int)))) : rSortX K [.ref a] H Q := Or.inl ⟨a, ns, rfl, e, fun ys p hp hs n => by rw [srt_eq hp hs]; exact h p n⟩
theorem w_sortO (e : H a = some (.lst (ns.map V.int))) (h : ∀ p, H p = none → Q (.ref p) (upd H p (.lst ((srt ns).map V.int)))) : rSortX K [.ref a] H Q := w_sortL (SqL.of e) h
theorem sureD_keys : (sureD ks).map (·.1) = ks.map Sum.inl := by unfold sureD; rw [List.map_map]; rfl
theorem w_sortD (e : H a = some (.dK (sureD ks))) (h : ∀ p, H p = none → Q (.ref p) (upd H p (.lst ((srt ks).map V.int)))) : rSortX K [.ref a] H Q := Or.inr ⟨a, _, ks, rfl, e, sureD_keys, fun ys p hp hs n => by rw [srt_eq hp hs]; exact h p n⟩
theorem val_sure : (valV (sureD ks) (Sum.inl k)).isSome = decide (k ∈ ks) := by
  unfold sureD
  induction ks with
  | nil => rfl
  | cons j r ih =>
    rw [List.map_cons]
    by_cases e : j = k
    · subst e
      rw [val_hd, decide_eq_true List.mem_cons_self]
      rfl
    · rw [val_tl (fun z => e (Sum.inl.inj z)), ih]
      by_cases m : k ∈ r
      · rw [decide_eq_true m, decide_eq_true (List.mem_cons_of_mem _ m)]
      · rw [decide_eq_false m, decide_eq_false (fun z => (List.mem_cons.mp z).elim (fun z => e z.symm) m)]
theorem sure_put (n : k ∉ ks) : putK (sureD ks) (Sum.inl k) (.bl true) = sureD (ks ++ [k]) := by
  rw [putK_new]
  · unfold sureD
    rw [List.map_append]
    rfl
  · rw [sureD_keys]
    intro m
    obtain ⟨j, hj, e⟩ := List.mem_map.mp m
    exact n (Sum.inl.inj e ▸ hj)
def kDNot (y x : V) (H : Hp) (Q : VK) : Prop := ∃ a o, x = .ref a ∧ DGet H a y o ∧ Q (.bl (!o.isSome)) H
theorem w_dnot {ty td : TE} {σ : L2.St} (h : ty σ H fun y H1 => td σ H1 fun x H2 => kDNot y x H2 Q) : tDNotIn ty td σ H Q := h
theorem w_dnotS (e : H a = some (.dK (sureD ks))) (h : Q (.bl (!decide (k ∈ ks))) H) : kDNot (.int k) (.ref a) H Q := ⟨a, _, rfl, DGet.k (k := Sum.inl k) e, by rw [val_sure]; exact h⟩
theorem sureD_len : (sureD ks).length = ks.length := by unfold sureD; rw [List.length_map]
theorem w_dputN (e : H a = some (.dK (sureD ks))) (n : k ∉ ks) (l : ks.length < sizeLine) (h : R (upd H a (.dK (sureD (ks ++ [k]))))) : kDPut (.bl true) (.ref a) (.int k) H R := w_dputI e (by rw [sureD_len]; exact l) (by rw [sure_put n]; exact h)
end
/-! ### o.f += e -/
section
variable {K : PySem.W.Frag} {σ : L2.St} {H : Hp} {D : Ends} {ta tv : TE} {rd : V → V → Hp → VK → Prop} {f : Str} {x v : V} {a C dx : Addr} {fs : List (Str × V)} {i j : Int} {Q : VK}
def kFA (K : PySem.W.Frag) (f : Str) (tv : TE) (rd : V → V → Hp → VK → Prop) (D : Ends) (σ : L2.St) (x : V) (H1 : Hp) : Prop := ∃ a C dx fs v, x = .ref a ∧ H1 a = some (.ins C dx fs) ∧ Cls K C ∧ NoAttr K C f ∧ fs.lookup f = some v ∧
  tv σ H1 fun y H2 => rd v y H2 fun z H3 => ∃ dx' fs', H3 a = some (.ins C dx' fs') ∧ fs'.length < 1000 ∧ D.nx σ (upd H3 a (.ins C dx' (putF f z fs')))
def kFS (f : Str) (a C : Addr) (D : Ends) (σ : L2.St) (z : V) (H3 : Hp) : Prop := ∃ dx' fs', H3 a = some (.ins C dx' fs') ∧ fs'.length < 1000 ∧ D.nx σ (upd H3 a (.ins C dx' (putF f z fs')))
theorem w_fldaug (h : ta σ H fun x H1 => kFA K f tv rd D σ x H1) : sFldAug K ta tv rd f D σ H := h
theorem w_fa (e : H a = some (.ins C dx fs)) (c : Cls K C) (nn : NoAttr K C f) (l : fs.lookup f = some v) (h : tv σ H fun y H2 => rd v y H2 fun z H3 => kFS f a C D σ z H3) : kFA K f tv rd D σ (.ref a) H := ⟨a, C, dx, fs, v, rfl, e, c, nn, l, h⟩
theorem w_fs {z : V} {fs' : List (Str × V)} (e : H a = some (.ins C dx fs)) (l : fs.length < 1000) (p : putF f z fs = fs') (h : D.nx σ (upd H a (.ins C dx fs'))) : kFS f a C D σ z H := ⟨dx, fs, e, l, by rw [p]; exact h⟩
theorem w_addI (h : Q (.int (i + j)) H) : rAdd (.int i) (.int j) H Q := ⟨i, j, rfl, rfl, h⟩
theorem w_subI (h : Q (.int (i - j)) H) : rSub (.int i) (.int j) H Q := ⟨i, j, rfl, rfl, h⟩
end
/-! ### comprehensions over enumerate(a tuple, start=c) -/
section
variable {K : PySem.W.Frag} {σ : L2.St} {H : Hp} {Q : VK} {a : Addr} {xs : List V} {g : TG} {tt : TT} {te : TE} {ta tk : TA} {vs : List Nat} {c : Int}
def kLcE (K : PySem.W.Frag) (g : TG) (tt : TT) (te : TE) (vs : List Nat) (σ : L2.St) (ws ks : List V) (H1 : Hp) (Q : VK) : Prop := ∃ a xs c, ws = [.ref a] ∧ ks = [.int c] ∧ -(2 ^ 63) ≤ c ∧ c < 2 ^ 63 ∧ SqT K H1 a xs ∧ ∀ D, H1 D = none → ∃ W : Nat → Nat → Hp → Prop, (∃ m, W 0 m (upd H1 D (.lst []))) ∧ ∀ i m H, W i m H →
  ((IteT K a c).stop i H ∧ Q (.ref D) H) ∨ ((IteT K a c).go i H ∧ ∃ Nx : Hp → Prop, (∀ H', Nx H' → ∃ m', m' < m ∧ W (i + 1) m' H') ∧ ∀ x H', (IteT K a c).yld i H x H' → g x (wipe σ vs) H' fun σ2 H2 => wipe σ2 vs = wipe σ vs ∧ tt σ2 H2 fun b H3 =>
    if b = true then te σ2 H3 fun y H4 => ∃ acc, H4 D = some (.lst acc) ∧ acc.length < sizeLine ∧ Nx (upd H4 D (.lst (acc ++ [y]))) else Nx H3)
theorem w_lcE (h : ta σ H fun ws H1 => tk σ H1 fun ks H2 => kLcE K g tt te vs σ ws ks H2 Q) : tLc (iEnumTS K ta tk) g tt te vs σ H Q := h
theorem l_lcE (e : SqT K H a xs) (c0 : -(2 ^ 63) ≤ c) (c1 : c < 2 ^ 63) (out : Nat → List V) (o0 : out 0 = [])
    (hs : ∀ D i x T H', H D = none → xs[i]? = some x → Keep [] H H' → H' D = some (.lst (out i)) → H' T = none → LcTurn H g tt te vs σ D out i (.ref T) (upd H' T (.tup [.int (c + (i : Int)), x])))
    (hd : ∀ D H', H D = none → Keep [] H H' → H' D = some (.lst (out xs.length)) → Q (.ref D) H') : kLcE K g tt te vs σ [.ref a] [.int c] H Q := by
  refine ⟨a, xs, c, rfl, rfl, c0, c1, e, fun D hD => ⟨fun i m H' => PvOf H D out i H' ∧ m + i = xs.length, ⟨xs.length, ⟨Keep.refl.own hD, by rw [upd_same, o0]⟩, rfl⟩, fun i m H' ⟨pv, hm⟩ => ?_⟩⟩
  have eH : SqT K H' a xs := pv.1.seqT nin_nil e
  by_cases hi : i < xs.length
  · refine Or.inr ⟨⟨xs, xs[i], eH, List.getElem?_eq_getElem hi⟩, PvOf H D out (i + 1), fun H2 q => ⟨m - 1, by omega, q, by omega⟩, fun x H2 hy => ?_⟩
    obtain ⟨T, y, rfl, nT, rfl, hx⟩ := hy
    exact hs D i y T H' hD (hx xs eH) pv.1 pv.2 nT
  · obtain rfl : i = xs.length := by omega
    exact Or.inl ⟨⟨xs, eH, rfl⟩, hd D H' hD pv.1 pv.2⟩
end
/-! for over a tuple -/
section
variable {K : PySem.W.Frag} {σ : L2.St} {H : Hp} {a : Addr} {xs : List V} {g : TG} {t : TS} {D : Ends} {te : TE} {Q : VK} {i : Int}
def kForT (K : PySem.W.Frag) (g : TG) (t : TS) (D : Ends) (σ : L2.St) (x : V) (H1 : Hp) : Prop := ∃ a, x = .ref a ∧ (∃ xs, SqT K H1 a xs) ∧ ∃ W : Nat → Nat → L2.St → Hp → Prop, (∃ m, W 0 m σ H1) ∧ ∀ i m σ H, W i m σ H →
      ((Itt K a).stop i H ∧ D.nx σ H) ∨ ((Itt K a).go i H ∧ ∃ N : L2.St → Hp → Prop, (∀ σ' H', N σ' H' → ∃ m', m' < m ∧ W (i + 1) m' σ' H') ∧ ∀ x H', (Itt K a).yld i H x H' → g x σ H' fun σ2 H2 => t { D with nx := N, ct := N, bk := D.nx } σ2 H2)
theorem w_forTup (h : te σ H fun x H1 => kForT K g t D σ x H1) : tFor (iTup K te) g t D σ H := h
theorem l_forTup (e : SqT K H a xs) (Pv : Nat → L2.St → Hp → Prop) (h0 : Pv 0 σ H) (hl : ∀ i σ' H', i ≤ xs.length → Pv i σ' H' → SqT K H' a xs)
    (hs : ∀ i x σ' H', xs[i]? = some x → Pv i σ' H' → g x σ' H' fun σ2 H2 => t { D with nx := Pv (i + 1), ct := Pv (i + 1), bk := D.nx } σ2 H2) (hd : ∀ σ' H', Pv xs.length σ' H' → D.nx σ' H') : kForT K g t D σ (.ref a) H :=
  ⟨a, rfl, ⟨xs, e⟩, for_tup Pv h0 hl hs hd⟩
end
theorem w_dnewK {σ : L2.St} {H : Hp} {Q : VK} (h : ∀ p, H p = none → Q (.ref p) (upd H p (.dK []))) : tDNewK σ H Q := h
end Ak
namespace Ak
open PySem PySem.Spec PyProof.Rows L2
/-! ### slices -/
def rSlX (K : PySem.W.Frag) : V → Option Int → Option Int → Hp → VK → Prop := fun x lo hi H Q => rSlL K x lo hi H Q ∨ rSlS x lo hi H Q
theorem sl_K {X : Cx} {K : PySem.W.Frag} (h : X.K = K) : SlR X (rSlX K) := by
  subst h
  intro pins s σ H x v vl vu lo hi sl Q I rx h1 h2 h3 q
  rcases q with q | q
  · exact sl_list pins s σ H x v vl vu lo hi sl Q I rx h1 h2 h3 q
  · exact sl_str pins s σ H x v vl vu lo hi sl Q I rx h1 h2 h3 q
section
variable {K : PySem.W.Frag} {σ : L2.St} {H : Hp} {Q : VK} {te : TE} {tl th : TO} {r : V → Option Int → Option Int → Hp → VK → Prop} {R : Option Int → Hp → Prop} {i j : Int} {a : Addr} {xs ys : List V} {S : Hp → Prop}
theorem w_slice (h : te σ H fun x H1 => tl σ H1 fun l H2 => th σ H2 fun u H3 => r x l u H3 Q) : tSl r te tl th σ H Q := h
theorem w_noP (h : R none H) : tNoPart σ H R := h
theorem w_part (h : te σ H fun x H1 => ∃ i, x = .int i ∧ R (some i) H1) : tPart te σ H R := h
theorem w_isI {R : Int → Prop} (h : R i) : ∃ j, V.int i = .int j ∧ R j := ⟨i, rfl, h⟩
theorem cut_take (h : 0 ≤ i) : cutV xs none (some i) = xs.take i.toNat := by
  unfold cutV HT.sIx
  simp only [List.drop_zero, Nat.sub_zero]
  rw [if_neg (by omega)]
  by_cases q : i.toNat ≤ xs.length
  · rw [Nat.min_eq_left q]
  · rw [Nat.min_eq_right (by omega), List.take_length, List.take_of_length_le (by omega)]
theorem cut_drop (h : 0 ≤ i) : cutV xs (some i) none = xs.drop i.toNat := by
  unfold cutV HT.sIx
  simp only []
  rw [if_neg (by omega)]
  by_cases q : i.toNat ≤ xs.length
  · rw [Nat.min_eq_left q, List.take_of_length_le (by rw [List.length_drop]; omega)]
  · rw [Nat.min_eq_right (by omega), List.drop_length, List.drop_of_length_le (by omega), List.take_nil]
theorem w_slTake (e : SqL K H a xs) (i0 : 0 ≤ i) (h : ∀ p, H p = none → Q (.ref p) (upd H p (.lst (xs.take i.toNat)))) : rSlX K (.ref a) none (some i) H Q := Or.inl ⟨a, xs, rfl, e, by rw [cut_take i0]; exact h⟩
theorem w_slDrop (e : SqL K H a xs) (i0 : 0 ≤ i) (h : ∀ p, H p = none → Q (.ref p) (upd H p (.lst (xs.drop i.toNat)))) : rSlX K (.ref a) (some i) none H Q := Or.inl ⟨a, xs, rfl, e, by rw [cut_drop i0]; exact h⟩
/-! ### extend -/
theorem w_ext {b : Addr} (e : H a = some (.lst xs)) (e2 : H b = some (.lst ys)) (l : xs.length + ys.length ≤ sizeLine) (h : Q .non (upd H a (.lst (xs ++ ys)))) : rExtend (.ref a) [.ref b] H Q := ⟨a, b, xs, ys, rfl, rfl, e, e2, l, h⟩
end
/-! ### dicts of int keys, each with a value by a function -/
def dOf (ks : List Int) (f : Int → V) : List (Key × V) := ks.map fun k => (Sum.inl k, f k)
section
variable {K : PySem.W.Frag} {H : Hp} {Q : VK} {a : Addr} {ns ks : List Int} {k : Int} {R : Hp → Prop} {f g : Int → V} {v x : V} {σ : L2.St} {D : Ends} {td ty : TE}
theorem dOf_keys : (dOf ks f).map (·.1) = ks.map Sum.inl := by unfold dOf; rw [List.map_map]; rfl
theorem dOf_len : (dOf ks f).length = ks.length := by unfold dOf; rw [List.length_map]
theorem dOf_congr (h : ∀ k, k ∈ ks → f k = g k) : dOf ks f = dOf ks g := by
  unfold dOf
  exact List.map_congr_left fun k hk => by rw [h k hk]
theorem val_dOf (h : k ∈ ks) : valV (dOf ks f) (Sum.inl k) = some (f k) := by
  unfold dOf
  induction ks with
  | nil => exact absurd h List.not_mem_nil
  | cons j r ih =>
    rw [List.map_cons]
    by_cases e : j = k
    · subst e
      exact val_hd
    · rw [val_tl (fun z => e (Sum.inl.inj z))]
      exact ih ((List.mem_cons.mp h).elim (fun z => absurd z.symm e) id)
theorem val_dOfN (h : k ∉ ks) : valV (dOf ks f) (Sum.inl k) = none := by
  unfold dOf
  induction ks with
  | nil => rfl
  | cons j r ih =>
    rw [List.map_cons, val_tl (fun z => h (by rw [Sum.inl.inj z]; exact List.mem_cons_self))]
    exact ih fun m => h (List.mem_cons_of_mem _ m)
theorem val_dOfS : (valV (dOf ks f) (Sum.inl k)).isSome = decide (k ∈ ks) := by
  by_cases h : k ∈ ks
  · rw [val_dOf h, decide_eq_true h]; rfl
  · rw [val_dOfN h, decide_eq_false h]; rfl
theorem put_dOf (h : k ∈ ks) : putK (dOf ks f) (Sum.inl k) v = dOf ks fun q => if q = k then v else f q := by
  unfold putK
  have e : ((dOf ks f).any fun kv => decide (kv.1 = Sum.inl k)) = true := by
    rw [List.any_eq_true]
    exact ⟨(Sum.inl k, f k), List.mem_map.mpr ⟨k, h, rfl⟩, decide_eq_true rfl⟩
  rw [if_pos e]
  unfold dOf
  rw [List.map_map]
  refine List.map_congr_left fun q _ => ?_
  show (if (Sum.inl q : Key) = Sum.inl k then ((Sum.inl q : Key), v) else (Sum.inl q, f q)) = (Sum.inl q, if q = k then v else f q)
  by_cases z : q = k
  · subst z; rw [if_pos rfl, if_pos rfl]
  · rw [if_neg (fun y => z (Sum.inl.inj y)), if_neg z]
theorem put_dOfN (h : k ∉ ks) : putK (dOf ks f) (Sum.inl k) v = dOf ks f ++ [(Sum.inl k, v)] := putK_new (by
  rw [dOf_keys]
  intro m
  obtain ⟨j, hj, e⟩ := List.mem_map.mp m
  exact h (Sum.inl.inj e ▸ hj))
theorem dOf_app : dOf (ns ++ ks) f = dOf ns f ++ dOf ks f := by unfold dOf; rw [List.map_append]
theorem drop_dOf : dropK (dOf ks f) (Sum.inl k) = dOf (ks.filter fun q => !decide (q = k)) f := by
  unfold dropK dOf
  rw [List.filter_map]
  congr 1
  refine List.filter_congr fun q _ => ?_
  show decide ((Sum.inl q : Key) ≠ Sum.inl k) = !decide (q = k)
  by_cases z : q = k
  · subst z; simp
  · simp [z]
theorem w_dgetO (e : H a = some (.dK (dOf ks f))) (h : k ∈ ks) (q : Q (f k) H) : kDGet (.ref a) (.int k) H Q := w_dgetI e (val_dOf h) q
theorem w_dputO (e : H a = some (.dK (dOf ks f))) (l : ks.length < sizeLine) (h : k ∈ ks) (q : R (upd H a (.dK (dOf ks fun q => if q = k then v else f q)))) : kDPut v (.ref a) (.int k) H R := w_dputI e (by rw [dOf_len]; exact l) (by rw [put_dOf h]; exact q)
theorem w_dputON (e : H a = some (.dK (dOf ks f))) (l : ks.length < sizeLine) (h : k ∉ ks) (hf : ∀ q, q ∈ ks → g q = f q) (hv : g k = v) (q : R (upd H a (.dK (dOf (ks ++ [k]) g)))) : kDPut v (.ref a) (.int k) H R :=
  w_dputI e (by rw [dOf_len]; exact l) (by
    rw [put_dOfN h]
    rw [dOf_app, dOf_congr hf, show dOf [k] g = [(Sum.inl k, v)] by unfold dOf; rw [← hv]; rfl] at q
    exact q)
def kDIn (y x : V) (H : Hp) (Q : VK) : Prop := ∃ a o, x = .ref a ∧ DGet H a y o ∧ Q (.bl o.isSome) H
theorem w_din (h : ty σ H fun y H1 => td σ H1 fun x H2 => kDIn y x H2 Q) : tDIn ty td σ H Q := h
theorem w_dinO (e : H a = some (.dK (dOf ks f))) (h : Q (.bl (decide (k ∈ ks))) H) : kDIn (.int k) (.ref a) H Q := ⟨a, _, rfl, DGet.k (k := Sum.inl k) e, by rw [val_dOfS]; exact h⟩
def kDDel (x y : V) (H : Hp) (R : Hp → Prop) : Prop := ∃ a kvs k, x = .ref a ∧ H a = some (.dK kvs) ∧ y = kV k ∧ (valV kvs k).isSome = true ∧ R (upd H a (.dK (dropK kvs k)))
theorem w_ddel (h : td σ H fun x H1 => ty σ H1 fun y H2 => kDDel x y H2 (D.nx σ)) : sDDel td ty D σ H := h
theorem w_ddelO (e : H a = some (.dK (dOf ks f))) (h : k ∈ ks) (q : R (upd H a (.dK (dOf (ks.filter fun q => !decide (q = k)) f)))) : kDDel (.ref a) (.int k) H R :=
  ⟨a, _, Sum.inl k, rfl, e, rfl, by rw [val_dOfS, decide_eq_true h], by rw [drop_dOf]; exact q⟩
theorem w_sortO2 (e : H a = some (.dK (dOf ks f))) (h : ∀ p, H p = none → Q (.ref p) (upd H p (.lst ((srt ks).map V.int)))) : rSortX K [.ref a] H Q := Or.inr ⟨a, _, ks, rfl, e, dOf_keys, fun ys p hp hs n => by rw [srt_eq hp hs]; exact h p n⟩
end
/-! ### the ints 0 .. n - 1 -/
def upTo (n : Nat) : List Int := (List.range n).map fun k : Nat => ((k : Nat) : Int)
theorem upTo_mem {n : Nat} {x : Int} : x ∈ upTo n ↔ 0 ≤ x ∧ x < n := by
  unfold upTo
  rw [List.mem_map]
  constructor
  · rintro ⟨k, hk, rfl⟩
    have := List.mem_range.mp hk
    omega
  · rintro ⟨h0, h1⟩
    exact ⟨x.toNat, List.mem_range.mpr (by omega), by omega⟩
theorem upTo_succ (n : Nat) : upTo (n + 1) = upTo n ++ [(n : Int)] := by unfold upTo; rw [List.range_succ, List.map_append]; rfl
theorem upTo_len (n : Nat) : (upTo n).length = n := by unfold upTo; rw [List.length_map, List.length_range]
theorem upTo_lt (n : Nat) : (upTo n).Pairwise (· < ·) := by
  unfold upTo
  rw [List.pairwise_map]
  exact List.pairwise_lt_range.imp fun h => Int.ofNat_lt.mpr h
theorem upTo_srt {n : Nat} {p : Int → Bool} : srt ((upTo n).filter p) = (upTo n).filter p := srt_of (((upTo_lt n).filter p).imp fun h => by omega)
/-- a list of ints that are told, in a list or a tuple -/
theorem w_inIT {K : PySem.W.Frag} {H : Hp} {Q : VK} {a : Addr} {i : Int} {ns : List Int} (e : SqT K H a (ns.map V.int)) (h : Q (.bl (decide (i ∈ ns))) H) : rInX K (.int i) (.ref a) H Q := w_inT e rfl (flat_ints ns) (by rw [inV_ints]; exact h)
/-! ### lists of ints that are the same -/
theorem dp_ints {K : PySem.W.Frag} {H : Hp} : ∀ {ns : List Int}, DpAll K H (ns.map V.int) (ns.map PyData.int)
  | [] => .nil
  | n :: r => .cons (.int n) dp_ints
theorem eqvAll_ints : ∀ ns : List Int, PyData.eqvAll (ns.map PyData.int) (ns.map PyData.int) = true
  | [] => by simp [PyData.eqvAll]
  | n :: r => by simp [PyData.eqvAll, PyData.eqv, eqvAll_ints r]
theorem eqv_ints (ns : List Int) : PyData.eqv (.list (ns.map PyData.int)) (.list (ns.map PyData.int)) = true := by
  simp [PyData.eqv, eqvAll_ints]
theorem depthAll_ints : ∀ ns : List Int, PyData.depthAll (ns.map PyData.int) ≤ 1
  | [] => by simp [PyData.depthAll]
  | n :: r => by
    have := depthAll_ints r
    simp [PyData.depthAll, PyData.depth]; omega
theorem layAll_ints : ∀ ns : List Int, PyData.canLayAll0 (ns.map PyData.int) = true
  | [] => by simp [PyData.canLayAll0]
  | n :: r => by simp [PyData.canLayAll0, PyData.canLay0, layAll_ints r]
theorem shaped_ints (ns : List Int) : SeqAt.shaped (.list (ns.map PyData.int)) = true := by
  unfold SeqAt.shaped
  simp [PyData.canLay0, PyData.depth, layAll_ints]
  have := depthAll_ints ns
  omega
theorem w_neLI {K : PySem.W.Frag} {H : Hp} {Q : VK} {a b : Addr} {ns : List Int} (ha : SqL K H a (ns.map V.int)) (hb : SqL K H b (ns.map V.int)) (h : Q (.bl false) H) : rNeX K (.ref a) (.ref b) H Q :=
  w_neD (Dp.lst ha dp_ints) (Dp.lst hb dp_ints) (shaped_ints ns) (shaped_ints ns) (by rw [eqv_ints]; exact h)
theorem atI_last {α : Type} {xs : List α} {x : α} (h : xs[xs.length - 1]? = some x) : atI xs (-1) = some x := by
  have hl : 0 < xs.length := by
    have := (List.getElem?_eq_some_iff.mp h).1
    omega
  unfold atI ixN
  rw [if_neg (by omega), if_pos (by omega)]
  show xs[_]? = some x
  rw [← h]
  congr 1
  omega
theorem eqv_intsE : ∀ ns : List Int, PyData.eqv (.list (ns.map PyData.int)) (.list []) = decide (ns = [])
  | [] => by simp [PyData.eqv, PyData.eqvAll]
  | n :: r => by simp [PyData.eqv, PyData.eqvAll]
theorem w_neE {K : PySem.W.Frag} {H : Hp} {Q : VK} {a b : Addr} {ns : List Int} (ha : SqL K H a (ns.map V.int)) (hb : SqL K H b []) (h : Q (.bl (!decide (ns = []))) H) : rNeX K (.ref a) (.ref b) H Q :=
  w_neD (Dp.lst ha dp_ints) (Dp.lst hb .nil) (shaped_ints ns) (shaped_ints []) (by rw [eqv_intsE]; exact h)
theorem w_eqE {K : PySem.W.Frag} {H : Hp} {Q : VK} {a b : Addr} {ns : List Int} (ha : SqL K H a (ns.map V.int)) (hb : SqL K H b []) (h : Q (.bl (decide (ns = []))) H) : rEqX K (.ref a) (.ref b) H Q :=
  w_eqD (Dp.lst ha dp_ints) (Dp.lst hb .nil) (shaped_ints ns) (shaped_ints []) (by rw [eqv_intsE]; exact h)
theorem w_chain {r r' : R2} {ta tb tc : TE} {σ : L2.St} {H : Hp} {Q : VK} (h : ta σ H fun x H1 => tb σ H1 fun y H2 => r x y H2 fun z H3 => ∃ k, z = V.bl k ∧ if k = true then tc σ H3 fun w' H4 => r' y w' H4 Q else Q (V.bl false) H3) : tChain r r' ta tb tc σ H Q := h
theorem w_par {i j : Nat} {ta : TA} {D : Ends} {σ : L2.St} {H : Hp} (h : ta σ H fun vs H1 => ∃ v w, vs = [v, w] ∧ D.nx ((List.set σ i (some v)).set j (some w)) H1) : tPar i j ta D σ H := h
theorem w_par2 {x y : V} {R : V → V → Prop} (h : R x y) : ∃ v w, [x, y] = [v, w] ∧ R v w := ⟨x, y, rfl, h⟩
end Ak
local macro_rules | `(tactic| walk_at "as") => `(tactic| with_reducible assumption)
local macro_rules | `(tactic| walk_at "lkl") => `(tactic| first
  | walk_at "as"
  | with_reducible exact L2.upd_same
  | ((with_reducible show L2.upd _ _ _ _ = _); exact Ak.at_new (by walk_at "as") (by walk_at "lkl")))
local macro_rules | `(tactic| walk_at "nel") => `(tactic| first
  | walk_at "as"
  | exact Ne.symm (by walk_at "as")
  | exact Ne.symm (Ak.ne_new (by walk_at "as") (by walk_at "lkl"))
  | exact Ak.ne_new (by walk_at "as") (by walk_at "lkl")
  | exact L2.ne_of (by walk_at "as") (by walk_at "as") (by intro z; cases z))
local macro_rules | `(tactic| walk_at "ninl") => `(tactic| first | with_reducible exact Ak.nin_nil | walk_at "as" | ((with_reducible show ¬ (_ ∈ _ :: _)); exact Ak.nin_cons (by walk_at "nel") (by walk_at "ninl")))
local macro_rules | `(tactic| walk_at "lk") => `(tactic| first
  | walk_at "as"
  | with_reducible exact L2.upd_same
  | ((with_reducible show L2.upd _ _ _ _ = _); first | exact Ak.at_new (by walk_at "as") (by walk_at "lk") | exact Ak.at_upd (by walk_at "nel") (by walk_at "lk"))
  | exact Ak.Keep.at (by walk_at "as") (by walk_at "ninl") (by walk_at "lk"))
local macro_rules | `(tactic| walk_at "ne") => `(tactic| first
  | walk_at "nel"
  | exact Ne.symm (Ak.ne_new (by walk_at "as") (by walk_at "lk"))
  | exact Ak.ne_new (by walk_at "as") (by walk_at "lk"))
local macro_rules | `(tactic| walk_at "nin") => `(tactic| first | with_reducible exact Ak.nin_nil | walk_at "as" | ((with_reducible show ¬ (_ ∈ _ :: _)); exact Ak.nin_cons (by walk_at "ne") (by walk_at "nin")))
local macro_rules | `(tactic| walk_at "mem") => `(tactic| ((with_reducible show _ ∈ _ :: _); first | with_reducible exact List.mem_cons_self | exact List.mem_cons_of_mem _ (by walk_at "mem")))
local macro_rules | `(tactic| walk_at "sub") => `(tactic| first | with_reducible exact fun _ m => m | with_reducible exact Ak.sub_nil | ((with_reducible show ∀ b, b ∈ _ :: _ → _); exact Ak.sub_cons (by walk_at "mem") (by walk_at "sub")))
local macro_rules | `(tactic| walk_at "kp") => `(tactic| first
  | with_reducible exact Ak.Keep.refl
  | walk_at "as"
  | ((with_reducible show Ak.Keep _ _ (L2.upd _ _ _)); first | exact Ak.Keep.new' (by walk_at "as") (by walk_at "kp") | exact Ak.Keep.set' (by walk_at "mem") (by walk_at "kp") | exact Ak.Keep.own' (by walk_at "as") (by walk_at "kp"))
  | exact Ak.Keep.call (by walk_at "as") (by walk_at "sub") (by walk_at "kp"))
local macro_rules | `(tactic| walk_at "sqd") => `(tactic| first
  | walk_at "as"
  | ((with_reducible show L2.SqL _ (L2.upd _ _ _) _ _); exact Ak.SqL.upd (by walk_at "sqd") (by walk_at "as"))
  | ((with_reducible show L2.SqL _ _ _ _); exact Ak.Keep.seqL (by walk_at "as") (by walk_at "nin") (by walk_at "sqd"))
  | ((with_reducible show L2.SqT _ (L2.upd _ _ _) _ _); exact Ak.SqT.upd (by walk_at "sqd") (by walk_at "as"))
  | ((with_reducible show L2.SqT _ _ _ _); exact Ak.Keep.seqT (by walk_at "as") (by walk_at "nin") (by walk_at "sqd")))
local macro_rules | `(tactic| walk_at "sqh") => `(tactic| first
  | walk_at "as"
  | ((with_reducible show L2.SqL _ _ _ _); first | exact Ak.Ext0.seqL (by walk_at "as") (by walk_at "xt") | exact Ak.chkL (by walk_at "as") (by walk_at "sqd"))
  | ((with_reducible show L2.SqT _ _ _ _); first | exact Ak.Ext0.seqT (by walk_at "as") (by walk_at "xt") | exact Ak.chkT (by walk_at "as") (by walk_at "sqd")))
local macro_rules | `(tactic| walk_at "sq") => `(tactic| first
  | walk_at "sqh"
  | ((with_reducible show L2.SqL _ _ _ _); exact L2.SqL.of (by walk_at "lk"))
  | ((with_reducible show L2.SqT _ _ _ _); exact L2.SqT.of (by walk_at "lk")))
local macro_rules | `(tactic| walk_at "xt") => `(tactic| first
  | walk_at "as"
  | with_reducible exact Ak.Ext0.refl
  | ((with_reducible show LamX.ExtN _ (L2.upd _ _ _)); first | exact Ak.Ext0.set (by walk_at "xt") (by walk_at "as") | exact Ak.Ext0.new (by walk_at "xt") (by walk_at "as"))
  | exact Ak.Ext0.kept (by walk_at "as") (by walk_at "xt") (by walk_at "n0"))
local macro_rules | `(tactic| walk_at "n0") => `(tactic| first | exact Ak.none_nil | exact Ak.none_in (by walk_at "n0") (by walk_at "as"))
local macro_rules | `(tactic| walk_at "sz") => `(tactic| first | walk_at "as" | exact Ak.sz_of rfl | exact Ak.sz_lt rfl | (rw [PySem.sizeLine_eq]; omega) | (simp only [List.length_append, List.length_cons, List.length_nil, List.length_map, PySem.sizeLine_eq]; omega))
local macro_rules | `(tactic| walk_at "ix") => `(tactic| first | walk_at "as" | ((with_reducible show L2.atI _ (OfNat.ofNat _) = _); exact rfl))
local macro_rules | `(tactic| walk_at "fl") => `(tactic| first | walk_at "as" | with_reducible exact Ak.look_hd | with_reducible exact Ak.look_nil | ((with_reducible show List.lookup _ (_ :: _) = _); exact Eq.trans (Ak.look_tl (by decide +kernel)) (by walk_at "fl")))
local macro_rules | `(tactic| walk_at "dv") => `(tactic| first | walk_at "as" | with_reducible exact Ak.val_hd | with_reducible exact Ak.val_nil | ((with_reducible show L2.valV (_ :: _) _ = _); exact Eq.trans (Ak.val_tl (by decide +kernel)) (by walk_at "dv")))
local macro_rules | `(tactic| walk_at "s") => `(tactic| first
  | with_reducible refine Ak.w_seq ?_
  | with_reducible refine Ak.w_asg ?_
  | with_reducible refine Ak.w_name ?_
  | with_reducible refine Ak.w_op ?_
  | ((with_reducible show L2.tVar _ _ _ _); refine Ak.w_var (by exact rfl) ?_)
  | with_reducible refine Ak.w_c ?_
  | with_reducible refine Ak.w_plusI ?_
  | with_reducible refine Ak.w_I0 ?_
  | with_reducible refine Ak.w_fldE ?_
  | with_reducible refine Ak.w_if ?_
  | with_reducible refine Ak.w_iT ?_
  | with_reducible refine Ak.w_iF ?_
  | with_reducible refine Ak.w_nT ?_
  | with_reducible refine Ak.w_nF ?_
  | with_reducible refine Ak.w_test ?_
  | with_reducible refine Ak.w_eqI ?_
  | with_reducible refine Ak.w_neI ?_
  | with_reducible refine Ak.w_eqS ?_
  | with_reducible refine Ak.w_neS ?_
  | with_reducible refine Ak.w_neTT ?_
  | with_reducible refine Ak.w_eqB ?_
  | with_reducible refine Ak.w_neB ?_
  | with_reducible refine Ak.w_isNN ?_
  | with_reducible refine Ak.w_isNR ?_
  | with_reducible refine Ak.w_isNI ?_
  | with_reducible refine Ak.w_isNB ?_
  | with_reducible refine Ak.w_isNS ?_
  | with_reducible refine Ak.w_ntNN ?_
  | with_reducible refine Ak.w_ntNR ?_
  | with_reducible refine Ak.w_ntNI ?_
  | with_reducible refine Ak.w_isN ?_
  | with_reducible refine Ak.w_notN ?_
  | with_reducible refine Ak.w_bl ?_
  | with_reducible refine Ak.w_tru ?_
  | with_reducible refine Ak.w_truB ?_
  | with_reducible refine Ak.w_truI ?_
  | with_reducible refine Ak.w_tB ?_
  | with_reducible refine Ak.w_cons ?_
  | with_reducible refine Ak.w_nil ?_
  | with_reducible refine Ak.w_call ?_
  | with_reducible refine Ak.w_meth ?_
  | with_reducible refine Ak.w_cb ?_
  | with_reducible refine Ak.w_ret ?_
  | with_reducible refine Ak.w_retN ?_
  | with_reducible refine Ak.w_drop ?_
  | with_reducible refine Ak.w_next ?_
  | with_reducible refine Ak.w_cont ?_
  | with_reducible refine Ak.w_brk ?_
  | with_reducible refine Ak.w_and ?_
  | with_reducible refine Ak.w_or ?_
  | with_reducible refine Ak.w_not ?_
  | with_reducible refine Ak.w_andV ?_
  | with_reducible refine Ak.w_orV ?_
  | with_reducible refine Ak.w_notV ?_
  | with_reducible refine Ak.w_ifx ?_
  | with_reducible refine Ak.w_max2 ?_
  | with_reducible refine Ak.w_min2 ?_
  | with_reducible refine Ak.w_intI ?_
  | with_reducible refine Ak.w_intB ?_
  | with_reducible refine Ak.w_un ?_
  | with_reducible refine Ak.w_U ?_
  | with_reducible refine Ak.w_dget ?_
  | with_reducible refine Ak.w_dput ?_
  | with_reducible refine Ak.w_sfld ?_
  | with_reducible refine Ak.w_bm ?_
  | with_reducible refine Ak.w_bm0 ?_
  | with_reducible refine Ak.w_tup ?_
  | with_reducible refine Ak.w_lst ?_
  | with_reducible refine Ak.w_make ?_
  | with_reducible refine Ak.w_gnil ?_
  | with_reducible refine Ak.w_gcons ?_
  | with_reducible refine Ak.w_gsub ?_
  | with_reducible refine Ak.w_forList ?_
  | with_reducible refine Ak.w_forR1 ?_
  | with_reducible refine Ak.w_forR2 ?_
  | with_reducible refine Ak.w_forZ ?_
  | with_reducible refine Ak.w_lcL ?_
  | with_reducible refine Ak.w_lcT ?_
  | with_reducible refine Ak.w_lcR1 ?_
  | with_reducible refine Ak.w_lcR2 ?_
  | with_reducible refine Ak.w_yes ?_
  | with_reducible refine Ak.w_turn ?_
  | with_reducible refine Ak.w_pairs0 ?_
  | with_reducible refine Ak.w_pairs ?_
  | with_reducible refine Ak.w_eq0S ?_
  | with_reducible refine Ak.w_ne0I ?_
  | with_reducible refine Ak.w_disp fun _ _ => ?_
  | ((with_reducible show L2.wipe _ _ = L2.wipe _ _ ∧ _); refine ⟨by exact rfl, ?_⟩)
  | ((with_reducible show Ak.kFld _ _ _ _ _); refine Ak.w_fldK (by walk_at "lk") (by walk_at "as") (by walk_at "as") (by walk_at "fl") ?_)
  | ((with_reducible show Ak.kMeth _ _ _ _ _); refine Ak.w_methK (by walk_at "lk") (by walk_at "fl") ?_)
  | ((with_reducible show Ak.rPlus _ (L2.V.ref _) (L2.V.ref _) _ _); refine Ak.w_plusL (by walk_at "lk") (by walk_at "lk") (by walk_at "sz") fun _ _ => ?_)
  | ((with_reducible show Ak.rTimes (L2.V.int _) (L2.V.int _) _ _); refine Ak.w_timesI (by first | exact Or.inl (by omega) | exact Or.inr (by omega)) ?_)
  | ((with_reducible show L2.rI _ _ _ _ _ _); refine Ak.w_I (by walk_at "ci") ?_)
  | ((with_reducible show L2.rIx _ _ (L2.V.int (OfNat.ofNat _)) _ _); first | refine Ak.w_ixO (by walk_at "lk") (by exact rfl) (by exact rfl) ?_ | refine Ak.w_ixL (by walk_at "sqh") (by exact rfl) ?_ | refine Ak.w_ixT (by walk_at "sqh") (by exact rfl) ?_)
  | ((with_reducible show L2.rIx _ _ (L2.V.int _) _ _); first | refine Ak.w_ixL (by walk_at "sqh") (by walk_at "as") ?_ | refine Ak.w_ixT (by walk_at "sqh") (by walk_at "as") ?_ | refine Ak.w_ixO (by walk_at "lk") (by exact rfl) (by walk_at "as") ?_)
  | ((with_reducible show Ak.rLenX _ [L2.V.ref _] _ _); first | refine Ak.w_lenL (by walk_at "sqh") ?_ | refine Ak.w_lenT (by walk_at "sqh") ?_ | refine Ak.w_lenO (by walk_at "lk") (by exact rfl) ?_)
  | ((with_reducible show Ak.rTupX _ [L2.V.ref _] _ _); refine Ak.w_tupL (by walk_at "sq") fun _ _ => ?_)
  | ((with_reducible show L2.rSetL (L2.V.ref _) (L2.V.int _) _ _ _); (with_reducible show L2.rSetL (L2.V.ref _) (L2.V.int (OfNat.ofNat _)) _ _ _); refine Ak.w_setL (by walk_at "lk") (by exact rfl) ?_)
  | ((with_reducible show Ak.kDGet _ (L2.V.str _) _ _); refine Ak.w_dgetS (by walk_at "lk") (by walk_at "dv") ?_)
  | ((with_reducible show L2.rAppend _ _ _ _); refine Ak.w_app (by walk_at "lk") (by walk_at "sz") ?_)
  | ((with_reducible show L2.gTup _ _ _ _ _ _ _); first | refine Ak.w_gtup (by walk_at "sqh") (by exact rfl) ?_ | refine Ak.w_gtupO (by walk_at "lk") (by exact rfl) ?_)
  | ((with_reducible show L2.tyV _ _ _ _ ∧ _); refine ⟨Ak.tyL (by walk_at "lk"), ?_⟩)
  | ((with_reducible show _ ≤ PySem.sizeLine ∧ ∀ _, _); refine ⟨by walk_at "sz", fun _ _ => ?_⟩))
local macro_rules | `(tactic| walk_at "ty") => `(tactic| first | with_reducible exact L2.TyX.base (.int _) | with_reducible exact L2.TyX.base (.bl _) | with_reducible exact L2.TyX.base (.str _) | with_reducible exact L2.TyX.base .non | exact Ak.tyT (by walk_at "sqh") | exact Ak.tyLs (by walk_at "sqh") | exact Ak.tyO (by walk_at "lk") (by exact rfl))
local macro_rules | `(tactic| walk_at "s") => `(tactic| ((with_reducible show L2.rIsi _ [_, L2.V.ty _] _ _); first | refine Ak.w_isiB (k := true) (by walk_at "ty") (by decide +kernel) ?_ | refine Ak.w_isiB (k := false) (by walk_at "ty") (by decide +kernel) ?_))
local macro_rules | `(tactic| walk_at "pf") => `(tactic| first | with_reducible exact Ak.putF_hd | with_reducible exact Ak.putF_nil | ((with_reducible show L2.putF _ _ (_ :: _) = _); exact Eq.trans (Ak.putF_tl (by decide +kernel)) (congrArg (List.cons _) (by walk_at "pf"))))
local macro_rules | `(tactic| walk_at "s") => `(tactic| ((with_reducible show Ak.kSFld _ _ _ _ _ _); refine Ak.w_sfldP (by walk_at "lk") (by walk_at "as") (by walk_at "as") (Ak.lt_of rfl) (by walk_at "pf") ?_))
local macro_rules | `(tactic| walk_at "s") => `(tactic| ((with_reducible show Ak.rInX _ (L2.V.int _) (L2.V.ref _) _ _); refine Ak.w_inI (by walk_at "lk") ?_))
local macro_rules | `(tactic| walk_at "s") => `(tactic| ((with_reducible show Ak.rNinX _ (L2.V.int _) (L2.V.ref _) _ _); refine Ak.w_ninI (by walk_at "lk") ?_))
local macro_rules | `(tactic| walk_at "nk") => `(tactic| first | exact Ak.nk_nil | exact Ak.nk_cons (by decide +kernel) (by walk_at "nk"))
local macro_rules | `(tactic| walk_at "nd") => `(tactic| first | exact Ak.nd_nil | exact Ak.nd_cons (by walk_at "nk") (by walk_at "nd"))
local macro_rules | `(tactic| walk_at "dp") => `(tactic| ((with_reducible show L2.putK (_ :: _) _ _ = _); first | exact Ak.put_hd (by walk_at "nk") | exact Eq.trans (Ak.put_tl (by decide +kernel)) (congrArg (List.cons _) (by walk_at "dp"))))
local macro_rules | `(tactic| walk_at "s") => `(tactic| ((with_reducible show Ak.kDPut _ (L2.V.ref _) (L2.V.str _) _ _); refine Ak.w_dputP (by walk_at "lk") (Ak.sz_lt rfl) (by walk_at "dp") ?_))
local macro_rules | `(tactic| walk_at "s") => `(tactic| ((with_reducible show Ak.rIsE2 _ _ _ _ _ _ _); first | refine Ak.w_isE (by exact rfl) (by exact rfl) (by walk_at "as") (by walk_at "as") ?_ | refine Ak.w_isET (by exact rfl) (by exact rfl) (by walk_at "as") (by walk_at "as") ?_))
local macro_rules | `(tactic| walk_at "s") => `(tactic| ((with_reducible show Ak.rCntX _ _ _ _ _); refine Ak.w_cnt (by walk_at "lk") (by exact rfl) (by exact rfl) (by exact rfl) ?_))
local macro_rules | `(tactic| walk_at "s") => `(tactic| first
  | with_reducible refine Ak.w_fldaug ?_
  | with_reducible refine Ak.w_addI ?_
  | with_reducible refine Ak.w_dnot ?_
  | with_reducible refine Ak.w_lcE ?_
  | ((with_reducible show L2.rClear (L2.V.ref _) _ _ _); refine Ak.w_clear (by walk_at "lk") ?_)
  | with_reducible refine Ak.w_dnewK fun _ _ => ?_
  | with_reducible refine Ak.w_forTup ?_
  | ((with_reducible show Ak.kFA _ _ _ _ _ _ _ _); refine Ak.w_fa (by walk_at "lk") (by walk_at "as") (by walk_at "as") (by walk_at "fl") ?_)
  | ((with_reducible show Ak.kFS _ _ _ _ _ _ _); refine Ak.w_fs (by walk_at "lk") (Ak.lt_of rfl) (by walk_at "pf") ?_)
  | ((with_reducible show Ak.kDNot (L2.V.int _) (L2.V.ref _) _ _); refine Ak.w_dnotS (by walk_at "lk") ?_)
  | ((with_reducible show Ak.rSortX _ [L2.V.ref _] _ _); first | refine Ak.w_sortO (by walk_at "lk") fun _ _ => ?_ | refine Ak.w_sortD (by walk_at "lk") fun _ _ => ?_))
local macro_rules | `(tactic| walk_at "ci") => `(tactic| first | decide | omega | (constructor <;> first | decide | omega) | exact ⟨by decide, by decide, by decide⟩)
local macro_rules | `(tactic| walk_at "dc") => `(tactic| first | walk_at "as" | exact Ak.Dice.keep (S := []) (by walk_at "as") (by walk_at "kp") Ak.nin_nil Ak.none_nil)
local macro_rules | `(tactic| walk_at "s") => `(tactic| ((with_reducible show Ak.spNext _ _ _ _ _); refine Ak.next_go (by walk_at "dc") (by omega) (by omega) fun _ _ _ _ _ _ _ _ => ?_))
local macro_rules | `(tactic| walk_at "pk") => `(tactic| (intro x hx; (repeat (rcases List.mem_cons.mp hx with rfl | hx; · exact ⟨_, rfl, by omega⟩)); exact absurd hx List.not_mem_nil))
local macro_rules | `(tactic| walk_at "rd") => `(tactic| repeat (walk_at "s"))
local macro_rules | `(tactic| walk_at "lv") => `(tactic| first | decide | omega)
local macro_rules | `(tactic| walk_at "s") => `(tactic| first
  | with_reducible refine Ak.w_slice ?_
  | with_reducible refine Ak.w_par ?_
  | with_reducible refine Ak.w_par2 ?_
  | with_reducible refine Ak.w_chain ?_
  | with_reducible refine Ak.w_noP ?_
  | with_reducible refine Ak.w_part ?_
  | with_reducible refine Ak.w_isI ?_
  | with_reducible refine Ak.w_din ?_
  | with_reducible refine Ak.w_ddel ?_
  | ((with_reducible show L2.rExtend (L2.V.ref _) [L2.V.ref _] _ _); refine Ak.w_ext (by walk_at "lk") (by walk_at "lk") (by walk_at "sz") ?_)
  | ((with_reducible show Ak.kDGet _ (L2.V.int _) _ _); refine Ak.w_dgetO (by walk_at "lk") (by walk_at "as") ?_)
  | ((with_reducible show Ak.kDIn (L2.V.int _) (L2.V.ref _) _ _); refine Ak.w_dinO (by walk_at "lk") ?_)
  | ((with_reducible show Ak.rSortX _ [L2.V.ref _] _ _); refine Ak.w_sortO2 (by walk_at "lk") fun _ _ => ?_))
namespace Ak
open PySem PySem.Spec PyProof.Rows L2
def top (i : Nat) : Stmt := PySem.Challenge.pw_ackbits_k08_loads.main.body.getD i (.Pass ⟨0, 0, 0, 0⟩)
abbrev s_check_number : Stmt := top 5
abbrev N_check_number : List Str := ["word", "number", "least", "most"]
theorem sc_check_number : FnScope N_check_number ["word", "number"] (defScope s_check_number) := ⟨rfl, rfl, rfl, by decide +kernel, rfl, by decide +kernel, by decide +kernel⟩
abbrev s_Load___init : Stmt := inClass (top 7) 0
abbrev N_Load___init : List Str := ["self", "room", "wait"]
theorem sc_Load___init : FnScope N_Load___init ["self", "room", "wait"] (defScope s_Load___init) := ⟨rfl, rfl, rfl, by decide +kernel, rfl, by decide +kernel, by decide +kernel⟩
abbrev s_Load_put : Stmt := inClass (top 7) 1
abbrev N_Load_put : List Str := ["self", "piece"]
theorem sc_Load_put : FnScope N_Load_put ["self"] (defScope s_Load_put) := ⟨rfl, rfl, rfl, by decide +kernel, rfl, by decide +kernel, by decide +kernel⟩
abbrev s_Load_fill : Stmt := inClass (top 7) 2
abbrev N_Load_fill : List Str := ["self", "number", "ready", "piece", "pieces"]
theorem sc_Load_fill : FnScope N_Load_fill ["self"] (defScope s_Load_fill) := ⟨rfl, rfl, rfl, by decide +kernel, rfl, by decide +kernel, by decide +kernel⟩
abbrev s_Load_came : Stmt := inClass (top 7) 3
abbrev N_Load_came : List Str := ["self", "letters", "found", "number"]
theorem sc_Load_came : FnScope N_Load_came ["self", "letters"] (defScope s_Load_came) := ⟨rfl, rfl, rfl, by decide +kernel, rfl, by decide +kernel, by decide +kernel⟩
abbrev s_Load_waits : Stmt := inClass (top 7) 4
abbrev N_Load_waits : List Str := ["self"]
theorem sc_Load_waits : FnScope N_Load_waits ["self"] (defScope s_Load_waits) := ⟨rfl, rfl, rfl, by decide +kernel, rfl, by decide +kernel, by decide +kernel⟩
abbrev s_Load__is_ready : Stmt := inClass (top 7) 5
abbrev N_Load__is_ready : List Str := ["self", "piece", "number", "latest"]
theorem sc_Load__is_ready : FnScope N_Load__is_ready ["self", "piece", "number"] (defScope s_Load__is_ready) := ⟨rfl, rfl, rfl, by decide +kernel, rfl, by decide +kernel, by decide +kernel⟩
abbrev s_Load__free : Stmt := inClass (top 7) 6
abbrev N_Load__free : List Str := ["self", "number", "pieces", "piece"]
theorem sc_Load__free : FnScope N_Load__free ["self", "number"] (defScope s_Load__free) := ⟨rfl, rfl, rfl, by decide +kernel, rfl, by decide +kernel, by decide +kernel⟩
abbrev s_l_dice : Stmt := top 9
abbrev N_l_dice : List Str := ["_law_script", "_law_mixed", "_law_cell"]
theorem sc_l_dice : FnScope N_l_dice ["_law_script"] (defScope s_l_dice) := ⟨rfl, rfl, rfl, by decide +kernel, rfl, by decide +kernel, by decide +kernel⟩
abbrev s_l_next : Stmt := top 10
abbrev N_l_next : List Str := ["_law_dice_here", "_law_many", "_law_found", "_law_cell"]
theorem sc_l_next : FnScope N_l_next ["_law_dice_here", "_law_many"] (defScope s_l_next) := ⟨rfl, rfl, rfl, by decide +kernel, rfl, by decide +kernel, by decide +kernel⟩
abbrev s_l_like : Stmt := top 11
abbrev N_l_like : List Str := ["_law_found", "_law_due", "_law_key", "_law_k"]
theorem sc_l_like : FnScope N_l_like ["_law_found", "_law_due"] (defScope s_l_like) := ⟨rfl, rfl, rfl, by decide +kernel, rfl, by decide +kernel, by decide +kernel⟩
abbrev s_l_fill : Stmt := top 12
abbrev N_l_fill : List Str := ["_law_own", "_law_found", "_law_piece", "_law_letters", "_law_k", "_law_far"]
theorem sc_l_fill : FnScope N_l_fill ["_law_own"] (defScope s_l_fill) := ⟨rfl, rfl, rfl, by decide +kernel, rfl, by decide +kernel, by decide +kernel⟩
abbrev s_l_came : Stmt := top 13
abbrev N_l_came : List Str := ["_law_own", "_law_letters", "_law_found", "_law_letter", "_law_piece"]
theorem sc_l_came : FnScope N_l_came ["_law_own", "_law_letters"] (defScope s_l_came) := ⟨rfl, rfl, rfl, by decide +kernel, rfl, by decide +kernel, by decide +kernel⟩
abbrev s_law : Stmt := top 14
abbrev N_law : List Str := ["_law_script", "_law_d", "_law_sides", "_law_k", "_law_room", "_law_wait", "_law_turn", "_law_load", "_law_own", "_law_way", "_law_found", "_law_due", "_law_letters", "_law_handed", "_law_one", "_law_other", "_law_waits", "_law_piece"]
theorem sc_law : FnScope N_law ["_law_script"] (defScope s_law) := ⟨rfl, rfl, rfl, by decide +kernel, rfl, by decide +kernel, by decide +kernel⟩
end Ak
namespace Ak
open PySem PySem.Spec PyProof.Rows L2
def spCheckMark : Sp := fun vs H Q _ => ∃ k m, vs = [.int k, .int m] ∧ 0 ≤ k ∧ k < m ∧ Q .non H
/-- what is raised as a class of one's own, without __init__ -/
structure RaiseC (K : PySem.W.Frag) (mg : Str → Option Value) (x : Str) (C : Addr) : Prop where
  q : PySem.W.excIn K C [.type "ValueError", .type "Exception", .type "BaseException", .type "object"] "ValueError.__new__" = true
  g : mg x = some (.ref C)
  k : PySem.W.keepIn K (.ref C) = true
  s : PySem.W.subIn K (.ref C) (.type "BaseException") = some true
  t : PySem.W.typeIn K (.ref C) = some (.type "type")
theorem RaiseC.r {X : Cx} {x : Str} {C : Addr} (R : RaiseC X.K X.mg x C) : Raises X (.ref C) := raises_own R.s R.t
/-- the bounds of each number, by its word -/
inductive BoundOf : Str → Int → Int → Prop
  | marks : BoundOf "marks" 2 64
  | wide : BoundOf "wide" 0 16
  | late : BoundOf "late" 0 8
  | ahead : BoundOf "ahead" 1 16
  | room : BoundOf "room" 1 8
  | wait : BoundOf "wait" 1 20
structure BoundsT (K : PySem.W.Frag) (w : World) (mg : Str → Option Value) (b : Addr) : Prop where
  g : mg "BOUNDS" = some (.ref b)
  get : ∀ wd lo hi, BoundOf wd lo hi → ∃ t, KDct K w b wd (.ref t) ∧ ∀ H, SqT K H t [.int lo, .int hi]
theorem bounds_mk {K : PySem.W.Frag} {w : World} {mg : Str → Option Value} {b t1 t2 t3 t4 t5 t6 : Addr} {es : Array DictEntry} {n : Nat} (g : mg "BOUNDS" = some (.ref b))
    (lk : K.lookup b = some { cls := .type "dict", data := .dict es n }) (kl : PySem.W.KeysLit w.params es.toList)
    (n1 : PySem.W.nsIn K b "marks" = some (some (.ref t1))) (n2 : PySem.W.nsIn K b "wide" = some (some (.ref t2))) (n3 : PySem.W.nsIn K b "late" = some (some (.ref t3)))
    (n4 : PySem.W.nsIn K b "ahead" = some (some (.ref t4))) (n5 : PySem.W.nsIn K b "room" = some (some (.ref t5))) (n6 : PySem.W.nsIn K b "wait" = some (some (.ref t6)))
    (s1 : ∀ H, SqT K H t1 [.int 2, .int 64]) (s2 : ∀ H, SqT K H t2 [.int 0, .int 16]) (s3 : ∀ H, SqT K H t3 [.int 0, .int 8])
    (s4 : ∀ H, SqT K H t4 [.int 1, .int 16]) (s5 : ∀ H, SqT K H t5 [.int 1, .int 8]) (s6 : ∀ H, SqT K H t6 [.int 1, .int 20]) : BoundsT K w mg b :=
  ⟨g, fun wd lo hi h => by
    cases h with
    | marks => exact ⟨t1, ⟨es, n, _, lk, kl, n1, rfl⟩, s1⟩
    | wide => exact ⟨t2, ⟨es, n, _, lk, kl, n2, rfl⟩, s2⟩
    | late => exact ⟨t3, ⟨es, n, _, lk, kl, n3, rfl⟩, s3⟩
    | ahead => exact ⟨t4, ⟨es, n, _, lk, kl, n4, rfl⟩, s4⟩
    | room => exact ⟨t5, ⟨es, n, _, lk, kl, n5, rfl⟩, s5⟩
    | wait => exact ⟨t6, ⟨es, n, _, lk, kl, n6, rfl⟩, s6⟩⟩
theorem ix_kd {X : Cx} {K : PySem.W.Frag} {w : World} (h : X.K = K) (hw : X.w = w) : IxR X (rIxD K w) := by
  subst h hw
  exact ix_kdict
def spCheckNumber : Sp := fun vs H Q _ => ∃ wd n lo hi, vs = [.str wd, .int n] ∧ BoundOf wd lo hi ∧ lo ≤ n ∧ n ≤ hi ∧ Q .non H
def spCheckSetting (K : PySem.W.Frag) : Sp := fun vs H Q _ => ∃ q m w l a, vs = [.ref q] ∧ SqT K H q [.int m, .int w, .int l, .int a] ∧ SetOk m w l a ∧ ∀ H', Keep [] H H' → Q .non H'
end Ak

namespace Ak
open PySem PySem.Spec PyProof.Rows L2
/-! ### a load -/
abbrev loadF (room wait many : Int) (ls la : Addr) : List (Str × V) := [("_room", .int room), ("_wait", .int wait), ("_many", .int many), ("_letters", .ref ls), ("_latest", .ref la)]
structure LoadT (K : PySem.W.Frag) (C : Addr) : Prop where
  c : Cls K C
  n1 : NoAttr K C "_room"
  n2 : NoAttr K C "_wait"
  n3 : NoAttr K C "_many"
  n4 : NoAttr K C "_letters"
  n5 : NoAttr K C "_latest"
/-- the letters that p was put into -/
def inRows (rows : List (List Int)) (p : Int) : List Nat := (List.range rows.length).filter fun k => decide (p ∈ rows.getD k [])
def lastIn (rows : List (List Int)) (p : Int) : Option Nat := (inRows rows p).getLast?
def lastV (rows : List (List Int)) (p : Int) : V := match lastIn rows p with
  | none => .non
  | some k => .int (k : Nat)
def openL (many : Nat) (sure : List Int) : List Int := (upTo many).filter fun p => !decide (p ∈ sure)
def readyB (rows : List (List Int)) (wait k p : Int) : Bool := match lastIn rows p with
  | none => true
  | some j => decide (wait ≤ k - (j : Nat))
def fillOf (room wait : Int) (many : Nat) (rows : List (List Int)) (sure : List Int) : List Int := ((upTo many).filter fun p => !decide (p ∈ sure) && readyB rows wait rows.length p).take room.toNat
def freeOf (rows : List (List Int)) (sure : List Int) (k : Int) : List Int := if k < 0 ∨ (rows.length : Int) ≤ k then [] else (rows.getD k.toNat []).filter fun p => !decide (p ∈ sure)
def cameOf (rows : List (List Int)) (sure : List Int) (ks : List Int) : List Int := ks.foldl (fun acc k => acc ++ freeOf rows (sure ++ acc) k) []
theorem inRows_app {rows : List (List Int)} {r : List Int} {p : Int} : inRows (rows ++ [r]) p = inRows rows p ++ if p ∈ r then [rows.length] else [] := by
  unfold inRows
  rw [List.length_append, List.length_singleton, List.range_succ, List.filter_append]
  congr 1
  · refine List.filter_congr fun k hk => ?_
    have hl := List.mem_range.mp hk
    rw [List.getD_eq_getElem?_getD, List.getD_eq_getElem?_getD, List.getElem?_append_left hl]
  · rw [List.filter_cons, List.filter_nil, List.getD_eq_getElem?_getD, List.getElem?_append_right (Nat.le_refl _), Nat.sub_self]
    by_cases h : p ∈ r
    · rw [if_pos h, if_pos]
      exact decide_eq_true h
    · rw [if_neg h, if_neg]
      exact fun z => h (of_decide_eq_true z)
theorem lastIn_app {rows : List (List Int)} {r : List Int} {p : Int} : lastIn (rows ++ [r]) p = if p ∈ r then some rows.length else lastIn rows p := by
  unfold lastIn
  rw [inRows_app]
  by_cases h : p ∈ r
  · rw [if_pos h, if_pos h]
    simp
  · rw [if_neg h, if_neg h, List.append_nil]
theorem lastV_app {rows : List (List Int)} {r : List Int} {p : Int} : lastV (rows ++ [r]) p = if p ∈ r then .int (rows.length : Nat) else lastV rows p := by
  unfold lastV
  rw [lastIn_app]
  by_cases h : p ∈ r
  · rw [if_pos h, if_pos h]
  · rw [if_neg h, if_neg h]
theorem lastIn_none {rows : List (List Int)} {p : Int} (h : ∀ r, r ∈ rows → p ∉ r) : lastIn rows p = none := by
  unfold lastIn inRows
  have : ((List.range rows.length).filter fun k => decide (p ∈ rows.getD k [])) = [] := by
    rw [List.filter_eq_nil_iff]
    intro k hk z
    have hl := List.mem_range.mp hk
    have z2 := of_decide_eq_true z
    rw [List.getD_eq_getElem?_getD, List.getElem?_eq_getElem hl] at z2
    exact h _ (List.getElem_mem hl) z2
  rw [this]
  rfl
theorem openL_mem {many : Nat} {sure : List Int} {p : Int} : p ∈ openL many sure ↔ (0 ≤ p ∧ p < many) ∧ p ∉ sure := by
  unfold openL
  rw [List.mem_filter, upTo_mem]
  by_cases h : p ∈ sure
  · rw [decide_eq_true h]; simp [h]
  · rw [decide_eq_false h]; simp [h]
theorem openL_srt {many : Nat} {sure : List Int} : srt (openL many sure) = openL many sure := upTo_srt
theorem openL_len {many : Nat} {sure : List Int} : (openL many sure).length ≤ many := by
  unfold openL
  exact Nat.le_trans (List.length_filter_le _ _) (by rw [upTo_len]; exact Nat.le_refl _)
theorem openL_succ {many : Nat} {sure : List Int} (h : (many : Int) ∉ sure) : openL (many + 1) sure = openL many sure ++ [(many : Int)] := by
  unfold openL
  rw [upTo_succ, List.filter_append]
  congr 1
  rw [List.filter_cons, if_pos (by rw [decide_eq_false h]; rfl)]
  rfl
theorem fillOf_eq {room wait : Int} {many : Nat} {rows : List (List Int)} {sure : List Int} : fillOf room wait many rows sure = ((openL many sure).filter (readyB rows wait rows.length)).take room.toNat := by
  unfold fillOf openL
  rw [List.filter_filter]
  congr 1
  refine List.filter_congr fun x _ => ?_
  rw [Bool.and_comm]
theorem fillOf_mem {room wait : Int} {many : Nat} {rows : List (List Int)} {sure : List Int} {p : Int} (h : p ∈ fillOf room wait many rows sure) : p ∈ openL many sure := by
  rw [fillOf_eq] at h
  exact (List.mem_filter.mp (List.mem_of_mem_take h)).1
theorem fillOf_len {room wait : Int} {many : Nat} {rows : List (List Int)} {sure : List Int} : (fillOf room wait many rows sure).length ≤ room.toNat := by
  unfold fillOf
  rw [List.length_take]
  exact Nat.min_le_left _ _
theorem fillOf_nd {room wait : Int} {many : Nat} {rows : List (List Int)} {sure : List Int} : (fillOf room wait many rows sure).Nodup := by
  unfold fillOf
  exact (((upTo_lt many).filter _).imp (fun {a b} h => Int.ne_of_lt h)).sublist (List.take_sublist _ _)
theorem openL_app {many : Nat} {sure xs : List Int} : openL many (sure ++ xs) = (openL many sure).filter fun p => !decide (p ∈ xs) := by
  unfold openL
  rw [List.filter_filter]
  refine List.filter_congr fun x _ => ?_
  by_cases h : x ∈ sure
  · rw [decide_eq_true h, decide_eq_true (List.mem_append.mpr (Or.inl h))]; simp
  · by_cases h2 : x ∈ xs
    · rw [decide_eq_false h, decide_eq_true h2, decide_eq_true (List.mem_append.mpr (Or.inr h2))]; rfl
    · rw [decide_eq_false h, decide_eq_false h2, decide_eq_false (fun z => (List.mem_append.mp z).elim h h2)]; rfl
/-- the letters' tuples -/
inductive RowsAt (H : Hp) : List Addr → List (List Int) → Prop
  | nil : RowsAt H [] []
  | cons {t : Addr} {r : List Int} {ts : List Addr} {rows : List (List Int)} (h : H t = some (.tup (r.map V.int))) (x : RowsAt H ts rows) : RowsAt H (t :: ts) (r :: rows)
section
variable {H H' : Hp} {ts : List Addr} {rows : List (List Int)} {S : List Addr}
theorem RowsAt.len (x : RowsAt H ts rows) : ts.length = rows.length := by
  induction x with
  | nil => rfl
  | cons _ _ ih => rw [List.length_cons, List.length_cons, ih]
theorem RowsAt.at (x : RowsAt H ts rows) : ∀ {k : Nat}, k < rows.length → ∃ t, ts[k]? = some t ∧ H t = some (.tup ((rows.getD k []).map V.int)) := by
  induction x with
  | nil => intro k h; exact absurd h (Nat.not_lt_zero _)
  | cons h x ih =>
    intro k hk
    match k, hk with
    | 0, _ => exact ⟨_, rfl, h⟩
    | k + 1, hk =>
      obtain ⟨t, e1, e2⟩ := ih (k := k) (by rw [List.length_cons] at hk; omega)
      exact ⟨t, by simpa using e1, by simpa using e2⟩
theorem RowsAt.keepX (x : RowsAt H ts rows) (k : ∀ a o, a ∉ S → H a = some o → (∀ ps, o ≠ .tbl ps) → H' a = some o) (n : ∀ a, a ∈ ts → a ∉ S) : RowsAt H' ts rows := by
  induction x with
  | nil => exact .nil
  | cons h x ih => exact .cons (k _ _ (n _ List.mem_cons_self) h (fun _ z => by cases z)) (ih fun a ha => n a (List.mem_cons_of_mem _ ha))
theorem RowsAt.keepT (x : RowsAt H ts rows) (k : Keep S H H') (nt : ∀ b, b ∈ S → ∀ xs, H b ≠ some (.tup xs)) : RowsAt H' ts rows := by
  induction x with
  | nil => exact .nil
  | cons h x ih => exact .cons (k.1 _ _ (fun m => nt _ m _ h) h) ih
theorem RowsAt.add (x : RowsAt H ts rows) {t : Addr} {r : List Int} (h : H t = some (.tup (r.map V.int))) : RowsAt H (ts ++ [t]) (rows ++ [r]) := by
  induction x with
  | nil => exact .cons h .nil
  | cons h2 x ih => exact .cons h2 ih
theorem RowsAt.live (x : RowsAt H ts rows) : ∀ a, a ∈ ts → ∃ xs, H a = some (.tup xs) := by
  induction x with
  | nil => intro a h; exact absurd h List.not_mem_nil
  | cons h x ih =>
    intro a ha
    rcases List.mem_cons.mp ha with rfl | ha
    · exact ⟨_, h⟩
    · exact ih a ha
end
/-- what the letters hold are pieces that were put; what is sure too -/
structure Good (many : Nat) (rows : List (List Int)) (sure : List Int) : Prop where
  r : ∀ r, r ∈ rows → ∀ p, p ∈ r → 0 ≤ p ∧ p < many
  n : ∀ r, r ∈ rows → r.length ≤ 8
  d : ∀ r, r ∈ rows → r.Nodup
  s : ∀ p, p ∈ sure → 0 ≤ p ∧ p < many
structure LoadAt (C : Addr) (H : Hp) (p ls la : Addr) (ts : List Addr) (room wait : Int) (many : Nat) (rows : List (List Int)) (sure : List Int) : Prop where
  i : ∃ dx, H p = some (.ins C dx (loadF room wait many ls la))
  l : H ls = some (.lst (ts.map V.ref))
  t : RowsAt H ts rows
  d : H la = some (.dK (dOf (openL many sure) (lastV rows)))
  g : Good many rows sure
section
variable {C : Addr} {H H' : Hp} {p ls la : Addr} {ts : List Addr} {room wait : Int} {many : Nat} {rows : List (List Int)} {sure : List Int}
theorem LoadAt.keepX {S : List Addr} (x : LoadAt C H p ls la ts room wait many rows sure) (k : ∀ a o, a ∉ S → H a = some o → (∀ ps, o ≠ .tbl ps) → H' a = some o) (n : ∀ a, a ∈ p :: ls :: la :: ts → a ∉ S) : LoadAt C H' p ls la ts room wait many rows sure := by
  obtain ⟨⟨dx, hp⟩, hl, ht, hd, g⟩ := x
  exact ⟨⟨dx, k _ _ (n _ List.mem_cons_self) hp (fun _ z => by cases z)⟩, k _ _ (n _ (List.mem_cons_of_mem _ List.mem_cons_self)) hl (fun _ z => by cases z),
    ht.keepX k fun a ha => n a (List.mem_cons_of_mem _ (List.mem_cons_of_mem _ (List.mem_cons_of_mem _ ha))), k _ _ (n _ (List.mem_cons_of_mem _ (List.mem_cons_of_mem _ List.mem_cons_self))) hd (fun _ z => by cases z), g⟩
theorem LoadAt.keep (x : LoadAt C H p ls la ts room wait many rows sure) (k : Keep [] H H') : LoadAt C H' p ls la ts room wait many rows sure := x.keepX (S := []) (fun a o n h _ => k.1 a o n h) fun _ _ => nin_nil
end
theorem freeOf_mem {rows : List (List Int)} {sure : List Int} {k p : Int} (h : p ∈ freeOf rows sure k) : (∃ r, r ∈ rows ∧ p ∈ r) ∧ p ∉ sure := by
  unfold freeOf at h
  split at h
  · exact absurd h List.not_mem_nil
  · rename_i c
    have hk : k.toNat < rows.length := by omega
    obtain ⟨h1, h2⟩ := List.mem_filter.mp h
    rw [List.getD_eq_getElem?_getD, List.getElem?_eq_getElem hk] at h1
    refine ⟨⟨_, List.getElem_mem hk, h1⟩, fun z => ?_⟩
    rw [decide_eq_true z] at h2
    cases h2
theorem freeOf_len {many : Nat} {rows : List (List Int)} {sure sure' : List Int} {k : Int} (g : Good many rows sure') : (freeOf rows sure k).length ≤ 8 := by
  unfold freeOf
  split
  · exact Nat.zero_le _
  · rename_i c
    have hk : k.toNat < rows.length := by omega
    rw [List.getD_eq_getElem?_getD, List.getElem?_eq_getElem hk]
    exact Nat.le_trans (List.length_filter_le _ _) (g.n _ (List.getElem_mem hk))
theorem Good.free {many : Nat} {rows : List (List Int)} {sure : List Int} {k : Int} (g : Good many rows sure) : Good many rows (sure ++ freeOf rows sure k) := ⟨g.r, g.n, g.d, fun p hp => by
  rcases List.mem_append.mp hp with h | h
  · exact g.s p h
  · obtain ⟨⟨r, hr, hpr⟩, _⟩ := freeOf_mem h
    exact g.r r hr p hpr⟩
theorem cameOf_app {rows : List (List Int)} {sure ks : List Int} {k : Int} : cameOf rows sure (ks ++ [k]) = cameOf rows sure ks ++ freeOf rows (sure ++ cameOf rows sure ks) k := by
  unfold cameOf
  rw [List.foldl_append]
  rfl
theorem cameOf_take {rows : List (List Int)} {sure ks : List Int} {i : Nat} {k : Int} (h : ks[i]? = some k) : cameOf rows sure (ks.take (i + 1)) = cameOf rows sure (ks.take i) ++ freeOf rows (sure ++ cameOf rows sure (ks.take i)) k := by
  rw [take_at h, cameOf_app]
def spLoadInit (C : Addr) : Sp := fun vs H Q _ => ∃ p room wait dx, vs = [.ref p, .int room, .int wait] ∧ 1 ≤ room ∧ room ≤ 8 ∧ 1 ≤ wait ∧ wait ≤ 20 ∧ H p = some (.ins C dx []) ∧
  ∀ ls la H', H ls = none → H la = none → ls ≠ la → LoadAt C H' p ls la [] room wait 0 [] [] → Keep [p] H H' → Q .non H'
def spPut (C : Addr) : Sp := fun vs H Q _ => ∃ p ls la ts room wait many rows sure, vs = [.ref p] ∧ LoadAt C H p ls la ts room wait many rows sure ∧ many < 1000000 ∧
  ∀ H', LoadAt C H' p ls la ts room wait (many + 1) rows sure → Keep [p, la] H H' → Q (.int (many : Nat)) H'
def spWaits (C : Addr) : Sp := fun vs H Q _ => ∃ p ls la ts room wait many rows sure, vs = [.ref p] ∧ LoadAt C H p ls la ts room wait many rows sure ∧
  ∀ f H', H f = none → H' f = some (.lst ((openL many sure).map V.int)) → Keep [] H H' → Q (.ref f) H'
def spReady (C : Addr) : Sp := fun vs H Q _ => ∃ p ls la ts room wait many rows sure x k, vs = [.ref p, .int x, .int k] ∧ LoadAt C H p ls la ts room wait many rows sure ∧ x ∈ openL many sure ∧ Q (.bl (readyB rows wait k x)) H
def spFill (C : Addr) : Sp := fun vs H Q _ => ∃ p ls la ts room wait many rows sure, vs = [.ref p] ∧ LoadAt C H p ls la ts room wait many rows sure ∧ many < 1000000 ∧ rows.length < 1000000 ∧ 1 ≤ room ∧ room ≤ 8 ∧
  ∀ t H', H t = none → H' t = some (.tup ((fillOf room wait many rows sure).map V.int)) → LoadAt C H' p ls la (ts ++ [t]) room wait many (rows ++ [fillOf room wait many rows sure]) sure → Keep [ls, la] H H' → Q (.ref t) H'
def spFree (C : Addr) : Sp := fun vs H Q _ => ∃ p ls la ts room wait many rows sure k, vs = [.ref p, .int k] ∧ LoadAt C H p ls la ts room wait many rows sure ∧ many < 1000000 ∧
  ∀ f H', H f = none → H' f = some (.lst ((freeOf rows sure k).map V.int)) → LoadAt C H' p ls la ts room wait many rows (sure ++ freeOf rows sure k) → Keep [la] H H' → Q (.ref f) H'
def spCame (K : PySem.W.Frag) (C : Addr) : Sp := fun vs H Q _ => ∃ p ls la ts room wait many rows sure b ks, vs = [.ref p, .ref b] ∧ LoadAt C H p ls la ts room wait many rows sure ∧ many < 1000000 ∧ SqL K H b (ks.map V.int) ∧ b ≠ la ∧ ks.length ≤ 1000 ∧
  ∀ f H', H f = none → H' f = some (.lst ((srt (cameOf rows sure ks)).map V.int)) → LoadAt C H' p ls la ts room wait many rows (sure ++ cameOf rows sure ks) → Keep [la] H H' → Q (.ref f) H'
end Ak

namespace Ak
open PySem PySem.Spec PyProof.Rows L2
/-! ### the law's own load -/
abbrev ownLF (room wait many : Int) (rs ss : Addr) : List (Key × V) := [(Sum.inr "room", .int room), (Sum.inr "wait", .int wait), (Sum.inr "many", .int many), (Sum.inr "rows", .ref rs), (Sum.inr "sure", .ref ss)]
structure OwnL (H : Hp) (o rs ss : Addr) (us : List Addr) (room wait : Int) (many : Nat) (rows : List (List Int)) (sure : List Int) : Prop where
  o : H o = some (.dK (ownLF room wait many rs ss))
  r : H rs = some (.lst (us.map V.ref))
  t : RowsAt H us rows
  s : H ss = some (.lst (sure.map V.int))
theorem OwnL.keepX {H H' : Hp} {o rs ss : Addr} {us : List Addr} {room wait : Int} {many : Nat} {rows : List (List Int)} {sure : List Int} {S : List Addr} (x : OwnL H o rs ss us room wait many rows sure) (k : ∀ a o, a ∉ S → H a = some o → (∀ ps, o ≠ .tbl ps) → H' a = some o) (n : ∀ a, a ∈ o :: rs :: ss :: us → a ∉ S) : OwnL H' o rs ss us room wait many rows sure :=
  ⟨k _ _ (n _ List.mem_cons_self) x.o (fun _ z => by cases z), k _ _ (n _ (List.mem_cons_of_mem _ List.mem_cons_self)) x.r (fun _ z => by cases z), x.t.keepX k fun a ha => n a (List.mem_cons_of_mem _ (List.mem_cons_of_mem _ (List.mem_cons_of_mem _ ha))), k _ _ (n _ (List.mem_cons_of_mem _ (List.mem_cons_of_mem _ List.mem_cons_self))) x.s (fun _ z => by cases z)⟩
theorem OwnL.keep {H H' : Hp} {o rs ss : Addr} {us : List Addr} {room wait : Int} {many : Nat} {rows : List (List Int)} {sure : List Int} (x : OwnL H o rs ss us room wait many rows sure) (k : Keep [] H H') : OwnL H' o rs ss us room wait many rows sure := x.keepX (S := []) (fun a o n h _ => k.1 a o n h) fun _ _ => nin_nil
def spOwnFill : Sp := fun vs H Q _ => ∃ o rs ss us room wait many rows sure, vs = [.ref o] ∧ OwnL H o rs ss us room wait many rows sure ∧ many < 1000000 ∧ rows.length < 1000000 ∧ sure.length < 1000000 ∧ 1 ≤ room ∧ room ≤ 8 ∧ wait ≤ 20 ∧
  ∀ t u rs' H', H t = none → H u = none → H rs' = none → H' t = some (.tup ((fillOf room wait many rows sure).map V.int)) → OwnL H' o rs' ss (us ++ [u]) room wait many (rows ++ [fillOf room wait many rows sure]) sure → Keep [o] H H' → Q (.ref t) H'
def spOwnCame (K : PySem.W.Frag) : Sp := fun vs H Q _ => ∃ o rs ss us room wait many rows sure b ks, vs = [.ref o, .ref b] ∧ OwnL H o rs ss us room wait many rows sure ∧ Good many rows sure ∧ sure.length < 1000000 ∧ rows.length < 1000000 ∧ SqL K H b (ks.map V.int) ∧ b ≠ o ∧ ks.length ≤ 1000 ∧
  ∀ f ss' H', H f = none → H ss' = none → H' f = some (.lst ((srt (cameOf rows sure ks)).map V.int)) → OwnL H' o rs ss' us room wait many rows (sure ++ cameOf rows sure ks) → Keep [o] H H' → Q (.ref f) H'
end Ak

namespace Ak
open PySem PySem.Spec PyProof.Rows L2
section
variable {P : Program} {w : World} {K : PySem.W.Frag} {mg : Str → Option Value} {base : Heap}
theorem ok_next {f : Addr} {fd : FuncData} (F : L2.Fun K "_law_next" "_law_next" s_l_next f fd) (g_len : mg "len" = none) : FnOk P w K mg base (L2.CX P w) 1 f fd ["_law_dice_here", "_law_many"] (spNext K) := by
  refine Fun.okX F sc_l_next (fun vs H Q E h => ?_) (fun cdv A outer s H vs Q E hr h => ?_)
  · obtain ⟨_, _, _, rfl, _⟩ := h
    rfl
  · obtain ⟨H0, d, n, rfl, n0, n1, ⟨⟨a, ns, i, m, r, hd, ha, hl, i0⟩, dn, dx⟩, k⟩ := h
    refine ⟨_, (pss_cons (ps_if (pt_cmpR op_gt (pe_ix (Ak.ix_K (K := K) (by rfl)) (pv 0) pe_int (by intro _ _; rfl)) pe_int (nomark _))
      (pss_cons (ps_set (i := 2) sc_l_next.nd rfl (Or.inl rfl) (pe_op op_mod (pe_ix (Ak.ix_K (K := K) (by rfl)) (pv 0) pe_int (by intro _ _; rfl)) (pv 1)))
      (pss_cons (ps_asg (pe_op op_fdiv (pe_ix (Ak.ix_K (K := K) (by rfl)) (pv 0) pe_int (by intro _ _; rfl)) (pv 1)) (pg_sub (pv 0) pe_int set_list))
      (pss_one (ps_ret (pv 2)))))
      pss_nil)
      (pss_cons (ps_asg (pe_op (Ak.op_plusK (K := K) (by rfl)) (pe_ix (Ak.ix_K (K := K) (by rfl)) (pv 0) pe_int (by intro _ _; rfl)) pe_int) (pg_sub (pv 0) pe_int set_list))
      (pss_cons (ps_if (pt_cmpR op_le (pe_ix (Ak.ix_K (K := K) (by rfl)) (pv 0) pe_int (by intro _ _; rfl)) (pe_callB (Ak.cr_lenK (K := K) (by rfl)) (by rfl) g_len (by decide +kernel) (pa_cons (pe_ix (Ak.ix_K (K := K) (by rfl)) (pv 0) pe_int (by intro _ _; rfl)) pa_nil)) (nomark _))
      (pss_cons (ps_set (i := 3) sc_l_next.nd rfl (Or.inl rfl) (pe_ix (Ak.ix_K (K := K) (by rfl)) (pe_ix (Ak.ix_K (K := K) (by rfl)) (pv 0) pe_int (by intro _ _; rfl)) (pe_op op_sub (pe_ix (Ak.ix_K (K := K) (by rfl)) (pv 0) pe_int (by intro _ _; rfl)) pe_int) (by intro _ _; rfl)))
      (pss_cons (ps_asg (pe_ifExp (pt_cmpR op_ge (pv 3) (pe_op op_pow pe_int pe_int) (nomark _)) (pe_op op_fdiv (pv 3) (pv 1)) pe_int) (pg_sub (pv 0) pe_int set_list))
      (pss_one (ps_ret (pe_op op_mod (pv 3) (pv 1))))))
      pss_nil)
      (pss_cons (ps_asg (pe_op op_mod (pe_op Ak.op_times (pe_ix (Ak.ix_K (K := K) (by rfl)) (pv 0) pe_int (by intro _ _; rfl)) pe_int) pe_int) (pg_sub (pv 0) pe_int set_list))
      (pss_one (ps_ret (pe_op op_mod (pe_op op_fdiv (pe_ix (Ak.ix_K (K := K) (by rfl)) (pv 0) pe_int (by intro _ _; rfl)) pe_int) (pv 1)))))))), ?_⟩
    have e0 : L2.start N_l_next [V.ref d, V.int n] = [some (V.ref d), some (V.int n), none, none] := rfl
    rw [e0]
    try dsimp only [cxOf]
    walk_at "rd"
    have fin : ∀ (x y z u : Int), 0 ≤ y → 0 ≤ x → x < n → Q (.int x) (upd H d (.lst [.ref a, .int y, .int z, .int u])) := fun x y z u y0 x0 x1 =>
      k _ _ x0 x1 ⟨⟨a, ns, y, z, u, upd_same, ha, hl, y0⟩, dn, dx.keep (S := [d]) (by walk_at "kp") (fun b hb => by
        rw [List.mem_singleton.mp hb]
        exact dn)⟩ (by walk_at "kp")
    refine Ak.w_ite (fun h0 => ?_) (fun h0 => ?_)
    · walk_at "rd"
      exact fin _ _ _ _ i0 (Int.emod_nonneg _ (by omega)) (Int.emod_lt_of_pos _ n0)
    · walk_at "rd"
      refine Ak.w_ite (fun h1 => ?_) (fun h1 => ?_)
      · walk_at "rd"
        rw [List.length_map] at h1
        obtain ⟨c, hc⟩ : ∃ c, atI (ns.map V.int) (i + 1 - 1) = some (V.int c) := by
          have e : i + 1 - 1 = ((i.toNat : Nat) : Int) := by omega
          rw [e]
          refine ⟨ns[i.toNat]'(by omega), atI_nat ?_⟩
          rw [List.getElem?_map, List.getElem?_eq_getElem (by omega)]
          rfl
        walk_at "rd"
        refine Ak.w_ite (fun h2 => ?_) (fun h2 => ?_)
        all_goals
          walk_at "rd"
          rw [upd_upd]
          exact fin _ _ _ _ (by omega) (Int.emod_nonneg _ (by omega)) (Int.emod_lt_of_pos _ n0)
      · walk_at "rd"
        rw [upd_upd]
        exact fin _ _ _ _ (by omega) (Int.emod_nonneg _ (by omega)) (Int.emod_lt_of_pos _ n0)
theorem ok_dice {f : Addr} {fd : FuncData} (F : L2.Fun K "_law_dice" "_law_dice" s_l_dice f fd) (g_len : mg "len" = none) (g_int : mg "int" = none) : FnOk P w K mg base (L2.CX P w) 1 f fd ["_law_script"] (spDice K) := by
  refine Fun.okX F sc_l_dice (fun vs H Q E h => ?_) (fun cdv A outer s H vs Q E hr h => ?_)
  · obtain ⟨_, _, rfl, _⟩ := h
    rfl
  · obtain ⟨a, ns, rfl, ha, hl, k⟩ := h
    refine ⟨_, (pss_cons (ps_set (i := 1) sc_l_dice.nd rfl (Or.inl rfl) pe_int)
      (pss_cons (ps_for (passes_of rfl) rfl (Ak.pi_listK (K := K) (by rfl) (pv 0)) (pg_name (i := 2) sc_l_dice.nd rfl (Or.inl rfl))
      (pss_one (ps_set (i := 1) sc_l_dice.nd rfl (Or.inl rfl) (pe_op op_mod (pe_op (Ak.op_plusK (K := K) (by rfl)) (pe_op (Ak.op_plusK (K := K) (by rfl)) (pe_op Ak.op_times (pv 1) pe_int) (pe_op Ak.op_times (pe_op op_mod (pv 2) pe_int) pe_int)) pe_int) pe_int))))
      (pss_one (ps_ret (pe_lst (pa_cons (pv 0) (pa_cons pe_int (pa_cons (pe_op Ak.op_times (pv 1) (pe_callTy Ak.cr_intX (by rfl) g_int (by decide +kernel) (pa_cons (pe_cmpR op_gt (pe_callB (Ak.cr_lenK (K := K) (by rfl)) (by rfl) g_len (by decide +kernel) (pa_cons (pv 0) pa_nil)) pe_int (nomark _)) pa_nil))) (pa_cons pe_int pa_nil))))))))), ?_⟩
    have e0 : L2.start N_l_dice [V.ref a] = [some (V.ref a), none, none] := rfl
    rw [e0]
    try dsimp only [cxOf]
    walk_at "rd"
    refine Ak.l_forList ha (fun _ σ H' => ∃ m v, σ = [some (.ref a), some (.int m), v] ∧ H' = H) ⟨0, none, rfl, rfl⟩ (fun i σ' H' _ q => by obtain ⟨_, _, _, rfl⟩ := q; exact ha) (fun i x σ' H' hx q => ?_) (fun σ' H' q => ?_)
    · obtain ⟨m, v, rfl, rfl⟩ := q
      obtain ⟨c, rfl⟩ : ∃ c, x = V.int c := by
        rw [List.getElem?_map] at hx
        cases e : ns[i]? with
        | none => rw [e] at hx; cases hx
        | some c => rw [e] at hx; exact ⟨c, (Option.some.inj hx).symm⟩
      walk_at "rd"
      exact ⟨_, _, rfl, rfl⟩
    · obtain ⟨m, v, rfl, rfl⟩ := q
      walk_at "rd"
      exact k _ _ (by walk_at "as") ⟨⟨a, ns, 0, _, 0, upd_same, ha, hl, Int.le_refl 0⟩, by walk_at "as", by walk_at "xt"⟩ (by walk_at "kp")
end
end Ak

namespace Ak
open PySem PySem.Spec PyProof.Rows L2
section
variable {P : Program} {w : World} {K : PySem.W.Frag} {mg : Str → Option Value} {base : Heap}
theorem like_step {n : Nat} {f : Addr} {fd : FuncData} (F : L2.Fun K "_law_like" "_law_like" s_l_like f fd) (g_isinstance : mg "isinstance" = none) (g_bool : mg "bool" = none) (g_str : mg "str" = none) (g_int : mg "int" = none) (g_dict : mg "dict" = none) (g_tuple : mg "tuple" = none) (g_list : mg "list" = none)
    (g_len : mg "len" = none) (g_range : mg "range" = none) (c_l_like : CalX P w K mg base (n + 1) "_law_like" (spLike K n)) : FnOk P w K mg base (L2.CX P w) (n + 2) f fd ["_law_found", "_law_due"] (spLike K (n + 1)) := by
  refine Fun.okX F sc_l_like (fun vs H Q E h => ?_) (fun cdv A outer s H vs Q E hr h => ?_)
  · obtain ⟨_, _, rfl, _⟩ := h
    rfl
  · obtain ⟨x, y, rfl, al, k⟩ := h
    refine ⟨_, (pss_cons (ps_if (Ak.pt_truK (K := K) (by rfl) (pe_callB (Ak.cr_isiK (K := K) (by rfl)) (by rfl) g_isinstance (by decide +kernel) (pa_cons (pv 1) (pa_cons (Ak.pe_ty (T := "bool") (by rfl) g_bool (by decide +kernel)) pa_nil))))
      (pss_one (ps_ret (pe_and (pe_callB (Ak.cr_isiK (K := K) (by rfl)) (by rfl) g_isinstance (by decide +kernel) (pa_cons (pv 0) (pa_cons (Ak.pe_ty (T := "bool") (by rfl) g_bool (by decide +kernel)) pa_nil))) (pe_one (pe_cmpR (Ak.op_eqK (K := K) (by rfl) hr.units) (pv 0) (pv 1) (nomark _))))))
      pss_nil)
      (pss_cons (ps_if (Ak.pt_truK (K := K) (by rfl) (pe_callB (Ak.cr_isiK (K := K) (by rfl)) (by rfl) g_isinstance (by decide +kernel) (pa_cons (pv 1) (pa_cons (Ak.pe_ty (T := "str") (by rfl) g_str (by decide +kernel)) pa_nil))))
      (pss_one (ps_ret (pe_and (pe_callB (Ak.cr_isiK (K := K) (by rfl)) (by rfl) g_isinstance (by decide +kernel) (pa_cons (pv 0) (pa_cons (Ak.pe_ty (T := "str") (by rfl) g_str (by decide +kernel)) pa_nil))) (pe_one (pe_cmpR (Ak.op_eqK (K := K) (by rfl) hr.units) (pv 0) (pv 1) (nomark _))))))
      pss_nil)
      (pss_cons (ps_if (Ak.pt_truK (K := K) (by rfl) (pe_callB (Ak.cr_isiK (K := K) (by rfl)) (by rfl) g_isinstance (by decide +kernel) (pa_cons (pv 1) (pa_cons (Ak.pe_ty (T := "int") (by rfl) g_int (by decide +kernel)) pa_nil))))
      (pss_one (ps_ret (pe_and (pe_callB (Ak.cr_isiK (K := K) (by rfl)) (by rfl) g_isinstance (by decide +kernel) (pa_cons (pv 0) (pa_cons (Ak.pe_ty (T := "int") (by rfl) g_int (by decide +kernel)) pa_nil))) (pe_and (pe_not (pe_callB (Ak.cr_isiK (K := K) (by rfl)) (by rfl) g_isinstance (by decide +kernel) (pa_cons (pv 0) (pa_cons (Ak.pe_ty (T := "bool") (by rfl) g_bool (by decide +kernel)) pa_nil)))) (pe_one (pe_cmpR (Ak.op_eqK (K := K) (by rfl) hr.units) (pv 0) (pv 1) (nomark _)))))))
      pss_nil)
      (pss_cons (ps_if (pt_cmpR Ak.op_isNon (pv 1) pe_non (nomark _))
      (pss_one (ps_ret (pe_cmpR Ak.op_isNon (pv 0) pe_non (nomark _))))
      pss_nil)
      (pss_cons (ps_if (Ak.pt_truK (K := K) (by rfl) (pe_callB (Ak.cr_isiK (K := K) (by rfl)) (by rfl) g_isinstance (by decide +kernel) (pa_cons (pv 1) (pa_cons (Ak.pe_ty (T := "dict") (by rfl) g_dict (by decide +kernel)) pa_nil))))
      (pss_cons ps_never
      (pss_one ps_never))
      pss_nil)
      (pss_cons (ps_if (PW.pt (pw_or (pt_cmpR (Ak.op_neK (K := K) (by rfl) hr.units) (pe_callB (Ak.cr_isiK (K := K) (by rfl)) (by rfl) g_isinstance (by decide +kernel) (pa_cons (pv 1) (pa_cons (Ak.pe_ty (T := "tuple") (by rfl) g_tuple (by decide +kernel)) pa_nil))) (pe_callB (Ak.cr_isiK (K := K) (by rfl)) (by rfl) g_isinstance (by decide +kernel) (pa_cons (pv 0) (pa_cons (Ak.pe_ty (T := "tuple") (by rfl) g_tuple (by decide +kernel)) pa_nil))) (nomark _)) (pw_or1 (pt_cmpR (Ak.op_neK (K := K) (by rfl) hr.units) (pe_callB (Ak.cr_isiK (K := K) (by rfl)) (by rfl) g_isinstance (by decide +kernel) (pa_cons (pv 1) (pa_cons (Ak.pe_ty (T := "list") (by rfl) g_list (by decide +kernel)) pa_nil))) (pe_callB (Ak.cr_isiK (K := K) (by rfl)) (by rfl) g_isinstance (by decide +kernel) (pa_cons (pv 0) (pa_cons (Ak.pe_ty (T := "list") (by rfl) g_list (by decide +kernel)) pa_nil))) (nomark _)))))
      (pss_one (ps_ret pe_bl))
      pss_nil)
      (pss_cons (ps_if (pt_cmpR (Ak.op_neK (K := K) (by rfl) hr.units) (pe_callB (Ak.cr_lenK (K := K) (by rfl)) (by rfl) g_len (by decide +kernel) (pa_cons (pv 0) pa_nil)) (pe_callB (Ak.cr_lenK (K := K) (by rfl)) (by rfl) g_len (by decide +kernel) (pa_cons (pv 1) pa_nil)) (nomark _))
      (pss_one (ps_ret pe_bl))
      pss_nil)
      (pss_cons (ps_for (passes_of rfl) rfl (pi_range1 (by rfl) g_range (pa_cons (pe_callB (Ak.cr_lenK (K := K) (by rfl)) (by rfl) g_len (by decide +kernel) (pa_cons (pv 1) pa_nil)) pa_nil)) (pg_name (i := 3) sc_l_like.nd rfl (Or.inl rfl))
      (pss_one (ps_if (pt_not (Ak.pt_truK (K := K) (by rfl) (Ak.pe_cx c_l_like hr (by walk_at "lv") (by rfl) (takes_of rfl rfl rfl rfl) (pa_cons (pe_ix (Ak.ix_K (K := K) (by rfl)) (pv 0) (pv 3) (by intro _ _; rfl)) (pa_cons (pe_ix (Ak.ix_K (K := K) (by rfl)) (pv 1) (pv 3) (by intro _ _; rfl)) pa_nil)))))
      (pss_one (ps_ret pe_bl))
      pss_nil)))
      (pss_one (ps_ret pe_bl)))))))))), ?_⟩
    have e0 : L2.start N_l_like [x, y] = [some (x), some (y), none, none] := rfl
    rw [e0]
    try dsimp only [cxOf]
    rcases al with ⟨b, rfl, rfl⟩ | ⟨b, rfl, rfl⟩ | ⟨b, rfl, rfl⟩ | ⟨rfl, rfl⟩ | ⟨a, b, xs, ys, rfl, rfl, hx, hy, hl, hz, hk⟩ | ⟨a, b, xs, ys, rfl, rfl, hx, hy, hl, hz, hk⟩
    · walk_at "rd"
      rw [decide_eq_true rfl]
      exact k
    · walk_at "rd"
      rw [decide_eq_true rfl]
      exact k
    · walk_at "rd"
      rw [decide_eq_true rfl]
      exact k
    · walk_at "rd"
      exact k
    all_goals
      walk_at "rd"
      refine Ak.w_iteN (fun z => absurd (by rw [hl]) z) (fun _ => ?_)
      walk_at "rd"
      refine Ak.l_forR1 (by omega) (by omega) (fun _ σ H' => (∃ v, σ = [some (.ref a), some (.ref b), none, v]) ∧ H' = H) ⟨⟨none, rfl⟩, rfl⟩ (fun i σ' H' hi q => ?_) (fun σ' H' q => ?_)
      · obtain ⟨⟨v, rfl⟩, rfl⟩ := q
        have i1 : i < ys.length := by omega
        have i2 : i < xs.length := by omega
        have q1 : atI xs (i : Int) = some (xs[i]'i2) := atI_nat (List.getElem?_eq_getElem i2)
        have q2 : atI ys (i : Int) = some (ys[i]'i1) := atI_nat (List.getElem?_eq_getElem i1)
        walk_at "rd"
        refine Ak.like_go (hk i _ _ (List.getElem?_eq_getElem i2) (List.getElem?_eq_getElem i1)) ?_
        walk_at "rd"
        exact ⟨⟨_, rfl⟩, rfl⟩
      · obtain ⟨⟨v, rfl⟩, rfl⟩ := q
        walk_at "rd"
        exact k
theorem ok_like {f : Addr} {fd : FuncData} (F : L2.Fun K "_law_like" "_law_like" s_l_like f fd) (g_isinstance : mg "isinstance" = none) (g_bool : mg "bool" = none) (g_str : mg "str" = none) (g_int : mg "int" = none) (g_dict : mg "dict" = none) (g_tuple : mg "tuple" = none) (g_list : mg "list" = none)
    (g_len : mg "len" = none) (g_range : mg "range" = none) (gf : mg "_law_like" = some (.ref f)) (b : Binds K fd ["_law_found", "_law_due"] []) : ∀ n, CalX P w K mg base (n + 1) "_law_like" (spLike K n)
  | 0 => ⟨f, fd, ["_law_found", "_law_due"], ⟨fun _ _ _ _ ⟨_, _, _, al, _⟩ => al.elim, fun _ _ _ _ _ _ _ _ _ _ _ _ _ ⟨_, _, _, al, _⟩ => al.elim⟩, gf, F.kp, b⟩
  | n + 1 => ⟨f, fd, ["_law_found", "_law_due"], like_step F g_isinstance g_bool g_str g_int g_dict g_tuple g_list g_len g_range (ok_like F g_isinstance g_bool g_str g_int g_dict g_tuple g_list g_len g_range gf b n), gf, F.kp, b⟩
end
end Ak

namespace Ak
open PySem PySem.Spec PyProof.Rows L2
section
variable {P : Program} {w : World} {K : PySem.W.Frag} {mg : Str → Option Value} {base : Heap} {C : Addr}
theorem ok_check_number {b : Addr} {f : Addr} {fd : FuncData} (F : L2.Fun K "check_number" "check_number" s_check_number f fd) (B : BoundsT K w mg b) : FnOk P w K mg base (L2.CX P w) 1 f fd ["word", "number"] spCheckNumber := by
  refine Fun.okX F sc_check_number (fun vs H Q E h => ?_) (fun cdv A outer s H vs Q E hr h => ?_)
  · obtain ⟨_, _, _, _, rfl, _⟩ := h
    rfl
  · obtain ⟨wd, n, lo, hi, rfl, hb, h0, h1, hQ⟩ := h
    refine ⟨_, (pss_cons (ps_asg (pe_ix (Ak.ix_kd (K := K) (w := w) (by rfl) (by rfl)) (Ak.pe_cls (by rfl) B.g) (pv 0) (by intro _ _; rfl)) (Ak.pg_tupK (K := K) (n := 2) (by rfl) rfl (pgs_cons (pg_name (i := 2) sc_check_number.nd rfl (Or.inl rfl)) (pgs_cons (pg_name (i := 3) sc_check_number.nd rfl (Or.inl rfl)) pgs_nil))))
      (pss_one (ps_if (PW.pt (pw_or (pt_cmpR op_lt (pv 1) (pv 2) (nomark _)) (pw_or1 (pt_cmpR op_gt (pv 1) (pv 3) (nomark _)))))
      (pss_one ps_never)
      pss_nil))), ?_⟩
    have e0 : L2.start N_check_number [V.str wd, V.int n] = [some (V.str wd), some (V.int n), none, none] := rfl
    rw [e0]
    try dsimp only [cxOf]
    obtain ⟨t, kt, st⟩ := B.get wd lo hi hb
    walk_at "rd"
    refine ⟨b, wd, _, rfl, rfl, kt, ?_⟩
    have st' := st H
    walk_at "rd"
    refine Ak.w_ite (fun z => by omega) (fun _ => ?_)
    walk_at "rd"
    refine Ak.w_ite (fun z => by omega) (fun _ => ?_)
    walk_at "rd"
    exact hQ
end
end Ak

namespace Ak
open PySem PySem.Spec PyProof.Rows L2
section
variable {P : Program} {w : World} {K : PySem.W.Frag} {mg : Str → Option Value} {base : Heap} {C : Addr}
theorem ok_load_init {f : Addr} {fd : FuncData} (F : L2.Fun K "__init__" "Load.__init__" s_Load___init f fd) (T : LoadT K C) (c_check_number : CalX P w K mg base 1 "check_number" spCheckNumber) : FnOk P w K mg base (L2.CX P w) 2 f fd ["self", "room", "wait"] (spLoadInit C) := by
  refine Fun.okX F sc_Load___init (fun vs H Q E h => ?_) (fun cdv A outer s H vs Q E hr h => ?_)
  · obtain ⟨_, _, _, _, rfl, _⟩ := h
    rfl
  · obtain ⟨p, room, wait, dx, rfl, r0, r1, w0, w1, hp, k⟩ := h
    obtain ⟨cl, n1, n2, n3, n4, n5⟩ := T
    refine ⟨_, (pss_cons (ps_expr (Ak.pe_cx c_check_number hr (by walk_at "lv") (by rfl) (takes_of rfl rfl rfl rfl) (pa_cons pe_str (pa_cons (pv 1) pa_nil))))
      (pss_cons (ps_expr (Ak.pe_cx c_check_number hr (by walk_at "lv") (by rfl) (takes_of rfl rfl rfl rfl) (pa_cons pe_str (pa_cons (pv 2) pa_nil))))
      (pss_cons (Ak.ps_fldK (K := K) (by rfl) (pv 0) (pv 1) rfl)
      (pss_cons (Ak.ps_fldK (K := K) (by rfl) (pv 0) (pv 2) rfl)
      (pss_cons (Ak.ps_fldK (K := K) (by rfl) (pv 0) pe_int rfl)
      (pss_cons (Ak.ps_fldK (K := K) (by rfl) (pv 0) (pe_lst pa_nil) rfl)
      (pss_one (Ak.ps_fldK (K := K) (by rfl) (pv 0) pe_dnewK rfl)))))))), ?_⟩
    have e0 : L2.start N_Load___init [V.ref p, V.int room, V.int wait] = [some (V.ref p), some (V.int room), some (V.int wait)] := rfl
    rw [e0]
    try dsimp only [cxOf]
    walk_at "rd"
    refine ⟨_, _, _, _, rfl, .room, r0, r1, ?_⟩
    walk_at "rd"
    refine ⟨_, _, _, _, rfl, .wait, w0, w1, ?_⟩
    walk_at "rd"
    rename_i ls nls la nla
    have lp : ls ≠ p := fun z => by rw [z, upd_same] at nls; cases nls
    have ap : la ≠ p := fun z => by rw [z, upd_same] at nla; cases nla
    have lla : ls ≠ la := fun z => by rw [← z, upd_ne lp, upd_same] at nla; cases nla
    have fl := nls
    rw [upd_ne lp, upd_ne lp, upd_ne lp] at fl
    have fa := nla
    rw [upd_ne ap, upd_ne (Ne.symm lla), upd_ne ap, upd_ne ap, upd_ne ap] at fa
    refine k ls la _ fl fa lla ⟨⟨dx, upd_same⟩, ?_, .nil, ?_, ⟨fun r h => absurd h List.not_mem_nil, fun r h => absurd h List.not_mem_nil, fun r h => absurd h List.not_mem_nil, fun r h => absurd h List.not_mem_nil⟩⟩ ?_
    · rw [upd_ne lp, upd_ne lla, upd_ne lp, upd_same]
      rfl
    · rw [upd_ne ap, upd_same]
      rfl
    · walk_at "kp"
theorem ok_put {f : Addr} {fd : FuncData} (F : L2.Fun K "put" "Load.put" s_Load_put f fd) (T : LoadT K C) : FnOk P w K mg base (L2.CX P w) 1 f fd ["self"] (spPut C) := by
  refine Fun.okX F sc_Load_put (fun vs H Q E h => ?_) (fun cdv A outer s H vs Q E hr h => ?_)
  · obtain ⟨_, _, _, _, _, _, _, _, _, rfl, _⟩ := h
    rfl
  · obtain ⟨p, ls, la, ts, room, wait, many, rows, sure, rfl, hL, m1, k⟩ := h
    obtain ⟨⟨dx, hp⟩, hl, ht, hd, g⟩ := id hL
    obtain ⟨cl, n1, n2, n3, n4, n5⟩ := T
    refine ⟨_, (pss_cons (ps_set (i := 1) sc_Load_put.nd rfl (Or.inl rfl) (Ak.pe_fldK (K := K) (by rfl) (pv 0) (by rfl)))
      (pss_cons (ps_fldaug (pv 0) pe_int in_add)
      (pss_cons (ps_dput (hu_of hr) (Ak.pe_fldK (K := K) (by rfl) (pv 0) (by rfl)) (pv 1) pe_non rfl)
      (pss_one (ps_ret (pv 1)))))), ?_⟩
    have e0 : L2.start N_Load_put [V.ref p] = [some (V.ref p), none] := rfl
    rw [e0]
    try dsimp only [cxOf]
    walk_at "rd"
    have ns : (many : Int) ∉ sure := fun z => by have := g.s _ z; omega
    have pa : p ≠ la := ne_of hp hd (by intro z; cases z)
    have pl : p ≠ ls := ne_of hp hl (by intro z; cases z)
    have ll : ls ≠ la := ne_of hl hd (by intro z; cases z)
    refine w_dputON (ks := openL many sure) (f := lastV rows) (g := lastV rows) (by walk_at "lk") (by have := openL_len (many := many) (sure := sure); rw [sizeLine_eq]; omega) (fun z => by have := (openL_mem.mp z).1; omega) (fun _ _ => rfl) ?_ ?_
    · unfold lastV
      rw [lastIn_none]
      intro r hr z
      have := g.r r hr _ z
      omega
    · walk_at "rd"
      have kk : Keep [p, la] H (upd (upd H p (.ins C dx (loadF room wait ((many : Int) + 1) ls la))) la (.dK (dOf (openL many sure ++ [(many : Int)]) (lastV rows)))) := by walk_at "kp"
      refine k _ ⟨⟨dx, ?_⟩, ?_, ht.keepT kk ?_, ?_, ⟨fun r hr q hq => by have := g.r r hr q hq; omega, g.n, g.d, fun q hq => by have := g.s q hq; omega⟩⟩ kk
      · exact (upd_ne pa).trans upd_same
      · exact (upd_ne ll).trans ((upd_ne (Ne.symm pl)).trans hl)
      · intro b hb xs z
        rcases List.mem_cons.mp hb with rfl | hb
        · rw [hp] at z; cases z
        · rw [List.mem_singleton.mp hb, hd] at z; cases z
      · rw [upd_same, openL_succ ns]
theorem ok_waits {f : Addr} {fd : FuncData} (F : L2.Fun K "waits" "Load.waits" s_Load_waits f fd) (T : LoadT K C) (g_sorted : mg "sorted" = none) : FnOk P w K mg base (L2.CX P w) 1 f fd ["self"] (spWaits C) := by
  refine Fun.okX F sc_Load_waits (fun vs H Q E h => ?_) (fun cdv A outer s H vs Q E hr h => ?_)
  · obtain ⟨_, _, _, _, _, _, _, _, _, rfl, _⟩ := h
    rfl
  · obtain ⟨p, ls, la, ts, room, wait, many, rows, sure, rfl, hL, k⟩ := h
    obtain ⟨⟨dx, hp⟩, hl, ht, hd, g⟩ := id hL
    obtain ⟨cl, n1, n2, n3, n4, n5⟩ := T
    refine ⟨_, (pss_one (ps_ret (pe_callB (Ak.cr_sortK (K := K) (by rfl) rfl) (by rfl) g_sorted (by decide +kernel) (pa_cons (Ak.pe_fldK (K := K) (by rfl) (pv 0) (by rfl)) pa_nil)))), ?_⟩
    have e0 : L2.start N_Load_waits [V.ref p] = [some (V.ref p)] := rfl
    rw [e0]
    try dsimp only [cxOf]
    walk_at "rd"
    refine k _ _ (by walk_at "as") ?_ (by walk_at "kp")
    rw [upd_same, openL_srt]
theorem ok_ready {f : Addr} {fd : FuncData} (F : L2.Fun K "_is_ready" "Load._is_ready" s_Load__is_ready f fd) (T : LoadT K C) : FnOk P w K mg base (L2.CX P w) 1 f fd ["self", "piece", "number"] (spReady C) := by
  refine Fun.okX F sc_Load__is_ready (fun vs H Q E h => ?_) (fun cdv A outer s H vs Q E hr h => ?_)
  · obtain ⟨_, _, _, _, _, _, _, _, _, _, _, rfl, _⟩ := h
    rfl
  · obtain ⟨p, ls, la, ts, room, wait, many, rows, sure, x, n, rfl, hL, hx, hQ⟩ := h
    obtain ⟨⟨dx, hp⟩, hl, ht, hd, g⟩ := id hL
    obtain ⟨cl, n1, n2, n3, n4, n5⟩ := T
    refine ⟨_, (pss_cons (ps_set (i := 3) sc_Load__is_ready.nd rfl (Or.inl rfl) (pe_dget (hu_of hr) (Ak.pe_fldK (K := K) (by rfl) (pv 0) (by rfl)) (pv 1) (by intro _ _; rfl)))
      (pss_one (ps_ret (pe_or (pe_cmpR Ak.op_isNon (pv 3) pe_non (nomark _)) (pe_one (pe_cmpR op_ge (pe_op op_sub (pv 2) (pv 3)) (Ak.pe_fldK (K := K) (by rfl) (pv 0) (by rfl)) (nomark _))))))), ?_⟩
    have e0 : L2.start N_Load__is_ready [V.ref p, V.int x, V.int n] = [some (V.ref p), some (V.int x), some (V.int n), none] := rfl
    rw [e0]
    try dsimp only [cxOf]
    walk_at "rd"
    unfold readyB at hQ
    cases e : lastIn rows x with
    | none =>
      have hv : lastV rows x = .non := by unfold lastV; rw [e]
      rw [e] at hQ
      rw [hv, if_pos (decide_eq_true rfl)]
      walk_at "rd"
      exact hQ
    | some j =>
      have hv : lastV rows x = .int (j : Nat) := by unfold lastV; rw [e]
      rw [e] at hQ
      rw [hv, if_neg (fun z => by cases of_decide_eq_true z)]
      walk_at "rd"
      exact hQ
theorem ok_fill {f : Addr} {fd : FuncData} (F : L2.Fun K "fill" "Load.fill" s_Load_fill f fd) (T : LoadT K C) (g_len : mg "len" = none) (g_tuple : mg "tuple" = none) (m_Load_waits : MetX P w K mg base 1 C "waits" (spWaits C)) (m_Load_is_ready : MetX P w K mg base 1 C "_is_ready" (spReady C)) : FnOk P w K mg base (L2.CX P w) 2 f fd ["self"] (spFill C) := by
  refine Fun.okX F sc_Load_fill (fun vs H Q E h => ?_) (fun cdv A outer s H vs Q E hr h => ?_)
  · obtain ⟨_, _, _, _, _, _, _, _, _, rfl, _⟩ := h
    rfl
  · obtain ⟨p, ls, la, ts, room, wait, many, rows, sure, rfl, hL, m1, n1', r0, r1, k⟩ := h
    obtain ⟨⟨dx, hp⟩, hl, ht, hd, g⟩ := id hL
    obtain ⟨cl, n1, n2, n3, n4, n5⟩ := T
    have pa : p ≠ la := ne_of hp hd (by intro z; cases z)
    have pl : p ≠ ls := ne_of hp hl (by intro z; cases z)
    have ll : ls ≠ la := ne_of hl hd (by intro z; cases z)
    have tl : ts.length = rows.length := ht.len
    have ol := openL_len (many := many) (sure := sure)
    refine ⟨_, (pss_cons (ps_set (i := 1) sc_Load_fill.nd rfl (Or.inr rfl) (pe_callB (Ak.cr_lenK (K := K) (by rfl)) (by rfl) g_len (by decide +kernel) (pa_cons (Ak.pe_fldK (K := K) (by rfl) (pv 0) (by rfl)) pa_nil)))
      (pss_cons (ps_setLc (i := 2) (own := [("piece", 3)]) (g := (gName 3)) rfl sc_Load_fill.nd rfl rfl (sw_true rfl rfl rfl (by decide +kernel)) (Ak.pi_listK (K := K) (by rfl) (Ak.pe_mx0 (pv 0) m_Load_waits hr (by walk_at "lv") (takes_of rfl rfl rfl rfl))) (blkOk_by (N := N_Load_fill) (sc := defScope s_Load_fill) (by decide +kernel)) (fun _ _ _ _ _ => by exact (pg_name (i := 3) sc_Load_fill.nd rfl (Or.inl rfl))) (fun _ _ _ _ _ => by exact (pts_one (Ak.pt_truK (K := K) (by rfl) (Ak.pe_mx (pv 0) m_Load_is_ready hr (by walk_at "lv") L2.takes0 (pa_cons (pv 3) (pa_cons (pv 1) pa_nil)))))) (fun _ _ _ _ _ => by exact (pv 3)))
      (pss_cons (ps_set (i := 4) sc_Load_fill.nd rfl (Or.inl rfl) (pe_callTy (Ak.cr_tupK (K := K) (by rfl)) (by rfl) g_tuple (by decide +kernel) (pa_cons (pe_slice (Ak.sl_K (K := K) (by rfl)) (pv 2) po_none (po_some (Ak.pe_fldK (K := K) (by rfl) (pv 0) (by rfl)))) pa_nil)))
      (pss_cons (ps_for (passes_of rfl) rfl (Ak.pi_tupK (K := K) (by rfl) (pv 4)) (pg_name (i := 3) sc_Load_fill.nd rfl (Or.inl rfl))
      (pss_one (ps_dput (hu_of hr) (Ak.pe_fldK (K := K) (by rfl) (pv 0) (by rfl)) (pv 3) (pv 1) rfl)))
      (pss_cons (ps_expr (Ak.pe_bmK (K := K) (by rfl) PySem.F.plainAttrs_list PySem.F.slot_list_append PySem.F.type_list_append mt_append (Ak.pe_fldK (K := K) (by rfl) (pv 0) (by rfl)) (pa_cons (pv 4) pa_nil)))
      (pss_one (ps_ret (pv 4)))))))), ?_⟩
    have e0 : L2.start N_Load_fill [V.ref p] = [some (V.ref p), none, none, none, none] := rfl
    rw [e0]
    try dsimp only [cxOf]
    walk_at "rd"
    rw [List.length_map, tl]
    refine ⟨p, ls, la, ts, room, wait, many, rows, sure, rfl, hL, fun f H1 nf hf k1 => ?_⟩
    have hp1 := k1.1 _ _ nin_nil hp
    walk_at "rd"
    refine Ak.l_lcL (xs := (openL many sure).map V.int) (SqL.of hf) (fun i => (((openL many sure).take i).filter (readyB rows wait rows.length)).map V.int) rfl (fun D i x H' hD hx hk hdd => ?_) (fun D H' hD hk hdd => ?_)
    · obtain ⟨c, hc, rfl⟩ := map_at hx
      have hp2 := hk.1 _ _ nin_nil hp1
      walk_at "rd"
      refine ⟨p, ls, la, ts, room, wait, many, rows, sure, c, _, rfl, hL.keep (k1.trans hk), List.mem_of_getElem? hc, ?_⟩
      walk_at "rd"
      refine Ak.w_iteB (fun z => ?_) (fun z => ?_)
      · walk_at "rd"
        refine kIn_go hD hdd hk ?_ (filt_yes hc z)
        have e := filt_len (l := openL many sure) (i := i) (p := readyB rows wait rows.length) (f := V.int)
        rw [sizeLine_eq]
        omega
      · exact kOut_go hdd hk (filt_no hc (by rw [z]; exact Bool.false_ne_true))
    · rw [List.length_map, List.take_length] at hdd
      have hp2 := hk.1 _ _ nin_nil hp1
      have k2 := k1.trans hk
      walk_at "rd"
      have hl2 := k2.1 _ _ nin_nil hl
      have hd2 := k2.1 _ _ nin_nil hd
      have ht2 := ht.keepT k2 (fun b hb => absurd hb List.not_mem_nil)
      refine w_slTake (SqL.of hdd) (by omega) fun q nq => ?_
      rw [← List.map_take, ← fillOf_eq]
      have hq3 : upd H' q (.lst ((fillOf room wait many rows sure).map V.int)) q = some (.lst ((fillOf room wait many rows sure).map V.int)) := upd_same
      have k3 : Keep [] H (upd H' q (.lst ((fillOf room wait many rows sure).map V.int))) := k2.new nq
      have hp3 := k3.1 _ _ nin_nil hp
      have hl3 := k3.1 _ _ nin_nil hl
      have hd3 := k3.1 _ _ nin_nil hd
      have ht3 := ht.keepT k3 (fun b hb => absurd hb List.not_mem_nil)
      generalize upd H' q (.lst ((fillOf room wait many rows sure).map V.int)) = H3 at hq3 k3 hp3 hl3 hd3 ht3 ⊢
      walk_at "rd"
      rename_i t nt
      have k4 : Keep [] H (upd H3 t (.tup ((fillOf room wait many rows sure).map V.int))) := k3.new nt
      have ht4 : upd H3 t (.tup ((fillOf room wait many rows sure).map V.int)) t = some (.tup ((fillOf room wait many rows sure).map V.int)) := upd_same
      have nt0 : H t = none := k3.2 _ nt
      generalize upd H3 t (.tup ((fillOf room wait many rows sure).map V.int)) = H4 at k4 ht4 ⊢
      have hd4 := k4.1 _ _ nin_nil hd
      have fl := fillOf_len (room := room) (wait := wait) (many := many) (rows := rows) (sure := sure)
      refine l_forTup (xs := (fillOf room wait many rows sure).map V.int) (SqT.of ht4) (fun i σ' H' => ∃ v3, σ' = [some (.ref p), some (.int (rows.length : Nat)), some (.ref D), v3, some (.ref t)] ∧ Keep [la] H4 H' ∧ H' la = some (.dK (dOf (openL many sure) fun x => if x ∈ (fillOf room wait many rows sure).take i then .int (rows.length : Nat) else lastV rows x)))
        ⟨none, rfl, Keep.refl, by rw [hd4]; congr 2⟩ (fun i σ' H' _ pv => by obtain ⟨_, _, pv, _⟩ := pv; exact pv.seqT (nin_cons (ne_of ht4 hd4 (by intro z; cases z)) nin_nil) (SqT.of ht4)) (fun i x σ' H5 hx pv => ?_) (fun σ' H5 pv => ?_)
      · obtain ⟨v3, rfl, k5, hd5⟩ := pv
        obtain ⟨c, hc, rfl⟩ := map_at hx
        have hp5 : H5 p = some (.ins C dx (loadF room wait many ls la)) := k5.1 _ _ (nin_cons pa nin_nil) (k4.1 _ _ nin_nil hp)
        walk_at "rd"
        refine w_dputO hd5 (by rw [sizeLine_eq]; omega) (fillOf_mem (List.mem_of_getElem? hc)) ?_
        walk_at "rd"
        refine ⟨_, rfl, k5.set List.mem_cons_self, ?_⟩
        rw [upd_same]
        congr 2
        refine dOf_congr fun x _ => ?_
        rw [take_at hc]
        by_cases e1 : x = c
        · rw [if_pos e1, if_pos (List.mem_append.mpr (Or.inr (List.mem_singleton.mpr e1)))]
        · rw [if_neg e1]
          by_cases e2 : x ∈ (fillOf room wait many rows sure).take i
          · rw [if_pos e2, if_pos (List.mem_append.mpr (Or.inl e2))]
          · rw [if_neg e2, if_neg (fun z => (List.mem_append.mp z).elim e2 fun y => e1 (List.mem_singleton.mp y))]
      · obtain ⟨v3, rfl, k5, hd5⟩ := pv
        rw [List.length_map, List.take_length] at hd5
        have hp5 : H5 p = some (.ins C dx (loadF room wait many ls la)) := k5.1 _ _ (nin_cons pa nin_nil) (k4.1 _ _ nin_nil hp)
        have hl5 : H5 ls = some (.lst (ts.map V.ref)) := k5.1 _ _ (nin_cons ll nin_nil) (k4.1 _ _ nin_nil hl)
        have ht5 : H5 t = some (.tup ((fillOf room wait many rows sure).map V.int)) := k5.1 _ _ (nin_cons (ne_of ht4 hd4 (by intro z; cases z)) nin_nil) ht4
        have hr5 : RowsAt H5 ts rows := (ht.keepT k4 (fun b hb => absurd hb List.not_mem_nil)).keepT k5 (fun b hb xs z => by rw [List.mem_singleton.mp hb, hd4] at z; cases z)
        walk_at "rd"
        have k6 : Keep [ls, la] H (upd H5 ls (.lst (ts.map V.ref ++ [.ref t]))) := ((k4.mono sub_nil).trans (k5.mono fun b hb => by rw [List.mem_singleton.mp hb]; exact List.mem_cons_of_mem _ List.mem_cons_self)).set List.mem_cons_self
        have kU : Keep [ls] H5 (upd H5 ls (.lst (ts.map V.ref ++ [.ref t]))) := Keep.refl.set List.mem_cons_self
        have tne : t ≠ ls := ne_of ht5 hl5 (by intro z; cases z)
        refine k t _ nt0 ((upd_ne tne).trans ht5) ⟨⟨dx, (upd_ne pl).trans hp5⟩, ?_, ?_, ?_, ?_⟩ k6
        · rw [upd_same, List.map_append]
          rfl
        · exact (hr5.keepT kU (fun b hb xs z => by rw [List.mem_singleton.mp hb, hl5] at z; cases z)).add ((upd_ne tne).trans ht5)
        · rw [upd_ne (Ne.symm ll), hd5]
          congr 2
          exact dOf_congr fun x _ => by rw [lastV_app]
        · refine ⟨fun r hr q hq => ?_, fun r hr => ?_, fun r hr => ?_, g.s⟩
          · rcases List.mem_append.mp hr with h | h
            · exact g.r r h q hq
            · rw [List.mem_singleton.mp h] at hq
              exact (openL_mem.mp (fillOf_mem hq)).1
          · rcases List.mem_append.mp hr with h | h
            · exact g.n r h
            · rw [List.mem_singleton.mp h]
              omega
          · rcases List.mem_append.mp hr with h | h
            · exact g.d r h
            · rw [List.mem_singleton.mp h]
              exact fillOf_nd

theorem filt_take0 {l xs : List Int} : l.filter (fun p => !decide (p ∈ xs.take 0)) = l := List.filter_eq_self.mpr fun x _ => rfl
theorem free_loop {fs : List Int} {i : Nat} {c : Int} (h : fs[i]? = some c) {l : List Int} : (l.filter fun p => !decide (p ∈ fs.take i)).filter (fun q => !decide (q = c)) = l.filter fun p => !decide (p ∈ fs.take (i + 1)) := by
  rw [List.filter_filter]
  refine List.filter_congr fun x _ => ?_
  rw [take_at h]
  by_cases e1 : x = c
  · rw [decide_eq_true e1, decide_eq_true (List.mem_append.mpr (Or.inr (List.mem_singleton.mpr e1)))]
    rfl
  · by_cases e2 : x ∈ fs.take i
    · rw [decide_eq_true e2, decide_eq_true (List.mem_append.mpr (Or.inl e2))]
      simp
    · rw [decide_eq_false e1, decide_eq_false e2, decide_eq_false (fun z => (List.mem_append.mp z).elim e2 fun y => e1 (List.mem_singleton.mp y))]
      rfl
theorem ok_free {f : Addr} {fd : FuncData} (F : L2.Fun K "_free" "Load._free" s_Load__free f fd) (T : LoadT K C) (g_len : mg "len" = none) : FnOk P w K mg base (L2.CX P w) 1 f fd ["self", "number"] (spFree C) := by
  refine Fun.okX F sc_Load__free (fun vs H Q E h => ?_) (fun cdv A outer s H vs Q E hr h => ?_)
  · obtain ⟨_, _, _, _, _, _, _, _, _, _, rfl, _⟩ := h
    rfl
  · obtain ⟨p, ls, la, ts, room, wait, many, rows, sure, n, rfl, hL, m1, k⟩ := h
    obtain ⟨⟨dx, hp⟩, hl, ht, hd, g⟩ := id hL
    obtain ⟨cl, n1, n2, n3, n4, n5⟩ := T
    have pa : p ≠ la := ne_of hp hd (by intro z; cases z)
    have pl : p ≠ ls := ne_of hp hl (by intro z; cases z)
    have ll : ls ≠ la := ne_of hl hd (by intro z; cases z)
    have tl : ts.length = rows.length := ht.len
    have ol := openL_len (many := many) (sure := sure)
    refine ⟨_, (pss_cons (ps_if (PW.pt (pw_or (pt_cmpR op_lt (pv 1) pe_int (nomark _)) (pw_or1 (pt_cmpR op_ge (pv 1) (pe_callB (Ak.cr_lenK (K := K) (by rfl)) (by rfl) g_len (by decide +kernel) (pa_cons (Ak.pe_fldK (K := K) (by rfl) (pv 0) (by rfl)) pa_nil)) (nomark _)))))
      (pss_one (ps_ret (pe_lst pa_nil)))
      pss_nil)
      (pss_cons (ps_setLc (i := 2) (own := [("piece", 3)]) (g := (gName 3)) rfl sc_Load__free.nd rfl rfl (sw_true rfl rfl rfl (by decide +kernel)) (Ak.pi_tupK (K := K) (by rfl) (pe_ix (Ak.ix_K (K := K) (by rfl)) (Ak.pe_fldK (K := K) (by rfl) (pv 0) (by rfl)) (pv 1) (by intro _ _; rfl))) (blkOk_by (N := N_Load__free) (sc := defScope s_Load__free) (by decide +kernel)) (fun _ _ _ _ _ => by exact (pg_name (i := 3) sc_Load__free.nd rfl (Or.inl rfl))) (fun _ _ _ _ _ => by exact (pts_one (pt_cmp (pc_din (hu_of hr) (pv 3) (Ak.pe_fldK (K := K) (by rfl) (pv 0) (by rfl))) rfl))) (fun _ _ _ _ _ => by exact (pv 3)))
      (pss_cons (ps_for (passes_of rfl) rfl (Ak.pi_listK (K := K) (by rfl) (pv 2)) (pg_name (i := 3) sc_Load__free.nd rfl (Or.inl rfl))
      (pss_one (ps_ddel (Ak.pe_fldK (K := K) (by rfl) (pv 0) (by rfl)) (pv 3))))
      (pss_one (ps_ret (pv 2)))))), ?_⟩
    have e0 : L2.start N_Load__free [V.ref p, V.int n] = [some (V.ref p), some (V.int n), none, none] := rfl
    rw [e0]
    try dsimp only [cxOf]
    have out : n < 0 ∨ (rows.length : Int) ≤ n → ∀ f, H f = none → Q (.ref f) (upd H f (.lst [])) := fun c f nf => by
      have e : freeOf rows sure n = [] := by unfold freeOf; rw [if_pos c]
      have k1 : Keep [] H (upd H f (.lst [])) := Keep.refl.new nf
      refine k f _ nf (by rw [upd_same, e]; rfl) (by rw [e, List.append_nil]; exact hL.keep k1) (k1.mono sub_nil)
    walk_at "rd"
    refine Ak.w_ite (fun z => ?_) (fun z => ?_)
    · walk_at "rd"
      exact out (Or.inl z) _ (by walk_at "as")
    · walk_at "rd"
      rw [List.length_map, tl]
      refine Ak.w_ite (fun z2 => ?_) (fun z2 => ?_)
      · walk_at "rd"
        exact out (Or.inr z2) _ (by walk_at "as")
      · have hk : n.toNat < rows.length := by omega
        obtain ⟨t, et, htt⟩ := ht.at hk
        have eix : atI (ts.map V.ref) n = some (.ref t) := by
          rw [show n = ((n.toNat : Nat) : Int) by omega]
          refine atI_nat ?_
          rw [List.getElem?_map, et]
          rfl
        have ef : freeOf rows sure n = (rows.getD n.toNat []).filter fun p => !decide (p ∈ sure) := by unfold freeOf; rw [if_neg (by omega)]
        have rr : ∀ x, x ∈ rows.getD n.toNat [] → 0 ≤ x ∧ x < many := fun x hx => by
          rw [List.getD_eq_getElem?_getD, List.getElem?_eq_getElem hk] at hx
          exact g.r _ (List.getElem_mem hk) x hx
        have rd : (rows.getD n.toNat []).Nodup := by
          rw [List.getD_eq_getElem?_getD, List.getElem?_eq_getElem hk]
          exact g.d _ (List.getElem_mem hk)
        have rl : (rows.getD n.toNat []).length ≤ 8 := by
          rw [List.getD_eq_getElem?_getD, List.getElem?_eq_getElem hk]
          exact g.n _ (List.getElem_mem hk)
        generalize rows.getD n.toNat [] = row at htt ef rr rd rl
        walk_at "rd"
        refine Ak.l_lcT (xs := row.map V.int) (SqT.of htt) (fun i => ((row.take i).filter fun p => !decide (p ∈ sure)).map V.int) rfl (fun D i x H' hD hx hk hdd => ?_) (fun D H' hD hk hdd => ?_)
        · obtain ⟨c, hc, rfl⟩ := map_at hx
          have hp2 := hk.1 _ _ nin_nil hp
          have hd2 := hk.1 _ _ nin_nil hd
          walk_at "rd"
          have rc := rr c (List.mem_of_getElem? hc)
          refine Ak.w_ite (fun z => ?_) (fun z => ?_)
          · walk_at "rd"
            refine kIn_go hD hdd hk ?_ (filt_yes hc (by rw [decide_eq_false (openL_mem.mp z).2]; rfl))
            have e := filt_len (l := row) (i := i) (p := fun p => !decide (p ∈ sure)) (f := V.int)
            rw [sizeLine_eq]
            omega
          · refine kOut_go hdd hk (filt_no hc fun y => z (openL_mem.mpr ⟨rc, fun m => ?_⟩))
            rw [decide_eq_true m] at y
            cases y
        · rw [List.length_map, List.take_length, ← ef] at hdd
          have hp2 := hk.1 _ _ nin_nil hp
          have hd2 := hk.1 _ _ nin_nil hd
          have hl2 := hk.1 _ _ nin_nil hl
          have fo : ∀ x, x ∈ freeOf rows sure n → x ∈ openL many sure := fun x hx => by
            obtain ⟨⟨r, hr, hxr⟩, hs⟩ := freeOf_mem hx
            exact openL_mem.mpr ⟨g.r r hr x hxr, hs⟩
          have fn : (freeOf rows sure n).Nodup := by rw [ef]; exact rd.filter _
          walk_at "rd"
          refine l_forList (xs := (freeOf rows sure n).map V.int) (SqL.of hdd) (fun i σ' H4 => ∃ v3, σ' = [some (.ref p), some (.int n), some (.ref D), v3] ∧ Keep [la] H' H4 ∧ H4 la = some (.dK (dOf ((openL many sure).filter fun p => !decide (p ∈ (freeOf rows sure n).take i)) (lastV rows))))
            ⟨none, rfl, Keep.refl, by rw [hd2, filt_take0]⟩ (fun i σ' H4 _ pv => by obtain ⟨_, _, pv, _⟩ := pv; exact pv.seqL (nin_cons (ne_of hdd hd2 (by intro z; cases z)) nin_nil) (SqL.of hdd)) (fun i x σ' H4 hx pv => ?_) (fun σ' H4 pv => ?_)
          · obtain ⟨v3, rfl, k4, hd4⟩ := pv
            obtain ⟨c, hc, rfl⟩ := map_at hx
            have hp4 : H4 p = some (.ins C dx (loadF room wait many ls la)) := k4.1 _ _ (nin_cons pa nin_nil) hp2
            walk_at "rd"
            refine w_ddelO hd4 (List.mem_filter.mpr ⟨fo c (List.mem_of_getElem? hc), ?_⟩) ?_
            · rw [decide_eq_false]
              · rfl
              · intro m
                obtain ⟨hi, ec⟩ := List.getElem?_eq_some_iff.mp hc
                obtain ⟨j, hj, ej⟩ := List.mem_iff_getElem.mp m
                rw [List.length_take] at hj
                rw [List.getElem_take] at ej
                exact List.pairwise_iff_getElem.mp fn j i (by omega) hi (by omega) (ej.trans ec.symm)
            · refine ⟨_, rfl, k4.set List.mem_cons_self, ?_⟩
              rw [upd_same, free_loop hc]
          · obtain ⟨v3, rfl, k4, hd4⟩ := pv
            rw [List.length_map, List.take_length] at hd4
            have hp4 : H4 p = some (.ins C dx (loadF room wait many ls la)) := k4.1 _ _ (nin_cons pa nin_nil) hp2
            have hl4 : H4 ls = some (.lst (ts.map V.ref)) := k4.1 _ _ (nin_cons ll nin_nil) hl2
            have hdd4 := k4.1 _ _ (nin_cons (ne_of hdd hd2 (by intro z; cases z)) nin_nil) hdd
            have kk : Keep [la] H H4 := (hk.mono sub_nil).trans k4
            walk_at "rd"
            refine k D _ hD hdd4 ⟨⟨dx, hp4⟩, hl4, ht.keepT kk (fun b hb xs z => by rw [List.mem_singleton.mp hb, hd] at z; cases z), ?_, g.free⟩ kk
            rw [hd4, openL_app]
theorem ok_came {f : Addr} {fd : FuncData} (F : L2.Fun K "came" "Load.came" s_Load_came f fd) (T : LoadT K C) (g_sorted : mg "sorted" = none) (m_Load_free : MetX P w K mg base 1 C "_free" (spFree C)) : FnOk P w K mg base (L2.CX P w) 2 f fd ["self", "letters"] (spCame K C) := by
  refine Fun.okX F sc_Load_came (fun vs H Q E h => ?_) (fun cdv A outer s H vs Q E hr h => ?_)
  · obtain ⟨_, _, _, _, _, _, _, _, _, _, _, rfl, _⟩ := h
    rfl
  · obtain ⟨p, ls, la, ts, room, wait, many, rows, sure, b, ks, rfl, hL, m1, hb, bla, kl, k⟩ := h
    obtain ⟨⟨dx, hp⟩, hl, ht, hd, g⟩ := id hL
    obtain ⟨cl, n1, n2, n3, n4, n5⟩ := T
    refine ⟨_, (pss_cons (ps_set (i := 2) sc_Load_came.nd rfl (Or.inl rfl) (pe_lst pa_nil))
      (pss_cons (ps_for (passes_of rfl) rfl (Ak.pi_listK (K := K) (by rfl) (pv 1)) (pg_name (i := 3) sc_Load_came.nd rfl (Or.inl rfl))
      (pss_one (ps_expr (Ak.pe_bmK (K := K) (by rfl) PySem.F.plainAttrs_list PySem.F.slot_list_extend PySem.F.type_list_extend mt_extend (pv 2) (pa_cons (Ak.pe_mx (pv 0) m_Load_free hr (by walk_at "lv") (takes_of rfl rfl rfl rfl) (pa_cons (pv 3) pa_nil)) pa_nil)))))
      (pss_one (ps_ret (pe_callB (Ak.cr_sortK (K := K) (by rfl) rfl) (by rfl) g_sorted (by decide +kernel) (pa_cons (pv 2) pa_nil)))))), ?_⟩
    have e0 : L2.start N_Load_came [V.ref p, V.ref b] = [some (V.ref p), some (V.ref b), none, none] := rfl
    rw [e0]
    try dsimp only [cxOf]
    walk_at "rd"
    rename_i f nf
    have fl : f ≠ la := Ne.symm (ne_of_none hd nf)
    refine l_forList (Ak.SqL.upd hb nf) (fun i σ' H' => ∃ v3, σ' = [some (.ref p), some (.ref b), some (.ref f), v3] ∧ Keep [la] H H' ∧ H' f = some (.lst ((cameOf rows sure (ks.take i)).map V.int)) ∧ (cameOf rows sure (ks.take i)).length ≤ 8 * i ∧ LoadAt C H' p ls la ts room wait many rows (sure ++ cameOf rows sure (ks.take i)))
      ⟨none, rfl, Keep.refl.new nf, upd_same, Nat.zero_le _, by rw [show cameOf rows sure (ks.take 0) = [] from rfl, List.append_nil]; exact hL.keep (Keep.refl.new nf)⟩ (fun i σ' H4 _ pv => by obtain ⟨_, _, pv, _⟩ := pv; exact pv.seqL (nin_cons bla nin_nil) hb) (fun i x σ' H4 hx pv => ?_) (fun σ' H4 pv => ?_)
    · obtain ⟨v3, rfl, k4, hf4, len4, L4⟩ := pv
      obtain ⟨c, hc, rfl⟩ := map_at hx
      obtain ⟨⟨dx4, hp4⟩, hl4, ht4, hd4, g4⟩ := id L4
      walk_at "rd"
      refine ⟨p, ls, la, ts, room, wait, many, rows, _, c, rfl, L4, m1, fun e H5 ne he L5 k5 => ?_⟩
      have hf5 := k5.1 _ _ (nin_cons fl nin_nil) hf4
      have len5 := freeOf_len (k := c) (sure := sure ++ cameOf rows sure (ks.take i)) g4
      have hi := (List.getElem?_eq_some_iff.mp hc).1
      have fla : f ≠ e := ne_of_none hf4 ne
      have sz : ((cameOf rows sure (ks.take i)).map V.int).length + ((freeOf rows (sure ++ cameOf rows sure (ks.take i)) c).map V.int).length ≤ sizeLine := by rw [List.length_map, List.length_map, sizeLine_eq]; omega
      walk_at "rd"
      have kU : Keep [f] H5 (upd H5 f (.lst ((cameOf rows sure (ks.take i)).map V.int ++ (freeOf rows (sure ++ cameOf rows sure (ks.take i)) c).map V.int))) := Keep.refl.set List.mem_cons_self
      refine ⟨_, rfl, (k4.trans k5).own nf, ?_, ?_, ?_⟩
      · rw [upd_same, cameOf_take hc, List.map_append]
      · rw [cameOf_take hc, List.length_append]
        omega
      · rw [cameOf_take hc, ← List.append_assoc]
        refine L5.keepX (fun a o n h _ => kU.1 a o n h) fun a ha => nin_cons (fun z => ?_) nin_nil
        obtain ⟨⟨dx5, hp5⟩, hl5, ht5, hd5, g5⟩ := id L5
        rw [z] at ha
        rcases List.mem_cons.mp ha with h | ha
        · exact ne_of hf5 hp5 (by intro z; cases z) h
        · rcases List.mem_cons.mp ha with h | ha
          · rw [h, hl] at nf
            cases nf
          · rcases List.mem_cons.mp ha with h | ha
            · exact fl h
            · obtain ⟨xs, e⟩ := ht.live _ ha
              rw [nf] at e
              cases e
    · obtain ⟨v3, rfl, k4, hf4, len4, L4⟩ := pv
      rw [List.length_map, List.take_length] at hf4 L4
      walk_at "rd"
      rename_i r nr
      have k5 : Keep [] H4 (upd H4 r (.lst ((srt (cameOf rows sure ks)).map V.int))) := Keep.refl.new nr
      exact k r _ (k4.2 _ nr) upd_same (L4.keep k5) (k4.new nr)
end
end Ak

namespace Ak
open PySem PySem.Spec PyProof.Rows L2
/-! ### the law's world: dice, a list of tuples, what each of them stands for -/
/-- not a list of ints -/
def NoInts (H : Hp) (b : Addr) : Prop := ∀ ns : List Int, H b ≠ some (.lst (ns.map V.int))
theorem NoInts.dice {K : PySem.W.Frag} {H0 H : Hp} {d : Addr} (x : Dice K H0 H d) : NoInts H d := by
  obtain ⟨⟨a, ns, i, m, r, h1, h2⟩, h3, h4⟩ := x
  intro ms e
  rw [h1] at e
  cases ms with
  | nil => cases e
  | cons n t => cases e
/-- no list, no tuple, no table, no code object -/
structure Solid (o : HO) : Prop where
  l : ∀ xs, o ≠ .lst xs
  t : ∀ xs, o ≠ .tup xs
  b : ∀ ps, o ≠ .tbl ps
  x : ∀ φ, o ≠ .ext φ
theorem Solid.ins {C dx : Addr} {fs : List (Str × V)} : Solid (.ins C dx fs) := ⟨fun _ z => (by cases z), fun _ z => (by cases z), fun _ z => (by cases z), fun _ z => (by cases z)⟩
theorem Solid.dK {kvs : List (Key × V)} : Solid (.dK kvs) := ⟨fun _ z => (by cases z), fun _ z => (by cases z), fun _ z => (by cases z), fun _ z => (by cases z)⟩
theorem NoInts.solid {H : Hp} {b : Addr} {o : HO} (h : H b = some o) (s : Solid o) : NoInts H b := fun ns e => s.l _ (Option.some.inj (h.symm.trans e))
theorem Dice.ext' {K : PySem.W.Frag} {H0 H H' : Hp} {d : Addr} (x : Dice K H0 H d) (e : Ext0 H H') : Dice K H0 H' d := by
  obtain ⟨⟨a, ns, i, m, r, h1, h2⟩, h3, h4⟩ := x
  exact ⟨⟨a, ns, i, m, r, e _ _ h1 (fun _ z => by cases z), h2⟩, h3, h4.trans e⟩
theorem Keep.ext {H H' : Hp} (k : Keep [] H H') : Ext0 H H' := fun b o h _ => k.1 b o nin_nil h
/-- neither a table nor a code object -/
def Plain (H : Hp) (b : Addr) : Prop := ∃ o, H b = some o ∧ (∀ ps, o ≠ .tbl ps) ∧ ∀ φ, o ≠ .ext φ
theorem Plain.lst {H : Hp} {b : Addr} {xs : List V} (h : H b = some (.lst xs)) : Plain H b := ⟨_, h, fun _ z => (by cases z), fun _ z => (by cases z)⟩
theorem Plain.solid {H : Hp} {b : Addr} {o : HO} (h : H b = some o) (s : Solid o) : Plain H b := ⟨o, h, s.b, s.x⟩
theorem Tabs.keep {T : List (Addr × Str)} {S : List Addr} {H H' : Hp} (t : LamX.Tabs T H) (k : Keep S H H') (n : ∀ b, b ∈ S → Plain H b) : LamX.Tabs T H' := by
  intro x hx
  obtain ⟨ps, h1, h2, h3⟩ := t x hx
  refine ⟨ps, k.1 _ _ (fun m => ?_) h1, h2, fun pos cv hcv => ?_⟩
  · obtain ⟨o, e, ne, _⟩ := n _ m
    rw [h1] at e
    exact ne ps (Option.some.inj e).symm
  · obtain ⟨c, e1, e2⟩ := h3 pos cv hcv
    refine ⟨c, e1, k.1 _ _ (fun m => ?_) e2⟩
    obtain ⟨o, e, _, ne⟩ := n _ m
    rw [e2] at e
    exact ne _ (Option.some.inj e).symm
theorem plain0 {H : Hp} : ∀ c, c ∈ ([] : List Addr) → Plain H c := fun _ m => absurd m List.not_mem_nil
theorem plain1 {H : Hp} {b : Addr} (h : Plain H b) : ∀ c, c ∈ [b] → Plain H c := fun c m => by rw [List.mem_singleton.mp m]; exact h
theorem Tabs.one {P : Addr} {q : Str} {H : Hp} (h : LamX.TabS H P q) : LamX.Tabs [(P, q)] H := fun p hp => by rw [List.mem_singleton.mp hp]; exact h
/-- behind a call that changed what is new alone -/
theorem Keep.fresh {S T : List Addr} {H H1 H2 : Hp} (l : Keep T H1 H2) (h : ∀ b, b ∈ T → H b = none) (k : Keep S H H1) : Keep S H H2 :=
  ⟨fun b u n e => l.1 b u (fun m => by rw [h b m] at e; cases e) (k.1 b u n e), fun b e => k.2 b (l.2 b e)⟩
theorem Keep.old {S : List Addr} {H0 H H' : Hp} (old : ∀ b, H b = none → H0 b = none) (k : Keep S H H') : ∀ b, H' b = none → H0 b = none := fun b e => old b (k.2 b e)
/-- all but S and the tables stay -/
def KeepX (S : List Addr) (H H' : Hp) : Prop := ∀ a o, a ∉ S → H a = some o → (∀ ps, o ≠ .tbl ps) → H' a = some o
theorem Keep.x {S : List Addr} {H H' : Hp} (k : Keep S H H') : KeepX S H H' := fun a o n h _ => k.1 a o n h
theorem KeepX.ext {H H' : Hp} (e : Ext0 H H') : KeepX [] H H' := fun a o _ h n => e a o h n
theorem KeepX.trans {S : List Addr} {H H1 H2 : Hp} (a : KeepX S H H1) (b : KeepX S H1 H2) : KeepX S H H2 := fun c o n h t => b c o n (a c o n h t) t
theorem KeepX.mono {S T : List Addr} {H H1 : Hp} (a : KeepX T H H1) (h : ∀ b, b ∈ T → b ∈ S) : KeepX S H H1 := fun c o n => a c o fun m => n (h c m)
theorem KeepX.mono0 {S : List Addr} {H H1 : Hp} (a : KeepX [] H H1) : KeepX S H H1 := a.mono sub_nil
theorem KeepX.fresh {S T : List Addr} {H H1 H2 : Hp} (l : KeepX T H1 H2) (h : ∀ b, b ∈ T → b ∈ S ∨ H b = none) (k : KeepX S H H1) : KeepX S H H2 := fun a o n e t => l a o (fun m => by
  rcases h a m with z | z
  · exact n z
  · rw [e] at z; cases z) (k a o n e t) t
theorem KeepX.fresh' {S T : List Addr} {H H1 H2 : Hp} (l : KeepX T H1 H2) (h : ∀ b, b ∈ T → b ∈ S ∨ ∀ o, H b = some o → ¬ ∀ ps, o ≠ .tbl ps) (k : KeepX S H H1) : KeepX S H H2 := fun a o n e t => l a o (fun m => by
  rcases h a m with z | z
  · exact n z
  · exact z o e t) (k a o n e t) t
theorem Dice.keepX {K : PySem.W.Frag} {H0 H H1 : Hp} {d : Addr} {S : List Addr} (x : Dice K H0 H d) (k : KeepX S H H1) (nd : d ∉ S) (n : ∀ b, b ∈ S → H0 b = none) : Dice K H0 H1 d := by
  obtain ⟨⟨a, ns, i, m, r, h1, h2⟩, h3, h4⟩ := x
  exact ⟨⟨a, ns, i, m, r, k _ _ nd h1 (fun _ z => by cases z), h2⟩, h3, fun b o h t => k b o (fun m => by rw [n b m] at h; cases h) (h4 b o h t) t⟩
theorem Dice.own {K : PySem.W.Frag} {H0 H1 H2 : Hp} {d D : Addr} {o : HO} (x : Dice K H0 H1 d) (y : Dice K H0 H2 d) (n : H1 D = none) (ne : d ≠ D) : Dice K H0 (upd H2 D o) d := by
  obtain ⟨⟨a, ns, i, m, r, h1, h2⟩, h3, h4⟩ := y
  exact ⟨⟨a, ns, i, m, r, (upd_ne ne).trans h1, h2⟩, h3, fun b u h t => by
    rw [upd_ne (fun z => by
      have := x.ext b u h t
      rw [z, n] at this
      cases this)]
    exact h4 b u h t⟩
/-- what follows an if, said once -/
theorem cut_if {c : Bool} {t u : TS} {D : Ends} {σ : L2.St} {H : Hp} (N : L2.St → Hp → Prop) (a : ∀ σ' H', N σ' H' → D.nx σ' H') (b : (∀ σ' H', N σ' H' → D.nx σ' H') → if c = true then t D σ H else u D σ H) : if c = true then t D σ H else u D σ H := b a
/-- the same, what follows kept closed -/
theorem cut_ifO {c : Bool} {t u : TS} {D : Ends} {σ : L2.St} {H : Hp} (N : L2.St → Hp → Prop) (a : ∀ σ' H', N σ' H' → D.nx σ' H') (b : ∀ R : L2.St → Hp → Prop, (∀ σ' H', N σ' H' → R σ' H') → if c = true then t { D with nx := R } σ H else u { D with nx := R } σ H) : if c = true then t D σ H else u D σ H := b D.nx a
theorem cut_isi {K : PySem.W.Frag} {vf c : V} {t u : TS} {D : Ends} {σ : L2.St} {H : Hp} (N : L2.St → Hp → Prop) (a : ∀ σ' H', N σ' H' → D.nx σ' H') (b : ∀ R : L2.St → Hp → Prop, (∀ σ' H', N σ' H' → R σ' H') → rIsi K [vf, c] H fun x H' => ∃ k, TruV K x H' k ∧ if k = true then t { D with nx := R } σ H' else u { D with nx := R } σ H') : rIsi K [vf, c] H fun x H' => ∃ k, TruV K x H' k ∧ if k = true then t D σ H' else u D σ H' := b D.nx a
/-! alike -/
section
variable {K : PySem.W.Frag} {H : Hp} {n : Nat} {p q : Addr}
theorem al_int {i : Int} : Alike K H (n + 1) (.int i) (.int i) := Or.inr (Or.inl ⟨i, rfl, rfl⟩)
theorem al_bl {b : Bool} : Alike K H (n + 1) (.bl b) (.bl b) := Or.inl ⟨b, rfl, rfl⟩
theorem al_str {s : Str} : Alike K H (n + 1) (.str s) (.str s) := Or.inr (Or.inr (Or.inl ⟨s, rfl, rfl⟩))
theorem al_non : Alike K H (n + 1) .non .non := Or.inr (Or.inr (Or.inr (Or.inl ⟨rfl, rfl⟩)))
inductive AlL (K : PySem.W.Frag) (H : Hp) (n : Nat) : List V → List V → Prop
  | nil : AlL K H n [] []
  | cons {x y : V} {xs ys : List V} (h : Alike K H n x y) (t : AlL K H n xs ys) : AlL K H n (x :: xs) (y :: ys)
theorem AlL.len {xs ys : List V} (h : AlL K H n xs ys) : xs.length = ys.length := by
  induction h with
  | nil => rfl
  | cons _ _ ih => rw [List.length_cons, List.length_cons, ih]
theorem AlL.at {xs ys : List V} (h : AlL K H n xs ys) : ∀ (k : Nat) u v, xs[k]? = some u → ys[k]? = some v → Alike K H n u v := by
  induction h with
  | nil => intro k u v a _; simp at a
  | cons h t ih =>
    intro k u v a b
    match k, a, b with
    | 0, a, b => cases a; cases b; exact h
    | k + 1, a, b => exact ih k u v (by simpa using a) (by simpa using b)
theorem al_tup {xs ys : List V} (hx : H p = some (.tup xs)) (hy : H q = some (.tup ys)) (h : AlL K H n xs ys) (hl : xs.length ≤ 16777216) : Alike K H (n + 1) (.ref p) (.ref q) :=
  Or.inr (Or.inr (Or.inr (Or.inr (Or.inl ⟨p, q, _, _, rfl, rfl, SqT.of hx, SqT.of hy, h.len, hl, h.at⟩))))
theorem al_lst {xs ys : List V} (hx : H p = some (.lst xs)) (hy : H q = some (.lst ys)) (h : AlL K H n xs ys) (hl : xs.length ≤ 16777216) : Alike K H (n + 1) (.ref p) (.ref q) :=
  Or.inr (Or.inr (Or.inr (Or.inr (Or.inr ⟨p, q, _, _, rfl, rfl, SqL.of hx, SqL.of hy, h.len, hl, h.at⟩))))
theorem AlL.same {xs : List V} (h : ∀ x, x ∈ xs → Alike K H n x x) : AlL K H n xs xs := by
  induction xs with
  | nil => exact .nil
  | cons x r ih => exact .cons (h x List.mem_cons_self) (ih fun y hy => h y (List.mem_cons_of_mem _ hy))
theorem AlL.ints {ns : List Int} : AlL K H (n + 1) (ns.map V.int) (ns.map V.int) := AlL.same fun x hx => by
  obtain ⟨i, _, rfl⟩ := List.mem_map.mp hx
  exact al_int
end
end Ak

namespace Ak
open PySem PySem.Spec PyProof.Rows L2
/-! ### the law's world with footprints: what each side holds, by its addresses -/
def Fr (H0 : Hp) (a : Addr) : Prop := ∀ o, H0 a = some o → ∃ ps, o = .tbl ps
theorem Fr.of {H0 H : Hp} {a : Addr} (e : Ext0 H0 H) (n : H a = none) : Fr H0 a := fun o h => by
  by_cases q : ∃ ps, o = .tbl ps
  · exact q
  · have := e a o h fun ps z => q ⟨ps, z⟩
    rw [n] at this
    cases this
theorem Dice.keepF {K : PySem.W.Frag} {H0 H H1 : Hp} {d : Addr} {S : List Addr} (x : Dice K H0 H d) (k : KeepX S H H1) (nd : d ∉ S) (n : ∀ b, b ∈ S → Fr H0 b) : Dice K H0 H1 d := by
  obtain ⟨⟨a, ns, i, m, r, h1, h2⟩, h3, h4⟩ := x
  exact ⟨⟨a, ns, i, m, r, k _ _ nd h1 (fun _ z => by cases z), h2⟩, h3, fun b o h t => k b o (fun m => by
    obtain ⟨ps, z⟩ := n b m o h
    exact t ps z) (h4 b o h t) t⟩
structure SdF where
  E : Type
  tt : E → Addr
  ok : Hp → E → Nat → List Addr → Prop
  keep : ∀ {H H' : Hp} {S : List Addr} {e : E} {n : Nat} {fp : List Addr}, ok H e n fp → KeepX S H H' → (∀ a, a ∈ fp → a ∉ S) → ok H' e n fp
  mono : ∀ {H : Hp} {e : E} {n n' : Nat} {fp : List Addr}, ok H e n fp → n ≤ n' → ok H e n' fp
  live : ∀ {H : Hp} {e : E} {n : Nat} {fp : List Addr}, ok H e n fp → ∀ a, a ∈ fp → Plain H a
structure WdF (G : SdF) (K : PySem.W.Frag) (T : List (Addr × Str)) (H0 H : Hp) (d sd : Addr) (L : List (G.E × List Addr)) (n : Nat) : Prop where
  dice : Dice K H0 H d
  lst : H sd = some (.lst (L.map fun e => V.ref (G.tt e.1)))
  side : ∀ e, e ∈ L → G.ok H e.1 n e.2
  fresh : ∀ e, e ∈ L → ∀ a, a ∈ e.2 → Fr H0 a
  sep : ∀ e, e ∈ L → d ∉ e.2 ∧ sd ∉ e.2
  dis : L.Pairwise fun e u => ∀ a, a ∈ e.2 → a ∉ u.2
  new : Fr H0 sd
  tabs : LamX.Tabs T H
  sne : sd ≠ d
section
variable {G : SdF} {K : PySem.W.Frag} {T : List (Addr × Str)} {H0 H H' : Hp} {d sd : Addr} {L L1 L2 : List (G.E × List Addr)} {n : Nat}
theorem WdF.nil (dc : Dice K H0 H d) (t : LamX.Tabs T H) (hs : H sd = some (.lst [])) (n0 : Fr H0 sd) (ne : sd ≠ d) : WdF G K T H0 H d sd [] n :=
  ⟨dc, hs, fun _ h => absurd h List.not_mem_nil, fun _ h => absurd h List.not_mem_nil, fun _ h => absurd h List.not_mem_nil, List.Pairwise.nil, n0, t, ne⟩
theorem WdF.lam (x : WdF G K T H0 H d sd L n) (e : Ext0 H H') (t : LamX.Tabs T H') : WdF G K T H0 H' d sd L n :=
  ⟨x.dice.ext' e, e _ _ x.lst (fun _ z => by cases z), fun u hu => G.keep (x.side u hu) (KeepX.ext e) (fun _ _ => nin_nil), x.fresh, x.sep, x.dis, x.new, t, x.sne⟩
theorem WdF.keep0 (x : WdF G K T H0 H d sd L n) (k : Keep [] H H') : WdF G K T H0 H' d sd L n := x.lam k.ext (Tabs.keep x.tabs k plain0)
theorem WdF.mono {n' : Nat} (x : WdF G K T H0 H d sd L n) (h : n ≤ n') : WdF G K T H0 H d sd L n' := ⟨x.dice, x.lst, fun u hu => G.mono (x.side u hu) h, x.fresh, x.sep, x.dis, x.new, x.tabs, x.sne⟩
theorem WdF.next (x : WdF G K T H0 H d sd L n) (k : Keep [d] H H') (dc : Dice K H0 H' d) : WdF G K T H0 H' d sd L n := by
  obtain ⟨xs, hd⟩ := x.dice.lst
  exact ⟨dc, k.1 _ _ (nin_cons x.sne nin_nil) x.lst, fun u hu => G.keep (x.side u hu) k.x (fun a ha => nin_cons (fun z => (x.sep u hu).1 (z ▸ ha)) nin_nil), x.fresh, x.sep, x.dis, x.new, Tabs.keep x.tabs k (plain1 (Plain.lst hd)), x.sne⟩
/-- one of them has gone on -/
theorem WdF.turn {e : G.E} {fp fp' S : List Addr} (x : WdF G K T H0 H d sd (L1 ++ (e, fp) :: L2) n) (k : KeepX S H H') (hS : ∀ a, a ∈ S → a ∈ fp) (tb : LamX.Tabs T H') (nf : ∀ a, a ∈ fp' → a ∈ fp ∨ H a = none)
    (s : G.ok H' e (n + 1) fp') : WdF G K T H0 H' d sd (L1 ++ (e, fp') :: L2) (n + 1) := by
  obtain ⟨xs, hd⟩ := x.dice.lst
  have he : (e, fp) ∈ L1 ++ (e, fp) :: L2 := List.mem_append.mpr (Or.inr List.mem_cons_self)
  have hm : ∀ u, u ∈ L1 ++ (e, fp') :: L2 → u = (e, fp') ∨ (u ∈ L1 ++ (e, fp) :: L2 ∧ (u ∈ L1 ∨ u ∈ L2)) := fun u hu => by
    rcases List.mem_append.mp hu with h | h
    · exact Or.inr ⟨List.mem_append.mpr (Or.inl h), Or.inl h⟩
    · rcases List.mem_cons.mp h with h | h
      · exact Or.inl h
      · exact Or.inr ⟨List.mem_append.mpr (Or.inr (List.mem_cons_of_mem _ h)), Or.inr h⟩
  have dis := List.pairwise_append.mp x.dis
  have dis2 := List.pairwise_cons.mp dis.2.1
  have lv : ∀ u, u ∈ L1 ++ (e, fp) :: L2 → ∀ a, a ∈ u.2 → H a ≠ none := fun u hu a ha z => by
    obtain ⟨o, ho, _⟩ := G.live (x.side u hu) a ha
    rw [z] at ho
    cases ho
  have o1 : ∀ u, u ∈ L1 → ∀ a, a ∈ u.2 → a ∉ fp := fun u hu a ha m => dis.2.2 u hu (e, fp) List.mem_cons_self a ha m
  have o2 : ∀ u, u ∈ L2 → ∀ a, a ∈ u.2 → a ∉ fp := fun u hu a ha m => dis2.1 u hu a m ha
  refine ⟨x.dice.keepF k (fun m => (x.sep _ he).1 (hS _ m)) fun b hb => x.fresh _ he b (hS b hb), ?_, fun u hu => ?_, fun u hu a ha => ?_, fun u hu => ?_, ?_, x.new, tb, x.sne⟩
  · have := k _ _ (fun m => (x.sep _ he).2 (hS _ m)) x.lst (fun _ z => by cases z)
    rw [this, List.map_append, List.map_append]
    rfl
  · rcases hm u hu with h | ⟨h, h2⟩
    · rw [h]; exact s
    · refine G.mono (G.keep (x.side u h) k fun a ha m => ?_) (Nat.le_succ n)
      rcases h2 with h2 | h2
      · exact o1 u h2 a ha (hS a m)
      · exact o2 u h2 a ha (hS a m)
  · rcases hm u hu with h | ⟨h, _⟩
    · rw [h] at ha
      rcases nf a ha with z | z
      · exact x.fresh _ he a z
      · exact Fr.of x.dice.ext z
    · exact x.fresh u h a ha
  · rcases hm u hu with h | ⟨h, _⟩
    · rw [h]
      refine ⟨fun m => ?_, fun m => ?_⟩
      · rcases nf _ m with z | z
        · exact (x.sep _ he).1 z
        · rw [hd] at z; cases z
      · rcases nf _ m with z | z
        · exact (x.sep _ he).2 z
        · rw [x.lst] at z; cases z
    · exact x.sep u h
  · refine List.pairwise_append.mpr ⟨dis.1, List.pairwise_cons.mpr ⟨fun u hu a ha m => ?_, dis2.2⟩, fun u hu v hv a ha m => ?_⟩
    · rcases nf a ha with z | z
      · exact o2 u hu a m z
      · exact lv u (List.mem_append.mpr (Or.inr (List.mem_cons_of_mem _ hu))) a m z
    · rcases List.mem_cons.mp hv with h | h
      · rw [h] at m
        rcases nf a m with z | z
        · exact o1 u hu a ha z
        · exact lv u (List.mem_append.mpr (Or.inl hu)) a ha z
      · exact dis.2.2 u hu v (List.mem_cons_of_mem _ h) a ha m
/-- one more; s: it stands behind the store too -/
theorem WdF.add {e : G.E} {fp : List Addr} (x : WdF G K T H0 H d sd L n) (k : Keep [] H H') (nw : ∀ a, a ∈ fp → H a = none)
    (s : G.ok (upd H' sd (.lst ((L.map fun e => V.ref (G.tt e.1)) ++ [.ref (G.tt e)]))) e n fp) : WdF G K T H0 (upd H' sd (.lst ((L.map fun e => V.ref (G.tt e.1)) ++ [.ref (G.tt e)]))) d sd (L ++ [(e, fp)]) n := by
  have y := x.keep0 k
  obtain ⟨xs, hd⟩ := x.dice.lst
  have hs := y.lst
  have kU : Keep [sd] H' (upd H' sd (.lst ((L.map fun e => V.ref (G.tt e.1)) ++ [.ref (G.tt e)]))) := Keep.refl.set List.mem_cons_self
  have hm : ∀ u, u ∈ L ++ [(e, fp)] → u ∈ L ∨ u = (e, fp) := fun u hu => (List.mem_append.mp hu).imp id List.mem_singleton.mp
  refine ⟨y.dice.keepF kU.x (nin_cons (Ne.symm y.sne) nin_nil) (fun b hb => by rw [List.mem_singleton.mp hb]; exact x.new), ?_, fun u hu => ?_, fun u hu a ha => ?_, fun u hu => ?_, ?_, x.new, Tabs.keep y.tabs kU (plain1 (Plain.lst hs)), x.sne⟩
  · rw [upd_same, List.map_append]
    rfl
  · rcases hm u hu with hu | hu
    · exact G.keep (y.side u hu) kU.x fun a ha => nin_cons (fun z => (y.sep u hu).2 (z ▸ ha)) nin_nil
    · rw [hu]; exact s
  · rcases hm u hu with hu | hu
    · exact x.fresh u hu a ha
    · rw [hu] at ha
      exact Fr.of x.dice.ext (nw a ha)
  · rcases hm u hu with hu | hu
    · exact x.sep u hu
    · rw [hu]
      refine ⟨fun m => ?_, fun m => ?_⟩
      · have := nw _ m
        rw [hd] at this
        cases this
      · have := nw _ m
        rw [x.lst] at this
        cases this
  · refine List.pairwise_append.mpr ⟨x.dis, List.pairwise_singleton _ _, fun u hu v hv a ha m => ?_⟩
    rw [List.mem_singleton.mp hv] at m
    obtain ⟨o, ho, _⟩ := G.live (x.side u hu) a ha
    rw [nw a m] at ho
    cases ho
theorem pickF {r : Int} (r0 : 0 ≤ r) (r1 : r < L.length) : ∃ e fp L1 L2, L = L1 ++ (e, fp) :: L2 ∧ atI (L.map fun e => V.ref (G.tt e.1)) r = some (.ref (G.tt e)) := by
  obtain ⟨k, rfl⟩ : ∃ k : Nat, r = (k : Int) := ⟨r.toNat, by omega⟩
  have hl : k < L.length := by omega
  refine ⟨L[k].1, L[k].2, L.take k, L.drop (k + 1), ?_, atI_nat ?_⟩
  · show L = L.take k ++ L[k] :: L.drop (k + 1)
    rw [← List.drop_eq_getElem_cons hl, List.take_append_drop]
  · rw [List.getElem?_map, List.getElem?_eq_getElem hl]
    rfl
end
end Ak

namespace Ak
open PySem PySem.Spec PyProof.Rows L2
section
variable {P : Program} {w : World} {K : PySem.W.Frag} {mg : Str → Option Value} {base : Heap} {C : Addr}
theorem fill_take {room wait : Int} {n i : Nat} {rows : List (List Int)} {sure : List Int} {q : Int → Bool} : ((upTo (i + 1)).filter q).take n = if q (i : Int) = true ∧ (((upTo i).filter q).take n).length < n then ((upTo i).filter q).take n ++ [(i : Int)] else ((upTo i).filter q).take n := by
  rw [upTo_succ, List.filter_append, List.filter_cons, List.filter_nil]
  generalize (upTo i).filter q = l
  by_cases h : q (i : Int) = true
  · rw [if_pos h, List.take_append]
    by_cases h2 : l.length < n
    · rw [if_pos ⟨h, by rw [List.length_take]; omega⟩]
      congr 1
      exact List.take_of_length_le (by rw [List.length_singleton]; omega)
    · rw [if_neg (fun z => by have := z.2; rw [List.length_take] at this; omega), show n - l.length = 0 by omega, List.take_zero, List.append_nil]
  · rw [if_neg h, if_neg (fun z => h z.1), List.append_nil]
theorem fill_take0 {n : Nat} {q : Int → Bool} : ((upTo 0).filter q).take n = [] := by simp [upTo]
theorem rf_yes {α : Type} {i : Nat} {p : Nat → Bool} {f : Nat → α} (q : p i = true) : ((List.range (i + 1)).filter p).map f = ((List.range i).filter p).map f ++ [f i] := by rw [List.range_succ, List.filter_append, List.map_append, List.filter_cons, if_pos q]; rfl
theorem rf_no {α : Type} {i : Nat} {p : Nat → Bool} {f : Nat → α} (q : ¬ p i = true) : ((List.range (i + 1)).filter p).map f = ((List.range i).filter p).map f := by
  rw [List.range_succ, List.filter_append, List.map_append, List.filter_cons, if_neg q]
  simp
theorem rf_len {α : Type} {i : Nat} {p : Nat → Bool} {f : Nat → α} : (((List.range i).filter p).map f).length ≤ i := by
  rw [List.length_map]
  exact Nat.le_trans (List.length_filter_le _ _) (by rw [List.length_range]; exact Nat.le_refl _)
theorem cut_ifx {c : Bool} {ta tb : TE} {σ : L2.St} {H : Hp} {Q : VK} (N : V → Hp → Prop) (a : ∀ v H', N v H' → Q v H') (b : ∀ R : VK, (∀ v H', N v H' → R v H') → if c = true then ta σ H R else tb σ H R) : if c = true then ta σ H Q else tb σ H Q := b Q a
theorem ok_own_fill {f : Addr} {fd : FuncData} (F : L2.Fun K "_law_fill" "_law_fill" s_l_fill f fd) (g_len : mg "len" = none) (g_range : mg "range" = none) (g_tuple : mg "tuple" = none) : FnOk P w K mg base (L2.CX P w) 1 f fd ["_law_own"] spOwnFill := by
  refine Fun.okX F sc_l_fill (fun vs H Q E h => ?_) (fun cdv A outer s H vs Q E hr h => ?_)
  · obtain ⟨_, _, _, _, _, _, _, _, _, rfl, _⟩ := h
    rfl
  · obtain ⟨o, rs, ss, us, room, wait, many, rows, sure, rfl, hO, m1, m2, m3, r0, r1, w1, k⟩ := h
    obtain ⟨ho, hrs, ht, hs⟩ := id hO
    have ul := ht.len
    refine ⟨_, (pss_cons (ps_set (i := 1) sc_l_fill.nd rfl (Or.inl rfl) (pe_lst pa_nil))
      (pss_cons (ps_for (passes_of rfl) rfl (pi_range1 (by rfl) g_range (pa_cons (pe_dget (hu_of hr) (pv 0) pe_str (by intro _ _; rfl)) pa_nil)) (pg_name (i := 2) sc_l_fill.nd rfl (Or.inr rfl))
      (pss_cons (ps_setLc (i := 3) (own := [("_law_k", 4)]) (g := (gName 4)) rfl sc_l_fill.nd rfl rfl (sw_true rfl rfl rfl (by decide +kernel)) (pi_range1 (by rfl) g_range (pa_cons (pe_callB (Ak.cr_lenK (K := K) (by rfl)) (by rfl) g_len (by decide +kernel) (pa_cons (pe_dget (hu_of hr) (pv 0) pe_str (by intro _ _; rfl)) pa_nil)) pa_nil)) (blkOk_by (N := N_l_fill) (sc := defScope s_l_fill) (by decide +kernel)) (fun _ _ _ _ _ => by exact (pg_name (i := 4) sc_l_fill.nd rfl (Or.inl rfl))) (fun _ _ _ _ _ => by exact (pts_one (pt_cmpR (Ak.op_inK (K := K) (by rfl)) (pv 2) (pe_ix (Ak.ix_K (K := K) (by rfl)) (pe_dget (hu_of hr) (pv 0) pe_str (by intro _ _; rfl)) (pv 4) (by intro _ _; rfl)) (by rfl)))) (fun _ _ _ _ _ => by exact (pv 4)))
      (pss_cons (ps_set (i := 5) sc_l_fill.nd rfl (Or.inl rfl) (pe_ifExp (pt_cmpR (Ak.op_neK (K := K) (by rfl) hr.units) (pv 3) (pe_lst pa_nil) (nomark _)) (pe_op op_sub (pe_callB (Ak.cr_lenK (K := K) (by rfl)) (by rfl) g_len (by decide +kernel) (pa_cons (pe_dget (hu_of hr) (pv 0) pe_str (by intro _ _; rfl)) pa_nil)) (pe_ix (Ak.ix_K (K := K) (by rfl)) (pv 3) (pe_un un_neg pe_int) (by intro _ _; rfl))) pe_int))
      (pss_one (ps_if (PW.pt (pw_and (pt_cmpR (Ak.op_ninK (K := K) (by rfl)) (pv 2) (pe_dget (hu_of hr) (pv 0) pe_str (by intro _ _; rfl)) (by rfl)) (pw_and (pt_cmpR op_ge (pv 5) (pe_dget (hu_of hr) (pv 0) pe_str (by intro _ _; rfl)) (nomark _)) (pw_and1 (pt_cmpR op_lt (pe_callB (Ak.cr_lenK (K := K) (by rfl)) (by rfl) g_len (by decide +kernel) (pa_cons (pv 1) pa_nil)) (pe_dget (hu_of hr) (pv 0) pe_str (by intro _ _; rfl)) (nomark _))))))
      (pss_one (ps_expr (Ak.pe_bmK (K := K) (by rfl) PySem.F.plainAttrs_list PySem.F.slot_list_append PySem.F.type_list_append mt_append (pv 1) (pa_cons (pv 2) pa_nil))))
      pss_nil)))))
      (pss_cons (ps_dput (hu_of hr) (pv 0) pe_str (pe_op (Ak.op_plusK (K := K) (by rfl)) (pe_dget (hu_of hr) (pv 0) pe_str (by intro _ _; rfl)) (pe_lst (pa_cons (pe_callTy (Ak.cr_tupK (K := K) (by rfl)) (by rfl) g_tuple (by decide +kernel) (pa_cons (pv 1) pa_nil)) pa_nil))) rfl)
      (pss_one (ps_ret (pe_callTy (Ak.cr_tupK (K := K) (by rfl)) (by rfl) g_tuple (by decide +kernel) (pa_cons (pv 1) pa_nil))))))), ?_⟩
    have e0 : L2.start N_l_fill [V.ref o] = [some (V.ref o), none, none, none, none, none] := rfl
    rw [e0]
    try dsimp only [cxOf]
    walk_at "rd"
    rename_i f nf
    have fo : f ≠ o := Ne.symm (ne_of_none ho nf)
    refine Ak.l_forR1 (by omega) (by omega) (fun i σ' H' => ∃ v2 v3 v4 v5, σ' = [some (.ref o), some (.ref f), v2, v3, v4, v5] ∧ Keep [] H H' ∧ H' f = some (.lst ((((upTo i).filter fun p => !decide (p ∈ sure) && readyB rows wait rows.length p).take room.toNat).map V.int)))
      ⟨none, none, none, none, rfl, Keep.refl.new nf, by rw [upd_same, fill_take0]; rfl⟩ (fun i σ' H' hi pv => ?_) (fun σ' H' pv => ?_)
    · obtain ⟨v2, v3, v4, v5, rfl, hk, hf⟩ := pv
      have ho' := hk.1 _ _ nin_nil ho
      have hrs' := hk.1 _ _ nin_nil hrs
      have hs' := hk.1 _ _ nin_nil hs
      have ht' := ht.keepT hk (fun b hb => absurd hb List.not_mem_nil)
      walk_at "rd"
      rw [List.length_map, ul]
      refine Ak.l_lcR1 ⟨by omega, by omega⟩ (fun j => ((List.range j).filter fun k => decide ((i : Int) ∈ rows.getD k [])).map fun k : Nat => V.int (k : Nat)) rfl (fun D j H2 hD hj hk2 hdd => ?_) (fun D H2 hD hk2 hdd => ?_)
      · have hj' : j < rows.length := by omega
        obtain ⟨t, et, htt⟩ := ht'.at hj'
        have eix : atI (us.map V.ref) (j : Nat) = some (.ref t) := atI_nat (by rw [List.getElem?_map, et]; rfl)
        have ho2 := hk2.1 _ _ nin_nil ho'
        have hrs2 := hk2.1 _ _ nin_nil hrs'
        have htt2 := hk2.1 _ _ nin_nil htt
        walk_at "rd"
        refine w_inIT (SqT.of htt2) ?_
        walk_at "rd"
        refine Ak.w_ite (fun z => ?_) (fun z => ?_)
        · walk_at "rd"
          refine kIn_go hD hdd hk2 ?_ (rf_yes (decide_eq_true z))
          have e := rf_len (i := j) (p := fun k => decide ((i : Int) ∈ rows.getD k [])) (f := fun k : Nat => V.int (k : Nat))
          rw [sizeLine_eq]
          omega
        · exact kOut_go hdd hk2 (rf_no fun y => z (of_decide_eq_true y))
      · have hdd2 : H2 D = some (.lst (((inRows rows i).map fun k : Nat => ((k : Nat) : Int)).map V.int)) := by
          rw [hdd, List.map_map, show ((rows.length : Nat) : Int).toNat = rows.length by omega]
          rfl
        have k2 := hk.trans hk2
        have ho2 := hk2.1 _ _ nin_nil ho'
        have hrs2 := hk2.1 _ _ nin_nil hrs'
        have hs2 := hk2.1 _ _ nin_nil hs'
        have hf2 := hk2.1 _ _ nin_nil hf
        walk_at "rd"
        rename_i e ne
        refine w_neE (ns := (inRows rows i).map fun k : Nat => ((k : Nat) : Int)) (SqL.of (at_new ne hdd2)) (SqL.of upd_same) ?_
        have k3 : Keep [] H (upd H2 e (.lst [])) := k2.new ne
        have ho3 := at_new (o := _) (u := .lst []) ne ho2
        have hrs3 := at_new (u := .lst []) ne hrs2
        have hs3 := at_new (u := .lst []) ne hs2
        have hf3 := at_new (u := .lst []) ne hf2
        have hd3 := at_new (u := .lst []) ne hdd2
        generalize upd H2 e (.lst []) = H3 at k3 ho3 hrs3 hs3 hf3 hd3 ⊢
        walk_at "rd"
        refine cut_ifx (fun v H' => H' = H3 ∧ ∃ fv, v = .int fv ∧ decide (wait ≤ fv) = readyB rows wait rows.length i) (fun v H' pv => ?_) (fun R rest => ?_)
        · obtain ⟨rfl, fv, rfl, er⟩ := pv
          walk_at "rd"
          have no : (readyB rows wait rows.length i = true → (i : Int) ∉ sure → ((((upTo i).filter fun p => !decide (p ∈ sure) && readyB rows wait rows.length p).take room.toNat).length : Int) < room → False) → H' f = some (.lst ((((upTo (i + 1)).filter fun p => !decide (p ∈ sure) && readyB rows wait rows.length p).take room.toNat).map V.int)) := fun nn => by
            rw [hf3, fill_take (room := room) (wait := wait) (rows := rows) (sure := sure), if_neg]
            rintro ⟨z1, z2⟩
            rw [Bool.and_eq_true] at z1
            refine nn z1.2 (fun m => ?_) (by omega)
            rw [decide_eq_true m] at z1
            cases z1.1
          refine Ak.w_iteN (fun z1 => ?_) (fun z1 => ?_)
          · walk_at "rd"
            refine Ak.w_iteB (fun z2 => ?_) (fun z2 => ?_)
            · walk_at "rd"
              rw [List.length_map]
              refine Ak.w_ite (fun z3 => ?_) (fun z3 => ?_)
              · have sz : ((((upTo i).filter fun p => !decide (p ∈ sure) && readyB rows wait rows.length p).take room.toNat).map V.int).length < sizeLine := by rw [List.length_map, sizeLine_eq]; omega
                walk_at "rd"
                refine ⟨_, _, _, _, rfl, k3.own nf, ?_⟩
                rw [upd_same, fill_take (room := room) (wait := wait) (rows := rows) (sure := sure), if_pos ⟨by rw [decide_eq_false z1, ← er, z2]; rfl, by omega⟩, List.map_append]
                rfl
              · walk_at "rd"
                exact ⟨_, _, _, _, rfl, k3, no fun _ _ y => z3 y⟩
            · walk_at "rd"
              exact ⟨_, _, _, _, rfl, k3, no fun y _ _ => by rw [← er, z2] at y; cases y⟩
          · walk_at "rd"
            exact ⟨_, _, _, _, rfl, k3, no fun _ y _ => y z1⟩
        · refine Ak.w_iteN (fun z => ?_) (fun z => ?_)
          · have zl : inRows rows i ≠ [] := fun e => z (by rw [e]; rfl)
            have hll : 0 < (inRows rows i).length := List.length_pos_iff.mpr zl
            have el : lastIn rows i = some ((inRows rows i)[(inRows rows i).length - 1]'(by omega)) := by
              unfold lastIn
              rw [List.getLast?_eq_getElem?, List.getElem?_eq_getElem]
            have eix : atI (((inRows rows i).map fun k : Nat => ((k : Nat) : Int)).map V.int) (-1) = some (.int ((inRows rows i)[(inRows rows i).length - 1]'(by omega) : Nat)) := by
              refine atI_last ?_
              rw [List.length_map, List.length_map, List.getElem?_map, List.getElem?_map, List.getElem?_eq_getElem (by omega)]
              rfl
            walk_at "rd"
            refine rest _ _ ⟨rfl, _, rfl, ?_⟩
            unfold readyB
            rw [el, List.length_map, ul]
          · have zl : inRows rows i = [] := by
              cases e : inRows rows i with
              | nil => rfl
              | cons a b => rw [e] at z; cases z
            walk_at "rd"
            refine rest _ _ ⟨rfl, _, rfl, ?_⟩
            unfold readyB lastIn
            rw [zl]
            exact decide_eq_true (by omega)
    · obtain ⟨v2, v3, v4, v5, rfl, hk, hf⟩ := pv
      rw [show ((many : Nat) : Int).toNat = many by omega] at hf
      change H' f = some (.lst ((fillOf room wait many rows sure).map V.int)) at hf
      have ho' := hk.1 _ _ nin_nil ho
      have hrs' := hk.1 _ _ nin_nil hrs
      have hs' := hk.1 _ _ nin_nil hs
      have ht' := ht.keepT hk (fun b hb => absurd hb List.not_mem_nil)
      have szr : (us.map V.ref).length + 1 ≤ sizeLine := by rw [List.length_map, sizeLine_eq]; omega
      walk_at "rd"
      rename_i u nu e ne rs' nr t nt
      have kk : Keep [o] H (upd (upd (upd (upd (upd H' u (.tup ((fillOf room wait many rows sure).map V.int))) e (.lst [V.ref u])) rs' (.lst (us.map V.ref ++ [V.ref u]))) o (.dK (ownLF room wait many rs' ss))) t (.tup ((fillOf room wait many rows sure).map V.int))) := by walk_at "kp"
      have nuH : H u = none := hk.2 _ nu
      have nrH : H rs' = none := hk.2 _ (free_upd (free_upd nr))
      have hu1 : upd H' u (.tup ((fillOf room wait many rows sure).map V.int)) u = some (.tup ((fillOf room wait many rows sure).map V.int)) := upd_same
      have uo : u ≠ o := Ne.symm (ne_of_none ho' nu)
      have ro : rs' ≠ o := Ne.symm (ne_of_none ho' (free_upd (free_upd nr)))
      have so : ss ≠ o := ne_of hs' ho' (by intro z; cases z)
      have toU : t ≠ o := fun z => by rw [z, upd_same] at nt; cases nt
      have ntH : H t = none := by
        rw [upd_ne toU] at nt
        exact hk.2 _ (free_upd (free_upd (free_upd nt)))
      have hu3 := at_new (u := .lst (us.map V.ref ++ [V.ref u])) nr (at_new (u := .lst [V.ref u]) ne hu1)
      have hs3 := at_new (u := .lst (us.map V.ref ++ [V.ref u])) nr (at_new (u := .lst [V.ref u]) ne (at_new (u := .tup ((fillOf room wait many rows sure).map V.int)) nu hs'))
      refine k t u rs' _ ntH nuH nrH upd_same ⟨?_, ?_, ?_, ?_⟩ kk
      · exact (upd_ne (Ne.symm toU)).trans upd_same
      · rw [upd_ne (Ne.symm (by
          intro z
          rw [z, upd_ne ro, upd_same] at nt
          cases nt)), upd_ne ro, upd_same, List.map_append]
        rfl
      · exact (ht.keepT kk (fun b hb xs z => by rw [List.mem_singleton.mp hb, ho] at z; cases z)).add (at_new nt ((upd_ne uo).trans hu3))
      · exact at_new nt ((upd_ne so).trans hs3)
theorem freeOf_eq {rows : List (List Int)} {sure : List Int} {n : Int} (h0 : 0 ≤ n) (h1 : n < rows.length) : freeOf rows sure n = (rows.getD n.toNat []).filter fun p => !decide (p ∈ sure) := by unfold freeOf; rw [if_neg (by omega)]
theorem freeOf_no {rows : List (List Int)} {sure : List Int} {n : Int} (h : n < 0 ∨ (rows.length : Int) ≤ n) : freeOf rows sure n = [] := by unfold freeOf; rw [if_pos h]
theorem ok_own_came {f : Addr} {fd : FuncData} (F : L2.Fun K "_law_came" "_law_came" s_l_came f fd) (g_len : mg "len" = none) (g_sorted : mg "sorted" = none) : FnOk P w K mg base (L2.CX P w) 1 f fd ["_law_own", "_law_letters"] (spOwnCame K) := by
  refine Fun.okX F sc_l_came (fun vs H Q E h => ?_) (fun cdv A outer s H vs Q E hr h => ?_)
  · obtain ⟨_, _, _, _, _, _, _, _, _, _, _, rfl, _⟩ := h
    rfl
  · obtain ⟨o, rs, ss, us, room, wait, many, rows, sure, b, ks, rfl, hO, g, m3, m2, hb, bo, kl, k⟩ := h
    obtain ⟨ho, hrs, ht, hs⟩ := id hO
    have ul := ht.len
    refine ⟨_, (pss_cons (ps_set (i := 2) sc_l_came.nd rfl (Or.inr rfl) (pe_lst pa_nil))
      (pss_cons (ps_for (passes_of rfl) rfl (Ak.pi_listK (K := K) (by rfl) (pv 1)) (pg_name (i := 3) sc_l_came.nd rfl (Or.inl rfl))
      (pss_one (ps_if (pt_chain op_le op_lt pe_int (pv 3) (pe_callB (Ak.cr_lenK (K := K) (by rfl)) (by rfl) g_len (by decide +kernel) (pa_cons (pe_dget (hu_of hr) (pv 0) pe_str (by intro _ _; rfl)) pa_nil)))
      (pss_one (ps_set (i := 2) sc_l_came.nd rfl (Or.inr rfl) (pe_op (Ak.op_plusK (K := K) (by rfl)) (pv 2) (pe_lc (own := [("_law_piece", 4)]) (g := (gName 4)) rfl sc_l_came.nd (Ak.pi_tupK (K := K) (by rfl) (pe_ix (Ak.ix_K (K := K) (by rfl)) (pe_dget (hu_of hr) (pv 0) pe_str (by intro _ _; rfl)) (pv 3) (by intro _ _; rfl))) (blkOk_by (N := N_l_came) (sc := defScope s_l_came) (by decide +kernel)) (fun _ _ _ _ _ => by exact (pg_name (i := 4) sc_l_came.nd rfl (Or.inl rfl))) (fun _ _ _ _ _ => by exact (pts_one (pt_cmpR (Ak.op_ninK (K := K) (by rfl)) (pv 4) (pe_op (Ak.op_plusK (K := K) (by rfl)) (pe_dget (hu_of hr) (pv 0) pe_str (by intro _ _; rfl)) (pv 2)) (by rfl)))) (fun _ _ _ _ _ => by exact (pv 4))))))
      pss_nil)))
      (pss_cons (ps_dput (hu_of hr) (pv 0) pe_str (pe_op (Ak.op_plusK (K := K) (by rfl)) (pe_dget (hu_of hr) (pv 0) pe_str (by intro _ _; rfl)) (pv 2)) rfl)
      (pss_one (ps_ret (pe_callB (Ak.cr_sortK (K := K) (by rfl) rfl) (by rfl) g_sorted (by decide +kernel) (pa_cons (pv 2) pa_nil))))))), ?_⟩
    have e0 : L2.start N_l_came [V.ref o, V.ref b] = [some (V.ref o), some (V.ref b), none, none, none] := rfl
    rw [e0]
    try dsimp only [cxOf]
    walk_at "rd"
    rename_i f nf
    refine l_forList (Ak.SqL.upd hb nf) (fun i σ' H' => ∃ f v3 v4, σ' = [some (.ref o), some (.ref b), some (.ref f), v3, v4] ∧ Keep [] H H' ∧ H' f = some (.lst ((cameOf rows sure (ks.take i)).map V.int)) ∧ (cameOf rows sure (ks.take i)).length ≤ 8 * i ∧ H f = none)
      ⟨f, none, none, rfl, Keep.refl.new nf, upd_same, Nat.zero_le _, nf⟩ (fun i σ' H4 _ pv => by obtain ⟨_, _, _, _, pv, _⟩ := pv; exact pv.seqL nin_nil hb) (fun i x σ' H4 hx pv => ?_) (fun σ' H4 pv => ?_)
    · obtain ⟨f, v3, v4, rfl, k4, hf4, len4, nf4⟩ := pv
      obtain ⟨c, hc, rfl⟩ := map_at hx
      have ho4 := k4.1 _ _ nin_nil ho
      have hrs4 := k4.1 _ _ nin_nil hrs
      have hs4 := k4.1 _ _ nin_nil hs
      have ht4 := ht.keepT k4 (fun b hb => absurd hb List.not_mem_nil)
      have hi := (List.getElem?_eq_some_iff.mp hc).1
      have same : c < 0 ∨ (rows.length : Int) ≤ c → ∃ f' v3' v4', [some (V.ref o), some (V.ref b), some (V.ref f), some (V.int c), v4] = [some (.ref o), some (.ref b), some (.ref f'), v3', v4'] ∧ Keep [] H H4 ∧ H4 f' = some (.lst ((cameOf rows sure (ks.take (i + 1))).map V.int)) ∧ (cameOf rows sure (ks.take (i + 1))).length ≤ 8 * (i + 1) ∧ H f' = none := fun z => by
        rw [cameOf_take hc, freeOf_no z, List.append_nil]
        exact ⟨f, _, _, rfl, k4, hf4, by omega, nf4⟩
      walk_at "rd"
      refine Ak.w_ite (fun z => ?_) (fun z => ?_)
      · walk_at "rd"
        rw [List.length_map, ul]
        refine Ak.w_ite (fun z2 => ?_) (fun z2 => ?_)
        · obtain ⟨t, et, htt⟩ := ht4.at (k := c.toNat) (by omega)
          have eix : atI (us.map V.ref) c = some (.ref t) := by
            rw [show c = ((c.toNat : Nat) : Int) by omega]
            refine atI_nat ?_
            rw [List.getElem?_map, et]
            rfl
          have rl : (rows.getD c.toNat []).length ≤ 8 := by
            rw [List.getD_eq_getElem?_getD, List.getElem?_eq_getElem (by omega)]
            exact g.n _ (List.getElem_mem _)
          have ef := freeOf_eq (sure := sure ++ cameOf rows sure (ks.take i)) z z2
          generalize rows.getD c.toNat [] = row at htt rl ef
          walk_at "rd"
          refine Ak.l_lcT (xs := row.map V.int) (SqT.of htt) (fun j => ((row.take j).filter fun p => !decide (p ∈ sure ++ cameOf rows sure (ks.take i))).map V.int) rfl (fun D j x H' hD hx hk hdd => ?_) (fun D H' hD hk hdd => ?_)
          · obtain ⟨y, hy, rfl⟩ := map_at hx
            have ho5 := hk.1 _ _ nin_nil ho4
            have hs5 := hk.1 _ _ nin_nil hs4
            have hf5 := hk.1 _ _ nin_nil hf4
            have sz : (sure.map V.int).length + ((cameOf rows sure (ks.take i)).map V.int).length ≤ sizeLine := by rw [List.length_map, List.length_map, sizeLine_eq]; omega
            walk_at "rd"
            rename_i q nq
            refine w_ninI (ns := sure ++ cameOf rows sure (ks.take i)) (by rw [List.map_append]; exact upd_same) ?_
            walk_at "rd"
            have hdq := at_new (u := .lst (sure.map V.int ++ (cameOf rows sure (ks.take i)).map V.int)) nq hdd
            refine Ak.w_iteN (fun z => ?_) (fun z => ?_)
            · walk_at "rd"
              refine kIn_go hD hdq (hk.new nq) ?_ (filt_yes hy (by rw [decide_eq_false z]; rfl))
              have e := filt_len (l := row) (i := j) (p := fun p => !decide (p ∈ sure ++ cameOf rows sure (ks.take i))) (f := V.int)
              rw [sizeLine_eq]
              omega
            · refine kOut_go hdq (hk.new nq) (filt_no hy ?_)
              rw [decide_eq_true z]
              exact Bool.false_ne_true
          · rw [List.length_map, List.take_length, ← ef] at hdd
            have hf5 := hk.1 _ _ nin_nil hf4
            have len5 := freeOf_len (k := c) (sure := sure ++ cameOf rows sure (ks.take i)) g
            have sz : ((cameOf rows sure (ks.take i)).map V.int).length + ((freeOf rows (sure ++ cameOf rows sure (ks.take i)) c).map V.int).length ≤ sizeLine := by rw [List.length_map, List.length_map, sizeLine_eq]; omega
            walk_at "rd"
            rename_i q nq
            refine ⟨q, _, _, rfl, (k4.trans hk).new nq, ?_, ?_, k4.2 _ (hk.2 _ nq)⟩
            · rw [upd_same, cameOf_take hc, List.map_append]
            · rw [cameOf_take hc, List.length_append]
              omega
        · walk_at "rd"
          exact same (Or.inr (by omega))
      · walk_at "rd"
        exact same (Or.inl (by omega))
    · obtain ⟨f, v3, v4, rfl, k4, hf4, len4, nf4⟩ := pv
      rw [List.length_map, List.take_length] at hf4 len4
      have ho4 := k4.1 _ _ nin_nil ho
      have hs4 := k4.1 _ _ nin_nil hs
      have hrs4 := k4.1 _ _ nin_nil hrs
      have fo : f ≠ o := ne_of hf4 ho4 (by intro z; cases z)
      have sz : (sure.map V.int).length + ((cameOf rows sure ks).map V.int).length ≤ sizeLine := by rw [List.length_map, List.length_map, sizeLine_eq]; omega
      walk_at "rd"
      rename_i ss' ns r nr
      have s'o : ss' ≠ o := Ne.symm (ne_of_none ho4 ns)
      have ro : r ≠ o := fun z => by rw [z, upd_same] at nr; cases nr
      have nrH : H r = none := by
        rw [upd_ne ro] at nr
        exact k4.2 _ (free_upd nr)
      have kk : Keep [o] H (upd (upd (upd H4 ss' (.lst (sure.map V.int ++ (cameOf rows sure ks).map V.int))) o (.dK (ownLF room wait many rs ss'))) r (.lst ((srt (cameOf rows sure ks)).map V.int))) := by walk_at "kp"
      refine k r ss' _ nrH (k4.2 _ ns) upd_same ⟨?_, kk.1 _ _ (nin_cons (ne_of hrs ho (by intro z; cases z)) nin_nil) hrs, ht.keepT kk (fun b hb xs z => by rw [List.mem_singleton.mp hb, ho] at z; cases z), ?_⟩ kk
      · exact (upd_ne (Ne.symm ro)).trans upd_same
      · refine at_new nr ((upd_ne s'o).trans ?_)
        rw [List.map_append]
        exact upd_same
end
end Ak

namespace Ak
open PySem PySem.Spec PyProof.Rows L2
/-! ### a load and the law's own beside -/
structure LE where
  t : Addr
  p : Addr
  ls : Addr
  la : Addr
  o : Addr
structure LData (C : Addr) (H : Hp) (e : LE) (n : Nat) (rs ss : Addr) (ts us : List Addr) (room wait : Int) (many : Nat) (rows : List (List Int)) (sure : List Int) : Prop where
  t : H e.t = some (.tup [.ref e.p, .ref e.o])
  l : LoadAt C H e.p e.ls e.la ts room wait many rows sure
  o : OwnL H e.o rs ss us room wait many rows sure
  r0 : 1 ≤ room
  r1 : room ≤ 8
  w0 : 1 ≤ wait
  w1 : wait ≤ 20
  m : many ≤ n
  r : rows.length ≤ n
  s : sure.length ≤ 24 * n
  a1 : e.o ≠ e.la
  a2 : rs ≠ e.ls
  a3 : ss ≠ e.ls
abbrev fpL (e : LE) (rs ss : Addr) (ts us : List Addr) : List Addr := e.t :: e.p :: e.ls :: e.la :: e.o :: rs :: ss :: (ts ++ us)
def LoadOk (C : Addr) (H : Hp) (e : LE) (n : Nat) (fp : List Addr) : Prop := ∃ rs ss ts us room wait many rows sure, fp = fpL e rs ss ts us ∧ LData C H e n rs ss ts us room wait many rows sure
theorem LData.keepX {C : Addr} {H H' : Hp} {e : LE} {n : Nat} {rs ss : Addr} {ts us : List Addr} {room wait : Int} {many : Nat} {rows : List (List Int)} {sure : List Int} {S : List Addr} (x : LData C H e n rs ss ts us room wait many rows sure) (k : KeepX S H H') (nn : ∀ a, a ∈ fpL e rs ss ts us → a ∉ S) : LData C H' e n rs ss ts us room wait many rows sure := by
  obtain ⟨ht, hl, ho, r0, r1, w0, w1, m, r, s, a1, a2, a3⟩ := x
  refine ⟨k _ _ (nn _ List.mem_cons_self) ht (fun _ z => by cases z), hl.keepX k fun a ha => nn a ?_, ho.keepX k fun a ha => nn a ?_, r0, r1, w0, w1, m, r, s, a1, a2, a3⟩
  · simp only [List.mem_cons, List.mem_append] at ha ⊢
    rcases ha with h | h | h | h <;> simp [h]
  · simp only [List.mem_cons, List.mem_append] at ha ⊢
    rcases ha with h | h | h | h <;> simp [h]
section
variable {C : Addr} {H : Hp} {e : LE} {n : Nat} {rs ss : Addr} {ts us : List Addr} {room wait : Int} {many : Nat} {rows : List (List Int)} {sure : List Int}
theorem LData.ownOut (x : LData C H e n rs ss ts us room wait many rows sure) : ∀ a, a ∈ e.o :: rs :: ss :: us → a ≠ e.p ∧ a ≠ e.ls ∧ a ≠ e.la := fun a ha => by
  obtain ⟨⟨dx, hp⟩, hl, ht, hd, _⟩ := x.l
  obtain ⟨ho, hr, hu, hs⟩ := x.o
  simp only [List.mem_cons] at ha
  rcases ha with h | h | h | h
  · rw [h]; exact ⟨ne_of ho hp (by intro z; cases z), ne_of ho hl (by intro z; cases z), x.a1⟩
  · rw [h]; exact ⟨ne_of hr hp (by intro z; cases z), x.a2, ne_of hr hd (by intro z; cases z)⟩
  · rw [h]; exact ⟨ne_of hs hp (by intro z; cases z), x.a3, ne_of hs hd (by intro z; cases z)⟩
  · obtain ⟨xs, e⟩ := hu.live a h
    exact ⟨ne_of e hp (by intro z; cases z), ne_of e hl (by intro z; cases z), ne_of e hd (by intro z; cases z)⟩
theorem LData.loadOut (x : LData C H e n rs ss ts us room wait many rows sure) : ∀ a, a ∈ e.p :: e.ls :: e.la :: ts → a ≠ e.o := fun a ha => by
  obtain ⟨⟨dx, hp⟩, hl, ht, hd, _⟩ := x.l
  have ho := x.o.o
  simp only [List.mem_cons] at ha
  rcases ha with h | h | h | h
  · rw [h]; exact ne_of hp ho (by intro z; cases z)
  · rw [h]; exact ne_of hl ho (by intro z; cases z)
  · rw [h]; exact Ne.symm x.a1
  · obtain ⟨xs, e⟩ := ht.live a h
    exact ne_of e ho (by intro z; cases z)
theorem cameOf_len {sure' ks : List Int} (g : Good many rows sure) : ∀ i, i ≤ ks.length → (cameOf rows sure' (ks.take i)).length ≤ 8 * i
  | 0, _ => by rw [show cameOf rows sure' (ks.take 0) = [] from rfl]; exact Nat.zero_le _
  | i + 1, h => by
    have ih := cameOf_len (ks := ks) (sure' := sure') g i (by omega)
    have hi : i < ks.length := by omega
    rw [cameOf_take (k := ks[i]) (List.getElem?_eq_getElem hi), List.length_append]
    have := freeOf_len (k := ks[i]) (sure := sure' ++ cameOf rows sure' (ks.take i)) g
    omega
end
def loadG (C : Addr) : SdF where
  E := LE
  tt := fun e => e.t
  ok := LoadOk C
  keep := fun {H H' S e n fp} x k nn => by
    obtain ⟨rs, ss, ts, us, room, wait, many, rows, sure, rfl, x⟩ := x
    exact ⟨rs, ss, ts, us, room, wait, many, rows, sure, rfl, x.keepX k nn⟩
  mono := fun {H e n n' fp} x h => by
    obtain ⟨rs, ss, ts, us, room, wait, many, rows, sure, rfl, x⟩ := x
    exact ⟨rs, ss, ts, us, room, wait, many, rows, sure, rfl, x.t, x.l, x.o, x.r0, x.r1, x.w0, x.w1, by have := x.m; omega, by have := x.r; omega, by have := x.s; omega, x.a1, x.a2, x.a3⟩
  live := fun {H e n fp} x b hb => by
    obtain ⟨rs, ss, ts, us, room, wait, many, rows, sure, rfl, x⟩ := x
    obtain ⟨⟨dx, hp⟩, hl, ht, hd, _⟩ := x.l
    obtain ⟨ho, hr, hu, hs⟩ := x.o
    have pt : ∀ {a xs}, H a = some (.tup xs) → Plain H a := fun h => ⟨_, h, fun _ z => (by cases z), fun _ z => (by cases z)⟩
    simp only [List.mem_cons, List.mem_append] at hb
    rcases hb with h | h | h | h | h | h | h | h | h
    · rw [h]; exact pt x.t
    · rw [h]; exact Plain.solid hp Solid.ins
    · rw [h]; exact Plain.lst hl
    · rw [h]; exact Plain.solid hd Solid.dK
    · rw [h]; exact Plain.solid ho Solid.dK
    · rw [h]; exact Plain.lst hr
    · rw [h]; exact Plain.lst hs
    · obtain ⟨xs, e⟩ := ht.live b h
      exact pt e
    · obtain ⟨xs, e⟩ := hu.live b h
      exact pt e
abbrev mkLE (C t p ls la o : Addr) : (loadG C).E := LE.mk t p ls la o
def spLaw (K : PySem.W.Frag) : Sp := fun vs H Q _ => ∃ (a : Addr) (ns : List Int), vs = [.ref a] ∧ SqL K H a (ns.map V.int) ∧ ns.length ≤ 63 ∧ ∀ H', Q (.bl true) H'
section
variable {P : Program} {w : World} {K : PySem.W.Frag} {mg : Str → Option Value} {base : Heap} {C : Addr}
theorem ok_law {f : Addr} {fd : FuncData} (F : L2.Fun K "law" "law" s_law f fd) (g_range : mg "range" = none) (g_len : mg "len" = none) (g_list : mg "list" = none) (g_isinstance : mg "isinstance" = none)
    (c_l_dice : CalX P w K mg base 1 "_law_dice" (spDice K)) (c_l_next : CalX P w K mg base 1 "_law_next" (spNext K)) (c_l_like : CalX P w K mg base 3 "_law_like" (spLike K 2))
    (k_Load : MakX P w K mg base 2 "Load" C (spLoadInit C)) (m_Load_put : MetX P w K mg base 1 C "put" (spPut C)) (m_Load_fill : MetX P w K mg base 2 C "fill" (spFill C)) (m_Load_came : MetX P w K mg base 2 C "came" (spCame K C)) (m_Load_waits : MetX P w K mg base 1 C "waits" (spWaits C))
    (c_l_fill : CalX P w K mg base 1 "_law_fill" spOwnFill) (c_l_came : CalX P w K mg base 1 "_law_came" (spOwnCame K)) :
    FnOk P w K mg base (L2.CX P w) 5 f fd ["_law_script"] (spLaw K) := by
  refine Fun.okX F sc_law (fun vs H Q E h => ?_) (fun cdv A outer s H vs Q E hr h => ?_)
  · obtain ⟨_, _, rfl, _⟩ := h
    rfl
  · obtain ⟨a, ns, rfl, hS, hl, k⟩ := h
    refine ⟨_, (pss_cons (ps_set (i := 1) sc_law.nd rfl (Or.inr rfl) (Ak.pe_cx c_l_dice hr (by walk_at "lv") (by rfl) (takes_of rfl rfl rfl rfl) (pa_cons (pv 0) pa_nil)))
      (pss_cons (ps_set (i := 2) sc_law.nd rfl (Or.inl rfl) (pe_lst pa_nil))
      (pss_cons (ps_for (passes_of rfl) rfl (pi_range1 (by rfl) g_range (pa_cons pe_int pa_nil)) (pg_name (i := 3) sc_law.nd rfl (Or.inl rfl))
      (pss_cons (ps_par rfl sc_law.nd (i := 4) (j := 5) rfl rfl (by decide) rfl rfl (pa_cons (pe_op (Ak.op_plusK (K := K) (by rfl)) pe_int (Ak.pe_cx c_l_next hr (by walk_at "lv") (by rfl) (takes_of rfl rfl rfl rfl) (pa_cons (pv 1) (pa_cons pe_int pa_nil)))) (pa_cons (pe_op (Ak.op_plusK (K := K) (by rfl)) pe_int (pe_ix (Ak.ix_K (K := K) (by rfl)) (pe_lst (pa_cons (Ak.pe_cx c_l_next hr (by walk_at "lv") (by rfl) (takes_of rfl rfl rfl rfl) (pa_cons (pv 1) (pa_cons pe_int pa_nil))) (pa_cons (Ak.pe_cx c_l_next hr (by walk_at "lv") (by rfl) (takes_of rfl rfl rfl rfl) (pa_cons (pv 1) (pa_cons pe_int pa_nil))) pa_nil))) (Ak.pe_cx c_l_next hr (by walk_at "lv") (by rfl) (takes_of rfl rfl rfl rfl) (pa_cons (pv 1) (pa_cons pe_int pa_nil))) (by intro _ _; rfl))) pa_nil)) (by rfl))
      (pss_one (ps_expr (Ak.pe_bmK (K := K) (by rfl) PySem.F.plainAttrs_list PySem.F.slot_list_append PySem.F.type_list_append mt_append (pv 2) (pa_cons (pe_tup (pa_cons (Ak.pe_kx k_Load hr (by walk_at "lv") (by rfl) (takes_of rfl rfl rfl rfl) (pa_cons (pv 4) (pa_cons (pv 5) pa_nil))) (pa_cons (pe_disp (pps_cons pe_str (pv 4) (pps_cons pe_str (pv 5) (pps_cons pe_str pe_int (pps_cons pe_str (pe_lst pa_nil) (pps_cons pe_str (pe_lst pa_nil) pps_nil))))) (by rfl) (by rfl) (fun z => by cases z) (by decide)) pa_nil))) pa_nil))))))
      (pss_cons (ps_for (passes_of rfl) rfl (pi_range1 (by rfl) g_range (pa_cons (Ak.pe_cx c_l_next hr (by walk_at "lv") (by rfl) (takes_of rfl rfl rfl rfl) (pa_cons (pv 1) (pa_cons pe_int pa_nil))) pa_nil)) (pg_name (i := 6) sc_law.nd rfl (Or.inl rfl))
      (pss_cons (ps_asg (pe_ix (Ak.ix_K (K := K) (by rfl)) (pv 2) (Ak.pe_cx c_l_next hr (by walk_at "lv") (by rfl) (takes_of rfl rfl rfl rfl) (pa_cons (pv 1) (pa_cons pe_int pa_nil))) (by intro _ _; rfl)) (Ak.pg_tupK (K := K) (n := 2) (by rfl) rfl (pgs_cons (pg_name (i := 7) sc_law.nd rfl (Or.inl rfl)) (pgs_cons (pg_name (i := 8) sc_law.nd rfl (Or.inr rfl)) pgs_nil))))
      (pss_cons (ps_set (i := 9) sc_law.nd rfl (Or.inl rfl) (Ak.pe_cx c_l_next hr (by walk_at "lv") (by rfl) (takes_of rfl rfl rfl rfl) (pa_cons (pv 1) (pa_cons pe_int pa_nil))))
      (pss_cons (ps_if (pt_cmpR op_lt (pv 9) pe_int (nomark _))
      (pss_cons (ps_dput (hu_of hr) (pv 8) pe_str (pe_op (Ak.op_plusK (K := K) (by rfl)) (pe_dget (hu_of hr) (pv 8) pe_str (by intro _ _; rfl)) pe_int) rfl)
      (pss_one (ps_par rfl sc_law.nd (i := 10) (j := 11) rfl rfl (by decide) rfl rfl (pa_cons (Ak.pe_mx0 (pv 7) m_Load_put hr (by walk_at "lv") (takes_of rfl rfl rfl rfl)) (pa_cons (pe_op op_sub (pe_dget (hu_of hr) (pv 8) pe_str (by intro _ _; rfl)) pe_int) pa_nil)) (by rfl))))
      (pss_one (ps_if (pt_cmpR op_lt (pv 9) pe_int (nomark _))
      (pss_one (ps_par rfl sc_law.nd (i := 10) (j := 11) rfl rfl (by decide) rfl rfl (pa_cons (Ak.pe_mx0 (pv 7) m_Load_fill hr (by walk_at "lv") (takes_of rfl rfl rfl rfl)) (pa_cons (Ak.pe_cx c_l_fill hr (by walk_at "lv") (by rfl) (takes_of rfl rfl rfl rfl) (pa_cons (pv 8) pa_nil)) pa_nil)) (by rfl)))
      (pss_cons (ps_setLc (i := 12) (own := [("_law_k", 3)]) (g := (gName 3)) (tt := tYes) rfl sc_law.nd rfl rfl (sw_true rfl rfl rfl (by decide +kernel)) (pi_range1 (by rfl) g_range (pa_cons (Ak.pe_cx c_l_next hr (by walk_at "lv") (by rfl) (takes_of rfl rfl rfl rfl) (pa_cons (pv 1) (pa_cons pe_int pa_nil))) pa_nil)) (blkOk_by (N := N_law) (sc := defScope s_law) (by decide +kernel)) (fun _ _ _ _ _ => by exact (pg_name (i := 3) sc_law.nd rfl (Or.inl rfl))) (fun _ _ _ _ _ => by exact pts_nil) (fun _ _ _ _ _ => by exact (pe_op op_sub (Ak.pe_cx c_l_next hr (by walk_at "lv") (by rfl) L2.takes0 (pa_cons (pv 1) (pa_cons (pe_op (Ak.op_plusK (K := K) (by rfl)) (pe_callB (Ak.cr_lenK (K := K) (by rfl)) (by rfl) g_len (by decide +kernel) (pa_cons (pe_dget (hu_of hr) (pv 8) pe_str (by intro _ _; rfl)) pa_nil)) pe_int) pa_nil))) pe_int)))
      (pss_cons (ps_set (i := 13) sc_law.nd rfl (Or.inl rfl) (pe_callTy (Ak.cr_lisK (K := K) (by rfl)) (by rfl) g_list (by decide +kernel) (pa_cons (pv 12) pa_nil)))
      (pss_cons (ps_par rfl sc_law.nd (i := 10) (j := 11) rfl rfl (by decide) rfl rfl (pa_cons (Ak.pe_mx (pv 7) m_Load_came hr (by walk_at "lv") (takes_of rfl rfl rfl rfl) (pa_cons (pv 13) pa_nil)) (pa_cons (Ak.pe_cx c_l_came hr (by walk_at "lv") (by rfl) (takes_of rfl rfl rfl rfl) (pa_cons (pv 8) (pa_cons (pv 12) pa_nil))) pa_nil)) (by rfl))
      (pss_one (ps_if (pt_cmpR (Ak.op_neK (K := K) (by rfl) hr.units) (pv 13) (pv 12) (nomark _))
      (pss_one (ps_ret pe_bl))
      pss_nil))))))))
      (pss_cons (ps_if (pt_not (Ak.pt_truK (K := K) (by rfl) (Ak.pe_cx c_l_like hr (by walk_at "lv") (by rfl) (takes_of rfl rfl rfl rfl) (pa_cons (pv 10) (pa_cons (pv 11) pa_nil)))))
      (pss_one (ps_ret pe_bl))
      pss_nil)
      (pss_cons (ps_if (Ak.pt_truK (K := K) (by rfl) (pe_callB (Ak.cr_isiK (K := K) (by rfl)) (by rfl) g_isinstance (by decide +kernel) (pa_cons (pv 10) (pa_cons (Ak.pe_ty (T := "list") (by rfl) g_list (by decide +kernel)) pa_nil))))
      (pss_one (ps_expr (Ak.pe_bmK (K := K) (by rfl) PySem.F.plainAttrs_list PySem.F.slot_list_append PySem.F.type_list_append mt_append (pv 10) (pa_cons pe_int pa_nil))))
      pss_nil)
      (pss_one (ps_for (passes_of rfl) rfl (Ak.pi_listK (K := K) (by rfl) (pv 2)) (Ak.pg_tupK (K := K) (n := 2) (by rfl) rfl (pgs_cons (pg_name (i := 14) sc_law.nd rfl (Or.inl rfl)) (pgs_cons (pg_name (i := 15) sc_law.nd rfl (Or.inr rfl)) pgs_nil)))
      (pss_cons (ps_set (i := 16) sc_law.nd rfl (Or.inl rfl) (Ak.pe_mx0 (pv 14) m_Load_waits hr (by walk_at "lv") (takes_of rfl rfl rfl rfl)))
      (pss_cons (ps_if (pt_not (Ak.pt_truK (K := K) (by rfl) (Ak.pe_cx c_l_like hr (by walk_at "lv") (by rfl) (takes_of rfl rfl rfl rfl) (pa_cons (pv 16) (pa_cons (pe_lc (own := [("_law_piece", 17)]) (g := (gName 17)) rfl sc_law.nd (pi_range1 (by rfl) g_range (pa_cons (pe_dget (hu_of hr) (pv 15) pe_str (by intro _ _; rfl)) pa_nil)) (blkOk_by (N := N_law) (sc := defScope s_law) (by decide +kernel)) (fun _ _ _ _ _ => by exact (pg_name (i := 17) sc_law.nd rfl (Or.inl rfl))) (fun _ _ _ _ _ => by exact (pts_one (pt_cmpR (Ak.op_ninK (K := K) (by rfl)) (pv 17) (pe_dget (hu_of hr) (pv 15) pe_str (by intro _ _; rfl)) (by rfl)))) (fun _ _ _ _ _ => by exact (pv 17))) pa_nil)))))
      (pss_one (ps_ret pe_bl))
      pss_nil)
      (pss_one (ps_expr (Ak.pe_bmK (K := K) (by rfl) PySem.F.plainAttrs_list PySem.F.slot_list_append PySem.F.type_list_append mt_append (pv 16) (pa_cons pe_int pa_nil))))))))))))))
      (pss_one (ps_ret pe_bl)))))), ?_⟩
    have e0 : L2.start N_law [V.ref a] = [some (V.ref a), none, none, none, none, none, none, none, none, none, none, none, none, none, none, none, none, none] := rfl
    rw [e0]
    try dsimp only [cxOf]
    walk_at "rd"
    refine ⟨a, ns, rfl, hS, hl, fun d H1 hd dc k1 => ?_⟩
    obtain ⟨xs0, hd0⟩ := dc.lst
    walk_at "rd"
    rename_i sd nsd
    have nsd2 : sd ≠ d := Ne.symm (ne_of_none hd0 nsd)
    have x0 : WdF (loadG C) K [] H (upd H1 sd (.lst [])) d sd [] 0 := WdF.nil (dc.keep (S := []) (by walk_at "kp") nin_nil none_nil) (fun x hx => absurd hx List.not_mem_nil) upd_same (Fr.of dc.ext nsd) nsd2
    refine Ak.l_forR1 (by decide) (by decide) (fun i σ' H' => ∃ v3 v4 v5 L, σ' = [some (.ref a), some (.ref d), some (.ref sd), v3, v4, v5, none, none, none, none, none, none, none, none, none, none, none, none] ∧ L.length = i ∧ WdF (loadG C) K [] H H' d sd L 0)
      ⟨none, none, none, [], rfl, rfl, x0⟩ (fun i σ' H' hi pv => ?_) (fun σ' H' pv => ?_)
    · obtain ⟨v3, v4, v5, L, rfl, hL, x⟩ := pv
      have dcx := x.dice
      obtain ⟨xs1, hd1⟩ := dcx.lst
      walk_at "rd"
      rename_i n1 Ha xa a0 a1 dca hda ka n2 Hb xb b0 b1 dcb hdb kb n3 Hc xc c0 c1 dcc hdc kc lp nlp n4 Hd xd e0' e1 dcd hdd kd
      refine Ak.pickP (fun v => 0 ≤ v ∧ v < 20) (by walk_at "sq") (by omega) (by show _ < (2 : Int); omega) (by walk_at "pk") (fun far hfar => ?_)
      have x2 := x.next (H' := Hd) (by walk_at "kp") dcd
      have hs2 := x2.lst
      walk_at "rd"
      intro p dx np ndx nxp
      refine ⟨p, _, _, dx, rfl, by omega, by omega, by omega, by omega, upd_same, fun ls la H3 nls nla lla L3 k3 => ⟨rfl, ?_⟩⟩
      have k3' : Keep [] Hd H3 := Keep.fresh k3 (fun b hb => by rw [List.mem_singleton.mp hb]; exact np) ((Keep.refl.own ndx).own np)
      have nls' : Hd ls = none := free_upd (free_upd nls)
      have nla' : Hd la = none := free_upd (free_upd nla)
      walk_at "rd"
      rename_i o no rs nrs ss nss
      have ro : rs ≠ o := fun z => by rw [z, upd_same] at nrs; cases nrs
      have so : ss ≠ o := fun z => by
        rw [z] at nss
        exact absurd (free_upd nss) (by rw [upd_same]; intro z; cases z)
      have sr : ss ≠ rs := fun z => by rw [z, upd_same] at nss; cases nss
      refine Ak.l_disp [(Sum.inr "room", .int (1 + n1)), (Sum.inr "wait", .int (1 + far)), (Sum.inr "many", .int 0), (Sum.inr "rows", .ref rs), (Sum.inr "sure", .ref ss)] (by rw [upd_ne (Ne.symm so), upd_ne (Ne.symm ro), upd_same]) (Nat.le_of_ble_eq_true rfl) (merge_ok _ (by walk_at "nd")) ?_
      have lao : la ≠ o := ne_of_none L3.d no
      have rls : rs ≠ ls := Ne.symm (ne_of_none L3.l (free_upd nrs))
      have sls : ss ≠ ls := Ne.symm (ne_of_none L3.l (free_upd (free_upd nss)))
      have k5 : Keep [] Hd (upd (upd (upd (upd H3 o (.dK [])) rs (.lst [])) ss (.lst [])) o (.dK (ownLF (1 + n1) (1 + far) 0 rs ss))) := ((((k3'.new no).new nrs).new nss)).own (k3'.2 _ no)
      have O5 : OwnL (upd (upd (upd (upd H3 o (.dK [])) rs (.lst [])) ss (.lst [])) o (.dK (ownLF (1 + n1) (1 + far) 0 rs ss))) o rs ss [] (1 + n1) (1 + far) 0 [] [] :=
        ⟨upd_same, by rw [upd_ne ro, upd_ne (Ne.symm sr), upd_same]; rfl, .nil, by rw [upd_ne so, upd_same]; rfl⟩
      have L5 : LoadAt C (upd (upd (upd (upd H3 o (.dK [])) rs (.lst [])) ss (.lst [])) o (.dK (ownLF (1 + n1) (1 + far) 0 rs ss))) p ls la [] (1 + n1) (1 + far) 0 [] [] :=
        L3.keep ((((Keep.refl.new no).new nrs).new nss).own no)
      have hs5 := k5.1 _ _ nin_nil hs2
      have no' := k3'.2 _ no
      have nrs' := k3'.2 _ (free_upd nrs)
      have nss' := k3'.2 _ (free_upd (free_upd nss))
      generalize upd (upd (upd (upd H3 o (.dK [])) rs (.lst [])) ss (.lst [])) o (.dK (ownLF (1 + n1) (1 + far) 0 rs ss)) = H5 at k5 O5 L5 hs5 ⊢
      have sz : (L.map fun e => V.ref ((loadG C).tt e.1)).length < sizeLine := by rw [List.length_map, sizeLine_eq]; omega
      walk_at "rd"
      rename_i t nt
      have k6 : Keep [] Hd (upd H5 t (.tup [.ref p, .ref o])) := k5.new nt
      have dd : ∀ q, Hd q = none → q ≠ sd := fun q nq => Ne.symm (ne_of_none hs2 nq)
      have nt' := k5.2 _ nt
      have fpN : ∀ q, q ∈ fpL (mkLE C t p ls la o) rs ss [] [] → Hd q = none := fun q hq => by
        simp only [List.mem_cons, List.mem_append, List.not_mem_nil, or_false] at hq
        rcases hq with h | h | h | h | h | h | h <;> rw [h] <;> assumption
      refine ⟨_, _, _, L ++ [(mkLE C t p ls la o, fpL (mkLE C t p ls la o) rs ss [] [])], rfl, by rw [List.length_append, hL]; rfl, x2.add (e := mkLE C t p ls la o) k6 fpN ⟨rs, ss, [], [], 1 + n1, 1 + far, 0, [], [], rfl, ?_⟩⟩
      refine LData.keepX (H := upd H5 t (.tup [.ref p, .ref o])) (S := [sd]) ⟨upd_same, L5.keep (Keep.refl.new nt), O5.keep (Keep.refl.new nt), by omega, by omega, by omega, by omega, Nat.le_refl _, Nat.le_refl _, Nat.zero_le _, Ne.symm lao, rls, sls⟩ (Keep.refl.set List.mem_cons_self).x fun q hq => nin_cons (dd q (fpN q hq)) nin_nil
    · obtain ⟨v3, v4, v5, L, rfl, hL, x⟩ := pv
      have dcx := x.dice
      obtain ⟨xs1, hd1⟩ := dcx.lst
      walk_at "rd"
      rename_i turns H3 xs3 t0 t1 dc3 hd3 k3
      have x3 := x.next k3 dc3
      refine Ak.l_forR1 (by omega) (by omega) (fun i σ' H' => ∃ v3 v4 v5 v6 v7 v8 v9 v10 v11 v12 v13 v14 v15 v16 v17 L, σ' = [some (.ref a), some (.ref d), some (.ref sd), v3, v4, v5, v6, v7, v8, v9, v10, v11, v12, v13, v14, v15, v16, v17] ∧ L.length = 2 ∧ WdF (loadG C) K [] H H' d sd L i)
        ⟨_, _, _, _, _, _, _, _, _, _, _, _, _, _, _, L, rfl, hL, x3⟩ (fun i σ' H' hi pv => ?_) (fun σ' H' pv => ?_)
      · obtain ⟨v3, v4, v5, v6, v7, v8, v9, v10, v11, v12, v13, v14, v15, v16, v17, L, rfl, hL, x⟩ := pv
        have dcx := x.dice
        obtain ⟨xs1, hd1⟩ := dcx.lst
        walk_at "rd"
        rename_i r H4 xs4 r0 r1 dc4 hd4 k4
        have x4 := x.next k4 dc4
        obtain ⟨e, fp, La, Lb, eL, hat⟩ := pickF (L := L) r0 (by rw [hL]; exact r1)
        refine w_ixL (SqL.of x4.lst) hat ?_
        subst eL
        obtain ⟨rs, ss, ts, us, room, wait, many, rows, sure, efp, D4⟩ := x4.side (e, fp) (List.mem_append.mpr (Or.inr List.mem_cons_self))
        change fp = fpL e rs ss ts us at efp
        change LData C H4 e i rs ss ts us room wait many rows sure at D4
        have ht : H4 e.t = some (.tup [.ref e.p, .ref e.o]) := D4.t
        change gTup _ _ _ (.ref e.t) _ _ _
        walk_at "rd"
        rename_i way H5 xs5 b0 b1 dc5 hd5 k5
        have x5 := x4.next k5 dc5
        have ndf : d ∉ fp := (x4.sep _ (List.mem_append.mpr (Or.inr List.mem_cons_self))).1
        have D5 : LData C H5 e i rs ss ts us room wait many rows sure := D4.keepX k5.x fun a ha => nin_cons (fun z => ndf (by rw [efp, ← z]; exact ha)) nin_nil
        refine cut_ifO (fun σ' H' => ∃ v3 v4 v5 v9 vf vd v12 v13 v14 v15 v16 v17 fp', σ' = [some (.ref a), some (.ref d), some (.ref sd), v3, v4, v5, some (.int i), some (.ref e.p), some (.ref e.o), v9, some vf, some vd, v12, v13, v14, v15, v16, v17] ∧ Alike K H' 2 vf vd ∧
          ((((∃ n, vf = .int n) ∨ ∃ t xs, vf = .ref t ∧ H' t = some (.tup xs)) ∧ WdF (loadG C) K [] H H' d sd (La ++ (e, fp') :: Lb) (i + 1)) ∨ (∃ fl xs, vf = .ref fl ∧ H' fl = some (.lst xs) ∧ xs.length < 1000000 ∧ ∀ o, WdF (loadG C) K [] H (upd H' fl o) d sd (La ++ (e, fp') :: Lb) (i + 1)))) (fun σ' H' pv => ?_) (fun R rest => ?_)
        · obtain ⟨v3, v4, v5, v9, vf, vd, v12, v13, v14, v15, v16, v17, fp', rfl, al, wd⟩ := pv
          walk_at "rd"
          refine like_go al ?_
          walk_at "rd"
          refine cut_isi (fun σ' H' => σ' = [some (.ref a), some (.ref d), some (.ref sd), v3, v4, v5, some (.int i), some (.ref e.p), some (.ref e.o), v9, some vf, some vd, v12, v13, v14, v15, v16, v17] ∧ WdF (loadG C) K [] H H' d sd (La ++ (e, fp') :: Lb) (i + 1)) (fun σ' H' pv => ?_) (fun R rest => ?_)
          · obtain ⟨rfl, x6⟩ := pv
            have hL' : (La ++ (e, fp') :: Lb).length = 2 := by rw [← hL, List.length_append, List.length_append]; rfl
            walk_at "rd"
            generalize La ++ (e, fp') :: Lb = L' at x6 hL'
            refine l_forList (xs := L'.map fun e => V.ref e.1.t) (SqL.of x6.lst) (fun _ σ' H7 => ∃ v14 v15 v16 v17, σ' = [some (.ref a), some (.ref d), some (.ref sd), v3, v4, v5, some (.int i), some (.ref e.p), some (.ref e.o), v9, some vf, some vd, v12, v13, v14, v15, v16, v17] ∧ WdF (loadG C) K [] H H7 d sd L' (i + 1)) ⟨_, _, _, _, rfl, x6⟩ (fun j σ' H7 _ pv => by obtain ⟨_, _, _, _, _, x8⟩ := pv; exact SqL.of x8.lst) (fun j x σ' H7 hx pv => ?_) (fun σ' H7 pv => ?_)
            · obtain ⟨v14, v15, v16, v17, rfl, x7⟩ := pv
              obtain ⟨u, hu, eu⟩ := List.mem_map.mp (List.mem_of_getElem? hx)
              subst eu
              obtain ⟨rs7, ss7, ts7, us7, room7, wait7, many7, rows7, sure7, _, D7⟩ := x7.side u hu
              obtain ⟨e1, f1⟩ := u
              change LData C H7 e1 (i + 1) rs7 ss7 ts7 us7 room7 wait7 many7 rows7 sure7 at D7
              have ht7 := D7.t
              have m7 := D7.m
              have s7 := D7.s
              obtain ⟨⟨dx7, hp7⟩, _⟩ := D7.l
              have ho7 := D7.o.o
              have hs7 := D7.o.s
              walk_at "rd"
              refine ⟨e1.p, e1.ls, e1.la, ts7, room7, wait7, many7, rows7, sure7, rfl, D7.l, fun w8 H8 nw8 hw8 k8 => ?_⟩
              have ho8 := k8.1 _ _ nin_nil ho7
              have hs8 := k8.1 _ _ nin_nil hs7
              walk_at "rd"
              refine Ak.l_lcR1 ⟨by omega, by omega⟩ (fun j => ((upTo j).filter fun p => !decide (p ∈ sure7)).map V.int) rfl (fun D j H9 hD hj hk9 hdd => ?_) (fun D H9 hD hk9 hdd => ?_)
              · have ho9 := hk9.1 _ _ nin_nil ho8
                have hs9 := hk9.1 _ _ nin_nil hs8
                walk_at "rd"
                refine Ak.w_iteN (fun z => ?_) (fun z => ?_)
                · walk_at "rd"
                  refine kIn_go hD hdd hk9 ?_ ?_
                  · have e := List.length_filter_le (fun p => !decide (p ∈ sure7)) (upTo j)
                    rw [upTo_len] at e
                    rw [List.length_map, sizeLine_eq]
                    omega
                  · rw [upTo_succ, List.filter_append, List.map_append, List.filter_cons, if_pos (by rw [decide_eq_false z]; rfl)]
                    rfl
                · refine kOut_go hdd hk9 ?_
                  rw [upTo_succ, List.filter_append, List.map_append, List.filter_cons, if_neg (by rw [decide_eq_true z]; exact Bool.false_ne_true), List.filter_nil, List.map_nil, List.append_nil]
              · rw [show ((many7 : Nat) : Int).toNat = many7 by omega] at hdd
                have hw9 := hk9.1 _ _ nin_nil hw8
                have ol := openL_len (many := many7) (sure := sure7)
                walk_at "rd"
                refine like_go (al_lst hw9 hdd AlL.ints (by rw [List.length_map]; omega)) ?_
                have sz : ((openL many7 sure7).map V.int).length < sizeLine := by rw [List.length_map, sizeLine_eq]; omega
                walk_at "rd"
                exact ⟨_, _, _, _, rfl, x7.keep0 ((k8.trans hk9).own nw8)⟩
            · obtain ⟨v14, v15, v16, v17, rfl, x7⟩ := pv
              exact ⟨_, _, _, _, _, _, _, _, _, _, _, _, _, _, _, L', rfl, hL', x7⟩
          · rcases wd with ⟨⟨n, rfl⟩ | ⟨t6, xs6, rfl, ht6⟩, x6⟩ | ⟨fl, xs6, rfl, hf6, l6, x6⟩
            · walk_at "rd"
              exact rest _ _ ⟨rfl, x6⟩
            · walk_at "rd"
              exact rest _ _ ⟨rfl, x6⟩
            · have sz : xs6.length < sizeLine := by rw [sizeLine_eq]; omega
              walk_at "rd"
              exact rest _ _ ⟨rfl, x6 _⟩
        · have he : (e, fp) ∈ La ++ (e, fp) :: Lb := List.mem_append.mpr (Or.inr List.mem_cons_self)
          have fin : ∀ (Hs H7 : Hp) (rs' ss' : Addr) (ts' us' : List Addr) (many' : Nat) (rows' : List (List Int)) (sure' : List Int), WdF (loadG C) K [] H Hs d sd (La ++ (e, fp) :: Lb) i → KeepX [e.p, e.ls, e.la, e.o] Hs H7 → (∀ a, a ∈ rs' :: ss' :: (ts' ++ us') → a ∈ fp ∨ Hs a = none) →
              LData C H7 e (i + 1) rs' ss' ts' us' room wait many' rows' sure' → WdF (loadG C) K [] H H7 d sd (La ++ (e, fpL e rs' ss' ts' us') :: Lb) (i + 1) := fun Hs H7 rs' ss' ts' us' many' rows' sure' xs ks nf D7 => by
            refine xs.turn ks (fun a ha => ?_) (fun x hx => absurd hx List.not_mem_nil) (fun a ha => ?_) ⟨rs', ss', ts', us', room, wait, many', rows', sure', rfl, D7⟩
            · rw [efp]
              simp only [List.mem_cons, List.not_mem_nil, or_false] at ha
              rcases ha with h | h | h | h <;> simp [h]
            · simp only [List.mem_cons] at ha
              rcases ha with h | h | h | h | h | h
              · rw [efp]; simp [h]
              · rw [efp]; simp [h]
              · rw [efp]; simp [h]
              · rw [efp]; simp [h]
              · rw [efp]; simp [h]
              · exact nf a (by simpa using h)
          have olds : ∀ (Hs : Hp) a, a ∈ rs :: ss :: (ts ++ us) → a ∈ fp ∨ Hs a = none := fun Hs a ha => Or.inl (by
            rw [efp]
            exact List.mem_cons_of_mem _ (List.mem_cons_of_mem _ (List.mem_cons_of_mem _ (List.mem_cons_of_mem _ (List.mem_cons_of_mem _ ha)))))
          have m5 := D5.m
          have r5 := D5.r
          have s5 := D5.s
          have rr0 := D5.r0
          have rr1 := D5.r1
          have ww0 := D5.w0
          have ww1 := D5.w1
          have ho5 := D5.o.o
          have hrs5 := D5.o.r
          have i120 : i < 121 := by omega
          refine Ak.w_ite (fun z => ?_) (fun z => ?_)
          · walk_at "rd"
            have kO : Keep [e.o] H5 (upd H5 e.o (.dK (ownLF room wait ((many : Int) + 1) rs ss))) := Keep.refl.set List.mem_cons_self
            have lo := D5.loadOut
            have oo := D5.ownOut
            have L6 := D5.l.keepX (S := [e.o]) kO.x fun a ha => nin_cons (lo a ha) nin_nil
            have ho6 : upd H5 e.o (.dK (ownLF room wait ((many : Int) + 1) rs ss)) e.o = some (.dK (ownLF room wait ((many : Int) + 1) rs ss)) := upd_same
            generalize upd H5 e.o (.dK (ownLF room wait ((many : Int) + 1) rs ss)) = H6 at kO L6 ho6 ⊢
            obtain ⟨dx6, hp6⟩ := L6.i
            walk_at "rd"
            refine ⟨e.p, e.ls, e.la, ts, room, wait, many, rows, sure, rfl, L6, by omega, fun H7 L7 k7 => ?_⟩
            have op := oo e.o List.mem_cons_self
            have ho7 := k7.1 _ _ (nin_cons op.1 (nin_cons op.2.2 nin_nil)) ho6
            have k57 : KeepX [e.p, e.ls, e.la, e.o] H5 H7 := (kO.x.mono (fun b hb => by simp only [List.mem_cons, List.not_mem_nil, or_false] at hb ⊢; simp [hb])).trans (k7.x.mono (fun b hb => by simp only [List.mem_cons, List.not_mem_nil, or_false] at hb ⊢; rcases hb with h | h <;> simp [h]))
            have nn : ∀ a, a ∈ rs :: ss :: us → a ∉ [e.o, e.p, e.la] := fun a ha => by
              have q := oo a (List.mem_cons_of_mem _ ha)
              refine nin_cons (fun z => ?_) (nin_cons q.1 (nin_cons q.2.2 nin_nil))
              rw [z] at ha
              simp only [List.mem_cons] at ha
              rcases ha with h | h | h
              · exact ne_of D5.o.o D5.o.r (by intro z; cases z) h
              · exact ne_of D5.o.o D5.o.s (by intro z; cases z) h
              · obtain ⟨xs, e⟩ := D5.o.t.live _ h
                exact ne_of D5.o.o e (by intro z; cases z) rfl
            have k57' : KeepX [e.o, e.p, e.la] H5 H7 := (kO.x.mono (fun b hb => by simp only [List.mem_cons, List.not_mem_nil, or_false] at hb ⊢; simp [hb])).trans (k7.x.mono (fun b hb => by simp only [List.mem_cons, List.not_mem_nil, or_false] at hb ⊢; rcases hb with h | h <;> simp [h]))
            have O7 : OwnL H7 e.o rs ss us room wait (many + 1) rows sure := ⟨ho7, k57' _ _ (nn _ List.mem_cons_self) D5.o.r (fun _ z => by cases z), D5.o.t.keepX k57' fun a ha => nn a (List.mem_cons_of_mem _ (List.mem_cons_of_mem _ ha)), k57' _ _ (nn _ (List.mem_cons_of_mem _ List.mem_cons_self)) D5.o.s (fun _ z => by cases z)⟩
            have hT7 : H7 e.t = some (.tup [.ref e.p, .ref e.o]) := k57 _ _ (by
              obtain ⟨⟨dx, hp⟩, hl, _, hd, _⟩ := D5.l
              exact nin_cons (ne_of D5.t hp (by intro z; cases z)) (nin_cons (ne_of D5.t hl (by intro z; cases z)) (nin_cons (ne_of D5.t hd (by intro z; cases z)) (nin_cons (ne_of D5.t ho5 (by intro z; cases z)) nin_nil)))) D5.t (fun _ z => by cases z)
            have x7 := fin H5 H7 rs ss ts us (many + 1) rows sure x5 k57 (olds H5) ⟨hT7, L7, O7, rr0, rr1, ww0, ww1, by omega, by omega, by omega, D5.a1, D5.a2, D5.a3⟩
            walk_at "rd"
            refine rest _ _ ⟨_, _, _, _, _, _, _, _, _, _, _, _, _, rfl, ?_, Or.inl ⟨Or.inl ⟨_, rfl⟩, x7⟩⟩
            rw [show (many : Int) + 1 - 1 = many by omega]
            exact al_int
          · walk_at "rd"
            refine Ak.w_ite (fun z => ?_) (fun z => ?_)
            · obtain ⟨dx5, hp5⟩ := D5.l.i
              walk_at "rd"
              refine ⟨e.p, e.ls, e.la, ts, room, wait, many, rows, sure, rfl, D5.l, by omega, by omega, rr0, rr1, fun t H6 nt ht6 L6 k6 => ?_⟩
              have lo := D5.loadOut
              have oo := D5.ownOut
              have O6 := D5.o.keepX (S := [e.ls, e.la]) k6.x fun a ha => nin_cons (oo a ha).2.1 (nin_cons (oo a ha).2.2 nin_nil)
              walk_at "rd"
              refine ⟨e.o, rs, ss, us, room, wait, many, rows, sure, rfl, O6, by omega, by omega, by omega, rr0, rr1, ww1, fun t2 u rs' H7 nt2 nu nrs ht2 O7 k7 => ?_⟩
              have to : t ≠ e.o := Ne.symm (ne_of_none ho5 nt)
              have L7 := L6.keepX (S := [e.o]) k7.x fun a ha => nin_cons (by
                simp only [List.mem_cons, List.mem_append, List.not_mem_nil, or_false] at ha
                rcases ha with h | h | h | h | h
                · exact lo a (by simp [h])
                · exact lo a (by simp [h])
                · exact lo a (by simp [h])
                · exact lo a (by simp [h])
                · rw [h]; exact to) nin_nil
              have k57 : Keep [e.p, e.ls, e.la, e.o] H5 H7 := (k6.mono (fun b hb => by simp only [List.mem_cons, List.not_mem_nil, or_false] at hb ⊢; rcases hb with h | h <;> simp [h])).trans (k7.mono (fun b hb => by simp only [List.mem_cons, List.not_mem_nil, or_false] at hb ⊢; simp [hb]))
              have hT7 : H7 e.t = some (.tup [.ref e.p, .ref e.o]) := k57.1 _ _ (by
                obtain ⟨⟨dx, hp⟩, hl, _, hd, _⟩ := D5.l
                exact nin_cons (ne_of D5.t hp (by intro z; cases z)) (nin_cons (ne_of D5.t hl (by intro z; cases z)) (nin_cons (ne_of D5.t hd (by intro z; cases z)) (nin_cons (ne_of D5.t ho5 (by intro z; cases z)) nin_nil)))) D5.t
              have a2 : rs' ≠ e.ls := Ne.symm (ne_of_none L6.l nrs)
              have fl := fillOf_len (room := room) (wait := wait) (many := many) (rows := rows) (sure := sure)
              have x7 := fin H5 H7 rs' ss (ts ++ [t]) (us ++ [u]) many (rows ++ [fillOf room wait many rows sure]) sure x5 k57.x (fun a ha => by
                simp only [List.mem_cons, List.mem_append, List.not_mem_nil, or_false] at ha
                rcases ha with h | h | (h | h) | h | h
                · rw [h]; exact Or.inr (k6.2 _ nrs)
                · exact olds H5 a (by simp [h])
                · exact olds H5 a (by simp [h])
                · rw [h]; exact Or.inr nt
                · exact olds H5 a (by simp [h])
                · rw [h]; exact Or.inr (k6.2 _ nu)) ⟨hT7, L7, O7, rr0, rr1, ww0, ww1, by omega, by rw [List.length_append, List.length_singleton]; omega, by omega, D5.a1, a2, D5.a3⟩
              have ht7 : H7 t = some (.tup ((fillOf room wait many rows sure).map V.int)) := k7.1 _ _ (nin_cons to nin_nil) ht6
              walk_at "rd"
              exact rest _ _ ⟨_, _, _, _, _, _, _, _, _, _, _, _, _, rfl, al_tup ht7 ht2 AlL.ints (by rw [List.length_map]; omega), Or.inl ⟨Or.inr ⟨t, _, rfl, ht7⟩, x7⟩⟩
            · walk_at "rd"
              rename_i cnt H6 xs6 c0 c1 dc6 hd6 k6
              have od : e.o ≠ d := fun z => ndf (by rw [efp, ← z]; simp)
              have rd : rs ≠ d := fun z => ndf (by rw [efp, ← z]; simp)
              have ul := D5.o.t.len
              refine ⟨cnt, rfl, by omega, by omega, fun D hD => lc_range (fun j Hx => ∃ ks : List Int, ks.length = j ∧ Hx D = some (.lst (ks.map V.int)) ∧ Dice K H Hx d ∧ Keep [d] H5 Hx)
                ⟨[], rfl, upd_same, dc6.keep (S := []) (Keep.refl.own hD) nin_nil none_nil, k6.new hD⟩ (fun j H7 hj pv => ?_) (fun H7 pv => ?_)⟩
              · obtain ⟨ks, hkl, hkD, dc7, k57⟩ := pv
                obtain ⟨xs7, hd7⟩ := dc7.lst
                have nDd : D ≠ d := Ne.symm (ne_of_none hd5 (k6.2 _ hD))
                have ho7 := k57.1 _ _ (nin_cons od nin_nil) ho5
                have hrs7 := k57.1 _ _ (nin_cons rd nin_nil) hrs5
                walk_at "rd"
                rw [List.length_map, ul]
                walk_at "rd"
                rename_i r8 H8 xs8 j0 j1 dc8 hd8 k8
                refine ⟨ks.map V.int, by walk_at "lk", by rw [List.length_map, sizeLine_eq]; omega, ks ++ [r8 - 1], by rw [List.length_append, hkl]; rfl, by rw [upd_same, List.map_append]; rfl, dc6.own dc8 hD (Ne.symm nDd), (k57.trans k8).own (k6.2 _ hD)⟩
              · obtain ⟨ks, hkl, hkD, dc7, k57⟩ := pv
                have x7 := x5.next k57 dc7
                have D7 : LData C H7 e i rs ss ts us room wait many rows sure := D5.keepX k57.x fun a ha => nin_cons (fun z => ndf (by rw [efp, ← z]; exact ha)) nin_nil
                have ksl : ks.length ≤ 3 := by omega
                obtain ⟨dx7, hp7⟩ := D7.l.i
                have lo := D7.loadOut
                have oo := D7.ownOut
                have hla7 := D7.l.d
                have ho7 := D7.o.o
                clear k6 dc6 hd6
                walk_at "rd"
                refine w_lisL (SqL.of hkD) fun h nh => ?_
                have k78 : Keep [] H7 (upd H7 h (.lst (ks.map V.int))) := Keep.refl.new nh
                have hh8 : upd H7 h (.lst (ks.map V.int)) h = some (.lst (ks.map V.int)) := upd_same
                have hD8 := k78.1 _ _ nin_nil hkD
                generalize upd H7 h (.lst (ks.map V.int)) = H8 at k78 hh8 hD8 ⊢
                have D8 : LData C H8 e i rs ss ts us room wait many rows sure := D7.keepX k78.x fun a ha => nin_nil
                obtain ⟨dx8, hp8⟩ := D8.l.i
                have ho8 := D8.o.o
                have hla : h ≠ e.la := Ne.symm (ne_of_none hla7 nh)
                have hoo : h ≠ e.o := Ne.symm (ne_of_none ho7 nh)
                have Dla : D ≠ e.la := ne_of hkD hla7 (by intro z; cases z)
                have Doo : D ≠ e.o := ne_of hkD ho7 (by intro z; cases z)
                walk_at "rd"
                refine ⟨e.p, e.ls, e.la, ts, room, wait, many, rows, sure, h, ks, rfl, D8.l, by omega, SqL.of hh8, hla, by omega, fun fl H9 nf hf L9 k9 => ?_⟩
                have O9 := D8.o.keepX (S := [e.la]) k9.x fun a ha => nin_cons (oo a ha).2.2 nin_nil
                have ho9 := O9.o
                have hD9 := k9.1 _ _ (nin_cons Dla nin_nil) hD8
                have hh9 := k9.1 _ _ (nin_cons hla nin_nil) hh8
                walk_at "rd"
                refine ⟨e.o, rs, ss, us, room, wait, many, rows, sure, D, ks, rfl, O9, D8.l.g, by omega, by omega, SqL.of hD9, Doo, by omega, fun f2 ss' H10 nf2 nss' hf2 O10 k10 => ?_⟩
                have hD10 := k10.1 _ _ (nin_cons Doo nin_nil) hD9
                have hh10 := k10.1 _ _ (nin_cons hoo nin_nil) hh9
                have nf7 : H7 fl = none := k78.2 _ nf
                have flo : fl ≠ e.o := Ne.symm (ne_of_none ho7 nf7)
                have hf10 := k10.1 _ _ (nin_cons flo nin_nil) hf
                have L10 := L9.keepX (S := [e.o]) k10.x fun a ha => nin_cons (lo a ha) nin_nil
                have kk : Keep [e.p, e.ls, e.la, e.o] H7 H10 := ((k78.mono sub_nil).trans (k9.mono (fun b hb => by simp only [List.mem_cons, List.not_mem_nil, or_false] at hb ⊢; simp [hb]))).trans (k10.mono (fun b hb => by simp only [List.mem_cons, List.not_mem_nil, or_false] at hb ⊢; simp [hb]))
                have hT10 : H10 e.t = some (.tup [.ref e.p, .ref e.o]) := kk.1 _ _ (by
                  obtain ⟨⟨dx, hp⟩, hl, _, hd, _⟩ := D7.l
                  exact nin_cons (ne_of D7.t hp (by intro z; cases z)) (nin_cons (ne_of D7.t hl (by intro z; cases z)) (nin_cons (ne_of D7.t hd (by intro z; cases z)) (nin_cons (ne_of D7.t ho7 (by intro z; cases z)) nin_nil)))) D7.t
                have cl := cameOf_len (ks := ks) (sure' := sure) D7.l.g ks.length (Nat.le_refl _)
                rw [List.take_length] at cl
                have a3 : ss' ≠ e.ls := Ne.symm (ne_of_none (k9.1 _ _ (nin_cons (by
                  intro z
                  have q := D8.l.l
                  rw [z, D8.l.d] at q
                  cases q) nin_nil) D8.l.l) nss')
                have D10 : LData C H10 e (i + 1) rs ss' ts us room wait many rows (sure ++ cameOf rows sure ks) := ⟨hT10, L10, O10, rr0, rr1, ww0, ww1, by omega, by omega, by rw [List.length_append]; omega, D7.a1, D7.a2, a3⟩
                have fss : ss' ≠ fl := Ne.symm (ne_of_none hf nss')
                have nss7 : H7 ss' = none := k78.2 _ (k9.2 _ nss')
                have lv : ∀ a, a ∈ fp → a ≠ fl := fun a ha z => by
                  obtain ⟨o, ho, _⟩ := (loadG C).live (x7.side _ he) a ha
                  rw [z, nf7] at ho
                  cases ho
                have new10 : ∀ a, a ∈ rs :: ss' :: (ts ++ us) → a ∈ fp ∨ a = ss' := fun a ha => by
                  simp only [List.mem_cons] at ha
                  rcases ha with h | h | h
                  · exact Or.inl (by rw [efp, h]; simp)
                  · exact Or.inr h
                  · exact Or.inl (by rw [efp]; exact List.mem_cons_of_mem _ (List.mem_cons_of_mem _ (List.mem_cons_of_mem _ (List.mem_cons_of_mem _ (List.mem_cons_of_mem _ (List.mem_cons_of_mem _ (List.mem_cons_of_mem _ h)))))))
                have x10 : ∀ o, WdF (loadG C) K [] H (upd H10 fl o) d sd (La ++ (e, fpL e rs ss' ts us) :: Lb) (i + 1) := fun o => by
                  refine fin H7 (upd H10 fl o) rs ss' ts us many rows (sure ++ cameOf rows sure ks) x7 (kk.own nf7).x (fun a ha => (new10 a ha).imp id fun z => by rw [z]; exact nss7) (D10.keepX (S := [fl]) (Keep.refl.set List.mem_cons_self).x fun a ha => nin_cons ?_ nin_nil)
                  simp only [List.mem_cons] at ha
                  rcases ha with h | h | h | h | h | h
                  · exact lv a (by rw [efp]; simp [h])
                  · exact lv a (by rw [efp]; simp [h])
                  · exact lv a (by rw [efp]; simp [h])
                  · exact lv a (by rw [efp]; simp [h])
                  · exact lv a (by rw [efp]; simp [h])
                  · rcases new10 a (by simpa using h) with z | z
                    · exact lv a z
                    · rw [z]; exact fss
                walk_at "rd"
                refine w_neLI (SqL.of hh10) (SqL.of hD10) ?_
                walk_at "rd"
                exact rest _ _ ⟨_, _, _, _, _, _, _, _, _, _, _, _, _, rfl, al_lst hf10 hf2 AlL.ints (by rw [List.length_map, srt_len]; omega), Or.inr ⟨fl, _, rfl, hf10, by rw [List.length_map, srt_len]; omega, x10⟩⟩
      · obtain ⟨v3, v4, v5, v6, v7, v8, v9, v10, v11, v12, v13, v14, v15, v16, v17, L, rfl, hL, x⟩ := pv
        walk_at "rd"
        exact k _
end
end Ak
namespace Ak
open PySem PySem.Spec PyProof.Rows L2
theorem all_mk {l : PySem.W.OpenLaw} {w : World} {K : PySem.W.Frag} {h : Heap} {mg : Str → Option Value} {fa A_Load A_BOUNDS A_t1 A_t2 A_t3 A_t4 A_t5 A_t6 A_l_like A_l_next A_l_dice A_check_number A_Load___init A_Load_put A_Load_waits A_Load__is_ready A_Load_fill A_Load__free A_Load_came A_l_fill A_l_came A_law A_code : Addr} {ocL kVL docL pmL ctL : Value} {odL anL : Option Addr} {oslL : Array (Option Value)} {esB : Array DictEntry} {nB : Nat}
    (X : K.In h) (G : h.Ns mainGlobals mg) (hfa : mg "law" = some (.ref fa))
    (a_Load : PySem.W.nsIn K mainGlobals "Load" = some (some (.ref A_Load)))
    (pg_Load : PySem.W.plainGet K A_Load Str.empty = true)
    (hd_Load : PySem.W.hasDictIn K A_Load = true)
    (po_Load : PySem.W.plainOver K A_Load = true)
    (sa_Load : PySem.W.findIn K (.ref A_Load) "__setattr__" = some (some (.builtin "object.__setattr__")))
    (mk_Load : PySem.W.makesIn K A_Load = true)
    (kc_Load : PySem.W.keepIn K (.ref A_Load) = true)
    (na_Load__room : PySem.W.findIn K (.ref A_Load) "_room" = some none)
    (na_Load__wait : PySem.W.findIn K (.ref A_Load) "_wait" = some none)
    (na_Load__many : PySem.W.findIn K (.ref A_Load) "_many" = some none)
    (na_Load__letters : PySem.W.findIn K (.ref A_Load) "_letters" = some none)
    (na_Load__latest : PySem.W.findIn K (.ref A_Load) "_latest" = some none)
    (a_BOUNDS : PySem.W.nsIn K mainGlobals "BOUNDS" = some (some (.ref A_BOUNDS)))
    (lkB : K.lookup A_BOUNDS = some { cls := .type "dict", data := .dict esB nB })
    (klB : PySem.W.KeysLit w.params esB.toList)
    (nB1 : PySem.W.nsIn K A_BOUNDS "marks" = some (some (.ref A_t1)))
    (nB2 : PySem.W.nsIn K A_BOUNDS "wide" = some (some (.ref A_t2)))
    (nB3 : PySem.W.nsIn K A_BOUNDS "late" = some (some (.ref A_t3)))
    (nB4 : PySem.W.nsIn K A_BOUNDS "ahead" = some (some (.ref A_t4)))
    (nB5 : PySem.W.nsIn K A_BOUNDS "room" = some (some (.ref A_t5)))
    (nB6 : PySem.W.nsIn K A_BOUNDS "wait" = some (some (.ref A_t6)))
    (sB1 : ∀ H, SqT K H A_t1 [.int 2, .int 64])
    (sB2 : ∀ H, SqT K H A_t2 [.int 0, .int 16])
    (sB3 : ∀ H, SqT K H A_t3 [.int 0, .int 8])
    (sB4 : ∀ H, SqT K H A_t4 [.int 1, .int 16])
    (sB5 : ∀ H, SqT K H A_t5 [.int 1, .int 8])
    (sB6 : ∀ H, SqT K H A_t6 [.int 1, .int 20])
    (F_l_like : ∃ fd, L2.Fun K "_law_like" "_law_like" s_l_like A_l_like fd)
    (a_l_like : PySem.W.nsIn K mainGlobals "_law_like" = some (some (.ref A_l_like)))
    (z_isinstance : PySem.W.nsIn K mainGlobals "isinstance" = some none)
    (z_bool : PySem.W.nsIn K mainGlobals "bool" = some none)
    (z_str : PySem.W.nsIn K mainGlobals "str" = some none)
    (z_int : PySem.W.nsIn K mainGlobals "int" = some none)
    (z_dict : PySem.W.nsIn K mainGlobals "dict" = some none)
    (z_tuple : PySem.W.nsIn K mainGlobals "tuple" = some none)
    (z_list : PySem.W.nsIn K mainGlobals "list" = some none)
    (z_len : PySem.W.nsIn K mainGlobals "len" = some none)
    (z_range : PySem.W.nsIn K mainGlobals "range" = some none)
    (F_l_next : ∃ fd, L2.Fun K "_law_next" "_law_next" s_l_next A_l_next fd)
    (a_l_next : PySem.W.nsIn K mainGlobals "_law_next" = some (some (.ref A_l_next)))
    (F_l_dice : ∃ fd, L2.Fun K "_law_dice" "_law_dice" s_l_dice A_l_dice fd)
    (a_l_dice : PySem.W.nsIn K mainGlobals "_law_dice" = some (some (.ref A_l_dice)))
    (F_check_number : ∃ fd, L2.Fun K "check_number" "check_number" s_check_number A_check_number fd)
    (a_check_number : PySem.W.nsIn K mainGlobals "check_number" = some (some (.ref A_check_number)))
    (F_Load___init : ∃ fd, L2.Fun K "__init__" "Load.__init__" s_Load___init A_Load___init fd)
    (ci_Load___init : PySem.W.findIn K (.ref A_Load) "__init__" = some (some (.ref A_Load___init)))
    (ii_Load___init : PySem.W.isFn K (.ref A_Load___init) = true)
    (F_Load_put : ∃ fd, L2.Fun K "put" "Load.put" s_Load_put A_Load_put fd)
    (ci_Load_put : PySem.W.findIn K (.ref A_Load) "put" = some (some (.ref A_Load_put)))
    (ii_Load_put : PySem.W.isFn K (.ref A_Load_put) = true)
    (F_Load_waits : ∃ fd, L2.Fun K "waits" "Load.waits" s_Load_waits A_Load_waits fd)
    (z_sorted : PySem.W.nsIn K mainGlobals "sorted" = some none)
    (ci_Load_waits : PySem.W.findIn K (.ref A_Load) "waits" = some (some (.ref A_Load_waits)))
    (ii_Load_waits : PySem.W.isFn K (.ref A_Load_waits) = true)
    (F_Load__is_ready : ∃ fd, L2.Fun K "_is_ready" "Load._is_ready" s_Load__is_ready A_Load__is_ready fd)
    (ci_Load__is_ready : PySem.W.findIn K (.ref A_Load) "_is_ready" = some (some (.ref A_Load__is_ready)))
    (ii_Load__is_ready : PySem.W.isFn K (.ref A_Load__is_ready) = true)
    (F_Load_fill : ∃ fd, L2.Fun K "fill" "Load.fill" s_Load_fill A_Load_fill fd)
    (ci_Load_fill : PySem.W.findIn K (.ref A_Load) "fill" = some (some (.ref A_Load_fill)))
    (ii_Load_fill : PySem.W.isFn K (.ref A_Load_fill) = true)
    (F_Load__free : ∃ fd, L2.Fun K "_free" "Load._free" s_Load__free A_Load__free fd)
    (ci_Load__free : PySem.W.findIn K (.ref A_Load) "_free" = some (some (.ref A_Load__free)))
    (ii_Load__free : PySem.W.isFn K (.ref A_Load__free) = true)
    (F_Load_came : ∃ fd, L2.Fun K "came" "Load.came" s_Load_came A_Load_came fd)
    (ci_Load_came : PySem.W.findIn K (.ref A_Load) "came" = some (some (.ref A_Load_came)))
    (ii_Load_came : PySem.W.isFn K (.ref A_Load_came) = true)
    (F_l_fill : ∃ fd, L2.Fun K "_law_fill" "_law_fill" s_l_fill A_l_fill fd)
    (a_l_fill : PySem.W.nsIn K mainGlobals "_law_fill" = some (some (.ref A_l_fill)))
    (F_l_came : ∃ fd, L2.Fun K "_law_came" "_law_came" s_l_came A_l_came fd)
    (a_l_came : PySem.W.nsIn K mainGlobals "_law_came" = some (some (.ref A_l_came)))
    (a_law : PySem.W.nsIn K mainGlobals "law" = some (some (.ref A_law)))
    (lk_law : K.lookup A_law = some ⟨ocL, odL, .func (PySem.W.fnOf "law" "law" (defArgs s_law) (defBody s_law) (defScope s_law) .none kVL docL pmL anL (.ref A_code) ctL), oslL⟩)
    (hc_law : PySem.W.codeIn K (.ref A_code) "law" = true)
    (hk_law : PySem.W.keepIn K (.ref A_law) = true)
    : LamX.LawAtS l w K (L2.CX l.prog w) 5 63 "_law_script" mg fa h := by
  have e0 := hfa.symm.trans (PySem.W.mg_of X G a_law)
  cases e0
  have cl_Load : Cls K A_Load := ⟨pg_Load, hd_Load, po_Load, sa_Load⟩
  have T : LoadT K A_Load := ⟨cl_Load, na_Load__room, na_Load__wait, na_Load__many, na_Load__letters, na_Load__latest⟩
  have B : BoundsT K w mg A_BOUNDS := bounds_mk (PySem.W.mg_of X G a_BOUNDS) lkB klB nB1 nB2 nB3 nB4 nB5 nB6 sB1 sB2 sB3 sB4 sB5 sB6
  obtain ⟨fd_l_like, F_l_like⟩ := F_l_like
  have b_l_like := F_l_like.binds (ps := ["_law_found", "_law_due"]) fun _ _ _ _ _ _ us hl => match us, hl with | [_, _], _ => rfl
  have g_isinstance := (PySem.W.mg_none_of X G z_isinstance)
  have g_bool := (PySem.W.mg_none_of X G z_bool)
  have g_str := (PySem.W.mg_none_of X G z_str)
  have g_int := (PySem.W.mg_none_of X G z_int)
  have g_dict := (PySem.W.mg_none_of X G z_dict)
  have g_tuple := (PySem.W.mg_none_of X G z_tuple)
  have g_list := (PySem.W.mg_none_of X G z_list)
  have g_len := (PySem.W.mg_none_of X G z_len)
  have g_range := (PySem.W.mg_none_of X G z_range)
  obtain ⟨fd_l_next, F_l_next⟩ := F_l_next
  have b_l_next := F_l_next.binds (ps := ["_law_dice_here", "_law_many"]) fun _ _ _ _ _ _ us hl => match us, hl with | [_, _], _ => rfl
  obtain ⟨fd_l_dice, F_l_dice⟩ := F_l_dice
  have b_l_dice := F_l_dice.binds (ps := ["_law_script"]) fun _ _ _ _ _ _ us hl => match us, hl with | [_], _ => rfl
  obtain ⟨fd_check_number, F_check_number⟩ := F_check_number
  have b_check_number := F_check_number.binds (ps := ["word", "number"]) fun _ _ _ _ _ _ us hl => match us, hl with | [_, _], _ => rfl
  obtain ⟨fd_Load___init, F_Load___init⟩ := F_Load___init
  have b_Load___init := F_Load___init.binds (ps := ["self", "room", "wait"]) fun _ _ _ _ _ _ us hl => match us, hl with | [_, _, _], _ => rfl
  obtain ⟨fd_Load_put, F_Load_put⟩ := F_Load_put
  have b_Load_put := F_Load_put.binds (ps := ["self"]) fun _ _ _ _ _ _ us hl => match us, hl with | [_], _ => rfl
  obtain ⟨fd_Load_waits, F_Load_waits⟩ := F_Load_waits
  have b_Load_waits := F_Load_waits.binds (ps := ["self"]) fun _ _ _ _ _ _ us hl => match us, hl with | [_], _ => rfl
  obtain ⟨fd_Load__is_ready, F_Load__is_ready⟩ := F_Load__is_ready
  have b_Load__is_ready := F_Load__is_ready.binds (ps := ["self", "piece", "number"]) fun _ _ _ _ _ _ us hl => match us, hl with | [_, _, _], _ => rfl
  obtain ⟨fd_Load_fill, F_Load_fill⟩ := F_Load_fill
  have b_Load_fill := F_Load_fill.binds (ps := ["self"]) fun _ _ _ _ _ _ us hl => match us, hl with | [_], _ => rfl
  obtain ⟨fd_Load__free, F_Load__free⟩ := F_Load__free
  have b_Load__free := F_Load__free.binds (ps := ["self", "number"]) fun _ _ _ _ _ _ us hl => match us, hl with | [_, _], _ => rfl
  obtain ⟨fd_Load_came, F_Load_came⟩ := F_Load_came
  have b_Load_came := F_Load_came.binds (ps := ["self", "letters"]) fun _ _ _ _ _ _ us hl => match us, hl with | [_, _], _ => rfl
  obtain ⟨fd_l_fill, F_l_fill⟩ := F_l_fill
  have b_l_fill := F_l_fill.binds (ps := ["_law_own"]) fun _ _ _ _ _ _ us hl => match us, hl with | [_], _ => rfl
  obtain ⟨fd_l_came, F_l_came⟩ := F_l_came
  have b_l_came := F_l_came.binds (ps := ["_law_own", "_law_letters"]) fun _ _ _ _ _ _ us hl => match us, hl with | [_, _], _ => rfl
  refine ⟨PySem.W.fnOf "law" "law" (defArgs s_law) (defBody s_law) (defScope s_law) .none kVL docL pmL anL (.ref A_code) ctL, [], spLaw K, fun p hp => absurd hp List.not_mem_nil, fun p hp => absurd hp List.not_mem_nil, fun p hp => absurd hp List.not_mem_nil, fun s u => .of_eq rfl, fun H a ns hl _ _ hS => ?_, fun base _ _ _ => ?_⟩
  · exact ⟨a, ns, rfl, hS, hl, fun _ => rfl⟩
  · have F_law := L2.fun_mk lk_law hc_law hk_law
    have c_l_next : CalX l.prog w K mg base 1 "_law_next" _ := ⟨A_l_next, fd_l_next, _, ok_next F_l_next (PySem.W.mg_none_of X G z_len), PySem.W.mg_of X G a_l_next, F_l_next.kp, b_l_next⟩
    have c_l_dice : CalX l.prog w K mg base 1 "_law_dice" _ := ⟨A_l_dice, fd_l_dice, _, ok_dice F_l_dice (PySem.W.mg_none_of X G z_len) (PySem.W.mg_none_of X G z_int), PySem.W.mg_of X G a_l_dice, F_l_dice.kp, b_l_dice⟩
    have c_l_like : CalX l.prog w K mg base 3 "_law_like" (spLike K 2) := ok_like F_l_like g_isinstance g_bool g_str g_int g_dict g_tuple g_list g_len g_range (PySem.W.mg_of X G a_l_like) b_l_like 2
    have c_check_number : CalX l.prog w K mg base 1 "check_number" _ := ⟨A_check_number, fd_check_number, _, ok_check_number F_check_number B, PySem.W.mg_of X G a_check_number, F_check_number.kp, b_check_number⟩
    have k_Load : MakX l.prog w K mg base 2 "Load" A_Load _ := ⟨A_Load___init, fd_Load___init, _, ⟨mk_Load, ci_Load___init, ii_Load___init, kc_Load⟩, ok_load_init F_Load___init T c_check_number, PySem.W.mg_of X G a_Load, b_Load___init⟩
    have m_Load_put : MetX l.prog w K mg base 1 A_Load "put" _ := ⟨A_Load_put, fd_Load_put, _, cl_Load, ⟨ci_Load_put, ii_Load_put, F_Load_put.kp⟩, ok_put F_Load_put T, b_Load_put⟩
    have m_Load_waits : MetX l.prog w K mg base 1 A_Load "waits" _ := ⟨A_Load_waits, fd_Load_waits, _, cl_Load, ⟨ci_Load_waits, ii_Load_waits, F_Load_waits.kp⟩, ok_waits F_Load_waits T (PySem.W.mg_none_of X G z_sorted), b_Load_waits⟩
    have m_Load_is_ready : MetX l.prog w K mg base 1 A_Load "_is_ready" _ := ⟨A_Load__is_ready, fd_Load__is_ready, _, cl_Load, ⟨ci_Load__is_ready, ii_Load__is_ready, F_Load__is_ready.kp⟩, ok_ready F_Load__is_ready T, b_Load__is_ready⟩
    have m_Load_fill : MetX l.prog w K mg base 2 A_Load "fill" _ := ⟨A_Load_fill, fd_Load_fill, _, cl_Load, ⟨ci_Load_fill, ii_Load_fill, F_Load_fill.kp⟩, ok_fill F_Load_fill T (PySem.W.mg_none_of X G z_len) (PySem.W.mg_none_of X G z_tuple) m_Load_waits m_Load_is_ready, b_Load_fill⟩
    have m_Load_free : MetX l.prog w K mg base 1 A_Load "_free" _ := ⟨A_Load__free, fd_Load__free, _, cl_Load, ⟨ci_Load__free, ii_Load__free, F_Load__free.kp⟩, ok_free F_Load__free T (PySem.W.mg_none_of X G z_len), b_Load__free⟩
    have m_Load_came : MetX l.prog w K mg base 2 A_Load "came" _ := ⟨A_Load_came, fd_Load_came, _, cl_Load, ⟨ci_Load_came, ii_Load_came, F_Load_came.kp⟩, ok_came F_Load_came T (PySem.W.mg_none_of X G z_sorted) m_Load_free, b_Load_came⟩
    have c_l_fill : CalX l.prog w K mg base 1 "_law_fill" _ := ⟨A_l_fill, fd_l_fill, _, ok_own_fill F_l_fill (PySem.W.mg_none_of X G z_len) (PySem.W.mg_none_of X G z_range) (PySem.W.mg_none_of X G z_tuple), PySem.W.mg_of X G a_l_fill, F_l_fill.kp, b_l_fill⟩
    have c_l_came : CalX l.prog w K mg base 1 "_law_came" _ := ⟨A_l_came, fd_l_came, _, ok_own_came F_l_came (PySem.W.mg_none_of X G z_len) (PySem.W.mg_none_of X G z_sorted), PySem.W.mg_of X G a_l_came, F_l_came.kp, b_l_came⟩
    exact ok_law F_law (PySem.W.mg_none_of X G z_range) (PySem.W.mg_none_of X G z_len) (PySem.W.mg_none_of X G z_list) (PySem.W.mg_none_of X G z_isinstance) c_l_dice c_l_next c_l_like k_Load m_Load_put m_Load_fill m_Load_came m_Load_waits c_l_fill c_l_came
end Ak
local macro_rules | `(tactic| walk_at "fi") => `(tactic| (refine' ⟨_, L2.fun_mk ?l ?c ?k⟩; (case l => k_is); (case c => k_is); (case k => k_is)))
local macro_rules | `(tactic| walk_at "vals") => `(tactic| first | exact .nil | exact .cons (by first | rfl | exact ⟨_, rfl⟩) (by walk_at "vals"))
local macro_rules | `(tactic| walk_at "kl") => `(tactic| first | exact trivial | (refine ⟨⟨_, _, rfl, rfl⟩, ?_⟩; walk_at "kl"))
local macro_rules | `(tactic| walk_at "sqk") => `(tactic| (refine' Ak.sqT_of ?l ?c ?d ?z ?v; (case l => k_is); (case c => rfl); (case d => rfl); (case z => exact Nat.le_of_ble_eq_true rfl); (case v => walk_at "vals")))
open PySem PySem.W PyProof.Rows in
set_option maxRecDepth 100000 in
set_option maxHeartbeats 0 in
theorem PySem.Challenge.cw_ackbits_k08_loads_holds : PySem.Challenge.rw_ackbits_k08_loads.Holds := by
  w_on; o_law; k_head; (case hw => w_witness2)
  k_fill
  refine LamX.walk_ofTs (l := PySem.Challenge.rw_ackbits_k08_loads) (n := 63) (k := 5) (x := "_law_script") (CX := fun w => L2.CX (PySem.Challenge.rw_ackbits_k08_loads).prog w) rfl (by decide) rfl ⟨rfl, by decide, by decide⟩ (fun w h Y => PySem.W.kIn_of Y) ?F (fun _ _ _ _ _ z => Ak.cx_none z)
  case F =>
    intro w mg fa h Y KX G hmg
    refine' Ak.all_mk KX G hmg ?a_Load ?pg_Load ?hd_Load ?po_Load ?sa_Load ?mk_Load ?kc_Load ?na_Load__room ?na_Load__wait ?na_Load__many ?na_Load__letters ?na_Load__latest ?a_BOUNDS ?lkB ?klB ?nB1 ?nB2 ?nB3 ?nB4 ?nB5 ?nB6 ?sB1 ?sB2 ?sB3 ?sB4 ?sB5 ?sB6 ?F_l_like ?a_l_like ?z_isinstance ?z_bool ?z_str ?z_int ?z_dict ?z_tuple ?z_list ?z_len ?z_range ?F_l_next ?a_l_next ?F_l_dice ?a_l_dice ?F_check_number ?a_check_number ?F_Load___init ?ci_Load___init ?ii_Load___init ?F_Load_put ?ci_Load_put ?ii_Load_put ?F_Load_waits ?z_sorted ?ci_Load_waits ?ii_Load_waits ?F_Load__is_ready ?ci_Load__is_ready ?ii_Load__is_ready ?F_Load_fill ?ci_Load_fill ?ii_Load_fill ?F_Load__free ?ci_Load__free ?ii_Load__free ?F_Load_came ?ci_Load_came ?ii_Load_came ?F_l_fill ?a_l_fill ?F_l_came ?a_l_came ?a_law ?lk_law ?hc_law ?hk_law
    (case a_Load => k_is)
    (case a_BOUNDS => k_is)
    (case a_l_like => k_is)
    (case a_l_next => k_is)
    (case a_l_dice => k_is)
    (case a_check_number => k_is)
    (case a_l_fill => k_is)
    (case a_l_came => k_is)
    (case a_law => k_is)
    (case ci_Load___init => k_is)
    (case ci_Load_put => k_is)
    (case ci_Load_waits => k_is)
    (case ci_Load__is_ready => k_is)
    (case ci_Load_fill => k_is)
    (case ci_Load__free => k_is)
    (case ci_Load_came => k_is)
    (case pg_Load => k_is)
    (case hd_Load => k_is)
    (case po_Load => k_is)
    (case sa_Load => k_is)
    (case mk_Load => k_is)
    (case kc_Load => k_is)
    (case na_Load__room => k_is)
    (case na_Load__wait => k_is)
    (case na_Load__many => k_is)
    (case na_Load__letters => k_is)
    (case na_Load__latest => k_is)
    (case lkB => k_is)
    (case klB => walk_at "kl")
    (case nB1 => k_is)
    (case nB2 => k_is)
    (case nB3 => k_is)
    (case nB4 => k_is)
    (case nB5 => k_is)
    (case nB6 => k_is)
    (case sB1 => walk_at "sqk")
    (case sB2 => walk_at "sqk")
    (case sB3 => walk_at "sqk")
    (case sB4 => walk_at "sqk")
    (case sB5 => walk_at "sqk")
    (case sB6 => walk_at "sqk")
    (case F_l_like => walk_at "fi")
    (case z_isinstance => k_is)
    (case z_bool => k_is)
    (case z_str => k_is)
    (case z_int => k_is)
    (case z_dict => k_is)
    (case z_tuple => k_is)
    (case z_list => k_is)
    (case z_len => k_is)
    (case z_range => k_is)
    (case F_l_next => walk_at "fi")
    (case F_l_dice => walk_at "fi")
    (case F_check_number => walk_at "fi")
    (case F_Load___init => walk_at "fi")
    (case ii_Load___init => k_is)
    (case F_Load_put => walk_at "fi")
    (case ii_Load_put => k_is)
    (case F_Load_waits => walk_at "fi")
    (case z_sorted => k_is)
    (case ii_Load_waits => k_is)
    (case F_Load__is_ready => walk_at "fi")
    (case ii_Load__is_ready => k_is)
    (case F_Load_fill => walk_at "fi")
    (case ii_Load_fill => k_is)
    (case F_Load__free => walk_at "fi")
    (case ii_Load__free => k_is)
    (case F_Load_came => walk_at "fi")
    (case ii_Load_came => k_is)
    (case F_l_fill => walk_at "fi")
    (case F_l_came => walk_at "fi")
    (case lk_law => k_is)
    (case hc_law => k_is)
    (case hk_law => k_is)
#print axioms PySem.Challenge.cw_ackbits_k08_loads_holds
