import PyProof.Rows.All
import Wide.All
import OpenK.AllK
import Wide.FinOn
import HandS.ForMost
import HandS.ForExc
import HandS.TupAny
import HandS.TupMul
import HandS.Style
import HandS.OwnEq
import HandS.IsInst
import HandS.Zip
import KE.DataFind
import PyProof.ReprRoads
import PyProof.ReprLen
import HandS.ExcIs
import HandS.ExcValue
import HandS.Property
import PyProof.Rows.SetFrom
import HandS.Iter
import HandS.Conv
import HandS.DictComp
import KE.KExcSuper
import HandS.ExcInit
import HandS.Nested
import HandS.Text
import HandS.FStr
import HandS.Star
import HandS.Walk
import PyProof.Rows.StrItems
import KE.KExcIs
import HandS.ExcField
import PyProof.StrLawsRepr
import PyProof.StrBlock2
import PyProof.Rows.StrMul
import KE.KxText
import HandS.More
import HandS.Codes
import HandS.NamedTupGet
import PySem.Challenge.RW_afterfall_k10_texts_and_back
set_option Elab.async false
set_option linter.all false
set_option maxRecDepth 100000
namespace Af
open PySem L2

/-! heaps -/
theorem same_new {H : Hp} {p : Addr} {o : HO} (h : H p = none) : Same H (upd H p o) := fun b u e => by
  rw [upd_ne (ne_of_none e h)]
  exact e
theorem nofree {H : Hp} {p q : Addr} {o : HO} (h : H p = some o) (h' : H q = none) : q ≠ p := fun e => by
  rw [e, h] at h'
  cases h'

/-- a new object o -/
def New (o : HO) (H : Hp) (Q : VK) : Prop := ∀ (p : Addr) (H' : Hp), H p = none → Same H H' → H' p = some o → Q (.ref p) H'
theorem New.mk {o : HO} {H : Hp} {Q : VK} (h : New o H Q) : ∀ p, H p = none → Q (.ref p) (upd H p o) := fun p hp => h p _ hp (same_new hp) upd_same
/-- a tuple of xs, new or not -/
def NewT (xs : List V) (H : Hp) (Q : VK) : Prop := ∀ (p : Addr) (H' : Hp), Same H H' → H' p = some (.tup xs) → Q (.ref p) H'

theorem pe_imp {X : Cx} {e : Expr} {t t' : TE} (h : PE X e t) (i : ∀ σ H Q, t' σ H Q → t σ H Q) : PE X e t' := ⟨fun pins s σ H Q I q => h.run pins s σ H Q I (i σ H Q q)⟩
theorem op_imp {X : Cx} {f : Value → Value → Sem Value} {r r' : R2} (h : OpR X f r) (i : ∀ x y H Q, r' x y H Q → r x y H Q) : OpR X f r' :=
  fun pins s σ H x y v u Q I rx ry q => h pins s σ H x y v u Q I rx ry (i x y H Q q)
theorem call_imp {X : Cx} {f : Value} {r r' : List V → Hp → VK → Prop} (h : CallR X f r) (i : ∀ xs H Q, r' xs H Q → r xs H Q) : CallR X f r' :=
  fun pins s σ H xs us Q I rs q => h pins s σ H xs us Q I rs (i xs H Q q)

/-! displays -/
def tTup' (t : TA) : TE := fun σ H Q => t σ H fun xs H1 => xs.length ≤ sizeLine ∧ New (.tup xs) H1 Q
def tLst' (t : TA) : TE := fun σ H Q => t σ H fun xs H1 => xs.length ≤ sizeLine ∧ New (.lst xs) H1 Q
section
variable {X : Cx} {e : Expr} {es : List Expr} {te : TE} {t : TA} {pos : Pos}
theorem pe_tup' {x1 : Nat} (h : PA X es t) : PE X (.Tuple es x1 pos) (tTup' t) := ⟨fun pins s σ H Q I hq =>
  wpAny_Tuple_spliced (thn (h.run pos pins s σ H _ I hq) fun us s1 z => by
    obtain ⟨xs, H1, I1, r, z, q⟩ := z
    refine ⟨by rw [← r.length]; exact z, ?_⟩
    have hf := I1.fresh
    exact ⟨.ref s1.heap.objs.size, upd H1 s1.heap.objs.size (.tup xs),
      I1.laid (t' := s1.toks) (fun b u e => Heap.get?_push_of_some _ e) (Nat.le_refl _) ⟨z, us, r, ⟨_, Heap.get?_push_size _ rfl, rfl, _, rfl⟩⟩, rfl, q.mk _ hf⟩)⟩
theorem pe_lst' (h : PA X es t) : PE X (.List es pos) (tLst' t) := ⟨fun pins s σ H Q I hq =>
  wpAny_List_spliced (thn (h.run pos pins s σ H _ I hq) fun us s1 z => by
    obtain ⟨xs, H1, I1, r, z, q⟩ := z
    refine ⟨by rw [← r.length]; exact z, ?_⟩
    have hf := I1.fresh
    exact ⟨.ref s1.heap.objs.size, upd H1 s1.heap.objs.size (.lst xs),
      I1.laid (t' := s1.toks) (fun b u e => Heap.get?_push_of_some _ e) (Nat.le_refl _) ⟨z, us, 0, r, Heap.get?_push_size _ rfl⟩, rfl, q.mk _ hf⟩)⟩

/-! lists and tuples -/
def rCat' : R2 := fun x y H Q => ∃ l b xs zs, x = .ref l ∧ y = .ref b ∧ H l = some (.lst xs) ∧ H b = some (.lst zs) ∧ xs.length + zs.length ≤ sizeLine ∧ New (.lst (xs ++ zs)) H Q
theorem op_cat' : OpR X (binaryOp .Add) rCat' := op_imp op_cat fun x y H Q h => by
  obtain ⟨l, b, xs, zs, h1, h2, h3, h4, h5, q⟩ := h
  exact ⟨l, b, xs, zs, h1, h2, h3, h4, h5, q.mk⟩
def rCatT' : R2 := fun x y H Q => ∃ a b xs ys, x = .ref a ∧ y = .ref b ∧ H a = some (.tup xs) ∧ H b = some (.tup ys) ∧ xs.length + ys.length ≤ sizeLine ∧ NewT (xs ++ ys) H Q
theorem op_catT' : OpR X (binaryOp .Add) rCatT' := op_imp op_catA fun x y H Q h => by
  obtain ⟨a, b, xs, ys, h1, h2, h3, h4, h5, q⟩ := h
  refine ⟨a, b, xs, ys, h1, h2, SqT.of h3, SqT.of h4, h5, fun e => ?_, fun _ e => ?_, fun _ _ p hp => q p _ (same_new hp) upd_same⟩
  · subst e
    exact q b H (Same.refl H) h4
  · subst e
    exact q a H (Same.refl H) (by rw [List.append_nil]; exact h3)
def rRep' : R2 := fun x y H Q => ∃ l k xs, x = .ref l ∧ y = .int k ∧ H l = some (.lst xs) ∧ 0 ≤ k ∧ k ≤ 1000 ∧ xs.length * k.toNat ≤ sizeLine ∧ New (.lst (List.replicate k.toNat xs).flatten) H Q
theorem op_rep' : OpR X (binaryOp .Mult) rRep' := op_imp op_rep fun x y H Q h => by
  obtain ⟨l, k, xs, h1, h2, h3, h4, h5, h6, q⟩ := h
  exact ⟨l, k, xs, h1, h2, h3, by omega, by omega, h6, q.mk⟩
theorem sl_imp {r r' : V → Option Int → Option Int → Hp → VK → Prop} (h : SlR X r) (i : ∀ x lo hi H Q, r' x lo hi H Q → r x lo hi H Q) : SlR X r' :=
  fun pins s σ H x v vl vu lo hi sl Q I rx hs pl pu q => h pins s σ H x v vl vu lo hi sl Q I rx hs pl pu (i x lo hi H Q q)
def rSlL' : V → Option Int → Option Int → Hp → VK → Prop := fun x lo hi H Q => ∃ a xs, x = .ref a ∧ H a = some (.lst xs) ∧ New (.lst (cutV xs lo hi)) H Q
theorem sl_list' : SlR X rSlL' := sl_imp sl_list fun x lo hi H Q h => by
  obtain ⟨a, xs, h1, h2, q⟩ := h
  exact ⟨a, xs, h1, SqL.of h2, q.mk⟩
theorem cut_all {xs : List V} {lo hi : Option Int} (h : HT.sIx xs.length 0 lo = 0 ∧ HT.sIx xs.length xs.length hi = xs.length) : cutV xs lo hi = xs := by
  unfold cutV
  rw [h.1, h.2]
  simp
def rSlT' : V → Option Int → Option Int → Hp → VK → Prop := fun x lo hi H Q => ∃ a xs, x = .ref a ∧ H a = some (.tup xs) ∧ NewT (cutV xs lo hi) H Q
theorem sl_tup' : SlR X rSlT' := sl_imp sl_tupA fun x lo hi H Q h => by
  obtain ⟨a, xs, h1, h2, q⟩ := h
  refine ⟨a, xs, h1, SqT.of h2, fun w => ?_, fun _ p hp => q p _ (same_new hp) upd_same⟩
  exact q a H (Same.refl H) (by rw [cut_all w]; exact h2)
def Sq (H : Hp) (p : Addr) (ys : List V) : Prop := H p = some (.lst ys) ∨ H p = some (.tup ys)
theorem Sq.or {K : PySem.W.Frag} {H : Hp} {p : Addr} {ys : List V} (h : Sq H p ys) : SqL K H p ys ∨ SqT K H p ys := h.elim (fun h => .inl (SqL.of h)) fun h => .inr (SqT.of h)
def rList' : List V → Hp → VK → Prop := fun xs H Q => ∃ p ys, xs = [.ref p] ∧ Sq H p ys ∧ New (.lst ys) H Q
theorem call_list' : CallR X (.type "list") rList' := call_imp call_list_of fun xs H Q h => by
  obtain ⟨p, ys, h1, h2, q⟩ := h
  exact ⟨p, ys, h1, h2.or, q.mk⟩
def rTuple' : List V → Hp → VK → Prop := fun xs H Q => ∃ p ys, xs = [.ref p] ∧ Sq H p ys ∧ NewT ys H Q
theorem call_tuple' : CallR X (.type "tuple") rTuple' := call_imp call_tuple_of fun xs H Q h => by
  obtain ⟨p, ys, h1, h2, q⟩ := h
  rcases h2 with h2 | h2
  · exact ⟨p, ys, h1, .inl ⟨SqL.of h2, fun l hl => q l _ (same_new hl) upd_same⟩⟩
  · exact ⟨p, ys, h1, .inr ⟨SqT.of h2, q p H (Same.refl H) h2⟩⟩
def rLen' : List V → Hp → VK → Prop := fun xs H Q => ∃ p ys, xs = [.ref p] ∧ Sq H p ys ∧ Q (.int ys.length) H
theorem call_len' : CallR X (.builtin "len") rLen' := call_imp call_len_seq fun xs H Q h => by
  obtain ⟨p, ys, h1, h2, q⟩ := h
  exact ⟨p, ys, h1, h2.or, q⟩
def rLenK (K : PySem.W.Frag) : List V → Hp → VK → Prop := fun xs H Q => ∃ p ys, xs = [.ref p] ∧ (SqL K H p ys ∨ SqT K H p ys) ∧ Q (.int ys.length) H
theorem call_lenK : CallR X (.builtin "len") (rLenK X.K) := call_len_seq
theorem ix_imp {r r' : R2} (h : IxR X r) (i : ∀ x y H Q, r' x y H Q → r x y H Q) : IxR X r' :=
  fun value slice pins s σ H x y v u Q I rx ry q hs => h value slice pins s σ H x y v u Q I rx ry (i x y H Q q) hs
def rIx' : R2 := fun x y H Q => ∃ p xs i v, x = .ref p ∧ y = .int i ∧ Sq H p xs ∧ atI xs i = some v ∧ Q v H
theorem ix_seq' : IxR X rIx' := ix_imp (ix_list.or ix_tup) fun x y H Q h => by
  obtain ⟨p, xs, i, v, h1, h2, h3, h4, q⟩ := h
  rcases h3 with h3 | h3
  · exact .inl ⟨p, xs, i, v, h1, h2, SqL.of h3, h4, q⟩
  · exact .inr ⟨p, xs, i, v, h1, h2, SqT.of h3, h4, q⟩
/-- xs[::-1] -/
def tRev' (te : TE) : TE := fun σ H Q => te σ H fun x H1 => ∃ a xs, x = .ref a ∧ H1 a = some (.lst xs) ∧ New (.lst xs.reverse) H1 Q
end

/-! a def of the text, called -/
structure Cal (P : Program) (w : World) (K : PySem.W.Frag) (mg : Str → Option Value) (base : Heap) (k : Nat) (x : Str) (ps : List Str) (sp : Sp) : Prop where
  ex : ∃ (f : Addr) (fd : FuncData), FnOk P w K mg base CX0 k f fd ps sp ∧ mg x = some (.ref f) ∧ PySem.W.keepIn K (.ref f) = true ∧ Binds K fd ps []
def tCal (sp : Sp) (t : TA) : TE := fun σ H Q => t σ H fun vs H1 => sp vs H1 Q E0
section
variable {X : Cx} {k j : Nat} {x : Str} {ps : List Str} {sp : Sp} {e : Expr} {es : List Expr} {t : TA} {p pos : Pos}
theorem pe_cal (c : Cal X.prog X.w X.K X.mg X.base k x ps sp) (hr : Room j X.A) (ha : PA X (e :: es) t) (hkj : k ≤ j := by decide) (hg : Gl X x := by rfl) (hdb : (x == ("__debug__" : Str)) = false := by decide)
    (he : starEach (e :: es) X.env = (false, eval e X.env) :: starEach es X.env := by rfl) (hpl : (backTo pos (starEach es X.env)).any (·.1) = false := by rfl) :
    PE X (.Call (.Name x p) (e :: es) [] pos) (tCal sp t) := by
  obtain ⟨f, fd, G, m, kp, b⟩ := c.ex
  have := pe_call (pos := pos) (p := p) G (hr.mono hkj) hg m kp b .nil pass0 ha hdb he hpl
  refine ⟨fun pins s σ H Q I h => this.run pins s σ H Q I ?_⟩
  have e1 : tCal sp t = tCall sp [] E0 t := by
    funext σ H Q
    unfold tCal tCall
    simp only [List.append_nil]
  rw [← e1]
  exact h
theorem pe_cal0 (c : Cal X.prog X.w X.K X.mg X.base k x ps sp) (hr : Room j X.A) (hkj : k ≤ j := by decide) (hg : Gl X x := by rfl) (hdb : (x == ("__debug__" : Str)) = false := by decide) :
    PE X (.Call (.Name x p) [] [] pos) (tCal sp tNil) := by
  obtain ⟨f, fd, G, m, kp, b⟩ := c.ex
  exact pe_call0 (pos := pos) (p := p) G (hr.mono hkj) hg m kp b .nil pass0 hdb
end

/-! ways that meet again behind a statement: J tells where -/
def tCut (t : TS) : TS := fun D σ H => ∃ J : L2.St → Hp → Prop, t { D with nx := J } σ H ∧ ∀ σ' H', J σ' H' → D.nx σ' H'
theorem ps_cut {X : Cx} {st : Stmt} {t : TS} (h : PS X st t) : PS X st (tCut t) := ⟨fun pins s σ H D I q => by
  obtain ⟨J, q1, q2⟩ := q
  refine thn (h.run pins s σ H { D with nx := J } I q1) fun f s1 z => ?_
  cases f with
  | next =>
    obtain ⟨σ', H', I', z⟩ := z
    exact ⟨σ', H', I', q2 σ' H' z⟩
  | ret v => exact z
  | brk => exact z
  | cont => exact z⟩

/-! the pen: its list, its cells' list, the cells; how often it was asked (at most m), what is left -/
structure Pn where
  p : Addr
  c : Addr
  ns : List Int
structure Pen (q : Pn) (m : Nat) (H : Hp) : Prop where
  ex : ∃ (i n : Int), H q.p = some (.lst [.ref q.c, .int i, .int n]) ∧ H q.c = some (.lst (q.ns.map V.int)) ∧ q.c ≠ q.p ∧ 0 ≤ i ∧ i ≤ (m : Int) ∧ 0 ≤ n
theorem Pen.same {q : Pn} {m : Nat} {H H' : Hp} (h : Pen q m H) (s : Same H H') : Pen q m H' := by
  obtain ⟨i, n, h1, h2, h3⟩ := h.ex
  exact ⟨i, n, s _ _ h1, s _ _ h2, h3⟩
theorem Pen.mono {q : Pn} {m m' : Nat} {H : Hp} (h : Pen q m H) (l : m ≤ m') : Pen q m' H := by
  obtain ⟨i, n, h1, h2, h3, h4, h5, h6⟩ := h.ex
  exact ⟨i, n, h1, h2, h3, h4, by omega, h6⟩
theorem Pen.lst {q : Pn} {m : Nat} {H : Hp} (h : Pen q m H) : ∃ l, H q.p = some (.lst l) := by
  obtain ⟨i, n, h1, _⟩ := h.ex
  exact ⟨_, h1⟩
theorem Pen.free {q : Pn} {m : Nat} {H : Hp} {a : Addr} (h : Pen q m H) (e : H a = none) : a ≠ q.p ∧ a ≠ q.c := by
  obtain ⟨i, n, h1, h2, _⟩ := h.ex
  refine ⟨fun z => ?_, fun z => ?_⟩
  · rw [z, h1] at e
    cases e
  · rw [z, h2] at e
    cases e
/-- an object that is not the pen's is changed -/
theorem Pen.upd {q : Pn} {m : Nat} {H : Hp} {a : Addr} {o : HO} (h : Pen q m H) (n : a ≠ q.p ∧ a ≠ q.c) : Pen q m (upd H a o) := by
  obtain ⟨i, r, h1, h2, h3⟩ := h.ex
  exact ⟨i, r, by rw [upd_ne n.1.symm]; exact h1, by rw [upd_ne n.2.symm]; exact h2, h3⟩
/-- what stands but for the list at p stands -/
def Kp (p : Addr) (H H' : Hp) : Prop := ∀ a o, (a ≠ p ∨ ∀ l, o ≠ HO.lst l) → H a = some o → H' a = some o
theorem Kp.refl {p : Addr} {H : Hp} : Kp p H H := fun _ _ _ h => h
theorem Kp.trans {p : Addr} {H H1 H2 : Hp} (a : Kp p H H1) (b : Kp p H1 H2) : Kp p H H2 := fun c o n h => b c o n (a c o n h)
theorem Kp.same {p : Addr} {H H' : Hp} (s : Same H H') : Kp p H H' := fun a o _ h => s a o h
theorem Kp.tup {p a : Addr} {H H' : Hp} {xs : List V} (k : Kp p H H') (h : H a = some (.tup xs)) : H' a = some (.tup xs) := k a _ (.inr fun l z => by cases z) h
theorem Kp.lst {p a : Addr} {H H' : Hp} {xs : List V} (k : Kp p H H') (n : a ≠ p) (h : H a = some (.lst xs)) : H' a = some (.lst xs) := k a _ (.inl n) h
theorem Kp.ins {p a C dx : Addr} {H H' : Hp} {fs : List (Str × V)} (k : Kp p H H') (h : H a = some (.ins C dx fs)) : H' a = some (.ins C dx fs) := k a _ (.inr fun l z => by cases z) h
/-- what a call with the pen leaves: all but the pen as it was, a pen again -/
structure Go (q : Pn) (m : Nat) (H H' : Hp) : Prop where
  kp : Kp q.p H H'
  pen : Pen q m H'
theorem Go.refl {q : Pn} {m : Nat} {H : Hp} (h : Pen q m H) : Go q m H H := ⟨Kp.refl, h⟩
theorem Go.trans {q : Pn} {m m' : Nat} {H H1 H2 : Hp} (a : Go q m H H1) (b : Go q m' H1 H2) : Go q m' H H2 := ⟨a.kp.trans b.kp, b.pen⟩
theorem Go.mono {q : Pn} {m m' : Nat} {H H' : Hp} (a : Go q m H H') (l : m ≤ m') : Go q m' H H' := ⟨a.kp, a.pen.mono l⟩
theorem Go.same {q : Pn} {m : Nat} {H H1 H2 : Hp} (a : Go q m H H1) (s : Same H1 H2) : Go q m H H2 := ⟨a.kp.trans (Kp.same s), a.pen.same s⟩
theorem Go.of {q : Pn} {m : Nat} {H H1 : Hp} (h : Pen q m H) (s : Same H H1) : Go q m H H1 := ⟨Kp.same s, h.same s⟩
/-- the pen's own list is stored into -/
theorem Go.at_ {q : Pn} {m m' : Nat} {H : Hp} {l : List V} (h : Pen q m H) (e : Pen q m' (L2.upd H q.p (.lst l))) : Go q m' H (L2.upd H q.p (.lst l)) := ⟨fun a o n k => by
  by_cases z : a = q.p
  · obtain ⟨l', e'⟩ := h.lst
    rcases n with n | n
    · exact absurd z n
    · rw [z, e'] at k
      exact absurd (Option.some.inj k).symm (n l')
  · rw [upd_ne z]
    exact k, e⟩
/-- a list that is new since H is changed -/
theorem Go.mut {q : Pn} {m : Nat} {H H' : Hp} {D : Addr} {o : HO} (h : Pen q m H) (hD : H D = none) {m' : Nat} (g : Go q m' H H') : Go q m' H (L2.upd H' D o) :=
  ⟨fun a u n e => by rw [upd_ne (ne_of_none e hD)]; exact g.kp a u n e, g.pen.upd (h.free hD)⟩
theorem Go.none {q : Pn} {m m' : Nat} {H H' : Hp} {a : Addr} (g : Go q m H H') (h : Pen q m' H) (e : H' a = none) : H a = none := by
  have z := (g.pen.free e).1
  cases k : H a with
  | none => rfl
  | some o =>
    rw [g.kp a o (.inl z) k] at e
    cases e
theorem sz {n : Nat} (h : n ≤ 100000) : n ≤ sizeLine := Nat.le_trans h (by decide)
theorem szr {n : Nat} (h : Nat.ble n 100000 = true := by rfl) : n ≤ sizeLine := sz (Nat.le_of_ble_eq_true h)
theorem szl {n : Nat} (h : n < 100000) : n < sizeLine := Nat.lt_of_lt_of_le h (by decide)

/-! data -/
def ivs (ns : List Int) : List V := ns.map V.int
def dvs (ns : List Int) : List PyData := ns.map PyData.int
theorem dp_ints {K : PySem.W.Frag} {H : Hp} : ∀ ns : List Int, DpAll K H (ivs ns) (dvs ns)
  | [] => .nil
  | n :: ns => .cons (.int n) (dp_ints ns)
theorem lay_ints : ∀ ns : List Int, PyData.canLayAll0 (dvs ns) = true
  | [] => rfl
  | n :: ns => by
    show (PyData.canLay0 (.int n) && PyData.canLayAll0 (dvs ns)) = true
    rw [lay_ints ns]
    rfl
theorem deep_ints : ∀ ns : List Int, PyData.depthAll (dvs ns) = 0
  | [] => rfl
  | n :: ns => by
    show max (PyData.depth (.int n)) (PyData.depthAll (dvs ns)) = 0
    rw [deep_ints ns]
    rfl
theorem eqv_nil (ns : List Int) : PyData.eqv (.list (dvs ns)) (.list []) = ns.isEmpty := by
  cases ns <;> rfl
def rNeNil : R2 := fun x y H Q => ∃ a b ns, x = .ref a ∧ y = .ref b ∧ H a = some (.lst (ivs ns)) ∧ H b = some (.lst []) ∧ Q (.bl (!ns.isEmpty)) H
theorem op_neNil {X : Cx} (hu : X.A.units + 64 < cLine) : OpR X (compareOp .NotEq) rNeNil := op_imp (op_neD hu) fun x y H Q h => by
  obtain ⟨a, b, ns, rfl, rfl, h1, h2, q⟩ := h
  refine ⟨.list (dvs ns), .list [], .lst (SqL.of h1) (dp_ints ns), .lst (SqL.of h2) .nil, ?_, by decide, ?_⟩
  · show (PyData.canLayAll0 (dvs ns) && decide (PyData.depthAll (dvs ns) + 1 ≤ 64)) = true
    rw [lay_ints, deep_ints]
    rfl
  · rw [eqv_nil]
    exact q
end Af

set_option Elab.async false
set_option linter.all false
set_option maxRecDepth 100000
namespace Af
open PySem L2
def top (i : Nat) : Stmt := PySem.Challenge.pw_afterfall_k10_texts_and_back.main.body.getD i (.Pass ⟨0, 0, 0, 0⟩)
/-- names of the built-ins that the text does not hide -/
structure Txt (mg : Str → Option Value) : Prop where
  len : mg "len" = none
  int : mg "int" = none
  list : mg "list" = none
  tuple : mg "tuple" = none
  range : mg "range" = none
  min : mg "min" = none
  all : mg "all" = none
  enumerate : mg "enumerate" = none
  zip : mg "zip" = none
  isinstance : mg "isinstance" = none
  bool : mg "bool" = none
abbrev s_l_pen : Stmt := top 46
abbrev N_l_pen : List Str := ["_law_script"]
theorem sc_l_pen : FnScope N_l_pen ["_law_script"] (defScope s_l_pen) := ⟨rfl, rfl, rfl, by decide +kernel, rfl, by decide +kernel, by decide +kernel⟩

abbrev s_l_next : Stmt := top 47
abbrev N_l_next : List Str := ["_law_pen_here", "_law_index", "_law_cell_here", "_law_some", "_law_more", "_law_high"]
theorem sc_l_next : FnScope N_l_next ["_law_pen_here"] (defScope s_l_next) := ⟨rfl, rfl, rfl, by decide +kernel, rfl, by decide +kernel, by decide +kernel⟩

abbrev s_l_draw : Stmt := top 48
abbrev N_l_draw : List Str := ["_law_pen_here", "_law_under", "_law_digit"]
theorem sc_l_draw : FnScope N_l_draw ["_law_pen_here", "_law_under"] (defScope s_l_draw) := ⟨rfl, rfl, rfl, by decide +kernel, rfl, by decide +kernel, by decide +kernel⟩

def sp_pen (K : PySem.W.Frag) : Sp := fun vs H Q _ => ∃ (a : Addr) (ns : List Int), vs = [.ref a] ∧ SqL K H a (ns.map V.int) ∧ ∀ (q : Pn) H', Same H H' → H q.p = none → H q.c = none → Pen q 0 H' → Q (.ref q.p) H'
def sp_next : Sp := fun vs H Q _ => ∃ (q : Pn) (m : Nat), vs = [.ref q.p] ∧ Pen q m H ∧ m < 1000000000000 ∧ ∀ r H', 0 ≤ r → Go q (m + 1) H H' → Q (.int r) H'
def sp_draw : Sp := fun vs H Q _ => ∃ (q : Pn) (m : Nat) (u : Int), vs = [.ref q.p, .int u] ∧ 0 < u ∧ u < 1073741824 ∧ Pen q m H ∧ m < 1000000000000 ∧ ∀ d H', 0 ≤ d → d < u → Go q (m + 1) H H' → Q (.int d) H'
section
variable {P : Program} {w : World} {K : PySem.W.Frag} {mg : Str → Option Value} {base : Heap}
theorem ok_pen {f : Addr} {fd : FuncData} (F : Fun K "_law_pen" "_law_pen" s_l_pen f fd) (T : Txt mg) : FnOk P w K mg base CX0 1 f fd ["_law_script"] (sp_pen K) := by
  refine F.ok sc_l_pen (fun vs H Q E h => ?_) (fun cdv A outer s H vs Q E hr h => ?_)
  · obtain ⟨a, ns, rfl, _⟩ := h
    rfl
  obtain ⟨a, ns, rfl, hS, k⟩ := h
  refine ⟨_, (pss_one (ps_ret (pe_lst' (pa_cons (pe_callTy call_list' (by rfl) T.list (by decide +kernel) (pa_cons (pe_slice sl_list (pv 0) po_none (po_some pe_int)) pa_nil)) (pa_cons pe_int (pa_cons pe_int pa_nil)))))), ?_⟩
  refine ⟨_, rfl, 60, rfl, a, _, rfl, hS, fun c hc => ?_⟩
  have e1 : cutV (ns.map V.int) none (some 60) = (ns.take 60).map V.int := by
    unfold cutV
    have : HT.sIx (ns.map V.int).length (ns.map V.int).length (some 60) = min 60 (ns.map V.int).length := HT.sIx_nat _ _ 60
    rw [this, HT.sIx_none, List.drop_zero, Nat.sub_zero, ← List.map_take]
    congr 1
    rw [List.length_map]
    rcases Nat.le_total 60 ns.length with z | z
    · rw [Nat.min_eq_left z]
    · rw [Nat.min_eq_right z, List.take_of_length_le z, List.take_of_length_le (Nat.le_refl _)]
  refine ⟨c, _, rfl, .inl upd_same, fun d H1 hd s1 hd1 => ?_⟩
  refine ⟨sz (by show 3 ≤ 100000; decide), fun p H2 hp s2 hp2 => ?_⟩
  refine k ⟨p, d, ns.take 60⟩ H2 ((same_new hc).trans (s1.trans s2)) ?_ ?_ ⟨0, 0, hp2, ?_, ?_, Int.le_refl _, Int.le_refl _, Int.le_refl _⟩
  · exact (same_new hc).free (s1.free hp)
  · exact (same_new hc).free hd
  · rw [← e1]
    exact s2 _ _ hd1
  · intro z
    have z' : d = p := z
    rw [← z', hd1] at hp
    cases hp
theorem mod_in {i n : Int} (h : 0 < n) : 0 ≤ i % n ∧ i % n < n := ⟨Int.emod_nonneg i (by omega), Int.emod_lt_of_pos i h⟩
theorem at_mod {ns : List Int} {i : Int} (h : ns ≠ []) : ∃ z, atI (ivs ns) (i % ((ivs ns).length : Int)) = some (.int z) := by
  have hl : 0 < (ivs ns).length := by
    unfold ivs
    rw [List.length_map]
    exact List.length_pos_iff.mpr h
  obtain ⟨a, b⟩ := mod_in (i := i) (n := ((ivs ns).length : Int)) (by omega)
  obtain ⟨j, hj⟩ := Int.eq_ofNat_of_zero_le a
  rw [hj] at b ⊢
  have hj' : j < ns.length := by
    unfold ivs at b
    rw [List.length_map] at b
    omega
  refine ⟨ns[j], atI_nat ?_⟩
  unfold ivs
  rw [List.getElem?_map, List.getElem?_eq_getElem hj']
  rfl
theorem ok_next {f : Addr} {fd : FuncData} (F : Fun K "_law_next" "_law_next" s_l_next f fd) (T : Txt mg) : FnOk P w K mg base CX0 1 f fd ["_law_pen_here"] sp_next := by
  refine F.ok sc_l_next (fun vs H Q E h => ?_) (fun cdv A outer s H vs Q E hr h => ?_)
  · obtain ⟨a, m, rfl, _⟩ := h
    rfl
  obtain ⟨q, m, rfl, hP, hm, k⟩ := h
  obtain ⟨i, n, h1, h2, hc, hi, him, hn⟩ := hP.ex
  refine ⟨_, (pss_cons (ps_set (i := 1) sc_l_next.nd rfl (Or.inl rfl) (pe_ix ix_seq' (pv 0) pe_int (fun _ _ => rfl)))
    (pss_cons (ps_asg (pe_op op_add (pv 1) pe_int) (pg_sub (pv 0) pe_int set_list))
    (pss_cons (ps_set (i := 2) sc_l_next.nd rfl (Or.inl rfl) (pe_op op_add (pe_op op_mul (pv 1) pe_int) pe_int))
    (pss_cons (ps_cut (ps_if (pt_cmpR (op_neNil hr.units) (pe_ix ix_seq' (pv 0) pe_int (fun _ _ => rfl)) (pe_lst' pa_nil) (nomark _))
      (pss_one (ps_set (i := 2) sc_l_next.nd rfl (Or.inl rfl) (pe_ix ix_seq' (pe_ix ix_seq' (pv 0) pe_int (fun _ _ => rfl)) (pe_op op_mod (pe_callTy call_int1 (by rfl) T.int (by decide +kernel) (pa_cons (pv 1) pa_nil)) (pe_callB call_len' (by rfl) T.len (by decide +kernel) (pa_cons (pe_ix ix_seq' (pv 0) pe_int (fun _ _ => rfl)) pa_nil))) (fun _ _ => rfl))))
      pss_nil))
    (pss_cons (ps_cut (ps_if (PW.pt (pw_and (pt_cmpR op_lt (pv 1) (pe_callB call_len' (by rfl) T.len (by decide +kernel) (pa_cons (pe_ix ix_seq' (pv 0) pe_int (fun _ _ => rfl)) pa_nil)) (nomark _)) (pw_and1 (pt_cmpR op_ge (pv 2) (pe_op op_pow pe_int pe_int) (nomark _)))))
      (pss_one (ps_ret (pv 2)))
      pss_nil))
    (pss_cons (ps_set (i := 3) sc_l_next.nd rfl (Or.inl rfl) (pe_op op_mod (pe_callTy call_int1 (by rfl) T.int (by decide +kernel) (pa_cons (pe_op op_add (pe_op op_add (pe_op op_mod (pe_callTy call_int1 (by rfl) T.int (by decide +kernel) (pa_cons (pv 2) pa_nil)) pe_int) (pe_op op_mul (pv 1) pe_int)) pe_int) pa_nil)) pe_int))
    (pss_cons (ps_set (i := 4) sc_l_next.nd rfl (Or.inl rfl) (pe_op op_mod (pe_callTy call_int1 (by rfl) T.int (by decide +kernel) (pa_cons (pe_op op_add (pe_op op_add (pe_op op_mul (pv 3) (pv 3)) (pe_op op_mul (pv 1) pe_int)) pe_int) pa_nil)) pe_int))
    (pss_cons (ps_set (i := 5) sc_l_next.nd rfl (Or.inl rfl) (pe_op op_mod (pe_callTy call_int1 (by rfl) T.int (by decide +kernel) (pa_cons (pe_op op_add (pe_op op_add (pe_op op_mul (pv 4) (pv 4)) (pv 3)) (pe_op op_mul (pe_op op_mul (pv 1) (pv 1)) pe_int)) pa_nil)) pe_int))
    (pss_one (ps_ret (pe_op op_add (pe_op op_mul (pe_op op_add (pe_op op_mul (pv 5) pe_int) (pv 4)) pe_int) (pv 3)))))))))))), ?_⟩
  -- the count, the cell
  refine ⟨_, rfl, q.p, _, _, _, rfl, rfl, .inl h1, rfl, ?_⟩
  refine ⟨_, rfl, _, _, rfl, rfl, _, rfl, q.p, _, _, _, rfl, rfl, h1, rfl, ?_⟩
  refine ⟨_, rfl, _, _, rfl, rfl, .inr ⟨by decide, by decide⟩, _, _, rfl, rfl, ?_⟩
  have e1 : (upd H q.p (.lst [.ref q.c, .int (i + 1), .int n])) q.p = some (.lst [.ref q.c, .int (i + 1), .int n]) := upd_same
  have g1 : Go q (m + 1) H (upd H q.p (.lst [.ref q.c, .int (i + 1), .int n])) := Go.at_ hP ⟨i + 1, n, upd_same, by rw [upd_ne hc]; exact h2, hc, by omega, by omega, hn⟩
  have e2 : (upd H q.p (.lst [.ref q.c, .int (i + 1), .int n])) q.c = some (.lst (ivs q.ns)) := by rw [upd_ne hc]; exact h2
  refine ⟨fun σ' H' => ∃ cell : Int, σ' = [some (.ref q.p), some (.int i), some (.int cell), none, none, none] ∧ Go q (m + 1) H H' ∧ H' q.p = some (.lst [.ref q.c, .int (i + 1), .int n]) ∧ H' q.c = some (.lst (ivs q.ns)), ?_, ?_⟩
  · refine ⟨_, rfl, q.p, _, _, _, rfl, rfl, .inl e1, rfl, ?_⟩
    refine ⟨sz (by decide), fun e H1 he s1 he1 => ?_⟩
    have k1 := s1 _ _ e1
    have k2 := s1 _ _ e2
    have g2 := g1.same s1
    refine ⟨q.c, e, q.ns, rfl, rfl, k2, he1, _, rfl, ?_⟩
    by_cases hns : q.ns = []
    · have z : (!q.ns.isEmpty) = false := by rw [hns]; rfl
      rw [z]
      exact iteF ⟨_, rfl, g2, k1, k2⟩
    · have z : (!q.ns.isEmpty) = true := by
        cases e : q.ns with
        | nil => exact absurd e hns
        | cons a b => rfl
      rw [z]
      refine iteT ?_
      obtain ⟨v, hv⟩ := at_mod (i := i) hns
      refine ⟨_, rfl, q.p, _, _, _, rfl, rfl, .inl k1, rfl, ?_⟩
      refine ⟨_, rfl, .inl ⟨_, rfl, ?_⟩⟩
      refine ⟨_, rfl, q.p, _, _, _, rfl, rfl, .inl k1, rfl, q.c, _, rfl, .inl k2, ?_⟩
      refine ⟨_, _, rfl, rfl, ?_, q.c, _, _, _, rfl, rfl, .inl k2, hv, ?_⟩
      · unfold ivs
        rw [List.length_map]
        have := List.length_pos_iff.mpr hns
        omega
      · exact ⟨v, rfl, g2, k1, k2⟩
  · rintro σ' H' ⟨cell, rfl, g2, k1, k2⟩
    -- a great cell is taken as it is
    refine ⟨fun σ'' H'' => σ'' = [some (.ref q.p), some (.int i), some (.int cell), none, none, none] ∧ H'' = H', ?_, ?_⟩
    · refine ⟨_, rfl, _, rfl, q.p, _, _, _, rfl, rfl, .inl k1, rfl, q.c, _, rfl, .inl k2, ?_⟩
      refine ⟨_, _, rfl, rfl, _, rfl, ite2 (fun _ => ?_) (fun _ => iteF ⟨rfl, rfl⟩)⟩
      refine ⟨_, rfl, _, _, rfl, rfl, ⟨by decide, by decide, by decide⟩, _, _, rfl, rfl, _, rfl, ite2 (fun q => ?_) (fun _ => ⟨rfl, rfl⟩)⟩
      refine ⟨_, rfl, k cell H' ?_ g2⟩
      have q' : (10 : Int) ^ (18 : Nat) ≤ cell := of_decide_eq_true q
      omega
    · rintro σ'' H'' ⟨rfl, rfl⟩
      have M1 : (0 : Int) < 2147483587 := by decide
      refine ⟨_, rfl, .inl ⟨_, rfl, _, _, rfl, rfl, M1, ?_⟩⟩
      refine ⟨_, rfl, _, _, rfl, rfl, .inr ⟨by decide, by decide⟩, _, _, rfl, rfl, _, _, rfl, rfl, .inl ⟨_, rfl, _, _, rfl, rfl, M1, ?_⟩⟩
      generalize hs : ((cell % 2147483587 + i * 30119 + 89) % 2147483587 : Int) = some1
      have b1 := mod_in (i := cell % 2147483587 + i * 30119 + 89) M1
      rw [hs] at b1
      have M2 : (0 : Int) < 2147483563 := by decide
      refine ⟨_, rfl, _, rfl, _, _, rfl, rfl, .inl ⟨by omega, by omega⟩, _, rfl, _, _, rfl, rfl, .inr ⟨by decide, by decide⟩, _, _, rfl, rfl, _, _, rfl, rfl, .inl ⟨_, rfl, _, _, rfl, rfl, M2, ?_⟩⟩
      generalize hs2 : ((some1 * some1 + i * 70061 + 71) % 2147483563 : Int) = more
      have b2 := mod_in (i := some1 * some1 + i * 70061 + 71) M2
      rw [hs2] at b2
      have M3 : (0 : Int) < 2147483549 := by decide
      refine ⟨_, rfl, _, rfl, _, _, rfl, rfl, .inl ⟨by omega, by omega⟩, _, rfl, _, _, rfl, rfl, _, rfl, _, rfl, _, _, rfl, rfl, .inl ⟨by omega, by omega⟩, _, _, rfl, rfl, .inr ⟨by decide, by decide⟩, _, _, rfl, rfl, .inl ⟨_, rfl, _, _, rfl, rfl, M3, ?_⟩⟩
      generalize hs3 : ((more * more + some1 + i * i * 47) % 2147483549 : Int) = high
      have b3 := mod_in (i := more * more + some1 + i * i * 47) M3
      rw [hs3] at b3
      refine ⟨_, rfl, _, _, rfl, rfl, .inr ⟨by decide, by decide⟩, _, rfl, _, _, rfl, rfl, _, _, rfl, rfl, .inr ⟨by decide, by decide⟩, _, rfl, _, _, rfl, rfl, ?_⟩
      exact k _ H'' (by omega) g2
theorem ok_draw {f : Addr} {fd : FuncData} (F : Fun K "_law_draw" "_law_draw" s_l_draw f fd) (T : Txt mg) (c_l_next : Cal P w K mg base 1 "_law_next" ["_law_pen_here"] sp_next) : FnOk P w K mg base CX0 2 f fd ["_law_pen_here", "_law_under"] sp_draw := by
  refine F.ok sc_l_draw (fun vs H Q E h => ?_) (fun cdv A outer s H vs Q E hr h => ?_)
  · obtain ⟨a, m, u, rfl, _⟩ := h
    rfl
  obtain ⟨q, m, u, rfl, u0, u1, hP, hm, k⟩ := h
  refine ⟨_, (pss_cons (ps_cut (ps_if (pt_cmpR op_lt (pe_ix ix_seq' (pv 0) pe_int (fun _ _ => rfl)) (pv 1) (nomark _))
      (pss_one (ps_asg (pe_cal c_l_next hr (pa_cons (pv 0) pa_nil)) (pg_sub (pv 0) pe_int set_list)))
      pss_nil))
    (pss_cons (ps_set (i := 2) sc_l_draw.nd rfl (Or.inl rfl) (pe_op op_mod (pe_callTy call_int1 (by rfl) T.int (by decide +kernel) (pa_cons (pe_ix ix_seq' (pv 0) pe_int (fun _ _ => rfl)) pa_nil)) (pv 1)))
    (pss_cons (ps_asg (pe_op op_fdiv (pe_ix ix_seq' (pv 0) pe_int (fun _ _ => rfl)) (pv 1)) (pg_sub (pv 0) pe_int set_list))
    (pss_one (ps_ret (pv 2)))))), ?_⟩
  refine ⟨fun σ' H' => ∃ i n, σ' = [some (.ref q.p), some (.int u), none] ∧ Go q (m + 1) H H' ∧ H' q.p = some (.lst [.ref q.c, .int i, .int n]) ∧ H' q.c = some (.lst (ivs q.ns)) ∧ q.c ≠ q.p ∧ 0 ≤ i ∧ i ≤ ((m + 1 : Nat) : Int) ∧ 0 ≤ n, ?_, ?_⟩
  · obtain ⟨i, n, h1, h2, hc, hi, him, hn⟩ := hP.ex
    refine ⟨_, rfl, q.p, _, _, _, rfl, rfl, .inl h1, rfl, _, rfl, _, _, rfl, rfl, _, rfl, ite2 (fun _ => ?_) (fun _ => ?_)⟩
    · refine ⟨_, rfl, q, m, rfl, hP, hm, fun r H1 r0 g1 => ?_⟩
      obtain ⟨i, n, h1, h2, hc, hi, him, hn⟩ := g1.pen.ex
      refine ⟨_, rfl, q.p, _, _, _, rfl, rfl, h1, rfl, i, r, rfl, ?_, upd_same, by rw [upd_ne hc]; exact h2, hc, hi, him, r0⟩
      exact g1.trans (Go.at_ g1.pen ⟨i, r, upd_same, by rw [upd_ne hc]; exact h2, hc, hi, him, r0⟩)
    · exact ⟨i, n, rfl, (Go.refl hP).mono (Nat.le_succ m), h1, h2, hc, hi, by omega, hn⟩
  · rintro σ' H' ⟨i, n, rfl, g1, h1, h2, hc, hi, him, hn⟩
    refine ⟨_, rfl, q.p, _, _, _, rfl, rfl, .inl h1, rfl, .inl ⟨_, rfl, _, rfl, _, _, rfl, rfl, u0, ?_⟩⟩
    refine ⟨_, rfl, q.p, _, _, _, rfl, rfl, .inl h1, rfl, _, rfl, _, _, rfl, rfl, ⟨u0, u1⟩, _, rfl, q.p, _, _, _, rfl, rfl, h1, rfl, ?_⟩
    obtain ⟨b0, b1⟩ := mod_in (i := n) u0
    refine ⟨_, rfl, k _ _ b0 b1 (g1.trans (Go.at_ g1.pen ⟨i, n / u, upd_same, by rw [upd_ne hc]; exact h2, hc, hi, him, Int.ediv_nonneg hn (by omega)⟩))⟩
end
end Af

set_option Elab.async false
set_option linter.all false
set_option maxRecDepth 100000
namespace Af
open PySem L2
theorem same_mut {H H' : Hp} {D : Addr} {o : HO} (s : Same H H') (h : H D = none) : Same H (upd H' D o) := fun a u e => by
  rw [upd_ne (ne_of_none e h)]
  exact s a u e
/-! data: a step, a plan's parts -/
abbrev Stp := Option (Int × List Int)
def StepV (H : Hp) : V → Stp → Prop
  | x, none => x = .non
  | x, some (f, ws) => ∃ a b, x = .ref a ∧ H a = some (.tup [.int f, .ref b]) ∧ H b = some (.tup (ivs ws))
structure Pl where
  cs : List Int
  w : Int
  sts : List Stp
structure PlanV (p : Addr) (H : Hp) (v : V) (pl : Pl) : Prop where
  ex : ∃ a ca sa xs, v = .ref a ∧ H a = some (.tup [.ref ca, .int pl.w, .ref sa]) ∧ H ca = some (.tup (ivs pl.cs)) ∧ sa ≠ p ∧ H sa = some (.lst xs) ∧ Paired (StepV H) xs pl.sts
theorem StepV.kp {p : Addr} {H H' : Hp} (k : Kp p H H') : ∀ {x : V} {st : Stp}, StepV H x st → StepV H' x st
  | x, none, h => h
  | x, some (f, ws), h => by
    obtain ⟨a, b, e, h1, h2⟩ := h
    exact ⟨a, b, e, k.tup h1, k.tup h2⟩
theorem steps_kp {p : Addr} {H H' : Hp} {xs : List V} {sts : List Stp} (k : Kp p H H') (h : Paired (StepV H) xs sts) : Paired (StepV H') xs sts := L2.Paired.mapP h fun _ _ z => z.kp k
theorem steps_same {H H' : Hp} {xs : List V} {sts : List Stp} (k : Same H H') (h : Paired (StepV H) xs sts) : Paired (StepV H') xs sts := steps_kp (p := 0) (Kp.same k) h
theorem PlanV.kp {p : Addr} {H H' : Hp} {v : V} {pl : Pl} (k : Kp p H H') (h : PlanV p H v pl) : PlanV p H' v pl := by
  obtain ⟨a, ca, sa, xs, e, h1, h2, n, h3, h4⟩ := h.ex
  exact ⟨a, ca, sa, xs, e, k.tup h1, k.tup h2, n, k.lst n h3, steps_kp k h4⟩
theorem PlanV.same {p : Addr} {H H' : Hp} {v : V} {pl : Pl} (k : Same H H') (h : PlanV p H v pl) : PlanV p H' v pl := h.kp (Kp.same k)
theorem paired_app {α β : Type} {F : α → β → Prop} : ∀ {a c : List α} {b d : List β}, Paired F a b → Paired F c d → Paired F (a ++ c) (b ++ d)
  | _, _, _, _, .nil, h => h
  | _, _, _, _, .cons r t, h => .cons r (paired_app t h)
theorem paired_take {α β : Type} {F : α → β → Prop} : ∀ {a : List α} {b : List β} (n : Nat), Paired F a b → Paired F (a.take n) (b.take n)
  | _, _, 0, _ => by
    rw [List.take_zero, List.take_zero]
    exact .nil
  | _, _, n + 1, .nil => .nil
  | _, _, n + 1, .cons r t => .cons r (paired_take n t)
theorem paired_drop {α β : Type} {F : α → β → Prop} : ∀ {a : List α} {b : List β} (n : Nat), Paired F a b → Paired F (a.drop n) (b.drop n)
  | _, _, 0, h => h
  | _, _, n + 1, .nil => .nil
  | _, _, n + 1, .cons r t => paired_drop n t
theorem paired_rev {α β : Type} {F : α → β → Prop} : ∀ {a : List α} {b : List β}, Paired F a b → Paired F a.reverse b.reverse
  | _, _, .nil => .nil
  | _, _, .cons r t => by
    rw [List.reverse_cons, List.reverse_cons]
    exact paired_app (paired_rev t) (.cons r .nil)
theorem paired_get {α β : Type} {F : α → β → Prop} : ∀ {a : List α} {b : List β} {i : Nat} {x : α}, Paired F a b → a[i]? = some x → ∃ y, b[i]? = some y ∧ F x y
  | _, _, _, _, .nil, e => by simp at e
  | _, _, 0, x, .cons r _, e => by
    simp at e
    subst e
    exact ⟨_, rfl, r⟩
  | _, _, i + 1, x, .cons _ t, e => by
    obtain ⟨y, h1, h2⟩ := paired_get (i := i) (x := x) t (by simpa using e)
    exact ⟨y, by simpa using h1, h2⟩
theorem paired_len {α β : Type} {F : α → β → Prop} : ∀ {a : List α} {b : List β}, Paired F a b → a.length = b.length
  | _, _, .nil => rfl
  | _, _, .cons _ t => by
    rw [List.length_cons, List.length_cons, paired_len t]
theorem ivs_len (ns : List Int) : (ivs ns).length = ns.length := List.length_map ..
theorem ivs_get {ns : List Int} {i : Nat} (h : i < ns.length) : (ivs ns)[i]? = some (.int ns[i]) := by
  unfold ivs
  rw [List.getElem?_map, List.getElem?_eq_getElem h]
  rfl
/-- a step of a store of n cells -/
def OkS (n : Nat) : Stp → Prop
  | none => True
  | some (f, ws) => 0 ≤ f ∧ ws ≠ [] ∧ f + (ws.length : Int) ≤ (n : Int) ∧ ∀ z ∈ ws, 0 ≤ z ∧ z < 8
def stl : Stp → Nat
  | none => 0
  | some (_, ws) => ws.length
def tot (l : List Stp) : Nat := (l.map stl).sum
theorem tot_nil : tot [] = 0 := rfl
theorem tot_cons (a : Stp) (b : List Stp) : tot (a :: b) = stl a + tot b := by
  unfold tot
  rw [List.map_cons, List.sum_cons]
theorem tot_app (a b : List Stp) : tot (a ++ b) = tot a + tot b := by
  unfold tot
  rw [List.map_append, List.sum_append]
theorem tot_one (a : Stp) : tot [a] = stl a := by
  rw [tot_cons, tot_nil, Nat.add_zero]
theorem tot_take_drop (l : List Stp) (n : Nat) : tot (l.take n) + tot (l.drop n) = tot l := by
  rw [← tot_app, List.take_append_drop]
theorem tot_rev (l : List Stp) : tot l.reverse = tot l := by
  induction l with
  | nil => rfl
  | cons a l ih => rw [List.reverse_cons, tot_app, tot_one, tot_cons, ih, Nat.add_comm]
/-- a plan that the program takes, with room to spare for s steps and t cells of writes -/
structure Good (s t : Nat) (pl : Pl) : Prop where
  c1 : 1 ≤ pl.cs.length
  c24 : pl.cs.length ≤ 24
  cb : ∀ z ∈ pl.cs, 0 ≤ z ∧ z < 8
  w1 : 1 ≤ pl.w
  w24 : pl.w ≤ 24
  st : ∀ x ∈ pl.sts, OkS pl.cs.length x
  sl : pl.sts.length ≤ s
  tl : tot pl.sts ≤ t
theorem Good.mono {s t s' t' : Nat} {pl : Pl} (g : Good s t pl) (h1 : s ≤ s') (h2 : t ≤ t') : Good s' t' pl := ⟨g.c1, g.c24, g.cb, g.w1, g.w24, g.st, Nat.le_trans g.sl h1, Nat.le_trans g.tl h2⟩
/-! a comprehension whose element is a draw -/
theorem lc_draws {te : TE} {j : Nat} {vs : List Nat} {σ : L2.St} {q : Pn} {m n : Nat} {u : Int} {H : Hp} {R : Addr → Hp → Prop} (hP : Pen q m H) (hn : n ≤ 10000)
    (hw : ∀ x, wipe ((wipe σ vs).set j (some x)) vs = wipe σ vs)
    (hte : ∀ (x : V) (H1 : Hp) (Q : VK) (m1 : Nat), Pen q m1 H1 → m1 < m + n → (∀ d H', 0 ≤ d → d < u → Go q (m1 + 1) H1 H' → Q (.int d) H') → te ((wipe σ vs).set j (some x)) H1 Q)
    (k : ∀ D H' ns, H D = none → Go q (m + n) H H' → H' D = some (.lst (ivs ns)) → ns.length = n → (∀ z ∈ ns, 0 ≤ z ∧ z < u) → R D H') :
    ∀ D, H D = none → ∃ W : Nat → Nat → Hp → Prop, (∃ m, W 0 m (upd H D (.lst []))) ∧ ∀ i m H, W i m H →
      ((Itr 0 n).stop i H ∧ R D H) ∨ ((Itr 0 n).go i H ∧ ∃ Nx : Hp → Prop, (∀ H', Nx H' → ∃ m', m' < m ∧ W (i + 1) m' H') ∧ ∀ x H', (Itr 0 n).yld i H x H' → (gName j) x (wipe σ vs) H' fun σ2 H2 => wipe σ2 vs = wipe σ vs ∧ tYes σ2 H2 fun b H3 =>
        if b = true then te σ2 H3 fun y H4 => ∃ acc, H4 D = some (.lst acc) ∧ acc.length < sizeLine ∧ Nx (upd H4 D (.lst (acc ++ [y]))) else Nx H3) := by
  intro D hD
  refine lc_range (lo := 0) (n := n) (g := gName j) (tt := tYes) (te := te) (vs := vs) (σ := σ) (H1 := H) (D := D) (Qd := fun H' => R D H')
    (fun i H' => ∃ ns, Go q (m + i) H H' ∧ H' D = some (.lst (ivs ns)) ∧ ns.length = i ∧ ∀ z ∈ ns, 0 ≤ z ∧ z < u) ?_ ?_ ?_
  · exact ⟨[], (Go.of hP (same_new hD)), upd_same, rfl, fun z hz => by simp at hz⟩
  · rintro i H' hi ⟨ns, g, hL, hl, hb⟩
    refine ⟨hw _, ?_⟩
    refine hte _ _ _ _ g.pen (by omega) fun d H'' d0 d1 g2 => ?_
    have hD2 : H'' D = some (.lst (ivs ns)) := g2.kp.lst (hP.free hD).1 hL
    refine ⟨_, hD2, by rw [ivs_len, hl]; exact szl (by omega), ns ++ [d], ?_, ?_, by rw [List.length_append, hl]; rfl, fun z hz => ?_⟩
    · exact Go.mut hP hD ((g.trans g2).mono (by omega))
    · rw [upd_same]
      unfold ivs
      rw [List.map_append]
      rfl
    · rcases List.mem_append.mp hz with hz | hz
      · exact hb z hz
      · rw [List.mem_singleton.mp hz]
        exact ⟨d0, d1⟩
  · rintro H' ⟨ns, g, hL, hl, hb⟩
    exact k D H' ns hD g hL hl hb
end Af

set_option Elab.async false
set_option linter.all false
set_option maxRecDepth 100000
namespace Af
open PySem L2
/-! things of any kind, and what they are -/
def tyNames : List String := ["NoneType", "bool", "int", "str", "list", "tuple", "dict"]
def clNames : List String := ["int", "bool", "tuple", "list", "dict", "str"]
def isB (n c : String) : Bool := n == c || (n == "bool" && c == "int")
theorem kit_all : ∀ n ∈ tyNames, ∀ c ∈ clNames, kitB n c = some (isB n c) := by decide +kernel
structure Ty (K : PySem.W.Frag) (H : Hp) (x : V) (n : String) : Prop where
  ty : TyOf K H x (.type n)
  mem : n ∈ tyNames
  nf : ∀ a o u, x = .ref a → H a ≠ some (.frz o u)
def rIsi' (K : PySem.W.Frag) : List V → Hp → VK → Prop := fun xs H Q => ∃ x n c, xs = [x, .ty c] ∧ Ty K H x n ∧ c ∈ clNames ∧ Q (.bl (isB n c)) H
theorem call_isi' {X : Cx} : CallR X (.builtin "isinstance") (rIsi' X.K) := call_imp call_isi fun xs H Q h => by
  obtain ⟨x, n, c, e, t, hc, q⟩ := h
  exact ⟨x, .ty c, _, _, _, e, .ty c, .base t.ty, kit_ty (kit_all n t.mem c hc), q⟩
theorem tyof_at {K : PySem.W.Frag} {H : Hp} {a : Addr} {n : String} (t : TyOf K H (.ref a) (.type n)) : ∃ o, H a = some o := by
  cases t with
  | lst e => exact ⟨_, e⟩
  | frz e => exact ⟨_, e⟩
  | tup e => exact ⟨_, e⟩
  | dK e => exact ⟨_, e⟩
  | dT e => exact ⟨_, e⟩
theorem Ty.same {K : PySem.W.Frag} {H H' : Hp} {x : V} {n : String} (s : Same H H') (t : Ty K H x n) : Ty K H' x n := by
  obtain ⟨t, m, nf⟩ := t
  refine ⟨?_, m, fun a o u e z => ?_⟩
  · cases t with
    | non => exact .non
    | bl b => exact .bl b
    | int i => exact .int i
    | str z => exact .str z
    | lst e => exact .lst (s _ _ e)
    | frz e => exact .frz (s _ _ e)
    | tup e => exact .tup (s _ _ e)
    | dK e => exact .dK (s _ _ e)
    | dT e => exact .dT (s _ _ e)
    | flt z => exact .flt z
  · subst e
    obtain ⟨o', ho⟩ := tyof_at t
    rw [s _ _ ho] at z
    exact nf a o u rfl (ho.trans z)
theorem ty_int {K : PySem.W.Frag} {H : Hp} {x : V} {n : String} (t : Ty K H x n) (h : n = "int") : ∃ i, x = .int i := by
  obtain ⟨t, _, nf⟩ := t
  generalize e : Value.type n = v at t
  subst h
  cases t with
  | int i => exact ⟨i, rfl⟩
  | ins => cases e
  | _ => exact absurd (by injection e) (by decide)
theorem ty_tup {K : PySem.W.Frag} {H : Hp} {x : V} {n : String} (t : Ty K H x n) (h : n = "tuple") : ∃ a xs, x = .ref a ∧ H a = some (.tup xs) := by
  obtain ⟨t, _, nf⟩ := t
  generalize e : Value.type n = v at t
  subst h
  cases t with
  | tup z => exact ⟨_, _, rfl, z⟩
  | ins => cases e
  | _ => exact absurd (by injection e) (by decide)
theorem ty_lst {K : PySem.W.Frag} {H : Hp} {x : V} {n : String} (t : Ty K H x n) (h : n = "list") : ∃ a xs, x = .ref a ∧ H a = some (.lst xs) := by
  obtain ⟨t, _, nf⟩ := t
  generalize e : Value.type n = v at t
  subst h
  cases t with
  | lst z => exact ⟨_, _, rfl, z⟩
  | frz z => exact absurd z (nf _ _ _ rfl)
  | ins => cases e
  | _ => exact absurd (by injection e) (by decide)
theorem no_int {K : PySem.W.Frag} {H : Hp} {x : V} {n : String} (t : Ty K H x n) (h : n ≠ "int") : ∀ i, x ≠ .int i := fun i e => by
  subst e
  cases t.ty with
  | int i => exact h rfl
theorem no_tup {K : PySem.W.Frag} {H : Hp} {x : V} {n : String} (t : Ty K H x n) (h : n ≠ "tuple") : ∀ a xs, x = .ref a → H a ≠ some (.tup xs) := fun a xs e z => by
  subst e
  cases t.ty with
  | tup e => exact h rfl
  | lst e => rw [e] at z; cases z
  | frz e => rw [e] at z; cases z
  | dK e => rw [e] at z; cases z
  | dT e => rw [e] at z; cases z
/-- a thing whose parts are things, to a depth -/
def Th (K : PySem.W.Frag) (H : Hp) : Nat → V → Prop
  | 0, x => ∃ n, Ty K H x n
  | d + 1, x => (∃ n, Ty K H x n) ∧ ∀ a xs, x = .ref a → (H a = some (.tup xs) ∨ H a = some (.lst xs)) → xs.length ≤ 100000 ∧ ∀ y ∈ xs, Th K H d y
theorem Th.ty {K : PySem.W.Frag} {H : Hp} : ∀ {d : Nat} {x : V}, Th K H d x → ∃ n, Ty K H x n
  | 0, _, h => h
  | _ + 1, _, h => h.1
theorem ty_at {K : PySem.W.Frag} {H : Hp} {a : Addr} {n : String} (t : Ty K H (.ref a) n) : ∃ o, H a = some o := tyof_at t.ty
theorem Th.same {K : PySem.W.Frag} {H H' : Hp} (s : Same H H') : ∀ {d : Nat} {x : V}, Th K H d x → Th K H' d x
  | 0, _, ⟨n, h⟩ => ⟨n, h.same s⟩
  | d + 1, x, ⟨⟨n, h⟩, k⟩ => ⟨⟨n, h.same s⟩, fun a xs e z => by
    subst e
    obtain ⟨o, ho⟩ := ty_at h
    have e' := s _ _ ho
    have z' : H a = some (.tup xs) ∨ H a = some (.lst xs) := by
      rcases z with z | z
      · rw [e'] at z
        rw [ho]
        exact .inl z
      · rw [e'] at z
        rw [ho]
        exact .inr z
    exact ⟨(k a xs rfl z').1, fun y hy => ((k a xs rfl z').2 y hy).same s⟩⟩
theorem th_int {K : PySem.W.Frag} {H : Hp} {i : Int} : ∀ {d : Nat}, Th K H d (.int i)
  | 0 => ⟨"int", .int i, by decide, fun _ _ _ e => by cases e⟩
  | _ + 1 => ⟨⟨"int", .int i, by decide, fun _ _ _ e => by cases e⟩, fun a xs e => by cases e⟩
theorem th_non {K : PySem.W.Frag} {H : Hp} : ∀ {d : Nat}, Th K H d .non
  | 0 => ⟨"NoneType", .non, by decide, fun _ _ _ e => by cases e⟩
  | _ + 1 => ⟨⟨"NoneType", .non, by decide, fun _ _ _ e => by cases e⟩, fun a xs e => by cases e⟩
theorem th_tup {K : PySem.W.Frag} {H : Hp} {a : Addr} {xs : List V} (e : H a = some (.tup xs)) (hl : xs.length ≤ 100000) : ∀ {d : Nat}, (∀ y ∈ xs, Th K H d y) → Th K H (d + 1) (.ref a) := fun {d} k =>
  ⟨⟨"tuple", .tup e, by decide, fun b o u z h => by cases z; rw [e] at h; cases h⟩, fun b ys z h => by
    cases z
    rcases h with h | h
    · rw [e] at h
      cases h
      exact ⟨hl, k⟩
    · rw [e] at h
      cases h⟩
theorem th_lst {K : PySem.W.Frag} {H : Hp} {a : Addr} {xs : List V} (e : H a = some (.lst xs)) (hl : xs.length ≤ 100000) : ∀ {d : Nat}, (∀ y ∈ xs, Th K H d y) → Th K H (d + 1) (.ref a) := fun {d} k =>
  ⟨⟨"list", .lst e, by decide, fun b o u z h => by cases z; rw [e] at h; cases h⟩, fun b ys z h => by
    cases z
    rcases h with h | h
    · rw [e] at h
      cases h
    · rw [e] at h
      cases h
      exact ⟨hl, k⟩⟩
/-! what the program's questions answer -/
def idxB (m : Int) : V → Bool
  | .int i => decide (0 ≤ i) && decide (i < m)
  | _ => false
def widthB : V → Bool
  | .int i => decide (1 ≤ i) && decide (i ≤ 24)
  | _ => false
def worthsB (H : Hp) : V → Bool
  | .ref a => match H a with
    | some (.tup xs) => !xs.isEmpty && xs.all (idxB 8)
    | _ => false
  | _ => false
def lenB (H : Hp) : V → Nat
  | .ref a => match H a with
    | some (.tup xs) => xs.length
    | some (.lst xs) => xs.length
    | _ => 0
  | _ => 0
def contentB (H : Hp) (x : V) : Bool := worthsB H x && decide (lenB H x ≤ 24)
def addB (m : Int) (n : Nat) : V → Bool
  | .int i => decide (i + (n : Int) ≤ m)
  | _ => false
def stepB (H : Hp) (m : Int) : V → Bool
  | .non => true
  | .ref a => match H a with
    | some (.tup [f, ws]) => idxB m f && worthsB H ws && addB m (lenB H ws) f
    | _ => false
  | _ => false
def stepsB (H : Hp) (m : Int) : V → Bool
  | .ref a => match H a with
    | some (.lst xs) => xs.all (stepB H m)
    | _ => false
  | _ => false
theorem worths_at {H : Hp} {a : Addr} {xs : List V} (h : H a = some (.tup xs)) : worthsB H (.ref a) = (!xs.isEmpty && xs.all (idxB 8)) := by
  unfold worthsB
  simp only [h]
theorem len_at {H : Hp} {a : Addr} {xs : List V} (h : H a = some (.tup xs)) : lenB H (.ref a) = xs.length := by
  unfold lenB
  simp only [h]
theorem worths_not {K : PySem.W.Frag} {H : Hp} {x : V} {n : String} (t : Ty K H x n) (h : n ≠ "tuple") : worthsB H x = false := by
  have z := no_tup t h
  cases x with
  | ref a =>
    cases e : H a with
    | none => simp only [worthsB, e]
    | some o =>
      cases o with
      | tup xs => exact absurd e (z a xs rfl)
      | _ => simp only [worthsB, e]
  | _ => rfl
theorem worths_same {K : PySem.W.Frag} {H H' : Hp} {x : V} {n : String} (t : Ty K H x n) (s : Same H H') : worthsB H' x = worthsB H x := by
  cases x with
  | ref a =>
    obtain ⟨o, ho⟩ := ty_at t
    simp only [worthsB, ho, s _ _ ho]
  | _ => rfl
theorem len_same {K : PySem.W.Frag} {H H' : Hp} {x : V} {n : String} (t : Ty K H x n) (s : Same H H') : lenB H' x = lenB H x := by
  cases x with
  | ref a =>
    obtain ⟨o, ho⟩ := ty_at t
    simp only [lenB, ho, s _ _ ho]
  | _ => rfl
theorem worths_true {H : Hp} {x : V} (h : worthsB H x = true) : ∃ a xs, x = .ref a ∧ H a = some (.tup xs) ∧ xs ≠ [] ∧ xs.all (idxB 8) = true := by
  cases x with
  | ref a =>
    cases e : H a with
    | none => simp only [worthsB, e] at h; cases h
    | some o =>
      cases o with
      | tup xs =>
        rw [worths_at e, Bool.and_eq_true] at h
        refine ⟨a, xs, rfl, e, fun z => ?_, h.2⟩
        rw [z] at h
        exact absurd h.1 (by decide)
      | _ => simp only [worthsB, e] at h; cases h
  | _ => cases h
theorem int_one : ∀ n ∈ tyNames, isB n "int" = true → (!isB n "bool") = decide (n = "int") := by decide +kernel
theorem int_two : ∀ n ∈ tyNames, isB n "int" = false → decide (n = "int") = false := by decide +kernel
theorem tup_not : ∀ n ∈ tyNames, n ≠ "tuple" → isB n "tuple" = false := by decide +kernel
theorem lst_not : ∀ n ∈ tyNames, n ≠ "list" → isB n "list" = false := by decide +kernel
theorem idx_not {m : Int} {x : V} (h : ∀ i, x ≠ .int i) : idxB m x = false := by
  cases x with
  | int i => exact absurd rfl (h i)
  | _ => rfl
theorem width_not {x : V} (h : ∀ i, x ≠ .int i) : widthB x = false := by
  cases x with
  | int i => exact absurd rfl (h i)
  | _ => rfl
theorem ty_is_lst {K : PySem.W.Frag} {H : Hp} {a : Addr} {n : String} {xs : List V} (t : Ty K H (.ref a) n) (e : H a = some (.lst xs)) : n = "list" := by
  obtain ⟨t, m, nf⟩ := t
  cases t with
  | lst z => rfl
  | frz z => exact absurd z (nf _ _ _ rfl)
  | tup z => rw [e] at z; cases z
  | dK z => rw [e] at z; cases z
  | dT z => rw [e] at z; cases z
theorem step_same {K : PySem.W.Frag} {H H' : Hp} {x : V} {m : Int} (th : Th K H 2 x) (s : Same H H') : stepB H' m x = stepB H m x := by
  cases x with
  | ref a =>
    obtain ⟨n, t⟩ := th.ty
    obtain ⟨o, ho⟩ := ty_at t
    have ho' := s _ _ ho
    cases o with
    | tup xs =>
      match xs, ho, ho' with
      | [], ho, ho' => simp only [stepB, ho, ho']
      | [_], ho, ho' => simp only [stepB, ho, ho']
      | [f, ws], ho, ho' =>
        obtain ⟨n2, t2⟩ := ((th.2 a _ rfl (.inl ho)).2 ws (List.mem_cons_of_mem _ List.mem_cons_self)).ty
        simp only [stepB, ho, ho']
        rw [worths_same t2 s, len_same t2 s]
      | _ :: _ :: _ :: _, ho, ho' => simp only [stepB, ho, ho']
    | _ => simp only [stepB, ho, ho']
  | _ => rfl
end Af

set_option Elab.async false
set_option linter.all false
set_option maxRecDepth 100000
namespace Af
open PySem L2
/-! a comprehension over zip, a for over enumerate, lists that stand still -/
theorem lc_zip {K : PySem.W.Frag} {a b : Addr} {xs ys : List V} {g : TG} {tt : TT} {te : TE} {vs : List Nat} {σ : L2.St} {H1 : Hp} {D : Addr} {Qd : Hp → Prop} (hl : xs.length = ys.length) (Pv : Nat → Hp → Prop)
    (h0 : Pv 0 (upd H1 D (.lst [])))
    (hq : ∀ i H, i ≤ xs.length → Pv i H → SqL K H a xs ∧ SqL K H b ys)
    (hs : ∀ (i : Nat) (x y : V) (T : Addr) (H : Hp), xs[i]? = some x → ys[i]? = some y → Pv i H → H T = none → g (.ref T) (wipe σ vs) (upd H T (.tup [x, y])) fun σ2 H2 => wipe σ2 vs = wipe σ vs ∧ tt σ2 H2 fun b H3 =>
      if b = true then te σ2 H3 fun y H4 => ∃ acc, H4 D = some (.lst acc) ∧ acc.length < sizeLine ∧ Pv (i + 1) (upd H4 D (.lst (acc ++ [y]))) else Pv (i + 1) H3)
    (hd : ∀ H, Pv xs.length H → Qd H) :
    ∃ W : Nat → Nat → Hp → Prop, (∃ m, W 0 m (upd H1 D (.lst []))) ∧ ∀ i m H, W i m H →
      ((Itz K a b).stop i H ∧ Qd H) ∨ ((Itz K a b).go i H ∧ ∃ Nx : Hp → Prop, (∀ H', Nx H' → ∃ m', m' < m ∧ W (i + 1) m' H') ∧ ∀ x H', (Itz K a b).yld i H x H' → g x (wipe σ vs) H' fun σ2 H2 => wipe σ2 vs = wipe σ vs ∧ tt σ2 H2 fun b H3 =>
        if b = true then te σ2 H3 fun y H4 => ∃ acc, H4 D = some (.lst acc) ∧ acc.length < sizeLine ∧ Nx (upd H4 D (.lst (acc ++ [y]))) else Nx H3) := by
  refine ⟨fun i m H => m = xs.length - i ∧ i ≤ xs.length ∧ Pv i H, ⟨xs.length, rfl, Nat.zero_le _, h0⟩, fun i m H z => ?_⟩
  obtain ⟨em, hi, p⟩ := z
  subst em
  obtain ⟨q1, q2⟩ := hq i H hi p
  by_cases hlt : i < xs.length
  · have hlt2 : i < ys.length := hl ▸ hlt
    refine .inr ⟨⟨xs, ys, xs[i], ys[i], q1, q2, List.getElem?_eq_getElem hlt, List.getElem?_eq_getElem hlt2⟩, Pv (i + 1), fun H' p' => ⟨xs.length - (i + 1), by omega, rfl, hlt, p'⟩, fun v H' y => ?_⟩
    obtain ⟨T, x, y', e1, hT, e2, hx, hy⟩ := y
    subst e1 e2
    exact hs i x y' T H (hx xs q1) (hy ys q2) p hT
  · have e : i = xs.length := Nat.le_antisymm hi (Nat.le_of_not_lt hlt)
    subst e
    exact .inl ⟨⟨xs, ys, q1, q2, .inl (Nat.le_refl _)⟩, hd H p⟩
theorem for_enum {K : PySem.W.Frag} {a : Addr} {xs : List V} {g : TG} {tb : TS} {D : Ends} {σ : L2.St} {H : Hp} (Pv : Nat → L2.St → Hp → Prop) (h0 : Pv 0 σ H)
    (hq : ∀ i σ H, i ≤ xs.length → Pv i σ H → SqL K H a xs)
    (hs : ∀ (i : Nat) (x : V) (T : Addr) (σ : L2.St) (H : Hp), xs[i]? = some x → Pv i σ H → H T = none → g (.ref T) σ (upd H T (.tup [.int (i : Nat), x])) fun σ2 H2 => tb { D with nx := Pv (i + 1), ct := Pv (i + 1), bk := D.nx } σ2 H2)
    (hd : ∀ σ H, Pv xs.length σ H → D.nx σ H) :
    ∃ W : Nat → Nat → L2.St → Hp → Prop, (∃ m, W 0 m σ H) ∧ ∀ i m σ H, W i m σ H →
      ((Ite K a).stop i H ∧ D.nx σ H) ∨ ((Ite K a).go i H ∧ ∃ N : L2.St → Hp → Prop, (∀ σ' H', N σ' H' → ∃ m', m' < m ∧ W (i + 1) m' σ' H') ∧ ∀ v H', (Ite K a).yld i H v H' → g v σ H' fun σ2 H2 => tb { D with nx := N, ct := N, bk := D.nx } σ2 H2) := by
  refine ⟨fun i m σ H => m = xs.length - i ∧ i ≤ xs.length ∧ Pv i σ H, ⟨xs.length, rfl, Nat.zero_le _, h0⟩, fun i m σ H z => ?_⟩
  obtain ⟨em, hi, p⟩ := z
  subst em
  have q1 := hq i σ H hi p
  by_cases hlt : i < xs.length
  · refine .inr ⟨⟨xs, xs[i], q1, List.getElem?_eq_getElem hlt⟩, Pv (i + 1), fun σ' H' p' => ⟨xs.length - (i + 1), by omega, rfl, hlt, p'⟩, fun v H' y => ?_⟩
    obtain ⟨T, x, e1, hT, e2, hx⟩ := y
    subst e1 e2
    exact hs i x T σ H (hx xs q1) p hT
  · have e : i = xs.length := Nat.le_antisymm hi (Nat.le_of_not_lt hlt)
    subst e
    exact .inl ⟨⟨xs, q1, Nat.le_refl _⟩, hd σ H p⟩
theorem int_at {ns : List Int} {i : Nat} {x : V} (h : (ivs ns)[i]? = some x) : ∃ z, x = .int z := by
  unfold ivs at h
  rw [List.getElem?_map] at h
  cases e : ns[i]? with
  | none =>
    rw [e] at h
    cases h
  | some z =>
    rw [e] at h
    exact ⟨z, (Option.some.inj h).symm⟩
end Af

set_option Elab.async false
set_option linter.all false
set_option maxRecDepth 100000
namespace Af
open PySem PySem.Spec PyProof.Rows L2
/-! steps and plans as data, equal or not -/
def stepD : Stp → PyData
  | none => .none
  | some (f, ws) => .tuple [.int f, .tuple (dvs ws)]
def stepsD : List Stp → List PyData
  | [] => []
  | a :: r => stepD a :: stepsD r
theorem dp_step {K : PySem.W.Frag} {H : Hp} : ∀ {x : V} {st : Stp}, StepV H x st → Dp K H x (stepD st)
  | _, none, h => by
    have e : _ = V.non := h
    subst e
    exact .non
  | _, some (f, ws), h => by
    obtain ⟨a, b, rfl, h1, h2⟩ := h
    exact .tup (SqT.of h1) (.cons (.int f) (.cons (.tup (SqT.of h2) (dp_ints ws)) .nil))
theorem dp_steps {K : PySem.W.Frag} {H : Hp} : ∀ {xs : List V} {sts : List Stp}, Paired (StepV H) xs sts → DpAll K H xs (stepsD sts)
  | _, _, .nil => .nil
  | _, _, .cons h t => .cons (dp_step h) (dp_steps t)
theorem lay_step : ∀ st : Stp, (stepD st).canLay0 = true ∧ (stepD st).depth ≤ 2
  | none => ⟨rfl, by decide⟩
  | some (f, ws) => by
    refine ⟨?_, ?_⟩
    · show (PyData.canLay0 (.int f) && (PyData.canLayAll0 (dvs ws) && true)) = true
      rw [lay_ints]
      rfl
    · show max (PyData.depth (.int f)) (max (PyData.depthAll (dvs ws) + 1) 0) + 1 ≤ 2
      rw [deep_ints]
      show max 0 (max (0 + 1) 0) + 1 ≤ 2
      decide
theorem lay_steps : ∀ sts : List Stp, PyData.canLayAll0 (stepsD sts) = true ∧ PyData.depthAll (stepsD sts) ≤ 2
  | [] => ⟨rfl, by decide⟩
  | a :: r => by
    obtain ⟨h1, h2⟩ := lay_step a
    obtain ⟨h3, h4⟩ := lay_steps r
    refine ⟨?_, ?_⟩
    · show (PyData.canLay0 (stepD a) && PyData.canLayAll0 (stepsD r)) = true
      rw [h1, h3]
      rfl
    · show max (PyData.depth (stepD a)) (PyData.depthAll (stepsD r)) ≤ 2
      omega
theorem sh_ints (ns : List Int) : SeqAt.shaped (.tuple (dvs ns)) = true := by
  show (PyData.canLayAll0 (dvs ns) && decide (PyData.depthAll (dvs ns) + 1 ≤ 64)) = true
  rw [lay_ints, deep_ints]
  rfl
theorem sh_int (n : Int) : SeqAt.shaped (.int n) = true := rfl
theorem sh_steps (sts : List Stp) : SeqAt.shaped (.list (stepsD sts)) = true := by
  obtain ⟨h1, h2⟩ := lay_steps sts
  show (PyData.canLayAll0 (stepsD sts) && decide (PyData.depthAll (stepsD sts) + 1 ≤ 64)) = true
  rw [h1, decide_eq_true (by omega)]
  rfl
def planD (pl : Pl) : PyData := .tuple [.tuple (dvs pl.cs), .int pl.w, .list (stepsD pl.sts)]
theorem sh_plan (pl : Pl) : SeqAt.shaped (planD pl) = true := by
  obtain ⟨h1, h2⟩ := lay_steps pl.sts
  show ((PyData.canLayAll0 (dvs pl.cs) && (true && (PyData.canLayAll0 (stepsD pl.sts) && true))) && decide (max (PyData.depthAll (dvs pl.cs) + 1) (max 0 (max (PyData.depthAll (stepsD pl.sts) + 1) 0)) + 1 ≤ 64)) = true
  rw [h1, lay_ints, deep_ints, decide_eq_true (by omega)]
  rfl
theorem dp_plan {K : PySem.W.Frag} {H : Hp} {p : Addr} {v : V} {pl : Pl} (h : PlanV p H v pl) : Dp K H v (planD pl) := by
  obtain ⟨a, ca, sa, xs, rfl, h1, h2, _, h3, h4⟩ := h.ex
  exact .tup (SqT.of h1) (.cons (.tup (SqT.of h2) (dp_ints _)) (.cons (.int _) (.cons (.lst (SqL.of h3) (dp_steps h4)) .nil)))
/-- what == of two plans is -/
def samePl (a b : Pl) : Bool := PyData.eqv (.tuple (dvs a.cs)) (.tuple (dvs b.cs)) && (PyData.eqv (.int a.w) (.int b.w) && PyData.eqv (.list (stepsD a.sts)) (.list (stepsD b.sts)))
theorem same_planD (a b : Pl) : PyData.eqv (planD a) (planD b) = samePl a b := by
  show (PyData.eqv (.tuple (dvs a.cs)) (.tuple (dvs b.cs)) && (PyData.eqv (.int a.w) (.int b.w) && (PyData.eqv (.list (stepsD a.sts)) (.list (stepsD b.sts)) && true))) = _
  rw [Bool.and_true]
  rfl
mutual
theorem eqv_comm : ∀ a b : PyData, PyData.eqv a b = PyData.eqv b a
  | .none, b => by cases b <;> rfl
  | .bool x, b => by
    cases b with
    | bool y => cases x <;> cases y <;> rfl
    | int j =>
      show ((if x = true then (1 : Int) else 0) == j) = (j == (if x = true then (1 : Int) else 0))
      exact BEq.comm
    | _ => rfl
  | .int x, b => by
    cases b with
    | int y =>
      show (x == y) = (y == x)
      exact BEq.comm
    | bool y =>
      show (x == (if y = true then (1 : Int) else 0)) = ((if y = true then (1 : Int) else 0) == x)
      exact BEq.comm
    | _ => rfl
  | .str x, b => by
    cases b with
    | str y =>
      show (x == y) = (y == x)
      exact BEq.comm
    | _ => rfl
  | .list xs, b => by
    cases b with
    | list ys => exact eqvAll_comm xs ys
    | _ => rfl
  | .tuple xs, b => by
    cases b with
    | tuple ys => exact eqvAll_comm xs ys
    | _ => rfl
  | .dict xs, b => by cases b <;> rfl
theorem eqvAll_comm : ∀ xs ys : List PyData, PyData.eqvAll xs ys = PyData.eqvAll ys xs
  | [], [] => rfl
  | [], _ :: _ => rfl
  | _ :: _, [] => rfl
  | x :: xs, y :: ys => by
    show (PyData.eqv x y && PyData.eqvAll xs ys) = (PyData.eqv y x && PyData.eqvAll ys xs)
    rw [eqv_comm x y, eqvAll_comm xs ys]
end
theorem same_comm (a b : Pl) : samePl a b = samePl b a := by
  rw [← same_planD, ← same_planD]
  exact eqv_comm _ _
theorem same_refl (a : Pl) : samePl a a = true := by
  rw [← same_planD]
  have := sh_plan a
  exact PySem.SeqAt.eqv_refl _ (Bool.and_eq_true_iff.mp this).1
/-! xs.count(None) -/
def rCntN (K : PySem.W.Frag) : V → List V → Hp → VK → Prop := fun x xs H Q => ∃ (p : Addr) (ys : List V) (ds : List PyData), x = .ref p ∧ xs = [.non] ∧ SqL K H p ys ∧ DpAll K H ys ds ∧ PyData.canLayAll0 ds = true ∧ ∀ n : Nat, Q (.int (n : Nat)) H
theorem mt_countN {X : Cx} (hu : X.A.units + 1 < cLine) : MtR X "list.count" (rCntN X.K) := by
  intro pins s σ H x xs v us Q I rx rxs h
  obtain ⟨p, ys, ds, rfl, rfl, hs, hd, hl, q⟩ := h
  cases (show v = Value.ref p from rx)
  obtain ⟨u, rfl, ru⟩ := rxs.one
  cases (show u = Value.none from ru)
  obtain ⟨its, rv, pl, _⟩ := I.list hs
  obtain ⟨as, rs⟩ := Dp.readsAll I ds ys its hd rv
  refine PySem.SeqAt.count_list_data (d := .none) (vs := its.toArray) pl.isList (by simpa using rs) Reads.none (PyData.plainAll_of_canLay0 _ hl) rfl (by show X.A.units + 1 + min _ 0 < cLine; omega) ?_
  exact ⟨.int (ds.countP (fun y => PyData.eqv y .none) : Nat), H, I.tok _, ⟨_, rfl⟩, q _⟩
/-! xs[::-1] -/
theorem pe_up {X : Cx} {e : Expr} {te : TE} (he : PE X e te) : PE X e (fun σ H R => ∃ R0 : VK, te σ H R0 ∧ ∀ x H1, R0 x H1 → R x H1) := ⟨fun pins s σ H R I q => by
  obtain ⟨R0, q1, q2⟩ := q
  refine thn (he.run pins s σ H R0 I q1) fun v s1 z => ?_
  obtain ⟨x, H1, I1, r1, q⟩ := z
  exact ⟨x, H1, I1, r1, q2 _ _ q⟩⟩
theorem pe_rev' {X : Cx} {e : Expr} {te : TE} {k : Nat} {p1 p2 p3 pos : Pos} (he : PE X e te) : PE X (.Subscript e (.Slice none none (some (.UnaryOp .USub (.Constant (.int 1) k p1) p2)) p3) pos) (tRev' te) := by
  have h := pe_revL (p1 := p1) (p2 := p2) (p3 := p3) (pos := pos) (k := k) (pe_up he)
  refine ⟨fun pins s σ H Q I q => h.run pins s σ H Q I ⟨_, q, fun x H1 z => ?_⟩⟩
  obtain ⟨a, xs, e, ha, q⟩ := z
  exact ⟨a, xs, e, SqL.of ha, q.mk⟩
end Af

set_option Elab.async false
set_option linter.all false
set_option maxRecDepth 100000
namespace Af
/-! a write broken into pieces: cell by cell (as the law does it), and by the cuts (as the program does it) -/
def spl (w : Int) : Int → List Int → Int → List Int → List (Int × List Int)
  | st, acc, _, [] => [(st, acc)]
  | st, acc, pos, x :: r => if acc ≠ [] ∧ pos % w = 0 then (st, acc) :: spl w pos [x] (pos + 1) r else spl w st (acc ++ [x]) (pos + 1) r
/-- the cuts among n cells from pos on -/
def cutL (w : Int) : Int → Nat → List Int
  | _, 0 => []
  | pos, n + 1 => if pos % w = 0 then pos :: cutL w (pos + 1) n else cutL w (pos + 1) n
/-- the part from s to e of the worths that begin at the cell f -/
def part (f : Int) (W : List Int) (s e : Int) : List Int := (W.drop (s - f).toNat).take ((e - f).toNat - (s - f).toNat)
def byCuts (f : Int) (W : List Int) : Int → List Int → Int → List (Int × List Int)
  | s, [], e => [(s, part f W s e)]
  | s, c :: cs, e => (s, part f W s c) :: byCuts f W c cs e
theorem zip_cuts (f : Int) (W : List Int) : ∀ (s : Int) (cs : List Int) (e : Int), ((s :: cs).zip (cs ++ [e])).map (fun p => (p.1, part f W p.1 p.2)) = byCuts f W s cs e
  | s, [], e => rfl
  | s, c :: cs, e => by
    show (s, part f W s c) :: ((c :: cs).zip (cs ++ [e])).map (fun p => (p.1, part f W p.1 p.2)) = (s, part f W s c) :: byCuts f W c cs e
    rw [zip_cuts f W c cs e]
theorem part_mid {f : Int} {pre acc r : List Int} {s e : Int} (hs : s = f + (pre.length : Int)) (he : e = s + (acc.length : Int)) : part f (pre ++ (acc ++ r)) s e = acc := by
  have e1 : (s - f).toNat = pre.length := by omega
  have e2 : (e - f).toNat - (s - f).toNat = acc.length := by omega
  unfold part
  rw [e2, e1, List.drop_left, List.take_left]
theorem spl_cuts {w f : Int} : ∀ (r pre acc : List Int) (st pos : Int), acc ≠ [] → st = f + (pre.length : Int) → pos = st + (acc.length : Int) →
    spl w st acc pos r = byCuts f (pre ++ (acc ++ r)) st (cutL w pos r.length) (pos + (r.length : Int))
  | [], pre, acc, st, pos, ne, hs, hp => by
    show [(st, acc)] = [(st, part f (pre ++ (acc ++ [])) st (pos + 0))]
    rw [part_mid hs (by omega)]
  | x :: r, pre, acc, st, pos, ne, hs, hp => by
    have le : (((x :: r).length : Nat) : Int) = (r.length : Int) + 1 := by rw [List.length_cons]; rfl
    by_cases c : pos % w = 0
    · have ih := spl_cuts (w := w) (f := f) r (pre ++ acc) [x] pos (pos + 1) (by simp) (by rw [List.length_append]; omega) (by show pos + 1 = pos + ((1 : Nat) : Int); omega)
      have e : (pre ++ acc) ++ ([x] ++ r) = pre ++ (acc ++ (x :: r)) := by simp
      rw [e] at ih
      show (if acc ≠ [] ∧ pos % w = 0 then (st, acc) :: spl w pos [x] (pos + 1) r else spl w st (acc ++ [x]) (pos + 1) r) = byCuts f (pre ++ (acc ++ (x :: r))) st (if pos % w = 0 then pos :: cutL w (pos + 1) r.length else cutL w (pos + 1) r.length) _
      rw [if_pos ⟨ne, c⟩, if_pos c, ih, le, show pos + ((r.length : Int) + 1) = pos + 1 + (r.length : Int) by omega]
      show _ = (st, part f (pre ++ (acc ++ (x :: r))) st pos) :: _
      rw [part_mid hs hp]
    · have ih := spl_cuts (w := w) r pre (acc ++ [x]) st (pos + 1) (by simp) hs (by rw [List.length_append]; show pos + 1 = st + ((acc.length + 1 : Nat) : Int); omega)
      have e : pre ++ ((acc ++ [x]) ++ r) = pre ++ (acc ++ (x :: r)) := by simp
      rw [e] at ih
      show (if acc ≠ [] ∧ pos % w = 0 then (st, acc) :: spl w pos [x] (pos + 1) r else spl w st (acc ++ [x]) (pos + 1) r) = byCuts f (pre ++ (acc ++ (x :: r))) st (if pos % w = 0 then pos :: cutL w (pos + 1) r.length else cutL w (pos + 1) r.length) _
      rw [if_neg (fun z => c z.2), if_neg c, ih, le, show pos + ((r.length : Int) + 1) = pos + 1 + (r.length : Int) by omega]
/-- both ways lead to the same pieces -/
theorem pieces_same {w f : Int} {ws : List Int} (ne : ws ≠ []) : spl w f [] f ws = byCuts f ws f (cutL w (f + 1) (ws.length - 1)) (f + (ws.length : Int)) := by
  cases ws with
  | nil => exact absurd rfl ne
  | cons x r =>
    have h := spl_cuts (w := w) (f := f) r [] [x] f (f + 1) (by simp) (by show f = f + ((0 : Nat) : Int); omega) (by show f + 1 = f + ((1 : Nat) : Int); omega)
    show (if ([] : List Int) ≠ [] ∧ f % w = 0 then _ else spl w f ([] ++ [x]) (f + 1) r) = _
    rw [if_neg (fun z => z.1 rfl)]
    have e : (((x :: r).length : Nat) : Int) = (r.length : Int) + 1 := by rw [List.length_cons]; rfl
    rw [e, show f + ((r.length : Int) + 1) = f + 1 + (r.length : Int) by omega]
    exact h
end Af

set_option Elab.async false
set_option linter.all false
set_option maxRecDepth 100000
namespace Af
open PySem L2
/-- a drawn plan whose list of steps is neither the pen's nor the one at l -/
structure PlanL (p l : Addr) (H : Hp) (v : V) (pl : Pl) : Prop where
  ex : ∃ a ca sa xs, v = .ref a ∧ H a = some (.tup [.ref ca, .int pl.w, .ref sa]) ∧ H ca = some (.tup (ivs pl.cs)) ∧ sa ≠ p ∧ sa ≠ l ∧ H sa = some (.lst xs) ∧ Paired (StepV H) xs pl.sts
theorem PlanL.v {p l : Addr} {H : Hp} {v : V} {pl : Pl} (h : PlanL p l H v pl) : PlanV p H v pl := by
  obtain ⟨a, ca, sa, xs, e, h1, h2, n, _, h3, h4⟩ := h.ex
  exact ⟨a, ca, sa, xs, e, h1, h2, n, h3, h4⟩
theorem PlanV.toL {p l : Addr} {H H' : Hp} {v : V} {pl : Pl} (h : PlanV p H v pl) (n : H l = none) (s : Same H H') : PlanL p l H' v pl := by
  obtain ⟨a, ca, sa, xs, e, h1, h2, np, h3, h4⟩ := h.ex
  exact ⟨a, ca, sa, xs, e, s _ _ h1, s _ _ h2, np, ne_of_none h3 n, s _ _ h3, steps_same s h4⟩
theorem PlanL.same {p l : Addr} {H H' : Hp} {v : V} {pl : Pl} (h : PlanL p l H v pl) (s : Same H H') : PlanL p l H' v pl := by
  obtain ⟨a, ca, sa, xs, e, h1, h2, np, nl, h3, h4⟩ := h.ex
  exact ⟨a, ca, sa, xs, e, s _ _ h1, s _ _ h2, np, nl, s _ _ h3, steps_same s h4⟩
theorem kp_upd {l : Addr} {H : Hp} {ys zs : List V} (e : H l = some (.lst ys)) : Kp l H (L2.upd H l (.lst zs)) := fun a o n k => by
  by_cases z : a = l
  · rcases n with n | n
    · exact absurd z n
    · rw [z, e] at k
      exact absurd (Option.some.inj k).symm (n ys)
  · rw [upd_ne z]
    exact k
theorem PlanL.upd {p l : Addr} {H : Hp} {v : V} {pl : Pl} {ys zs : List V} (h : PlanL p l H v pl) (e : H l = some (.lst ys)) : PlanL p l (L2.upd H l (.lst zs)) v pl := by
  have k := kp_upd (zs := zs) e
  obtain ⟨a, ca, sa, xs, e, h1, h2, np, nl, h3, h4⟩ := h.ex
  exact ⟨a, ca, sa, xs, e, k.tup h1, k.tup h2, np, nl, k.lst nl h3, steps_kp k h4⟩
/-- a list of plans that the program takes -/
def PlansL (p l : Addr) (H : Hp) (vs : List V) : Prop := ∀ v ∈ vs, ∃ pl, PlanL p l H v pl ∧ Good 40 40 pl
def Plans (p : Addr) (H : Hp) (vs : List V) : Prop := ∀ v ∈ vs, ∃ pl, PlanV p H v pl ∧ Good 40 40 pl
theorem Plans.toL {p l : Addr} {H H' : Hp} {vs : List V} (h : Plans p H vs) (n : H l = none) (s : Same H H') : PlansL p l H' vs := fun v hv => by
  obtain ⟨pl, h1, h2⟩ := h v hv
  exact ⟨pl, h1.toL n s, h2⟩
theorem PlansL.v {p l : Addr} {H : Hp} {vs : List V} (h : PlansL p l H vs) : Plans p H vs := fun v hv => by
  obtain ⟨pl, h1, h2⟩ := h v hv
  exact ⟨pl, h1.v, h2⟩
theorem PlansL.same {p l : Addr} {H H' : Hp} {vs : List V} (h : PlansL p l H vs) (s : Same H H') : PlansL p l H' vs := fun v hv => by
  obtain ⟨pl, h1, h2⟩ := h v hv
  exact ⟨pl, h1.same s, h2⟩
theorem PlansL.upd {p l : Addr} {H : Hp} {vs ys zs : List V} (h : PlansL p l H vs) (e : H l = some (.lst ys)) : PlansL p l (L2.upd H l (.lst zs)) vs := fun v hv => by
  obtain ⟨pl, h1, h2⟩ := h v hv
  exact ⟨pl, h1.upd e, h2⟩
theorem PlansL.app {p l : Addr} {H : Hp} {vs us : List V} (h : PlansL p l H vs) (k : PlansL p l H us) : PlansL p l H (vs ++ us) := fun v hv => by
  rcases List.mem_append.mp hv with hv | hv
  · exact h v hv
  · exact k v hv
theorem PlansL.one {p l : Addr} {H : Hp} {v : V} {pl : Pl} (h : PlanL p l H v pl) (g : Good 40 40 pl) : PlansL p l H [v] := fun u hu => by
  rw [List.mem_singleton.mp hu]
  exact ⟨pl, h, g⟩
theorem Plans.nil {p : Addr} {H : Hp} : Plans p H [] := fun v hv => by simp at hv
theorem Plans.app {p : Addr} {H : Hp} {vs us : List V} (h : Plans p H vs) (k : Plans p H us) : Plans p H (vs ++ us) := fun v hv => by
  rcases List.mem_append.mp hv with hv | hv
  · exact h v hv
  · exact k v hv
theorem Plans.cons {p : Addr} {H : Hp} {v : V} {vs : List V} {pl : Pl} (h : PlanV p H v pl) (g : Good 40 40 pl) (k : Plans p H vs) : Plans p H (v :: vs) := fun u hu => by
  rcases List.mem_cons.mp hu with rfl | hu
  · exact ⟨pl, h, g⟩
  · exact k u hu
theorem Plans.same {p : Addr} {H H' : Hp} {vs : List V} (h : Plans p H vs) (s : Same H H') : Plans p H' vs := fun v hv => by
  obtain ⟨pl, h1, h2⟩ := h v hv
  exact ⟨pl, h1.same s, h2⟩
/-- a plan changed at one place -/
theorem Good.cells {pl : Pl} {cs : List Int} (g : Good 40 40 pl) (c1 : pl.cs.length ≤ cs.length) (c2 : cs.length ≤ 24) (cb : ∀ z ∈ cs, 0 ≤ z ∧ z < 8) : Good 40 40 ⟨cs, pl.w, pl.sts⟩ := by
  refine ⟨Nat.le_trans g.c1 c1, c2, cb, g.w1, g.w24, fun x hx => ?_, g.sl, g.tl⟩
  have o := g.st x hx
  cases x with
  | none => exact True.intro
  | some fw =>
    obtain ⟨f, ws⟩ := fw
    obtain ⟨o1, o2, o3, o4⟩ := o
    exact ⟨o1, o2, by show f + (ws.length : Int) ≤ (cs.length : Int); omega, o4⟩
theorem Good.width {pl : Pl} {w : Int} (g : Good 40 40 pl) (h1 : 1 ≤ w) (h2 : w ≤ 24) : Good 40 40 ⟨pl.cs, w, pl.sts⟩ := ⟨g.c1, g.c24, g.cb, h1, h2, g.st, g.sl, g.tl⟩
theorem Good.steps {s t : Nat} {pl : Pl} {sts : List Stp} (g : Good s t pl) (h : ∀ x ∈ sts, OkS pl.cs.length x) (h1 : sts.length ≤ 40) (h2 : tot sts ≤ 40) : Good 40 40 ⟨pl.cs, pl.w, sts⟩ := ⟨g.c1, g.c24, g.cb, g.w1, g.w24, h, h1, h2⟩
theorem tot_drop_le (l : List Stp) (n : Nat) : tot (l.drop n) ≤ tot l := by
  have := tot_take_drop l n
  omega
/-- one step taken out, another one put in its place -/
theorem steps_at {l : List Stp} {i : Nat} {a b : Stp} {n : Nat} (hi : l[i]? = some a) (hb : stl b = stl a) (ob : OkS n b) (ok : ∀ x ∈ l, OkS n x) :
    (∀ x ∈ (l.take i ++ [b]) ++ l.drop (i + 1), OkS n x) ∧ ((l.take i ++ [b]) ++ l.drop (i + 1)).length = l.length ∧ tot ((l.take i ++ [b]) ++ l.drop (i + 1)) = tot l := by
  have hlt : i < l.length := (List.getElem?_eq_some_iff.mp hi).1
  have e : l.drop i = a :: l.drop (i + 1) := by
    rw [List.drop_eq_getElem_cons hlt]
    congr 1
    rw [List.getElem?_eq_getElem hlt] at hi
    exact Option.some.inj hi
  refine ⟨fun x hx => ?_, ?_, ?_⟩
  · rcases List.mem_append.mp hx with hx | hx
    · rcases List.mem_append.mp hx with hx | hx
      · exact ok x (List.mem_of_mem_take hx)
      · rw [List.mem_singleton.mp hx]
        exact ob
    · exact ok x (List.mem_of_mem_drop hx)
  · rw [List.length_append, List.length_append, List.length_take, List.length_drop]
    show min i l.length + 1 + (l.length - (i + 1)) = l.length
    omega
  · rw [tot_app, tot_app, tot_one, hb]
    have t := tot_take_drop l i
    rw [e, tot_cons] at t
    omega
end Af

set_option Elab.async false
set_option linter.all false
set_option maxRecDepth 100000
namespace Af
open PySem L2
abbrev s_l_split : Stmt := top 49
abbrev N_l_split : List Str := ["_law_index", "_law_step_here", "_law_span_here", "_law_first", "_law_worths_here", "_law_found", "_law_some", "_law_k"]
theorem sc_l_split : FnScope N_l_split ["_law_index", "_law_step_here", "_law_span_here"] (defScope s_l_split) := ⟨rfl, rfl, rfl, by decide +kernel, rfl, by decide +kernel, by decide +kernel⟩

abbrev s_l_parts : Stmt := top 50
abbrev N_l_parts : List Str := ["_law_plan_here", "_law_found", "_law_index"]
theorem sc_l_parts : FnScope N_l_parts ["_law_plan_here"] (defScope s_l_parts) := ⟨rfl, rfl, rfl, by decide +kernel, rfl, by decide +kernel, by decide +kernel⟩

abbrev s_l_write : Stmt := top 52
abbrev N_l_write : List Str := ["_law_pen_here", "_law_many", "_law_kinds", "_law_longest_row", "_law_first", "_law_more", "_law_k"]
theorem sc_l_write : FnScope N_l_write ["_law_pen_here", "_law_many", "_law_kinds", "_law_longest_row"] (defScope s_l_write) := ⟨rfl, rfl, rfl, by decide +kernel, rfl, by decide +kernel, by decide +kernel⟩

/-- a piece: the step that it is of, its first cell, its worths -/
def PieceE (H : Hp) (ix : Int) (x : V) (p : Int × List Int) : Prop := ∃ t b, x = .ref t ∧ H t = some (.tup [.int ix, .int p.1, .ref b]) ∧ H b = some (.tup (ivs p.2))
theorem PieceE.kp {q : Addr} {H H' : Hp} {ix : Int} {x : V} {p : Int × List Int} (k : Kp q H H') (h : PieceE H ix x p) : PieceE H' ix x p := by
  obtain ⟨t, b, e, h1, h2⟩ := h
  exact ⟨t, b, e, k.tup h1, k.tup h2⟩
theorem pieces_kp {q : Addr} {H H' : Hp} {ix : Int} {xs : List V} {ps : List (Int × List Int)} (k : Kp q H H') (h : Paired (PieceE H ix) xs ps) : Paired (PieceE H' ix) xs ps := L2.Paired.mapP h fun _ _ z => z.kp k
theorem pieces_st {H H' : Hp} {ix : Int} {xs : List V} {ps : List (Int × List Int)} (k : Same H H') (h : Paired (PieceE H ix) xs ps) : Paired (PieceE H' ix) xs ps := pieces_kp (q := 0) (Kp.same k) h
theorem spl_go {w st pos x : Int} {acc r : List Int} (c : ¬ (acc ≠ [] ∧ pos % w = 0)) : spl w st acc pos (x :: r) = spl w st (acc ++ [x]) (pos + 1) r := by
  show (if acc ≠ [] ∧ pos % w = 0 then _ else _) = _
  rw [if_neg c]
theorem spl_cut {w st pos x : Int} {acc r : List Int} (c : acc ≠ [] ∧ pos % w = 0) : spl w st acc pos (x :: r) = (st, acc) :: spl w pos [x] (pos + 1) r := by
  show (if acc ≠ [] ∧ pos % w = 0 then _ else _) = _
  rw [if_pos c]
def sp_split : Sp := fun vs H Q _ => ∃ (ix f sp : Int) (a b : Addr) (ws : List Int), vs = [.int ix, .ref a, .int sp] ∧ H a = some (.tup [.int f, .ref b]) ∧ H b = some (.tup (ivs ws)) ∧ 0 < sp ∧ ws.length ≤ 1000 ∧
  ∀ l H' xs, Same H H' → H l = none → H' l = some (.lst xs) → Paired (PieceE H' ix) xs (spl sp f [] f ws) → Q (.ref l) H'
section
variable {P : Program} {w : World} {K : PySem.W.Frag} {mg : Str → Option Value} {base : Heap}
theorem ok_split {f : Addr} {fd : FuncData} (F : Fun K "_law_split" "_law_split" s_l_split f fd) (T : Txt mg) : FnOk P w K mg base CX0 1 f fd ["_law_index", "_law_step_here", "_law_span_here"] sp_split := by
  refine F.ok sc_l_split (fun vs H Q E h => ?_) (fun cdv A outer s H vs Q E hr h => ?_)
  · obtain ⟨_, _, _, _, _, _, rfl, _⟩ := h
    rfl
  obtain ⟨ix, f, sp, a, b, ws, rfl, ha, hb, hsp, hws, k⟩ := h
  refine ⟨_, (pss_cons (ps_asg (pv 1) (pg_tup rfl (pgs_cons (pg_name (i := 3) sc_l_split.nd rfl (Or.inl rfl)) (pgs_cons (pg_name (i := 4) sc_l_split.nd rfl (Or.inl rfl)) pgs_nil))))
    (pss_cons (ps_par (i := 5) (j := 6) rfl sc_l_split.nd rfl rfl (by decide) rfl rfl (pa_cons (pe_lst' pa_nil) (pa_cons (pe_lst' pa_nil) pa_nil)) (by rfl))
    (pss_cons (ps_for PassesOwn.never rfl (pi_range1 rfl T.range (pa_cons (pe_callB call_len' (by rfl) T.len (by decide +kernel) (pa_cons (pv 4) pa_nil)) pa_nil)) (pg_name (i := 7) sc_l_split.nd rfl (Or.inl rfl))
      (pss_cons (ps_cut (ps_if (PW.pt (pw_and (pt_cmpR (op_neNil hr.units) (pv 6) (pe_lst' pa_nil) (nomark _)) (pw_and1 (pt_cmpR op_eq (pe_op op_mod (pe_callTy call_int1 (by rfl) T.int (by decide +kernel) (pa_cons (pe_op op_add (pv 3) (pv 7)) pa_nil)) (pv 2)) pe_int (nomark _)))))
      (pss_cons (ps_expr (pe_bm PySem.F.plainAttrs_list PySem.F.slot_list_append PySem.F.type_list_append mt_append (pv 5) (pa_cons (pe_tup' (pa_cons (pv 0) (pa_cons (pe_op op_sub (pe_op op_add (pv 3) (pv 7)) (pe_callB call_len' (by rfl) T.len (by decide +kernel) (pa_cons (pv 6) pa_nil))) (pa_cons (pe_callTy call_tuple' (by rfl) T.tuple (by decide +kernel) (pa_cons (pv 6) pa_nil)) pa_nil)))) pa_nil)))
    (pss_one (ps_set (i := 6) sc_l_split.nd rfl (Or.inl rfl) (pe_lst' pa_nil))))
      pss_nil))
    (pss_one (ps_expr (pe_bm PySem.F.plainAttrs_list PySem.F.slot_list_append PySem.F.type_list_append mt_append (pv 6) (pa_cons (pe_ix ix_seq' (pv 4) (pv 7) (fun _ _ => rfl)) pa_nil))))))
    (pss_one (ps_ret (pe_op op_cat' (pv 5) (pe_lst' (pa_cons (pe_tup' (pa_cons (pv 0) (pa_cons (pe_op op_sub (pe_op op_add (pv 3) (pe_callB call_len' (by rfl) T.len (by decide +kernel) (pa_cons (pv 4) pa_nil))) (pe_callB call_len' (by rfl) T.len (by decide +kernel) (pa_cons (pv 6) pa_nil))) (pa_cons (pe_callTy call_tuple' (by rfl) T.tuple (by decide +kernel) (pa_cons (pv 6) pa_nil)) pa_nil)))) pa_nil)))))))), ?_⟩
  refine ⟨_, rfl, a, _, rfl, SqT.of ha, rfl, _, _, rfl, _, _, rfl, rfl, ?_⟩
  refine ⟨szr, fun fl H1 hfl s1 h1 => ⟨szr, fun sl H2 hsl s2 h2 => ⟨_, _, rfl, ?_⟩⟩⟩
  have b2 := s2 _ _ (s1 _ _ hb)
  refine ⟨_, rfl, b, _, rfl, .inr b2, _, rfl, ?_, ?_, ?_⟩
  · omega
  · rw [ivs_len]
    omega
  refine for_range (lo := 0) (fun i σ' H' => ∃ sl xs ss kv out, σ' = [some (.int ix), some (.ref a), some (.int sp), some (.int f), some (.ref b), some (.ref fl), some (.ref sl), kv] ∧ Same H H' ∧ H sl = none ∧ sl ≠ fl ∧ H' fl = some (.lst xs) ∧ H' sl = some (.lst (ivs ss)) ∧ xs.length ≤ i ∧ ss.length ≤ i ∧
    Paired (PieceE H' ix) xs out ∧ out ++ spl sp (f + (i : Int) - (ss.length : Int)) ss (f + (i : Int)) (ws.drop i) = spl sp f [] f ws) ?_ ?_ ?_
  · refine ⟨sl, [], [], none, [], rfl, s1.trans s2, s1.free hsl, nofree h1 hsl, s2 _ _ h1, h2, Nat.le_refl _, Nat.le_refl _, .nil, ?_⟩
    show spl sp (f + 0 - 0) [] (f + 0) ws = spl sp f [] f ws
    rw [Int.add_zero, Int.sub_zero]
  · rintro i σ' H' hi ⟨sl, xs, ss, kv, out, rfl, s3, hsl, ns, h3, h4, l1, l2, pr, tot⟩
    have hi' : i < ws.length := by
      have e : ((ivs ws).length : Int).toNat = ws.length := by rw [ivs_len]; omega
      omega
    rw [List.drop_eq_getElem_cons hi'] at tot
    have b3 := s3 _ _ hb
    refine ⟨fun σ' H' => ∃ sl xs ss out, σ' = [some (.int ix), some (.ref a), some (.int sp), some (.int f), some (.ref b), some (.ref fl), some (.ref sl), some (.int (0 + (i : Int)))] ∧ Same H H' ∧ H sl = none ∧ sl ≠ fl ∧ H' fl = some (.lst xs) ∧ H' sl = some (.lst (ivs ss)) ∧ xs.length ≤ i + 1 ∧ ss.length ≤ i ∧
      Paired (PieceE H' ix) xs out ∧ out ++ spl sp (f + (i : Int) - (ss.length : Int)) (ss ++ [ws[i]]) (f + (i : Int) + 1) (ws.drop (i + 1)) = spl sp f [] f ws, ?_, ?_⟩
    · refine ⟨_, rfl, szr, fun e H5 he s5 h5 => ?_⟩
      have k3 := s5 _ _ h3
      have k4 := s5 _ _ h4
      have s6 := s3.trans s5
      have no : ¬ (ss ≠ [] ∧ (f + (i : Int)) % sp = 0) → ∃ sl' xs' ss' out', [some (V.int ix), some (.ref a), some (.int sp), some (.int f), some (.ref b), some (.ref fl), some (.ref sl), some (.int (0 + (i : Int)))] = [some (.int ix), some (.ref a), some (.int sp), some (.int f), some (.ref b), some (.ref fl), some (.ref sl'), some (.int (0 + (i : Int)))] ∧ Same H H5 ∧ H sl' = none ∧ sl' ≠ fl ∧ H5 fl = some (.lst xs') ∧ H5 sl' = some (.lst (ivs ss')) ∧ xs'.length ≤ i + 1 ∧ ss'.length ≤ i ∧
          Paired (PieceE H5 ix) xs' out' ∧ out' ++ spl sp (f + (i : Int) - (ss'.length : Int)) (ss' ++ [ws[i]]) (f + (i : Int) + 1) (ws.drop (i + 1)) = spl sp f [] f ws :=
        fun c => ⟨sl, xs, ss, out, rfl, s6, hsl, ns, k3, k4, by omega, l2, pieces_st s5 pr, by rw [← spl_go c]; exact tot⟩
      have e0 : (0 : Int) + (i : Int) = (i : Int) := Int.zero_add _
      refine ⟨sl, e, ss, rfl, rfl, k4, h5, _, rfl, ite2 (fun c1 => ?_) (fun c1 => iteF (no fun z => ?_))⟩
      rotate_left
      · cases ss with
        | nil => exact z.1 rfl
        | cons y ys => exact c1 rfl
      have ne : ss ≠ [] := fun z => by
        rw [z] at c1
        exact absurd c1 (by decide)
      refine ⟨_, rfl, _, rfl, _, _, rfl, rfl, .inl ⟨_, rfl, _, rfl, _, _, rfl, rfl, hsp, rfl, _, rfl, ite2 (fun c2 => ?_) (fun c2 => no fun z => ?_)⟩⟩
      rotate_left
      · exact c2 (decide_eq_true (by show V.int ((f + (0 + (i : Int))) % sp) = V.int 0; rw [e0, z.2]))
      have cut : (f + (i : Int)) % sp = 0 := by
        have z := V.int.inj (of_decide_eq_true c2)
        rw [e0] at z
        exact z
      refine ⟨_, rfl, .inl ⟨rfl, _, SqL.of k3⟩, ?_⟩
      refine ⟨_, rfl, _, rfl, _, rfl, _, _, rfl, rfl, _, rfl, sl, _, rfl, .inl k4, _, _, rfl, rfl, _, rfl, sl, _, rfl, .inl k4, fun tp H7 s7 h7 => ?_⟩
      refine ⟨szr, fun t H8 ht s8 h8 => ?_⟩
      have k5 := s8 _ _ (s7 _ _ k3)
      refine ⟨fl, xs, _, rfl, rfl, k5, szl (by omega), ?_⟩
      have s9 : Same H (upd H8 fl (.lst (xs ++ [V.ref t]))) := same_mut (s6.trans (s7.trans s8)) hfl
      refine ⟨szr, fun nl H9 hnl s10 h10 => ?_⟩
      have kk := kp_upd (zs := xs ++ [V.ref t]) k5
      have pp : Paired (PieceE H9 ix) (xs ++ [V.ref t]) (out ++ [(f + (i : Int) - (ss.length : Int), ss)]) := by
        refine paired_app (pieces_st s10 (pieces_kp kk (pieces_st (s5.trans (s7.trans s8)) pr))) (.cons ⟨t, tp, rfl, ?_, s10 _ _ (kk.tup (s8 _ _ h7))⟩ .nil)
        rw [s10 _ _ (kk.tup h8), e0, ivs_len]
      refine ⟨nl, xs ++ [V.ref t], [], _, rfl, s9.trans s10, s9.free hnl, nofree upd_same hnl, s10 _ _ upd_same, h10, by rw [List.length_append]; show xs.length + 1 ≤ i + 1; omega, Nat.zero_le _, pp, ?_⟩
      rw [spl_cut ⟨ne, cut⟩] at tot
      show (out ++ [(f + (i : Int) - (ss.length : Int), ss)]) ++ spl sp (f + (i : Int) - 0) [ws[i]] (f + (i : Int) + 1) (ws.drop (i + 1)) = _
      rw [Int.sub_zero, List.append_assoc]
      exact tot
    · rintro σ' H' ⟨sl, xs, ss, out, rfl, s3, hsl, ns, h3, h4, l1, l2, pr, tot⟩
      have b3 := s3 _ _ hb
      refine ⟨_, rfl, .inl ⟨rfl, _, SqL.of h4⟩, ?_⟩
      refine ⟨_, rfl, _, rfl, b, _, _, _, rfl, rfl, .inr b3, at_of (Int.zero_add _) (ivs_get hi'), ?_⟩
      refine ⟨sl, ivs ss, _, rfl, rfl, h4, szl (by rw [ivs_len]; omega), ?_⟩
      have kk := kp_upd (zs := ivs ss ++ [V.int ws[i]]) h4
      refine ⟨sl, xs, ss ++ [ws[i]], _, out, rfl, same_mut s3 hsl, hsl, ns, by rw [upd_ne ns.symm]; exact h3, ?_, l1, by rw [List.length_append]; show ss.length + 1 ≤ i + 1; omega, pieces_kp kk pr, ?_⟩
      · rw [upd_same]
        unfold ivs
        rw [List.map_append]
        rfl
      · have e1 : f + ((i + 1 : Nat) : Int) - ((ss ++ [ws[i]]).length : Int) = f + (i : Int) - (ss.length : Int) := by
          rw [List.length_append]
          show f + ((i + 1 : Nat) : Int) - ((ss.length + 1 : Nat) : Int) = _
          omega
        have e2 : f + ((i + 1 : Nat) : Int) = f + (i : Int) + 1 := by omega
        rw [e1, e2]
        exact tot
  · rintro σ' H' ⟨sl, xs, ss, kv, out, rfl, s3, hsl, ns, h3, h4, l1, l2, pr, tot⟩
    have e : ((ivs ws).length : Int).toNat = ws.length := by rw [ivs_len]; omega
    rw [e] at l1 l2 tot
    rw [List.drop_length] at tot
    have b3 := s3 _ _ hb
    refine ⟨_, rfl, _, rfl, _, rfl, _, rfl, b, _, rfl, .inr b3, _, _, rfl, rfl, _, rfl, sl, _, rfl, .inl h4, _, _, rfl, rfl, _, rfl, sl, _, rfl, .inl h4, fun tp H7 s7 h7 => ?_⟩
    refine ⟨szr, fun t H8 ht s8 h8 => ⟨szr, fun nl H9 hnl s9 h9 => ?_⟩⟩
    have s10 := s7.trans (s8.trans s9)
    refine ⟨fl, nl, _, _, rfl, rfl, s10 _ _ h3, h9, sz (by show xs.length + 1 ≤ 100000; omega), fun r H10 hr2 s11 h11 => ?_⟩
    refine k r H10 _ (s3.trans (s10.trans s11)) ((s3.trans s10).free hr2) h11 ?_
    rw [← tot]
    refine paired_app (pieces_st (s10.trans s11) pr) (.cons ⟨t, tp, rfl, ?_, s11 _ _ (s9 _ _ (s8 _ _ h7))⟩ .nil)
    rw [s11 _ _ (s9 _ _ h8), ivs_len, ivs_len]
end
end Af

set_option Elab.async false
set_option linter.all false
set_option maxRecDepth 100000
namespace Af
open PySem L2
theorem cutL_snoc (w : Int) : ∀ (n : Nat) (pos : Int), cutL w pos (n + 1) = cutL w pos n ++ (if (pos + (n : Int)) % w = 0 then [pos + (n : Int)] else [])
  | 0, pos => by
    show (if pos % w = 0 then pos :: cutL w (pos + 1) 0 else cutL w (pos + 1) 0) = [] ++ (if (pos + ((0 : Nat) : Int)) % w = 0 then [pos + ((0 : Nat) : Int)] else [])
    rw [show pos + ((0 : Nat) : Int) = pos by omega]
    rfl
  | n + 1, pos => by
    have ih := cutL_snoc w n (pos + 1)
    have e : pos + 1 + (n : Int) = pos + ((n + 1 : Nat) : Int) := by omega
    rw [e] at ih
    show (if pos % w = 0 then pos :: cutL w (pos + 1) (n + 1) else cutL w (pos + 1) (n + 1)) = (if pos % w = 0 then pos :: cutL w (pos + 1) n else cutL w (pos + 1) n) ++ _
    rw [ih]
    by_cases c : pos % w = 0
    · rw [if_pos c, if_pos c]
      rfl
    · rw [if_neg c, if_neg c]
theorem cutL_in {w : Int} : ∀ {n : Nat} {pos z : Int}, z ∈ cutL w pos n → pos ≤ z ∧ z < pos + (n : Int)
  | 0, pos, z, h => by cases h
  | n + 1, pos, z, h => by
    have k : z = pos ∨ z ∈ cutL w (pos + 1) n := by
      by_cases c : pos % w = 0
      · rw [show cutL w pos (n + 1) = pos :: cutL w (pos + 1) n from if_pos c] at h
        exact List.mem_cons.mp h
      · rw [show cutL w pos (n + 1) = cutL w (pos + 1) n from if_neg c] at h
        exact .inr h
    rcases k with rfl | k
    · omega
    · have := cutL_in k
      omega
theorem cutL_len {w : Int} : ∀ (n : Nat) (pos : Int), (cutL w pos n).length ≤ n
  | 0, _ => Nat.le_refl 0
  | n + 1, pos => by
    have ih := cutL_len (w := w) n (pos + 1)
    by_cases c : pos % w = 0
    · rw [show cutL w pos (n + 1) = pos :: cutL w (pos + 1) n from if_pos c, List.length_cons]
      omega
    · rw [show cutL w pos (n + 1) = cutL w (pos + 1) n from if_neg c]
      omega
/-- the slice of the program is that part -/
theorem slice_part {f s e : Int} {ws : List Int} (h1 : f ≤ s) (h2 : f ≤ e) (h3 : s ≤ f + (ws.length : Int)) (h4 : e ≤ f + (ws.length : Int)) : cutV (ivs ws) (some (s - f)) (some (e - f)) = ivs (part f ws s e) := by
  obtain ⟨a, ha⟩ := Int.eq_ofNat_of_zero_le (show 0 ≤ s - f by omega)
  obtain ⟨b, hb⟩ := Int.eq_ofNat_of_zero_le (show 0 ≤ e - f by omega)
  unfold cutV part
  rw [ha, hb, HT.sIx_nat, HT.sIx_nat, ivs_len, Nat.min_eq_left (by omega), Nat.min_eq_left (by omega)]
  show ((ivs ws).drop a).take (b - a) = ivs ((ws.drop (a : Int).toNat).take ((b : Int).toNat - (a : Int).toNat))
  rw [Int.toNat_natCast, Int.toNat_natCast]
  unfold ivs
  rw [List.map_take, List.map_drop]
end Af

set_option Elab.async false
set_option linter.all false
set_option maxRecDepth 100000
set_option maxHeartbeats 4000000
namespace Af
open PySem L2
abbrev s_broken : Stmt := top 23
abbrev N_broken : List Str := ["width", "index", "write", "first", "worths", "behind", "cuts", "starts", "ends", "cell", "start", "end"]
theorem sc_broken : FnScope N_broken ["width", "index", "write"] (defScope s_broken) := ⟨rfl, rfl, rfl, by decide +kernel, rfl, by decide +kernel, by decide +kernel⟩

theorem paired_take_succ {α β : Type} {F : α → β → Prop} {a : List α} {b : List β} {i : Nat} {y : β} (h : Paired F a (b.take i)) (x : α) (hx : F x y) (hb : b[i]? = some y) : Paired F (a ++ [x]) (b.take (i + 1)) := by
  rw [List.take_add_one, hb]
  exact paired_app h (.cons hx .nil)
def sp_brokenX : Sp := fun vs H Q _ => ∃ (wd ix f : Int) (t b : Addr) (ws : List Int), vs = [.int wd, .int ix, .ref t] ∧ H t = some (.tup [.int f, .ref b]) ∧ H b = some (.tup (ivs ws)) ∧ 0 < wd ∧ 0 ≤ f ∧ f ≤ 1000 ∧ ws ≠ [] ∧ ws.length ≤ 100 ∧
  ∀ l H' xs, Same H H' → H l = none → H' l = some (.lst xs) → Paired (PieceE H' ix) xs (spl wd f [] f ws) → Q (.ref l) H'
section
variable {P : Program} {w : World} {K : PySem.W.Frag} {mg : Str → Option Value} {base : Heap}
theorem ok_brokenX {f : Addr} {fd : FuncData} (F : Fun K "_broken" "_broken" s_broken f fd) (T : Txt mg) : FnOk P w K mg base CX0 1 f fd ["width", "index", "write"] sp_brokenX := by
  refine F.ok sc_broken (fun vs H Q E h => ?_) (fun cdv A outer s H vs Q E hr h => ?_)
  · obtain ⟨_, _, _, _, _, _, rfl, _⟩ := h
    rfl
  obtain ⟨wd, ix, f, t, b, ws, rfl, ht, hb, w0, f0, f1, wn, wl, k⟩ := h
  refine ⟨_, (pss_cons (ps_asg (pv 2) (pg_tup rfl (pgs_cons (pg_name (i := 3) sc_broken.nd rfl (Or.inr rfl)) (pgs_cons (pg_name (i := 4) sc_broken.nd rfl (Or.inr rfl)) pgs_nil))))
    (pss_cons (ps_set (i := 5) sc_broken.nd rfl (Or.inl rfl) (pe_op op_add (pv 3) (pe_callB call_len' (by rfl) T.len (by decide +kernel) (pa_cons (pv 4) pa_nil))))
    (pss_cons (ps_setLc (i := 6) (own := [("cell", 9)]) (g := (gName 9)) rfl sc_broken.nd rfl rfl (sw_true rfl rfl rfl (by decide +kernel)) (pi_range2 rfl T.range (pa_cons (pe_op op_add (pv 3) pe_int) (pa_cons (pv 5) pa_nil))) (blkOk_by (own := [("cell", 9)]) (N := N_broken) (sc := defScope s_broken) (by decide +kernel)) (fun _ _ _ _ _ => pg_name (i := 9) sc_broken.nd rfl (Or.inl rfl)) (fun _ _ _ _ _ => (pts_one (pt_cmpR op_eq (pe_op op_mod (pv 9) (pv 0)) pe_int (nomark _)))) (fun _ _ _ _ _ => (pv 9)))
    (pss_cons (ps_par (i := 7) (j := 8) rfl sc_broken.nd rfl rfl (by decide) rfl rfl (pa_cons (pe_op op_cat' (pe_lst' (pa_cons (pv 3) pa_nil)) (pv 6)) (pa_cons (pe_op op_cat' (pv 6) (pe_lst' (pa_cons (pv 5) pa_nil))) pa_nil)) (by rfl))
    (pss_one (ps_ret (pe_lc (own := [("start", 10), ("end", 11)]) (g := (gTup K 2 (gCons (gName 10) (gCons (gName 11) gNil)))) (tt := tYes) rfl sc_broken.nd (pi_zip rfl T.zip (pa_cons (pv 7) (pa_cons (pv 8) pa_nil))) (blkOk_by (own := [("start", 10), ("end", 11)]) (N := N_broken) (sc := defScope s_broken) (by decide +kernel)) (fun _ _ _ _ _ => pg_tup rfl (pgs_cons (pg_name (i := 10) sc_broken.nd rfl (Or.inl rfl)) (pgs_cons (pg_name (i := 11) sc_broken.nd rfl (Or.inl rfl)) pgs_nil))) (fun _ _ _ _ _ => pts_nil) (fun _ _ _ _ _ => (pe_tup' (pa_cons (pv 1) (pa_cons (pv 10) (pa_cons (pe_slice sl_tup' (pv 4) (po_some (pe_op op_sub (pv 10) (pv 3))) (po_some (pe_op op_sub (pv 11) (pv 3)))) pa_nil)))))))))))), ?_⟩
  refine ⟨_, rfl, t, _, rfl, SqT.of ht, rfl, _, _, rfl, _, _, rfl, rfl, ?_⟩
  refine ⟨_, rfl, _, rfl, b, _, rfl, .inr hb, _, _, rfl, rfl, ?_⟩
  have hln := ivs_len ws
  have hpos : 0 < ws.length := List.length_pos_iff.mpr wn
  refine ⟨_, rfl, _, _, rfl, rfl, _, rfl, f + 1, f + ((ivs ws).length : Int), rfl, ⟨by omega, by omega, by omega, by omega⟩, fun D hD => lc_range (lo := f + 1) (n := (f + ((ivs ws).length : Int) - (f + 1)).toNat) (fun i H' => Same H H' ∧ H' D = some (.lst (ivs (cutL wd (f + 1) i)))) ?_ ?_ ?_⟩
  · exact ⟨same_new hD, upd_same⟩
  · rintro i H' hi ⟨s1, h1⟩
    have sn := cutL_snoc wd i (f + 1)
    have cl := cutL_len (w := wd) i (f + 1)
    refine ⟨rfl, _, rfl, _, rfl, _, _, rfl, rfl, w0, rfl, _, rfl, ite2 (fun y => ?_) (fun y => ⟨s1, ?_⟩)⟩
    · have y' : (f + 1 + (i : Int)) % wd = 0 := V.int.inj (of_decide_eq_true y)
      rw [if_pos y'] at sn
      refine ⟨_, rfl, _, h1, szl (by rw [ivs_len]; omega), same_mut s1 hD, ?_⟩
      rw [upd_same, sn]
      unfold ivs
      rw [List.map_append]
      rfl
    · have y' : ¬ (f + 1 + (i : Int)) % wd = 0 := fun z => y (decide_eq_true (congrArg V.int z))
      rw [if_neg y', List.append_nil] at sn
      rw [sn]
      exact h1
  · rintro H1 ⟨s1, h1⟩
    have en : (f + ((ivs ws).length : Int) - (f + 1)).toNat = ws.length - 1 := by rw [hln]; omega
    rw [en] at h1
    have cin : ∀ z ∈ cutL wd (f + 1) (ws.length - 1), f ≤ z ∧ z ≤ f + (ws.length : Int) := fun z hz => by
      have := cutL_in hz
      omega
    have cl := cutL_len (w := wd) (ws.length - 1) (f + 1)
    have fin := pieces_same (w := wd) (f := f) wn
    rw [← zip_cuts] at fin
    generalize cutL wd (f + 1) (ws.length - 1) = cs at h1 cin cl fin
    refine ⟨_, rfl, szr, fun l2 H2 hl2 s2 h2 => ⟨_, rfl, l2, D, _, _, rfl, rfl, h2, s2 _ _ h1, sz (by show 1 + (ivs cs).length ≤ 100000; rw [ivs_len]; omega), fun sl H3 hsl s3 h3 => ?_⟩⟩
    refine ⟨_, rfl, _, rfl, szr, fun l4 H4 hl4 s4 h4 => ⟨D, l4, _, _, rfl, rfl, s4 _ _ (s3 _ _ (s2 _ _ h1)), h4, sz (by show (ivs cs).length + 1 ≤ 100000; rw [ivs_len]; omega), fun el H5 hel s5 h5 => ⟨_, _, rfl, ?_⟩⟩⟩
    have S := s1.trans (s2.trans (s3.trans (s4.trans s5)))
    have hs5 : H5 sl = some (.lst (ivs (f :: cs))) := s5 _ _ (s4 _ _ h3)
    have he5 : H5 el = some (.lst (ivs (cs ++ [f + (ws.length : Int)]))) := by
      rw [h5, hln]
      unfold ivs
      rw [List.map_append]
      rfl
    have hll : (ivs (f :: cs)).length = (ivs (cs ++ [f + (ws.length : Int)])).length := by
      rw [ivs_len, ivs_len, List.length_append]
      rfl
    refine ⟨_, rfl, _, rfl, sl, el, _, _, rfl, SqL.of hs5, SqL.of he5, fun R hR => lc_zip hll (fun i H' => Same H5 H' ∧ ∃ xs, H' R = some (.lst xs) ∧ xs.length = i ∧ Paired (PieceE H' ix) xs ((((f :: cs).zip (cs ++ [f + (ws.length : Int)])).map (fun p => (p.1, part f ws p.1 p.2))).take i)) ?_ ?_ ?_ ?_⟩
    · exact ⟨same_new hR, [], upd_same, rfl, .nil⟩
    · rintro i H' hi ⟨s6, _⟩
      exact ⟨SqL.of (s6 _ _ hs5), SqL.of (s6 _ _ he5)⟩
    · rintro i x y T' H' hx hy ⟨s6, xs, h6, l6, p6⟩ hT
      have hi : i < (ivs (f :: cs)).length := (List.getElem?_eq_some_iff.mp hx).1
      have hc : (ivs (f :: cs)).length = cs.length + 1 := by rw [ivs_len]; rfl
      have i1 : i < (f :: cs).length := by rw [List.length_cons]; omega
      have i2 : i < (cs ++ [f + (ws.length : Int)]).length := by rw [List.length_append]; show i < cs.length + 1; omega
      rw [ivs_get i1] at hx
      rw [ivs_get i2] at hy
      cases hx
      cases hy
      have m1 : (f :: cs)[i] ∈ f :: cs := List.getElem_mem i1
      have m2 : (cs ++ [f + (ws.length : Int)])[i] ∈ cs ++ [f + (ws.length : Int)] := List.getElem_mem i2
      have zg : (((f :: cs).zip (cs ++ [f + (ws.length : Int)])).map (fun p => (p.1, part f ws p.1 p.2)))[i]? = some ((f :: cs)[i], part f ws (f :: cs)[i] (cs ++ [f + (ws.length : Int)])[i]) := by
        have zz : ((f :: cs).zip (cs ++ [f + (ws.length : Int)]))[i]? = some ((f :: cs)[i], (cs ++ [f + (ws.length : Int)])[i]) := List.getElem?_zip_eq_some.mpr ⟨List.getElem?_eq_getElem i1, List.getElem?_eq_getElem i2⟩
        rw [List.getElem?_map, zz]
        rfl
      generalize (f :: cs)[i] = zx at m1 zg
      generalize (cs ++ [f + (ws.length : Int)])[i] = zy at m2 zg
      have b1 : f ≤ zx ∧ zx ≤ f + (ws.length : Int) := by
        rcases List.mem_cons.mp m1 with rfl | m
        · omega
        · exact cin zx m
      have b2 : f ≤ zy ∧ zy ≤ f + (ws.length : Int) := by
        rcases List.mem_append.mp m2 with m | m
        · exact cin zy m
        · rw [List.mem_singleton.mp m]
          omega
      have s7 : Same H' (upd H' T' (.tup [.int zx, .int zy])) := same_new hT
      have b7 := s7 _ _ (s6 _ _ (S _ _ hb))
      refine ⟨T', _, rfl, SqT.of upd_same, rfl, _, _, rfl, _, _, rfl, rfl, rfl, ?_⟩
      refine ⟨_, rfl, _, rfl, _, rfl, _, rfl, _, rfl, _, _, rfl, rfl, _, rfl, _, rfl, _, rfl, _, _, rfl, rfl, _, rfl, b, _, rfl, b7, fun u H8 s8 h8 => ⟨szr, fun r H9 hr9 s9 h9 => ?_⟩⟩
      have s10 := s7.trans (s8.trans s9)
      have u9 := s9 _ _ h8
      rw [slice_part b1.1 b2.1 b1.2 b2.2] at u9
      have r10 := s10 _ _ h6
      refine ⟨xs, r10, szl (by omega), same_mut (s6.trans s10) hR, _, upd_same, by rw [List.length_append, l6]; rfl, ?_⟩
      have kk := kp_upd (zs := xs ++ [V.ref r]) r10
      exact paired_take_succ (pieces_kp kk (pieces_st s10 p6)) (V.ref r) ⟨r, u, rfl, kk.tup h9, kk.tup u9⟩ zg
    · rintro H' ⟨s6, xs, h6, l6, p6⟩
      refine k R H' xs (S.trans s6) (S.free hR) h6 ?_
      rw [fin]
      have ll : (((f :: cs).zip (cs ++ [f + (ws.length : Int)])).map (fun p => (p.1, part f ws p.1 p.2))).length = (ivs (f :: cs)).length := by
        rw [List.length_map, List.length_zip, List.length_append, ivs_len, List.length_cons]
        show min (cs.length + 1) (cs.length + 1) = cs.length + 1
        omega
      rw [← ll, List.take_length] at p6
      exact p6
end
end Af

set_option Elab.async false
set_option linter.all false
set_option maxRecDepth 100000
set_option maxHeartbeats 4000000
namespace Af
open PySem L2
abbrev s_pieces_of : Stmt := top 22
abbrev N_pieces_of : List Str := ["width", "steps", "pieces", "index", "step"]
theorem sc_pieces_of : FnScope N_pieces_of ["width", "steps"] (defScope s_pieces_of) := ⟨rfl, rfl, rfl, by decide +kernel, rfl, by decide +kernel, by decide +kernel⟩

abbrev s_epochs_of : Stmt := top 24
abbrev N_epochs_of : List Str := ["steps", "epochs", "barriers", "step"]
theorem sc_epochs_of : FnScope N_epochs_of ["steps"] (defScope s_epochs_of) := ⟨rfl, rfl, rfl, by decide +kernel, rfl, by decide +kernel, by decide +kernel⟩

/-- the pieces of one step, of all steps, each with its step's index -/
def oneP (w : Int) (i : Nat) : Stp → List (Int × (Int × List Int))
  | none => []
  | some (f, ws) => (spl w f [] f ws).map fun p => ((i : Int), p)
def allP (w : Int) : Nat → List Stp → List (Int × (Int × List Int))
  | _, [] => []
  | i, s :: r => oneP w i s ++ allP w (i + 1) r
theorem allP_snoc (w : Int) (s : Stp) : ∀ (l : List Stp) (i : Nat), allP w i (l ++ [s]) = allP w i l ++ oneP w (i + l.length) s
  | [], i => by
    show oneP w i s ++ [] = [] ++ oneP w i s
    rw [List.append_nil, List.nil_append]
  | a :: l, i => by
    show oneP w i a ++ allP w (i + 1) (l ++ [s]) = (oneP w i a ++ allP w (i + 1) l) ++ oneP w (i + (l.length + 1)) s
    rw [allP_snoc w s l (i + 1), List.append_assoc, show i + 1 + l.length = i + (l.length + 1) by omega]
theorem allP_take {w : Int} {l : List Stp} {i : Nat} {s : Stp} (h : l[i]? = some s) : allP w 0 (l.take (i + 1)) = allP w 0 (l.take i) ++ oneP w i s := by
  have hi : i < l.length := (List.getElem?_eq_some_iff.mp h).1
  rw [List.take_add_one, h]
  show allP w 0 (l.take i ++ [s]) = _
  rw [allP_snoc, List.length_take, Nat.zero_add, Nat.min_eq_left (Nat.le_of_lt hi)]
def PieceA (H : Hp) (x : V) (p : Int × (Int × List Int)) : Prop := PieceE H p.1 x p.2
theorem pieceA_kp {q : Addr} {H H' : Hp} {xs : List V} {ps : List (Int × (Int × List Int))} (k : Kp q H H') (h : Paired (PieceA H) xs ps) : Paired (PieceA H') xs ps := L2.Paired.mapP h fun _ _ z => PieceE.kp k z
theorem pieceA_st {H H' : Hp} {xs : List V} {ps : List (Int × (Int × List Int))} (k : Same H H') (h : Paired (PieceA H) xs ps) : Paired (PieceA H') xs ps := pieceA_kp (q := 0) (Kp.same k) h
theorem pieceA_of {H : Hp} {ix : Int} : ∀ {xs : List V} {ps : List (Int × List Int)}, Paired (PieceE H ix) xs ps → Paired (PieceA H) xs (ps.map fun p => (ix, p))
  | _, _, .nil => .nil
  | _, _, .cons h t => .cons h (pieceA_of t)
theorem spl_len {w : Int} : ∀ (r acc : List Int) (st pos : Int), (spl w st acc pos r).length ≤ r.length + 1
  | [], _, _, _ => Nat.le_refl _
  | x :: r, acc, st, pos => by
    by_cases c : acc ≠ [] ∧ pos % w = 0
    · rw [spl_cut c, List.length_cons, List.length_cons]
      have := spl_len (w := w) r [x] pos (pos + 1)
      omega
    · rw [spl_go c, List.length_cons]
      have := spl_len (w := w) r (acc ++ [x]) st (pos + 1)
      omega
def sp_partsX : Sp := fun vs H Q _ => ∃ (a ca sa : Addr) (sp : Int) (xs : List V) (sts : List Stp), vs = [.ref a] ∧ H a = some (.tup [.ref ca, .int sp, .ref sa]) ∧ H sa = some (.lst xs) ∧ Paired (StepV H) xs sts ∧ 0 < sp ∧ xs.length ≤ 100 ∧
  (∀ f ws, some (f, ws) ∈ sts → ws.length ≤ 100) ∧ ∀ l H' ys, Same H H' → H l = none → H' l = some (.lst ys) → Paired (PieceA H') ys (allP sp 0 sts) → Q (.ref l) H'
def sp_piecesX : Sp := fun vs H Q _ => ∃ (wd : Int) (a : Addr) (xs : List V) (sts : List Stp), vs = [.int wd, .ref a] ∧ H a = some (.lst xs) ∧ Paired (StepV H) xs sts ∧ 0 < wd ∧ xs.length ≤ 100 ∧ (∀ x ∈ sts, OkS 24 x) ∧
  ∀ l H' ys, Same H H' → H l = none → H' l = some (.lst ys) → Paired (PieceA H') ys (allP wd 0 sts) → Q (.ref l) H'
section
variable {P : Program} {w : World} {K : PySem.W.Frag} {mg : Str → Option Value} {base : Heap}
theorem ok_partsX {f : Addr} {fd : FuncData} (F : Fun K "_law_parts" "_law_parts" s_l_parts f fd) (T : Txt mg) (c_l_split : Cal P w K mg base 1 "_law_split" ["_law_index", "_law_step_here", "_law_span_here"] sp_split) : FnOk P w K mg base CX0 2 f fd ["_law_plan_here"] sp_partsX := by
  refine F.ok sc_l_parts (fun vs H Q E h => ?_) (fun cdv A outer s H vs Q E hr h => ?_)
  · obtain ⟨_, _, _, _, _, _, rfl, _⟩ := h
    rfl
  obtain ⟨a, ca, sa, sp, xs, sts, rfl, ha, hsa, hst, hsp, hxl, hw, k⟩ := h
  refine ⟨_, (pss_cons (ps_set (i := 1) sc_l_parts.nd rfl (Or.inl rfl) (pe_lst' pa_nil))
    (pss_cons (ps_for PassesOwn.never rfl (pi_range1 rfl T.range (pa_cons (pe_callB call_len' (by rfl) T.len (by decide +kernel) (pa_cons (pe_ix ix_seq' (pv 0) pe_int (fun _ _ => rfl)) pa_nil)) pa_nil)) (pg_name (i := 2) sc_l_parts.nd rfl (Or.inl rfl))
      (pss_one (ps_if (pt_cmpR op_notN (pe_ix ix_seq' (pe_ix ix_seq' (pv 0) pe_int (fun _ _ => rfl)) (pv 2) (fun _ _ => rfl)) pe_non (nomark _))
      (pss_one (ps_set (i := 1) sc_l_parts.nd rfl (Or.inl rfl) (pe_op op_cat' (pv 1) (pe_cal c_l_split hr (pa_cons (pv 2) (pa_cons (pe_ix ix_seq' (pe_ix ix_seq' (pv 0) pe_int (fun _ _ => rfl)) (pv 2) (fun _ _ => rfl)) (pa_cons (pe_ix ix_seq' (pv 0) pe_int (fun _ _ => rfl)) pa_nil)))))))
      pss_nil)))
    (pss_one (ps_ret (pv 1))))), ?_⟩
  have hlen := paired_len hst
  refine ⟨szr, fun fl H1 hfl s1 h1 => ?_⟩
  refine ⟨_, rfl, a, _, _, _, rfl, rfl, .inr (s1 _ _ ha), rfl, sa, _, rfl, .inl (s1 _ _ hsa), _, rfl, ?_, ?_, ?_⟩
  · omega
  · omega
  refine for_range (lo := 0) (fun i σ' H' => ∃ fl ys kv, σ' = [some (.ref a), some (.ref fl), kv] ∧ Same H H' ∧ H fl = none ∧ H' fl = some (.lst ys) ∧ ys.length ≤ i * 101 ∧ Paired (PieceA H') ys (allP sp 0 (sts.take i))) ?_ ?_ ?_
  · exact ⟨fl, [], none, rfl, s1, hfl, h1, Nat.zero_le _, .nil⟩
  · rintro i σ' H' hi ⟨fl, ys, kv, rfl, s2, hfl, h2, l1, p2⟩
    have hi' : i < xs.length := by omega
    have hx2 : xs[i]? = some xs[i] := List.getElem?_eq_getElem hi'
    obtain ⟨st, hs1, hs2⟩ := paired_get hst hx2
    have tk := allP_take (w := sp) hs1
    refine ⟨_, rfl, a, _, _, _, rfl, rfl, .inr (s2 _ _ ha), rfl, _, rfl, sa, _, _, _, rfl, rfl, .inl (s2 _ _ hsa), at_of (Int.zero_add _) hx2, rfl, _, rfl, ?_⟩
    cases st with
    | none =>
      have e : xs[i] = V.non := hs2
      rw [e]
      exact ⟨fl, ys, _, rfl, s2, hfl, h2, by omega, by rw [tk]; show Paired _ ys (_ ++ []); rw [List.append_nil]; exact p2⟩
    | some fw =>
      obtain ⟨f, ws⟩ := fw
      obtain ⟨t, b, e, h3, h4⟩ := hs2
      rw [e]
      have hws := hw f ws (List.mem_of_getElem? hs1)
      refine ⟨_, rfl, _, rfl, _, rfl, a, _, _, _, rfl, rfl, .inr (s2 _ _ ha), rfl, _, rfl, sa, _, _, _, rfl, rfl, .inl (s2 _ _ hsa), at_of (Int.zero_add _) (hx2.trans (congrArg some e)), ?_⟩
      refine ⟨_, rfl, a, _, _, _, rfl, rfl, .inr (s2 _ _ ha), rfl, _, f, sp, t, b, ws, rfl, s2 _ _ h3, s2 _ _ h4, hsp, by omega, fun l H3 zs s3 hl h5 p5 => ?_⟩
      have zl : zs.length ≤ 101 := by
        rw [paired_len p5]
        have := spl_len (w := sp) ws [] f f
        omega
      refine ⟨fl, l, _, _, rfl, rfl, s3 _ _ h2, h5, sz (by omega), fun r H4 hr4 s4 h7 => ?_⟩
      rw [Int.zero_add] at p5
      refine ⟨r, ys ++ zs, _, rfl, s2.trans (s3.trans s4), s2.free (s3.free hr4), h7, by rw [List.length_append]; omega, ?_⟩
      rw [tk]
      exact paired_app (pieceA_st (s3.trans s4) p2) (pieceA_st s4 (pieceA_of p5))
  · rintro σ' H' ⟨fl, ys, kv, rfl, s2, hfl, h2, l1, p2⟩
    have e : (xs.length : Int).toNat = sts.length := by rw [← hlen]; exact Int.toNat_natCast _
    first
      | rw [e, List.take_length] at p2
      | rw [hlen, List.take_length] at p2
    exact ⟨_, rfl, k fl H' ys s2 hfl h2 p2⟩
theorem ok_piecesX {f : Addr} {fd : FuncData} (F : Fun K "_pieces_of" "_pieces_of" s_pieces_of f fd) (T : Txt mg) (c_broken : Cal P w K mg base 1 "_broken" ["width", "index", "write"] sp_brokenX) : FnOk P w K mg base CX0 2 f fd ["width", "steps"] sp_piecesX := by
  refine F.ok sc_pieces_of (fun vs H Q E h => ?_) (fun cdv A outer s H vs Q E hr h => ?_)
  · obtain ⟨_, _, _, _, rfl, _⟩ := h
    rfl
  obtain ⟨wd, a, xs, sts, rfl, ha, hst, w0, xl, ok, k⟩ := h
  refine ⟨_, (pss_cons (ps_set (i := 2) sc_pieces_of.nd rfl (Or.inl rfl) (pe_lst' pa_nil))
    (pss_cons (ps_for PassesOwn.never rfl (pi_enum rfl T.enumerate (pa_cons (pv 1) pa_nil)) (pg_tup rfl (pgs_cons (pg_name (i := 3) sc_pieces_of.nd rfl (Or.inl rfl)) (pgs_cons (pg_name (i := 4) sc_pieces_of.nd rfl (Or.inl rfl)) pgs_nil)))
      (pss_one (ps_if (pt_cmpR op_notN (pv 4) pe_non (nomark _))
      (pss_one (ps_expr (pe_bm PySem.F.plainAttrs_list PySem.F.slot_list_extend PySem.F.type_list_extend mt_extend (pv 2) (pa_cons (pe_cal c_broken hr (pa_cons (pv 0) (pa_cons (pv 3) (pa_cons (pv 4) pa_nil)))) pa_nil))))
      pss_nil)))
    (pss_one (ps_ret (pv 2))))), ?_⟩
  refine ⟨szr, fun pl H1 hpl s1 h1 => ?_⟩
  have hlen := paired_len hst
  refine ⟨_, rfl, a, xs, rfl, SqL.of (s1 _ _ ha), for_enum (K := K) (a := a) (xs := xs) (fun i σ' H' => ∃ ys v1 v2, σ' = [some (.int wd), some (.ref a), some (.ref pl), v1, v2] ∧ Same H H' ∧ H' pl = some (.lst ys) ∧ ys.length ≤ i * 25 ∧ Paired (PieceA H') ys (allP wd 0 (sts.take i))) ?_ ?_ ?_ ?_⟩
  · exact ⟨[], none, none, rfl, s1, h1, Nat.zero_le _, .nil⟩
  · rintro i σ' H' hi ⟨ys, v1, v2, rfl, s2, _⟩
    exact SqL.of (s2 _ _ ha)
  · rintro i x T' σ' H' hx ⟨ys, v1, v2, rfl, s2, h2, l2, p2⟩ hT
    have hi : i < xs.length := (List.getElem?_eq_some_iff.mp hx).1
    obtain ⟨st, hs1, hs2⟩ := paired_get hst hx
    have s3 : Same H' (upd H' T' (.tup [.int (i : Nat), x])) := same_new hT
    have tk := allP_take (w := wd) hs1
    refine ⟨T', _, rfl, SqT.of upd_same, rfl, _, _, rfl, _, _, rfl, rfl, ?_⟩
    cases st with
    | none =>
      have e : x = .non := hs2
      subst e
      exact ⟨_, rfl, rfl, _, rfl, ys, _, _, rfl, s2.trans s3, s3 _ _ h2, by omega, by rw [tk]; show Paired _ ys (_ ++ []); rw [List.append_nil]; exact pieceA_st s3 p2⟩
    | some fw =>
      obtain ⟨f, ws⟩ := fw
      obtain ⟨t, b, e, h3, h4⟩ := hs2
      subst e
      obtain ⟨o1, o2, o3, o4⟩ := ok _ (List.mem_of_getElem? hs1)
      have s4 := s2.trans s3
      refine ⟨_, rfl, rfl, _, rfl, ?_⟩
      refine ⟨_, rfl, .inl ⟨rfl, _, SqL.of (s3 _ _ h2)⟩, ?_⟩
      refine ⟨_, rfl, _, rfl, _, rfl, wd, (i : Int), f, t, b, ws, rfl, s4 _ _ h3, s4 _ _ h4, w0, o1, by omega, o2, by omega, fun l H5 zs s5 hl h5 p5 => ?_⟩
      have h6 := s5 _ _ (s3 _ _ h2)
      have zl : zs.length ≤ 25 := by
        rw [paired_len p5]
        have := spl_len (w := wd) ws [] f f
        omega
      refine ⟨pl, l, ys, zs, rfl, rfl, h6, h5, sz (by omega), ?_⟩
      have kk := kp_upd (zs := ys ++ zs) h6
      refine ⟨ys ++ zs, _, _, rfl, same_mut (s4.trans s5) hpl, upd_same, by rw [List.length_append]; omega, ?_⟩
      rw [tk]
      exact paired_app (pieceA_kp kk (pieceA_st (s3.trans s5) p2)) (pieceA_kp kk (pieceA_of p5))
  · rintro σ' H' ⟨ys, v1, v2, rfl, s2, h2, l2, p2⟩
    rw [hlen, List.take_length] at p2
    exact ⟨_, rfl, k pl H' ys s2 hpl h2 p2⟩
end
end Af

set_option Elab.async false
set_option linter.all false
set_option maxRecDepth 100000
namespace Af
open PySem PySem.Spec PyProof.Rows L2
/-! a def that runs where no repr is under way (repr asks it), and repr itself -/
section
variable {P : Program} {w : World} {K : PySem.W.Frag} {mg : Str → Option Value} {base : Heap}
structure FnG (P : Program) (w : World) (K : PySem.W.Frag) (mg : Str → Option Value) (base : Heap) (k : Nat) (f : Addr) (fd : FuncData) (ps : List Str) (sp : Sp) : Prop where
  many : ∀ (xs : List V) (G : Hp) (R : VK) (E : XK), sp xs G R E → xs.length = ps.length
  goes : ∀ (A : Around) (out : List Env) (s : Shared) (G : Hp) (ar : Args) (us : List Value) (xs : List V) (R : VK) (E : XK), Room k A → A.guards = some [] → Env0 P w K mg base A out s G → BindsTo s fd ar (ps.zip us) → Vals xs us → sp xs G R E →
    codeAny (model P w) A (.call (.ref f) ar) (CR CX0 out P w G s R E) s
theorem okG {x qual : Str} {st : Stmt} {f : Addr} {fd : FuncData} {N ps : List Str} {k : Nat} {sp : Sp} (F : Fun K x qual st f fd) (S : FnScope N ps (defScope st)) (many : ∀ (xs : List V) (G : Hp) (R : VK) (E : XK), sp xs G R E → xs.length = ps.length)
    (body : ∀ (cv : Value) (A : Around) (out : List Env) (s : Shared) (G : Hp) (xs : List V) (R : VK) (E : XK), Room k (A.deeper (envOfC qual (defScope st) s.heap.objs.size f cv)) → A.guards = some [] → sp xs G R E →
      ∃ t, PSs (cxOf CX0 P w K mg base N qual (defScope st) f cv A out s G E).nox (defBody st) t ∧ t { nx := fun _ G' => R .non G', rt := R } (L2.start N xs) G) : FnG P w K mg base (k + 1) f fd ps sp := by
  obtain ⟨oc, od, kV, doc, pm, an, cv, ct, osl, rfl, lk, code⟩ := F.ex
  refine ⟨many, fun A out s G ar us xs R E room grd env bind vals hs => ?_⟩
  have nl := many _ _ _ _ hs
  have KI : K.In s.heap := env.mod.kin.keeps fun b o e => (env.bs b o e).1
  have NL : s.heap.NoLimit := env.mod.nolimit.keeps fun b o e => (env.bs b o e).1
  have kinds : ∀ y ∈ ps.zip us, (defScope st).names.lookup y.1 = some .local ∨ ((defScope st).names.lookup y.1 = some .cell ∧ ((cellsFrom (s.heap.objs.size + 1) (defScope st).names []).lookup y.1).isSome = true) := by
    rintro ⟨n, v⟩ hy
    rcases S.par n (List.of_mem_zip hy).1 with q | q
    · exact .inl q
    · exact .inr ⟨q, PySem.W.cellsFrom_some _ _ _ (.inl q)⟩
  refine codeAny_call_function room.depth (KI _ _ lk) rfl S.co S.gen rfl (PySem.W.codeRec_of KI code) (bind _ _ _ _ (wpAny_newFunctionEnv_cells S.kind kinds fun en he s1 z => ?_))
  subst he
  refine ⟨NL.keeps z.toInCall.keep, codeAny_func ?_⟩
  obtain ⟨t, ht, hq⟩ := body cv A out s G xs R E (room.deeper _) grd hs
  have I := inv_start (CX := CX0) (E := E) (N := N) (cd := cv) (f := f) (qual := qual) S room.hd env nl vals z
  refine wpAny_mono (ht.nox.run [] s1 (L2.start N xs) G _ I hq) (fun fl s' hz => ?_) fun e s' hz => hz
  have last : ∀ {σ : L2.St} {G' : Hp} {v : V} {u : Value}, Inv (cxOf CX0 P w K mg base N qual (defScope st) f cv A out s G E) [] σ G' s' → RelV v u → R v G' → CE out P w G s R u s' := fun {σ G' v u} J rv q => ⟨v, G', J.os, J.bare, J.base, J.hok, rv, q⟩
  match fl, hz with
  | .ret u, ⟨v, σ, G', J, rv, q⟩ => exact last J rv q
  | .next, ⟨σ, G', J, q⟩ => exact last (v := V.non) (u := Value.none) J rfl q
  | .brk, ⟨_, _, _, q⟩ => exact q.elim
  | .cont, ⟨_, _, _, q⟩ => exact q.elim
/-- the law, called behind the top -/
theorem callG {P : Program} {w : World} {K : PySem.W.Frag} {mg mb : Str → Option Value} {k : Nat} {fa a : Addr} {fd : FuncData} {x : Str} {sp : Sp} {s : Shared} {us : List Value} {ns : List Int} (KI : K.In s.heap) (hns : s.heap.Ns mainGlobals mg) (hb : s.heap.Ns builtinsNs mb)
    (hbb : ∀ n : Str, n ≠ "__name__" → mb n = bootBuiltins n) (NL : s.heap.NoLimit) (gn : s.gens = #[]) (ha : s.heap.get? a = some { cls := .type "list", data := .seq us.toArray }) (hi : IntsAre us ns) (short : ns.length ≤ sizeLine) (room : Room k callerA)
    (F : ∀ base : Heap, K.In base → base.Ns mainGlobals mg → FnG P w K mg base k fa fd [x] sp) (bind : ∀ (s : Shared) (u : Value), BindsTo s fd ⟨[u], []⟩ [(x, u)])
    (hs : ∀ G : Hp, Only G → SqL K G a (ns.map V.int) → sp [.ref a] G (fun v _ => v = .bl true) fun _ _ _ => False) :
    codeAny (model P w) callerA (.call (.ref fa) ⟨[.ref a], []⟩) (fun r s' => r = .ok (.ret (.bool true)) ∧ OldK s.heap s'.heap ∧ s'.os = s.os ∧ AllBare s'.gens) s := by
  have vals := vals_ints hi
  have many := hi.length
  have main : ∀ G : Hp, Only G → SqL K G a (ns.map V.int) → HOk P w G s.heap → (∀ b, G b ≠ none → b = a) → (G a ≠ none → K.lookup a = none) →
      codeAny (model P w) callerA (.call (.ref fa) ⟨[.ref a], []⟩) (fun r s' => r = .ok (.ret (.bool true)) ∧ OldK s.heap s'.heap ∧ s'.os = s.os ∧ AllBare s'.gens) s := by
    intro G hO hS ok one free
    have keep : ∀ {b : Addr} {o : Obj}, s.heap.get? b = some o → G b = none → (hidT s.heap G).get? b = some o := fun z n => hidT_get z n
    have dicts : ∀ {b : Addr} {o : Obj} {es : Array DictEntry} {ep : Nat}, s.heap.get? b = some o → o.data = .dict es ep → G b = none := by
      intro b o es ep z dz
      cases q : G b with
      | none => rfl
      | some u =>
        have y := one b (by rw [q]; simp)
        subst y
        rw [ha] at z
        cases z
        have dz' : Data.seq us.toArray _ = Data.dict es ep := dz
        cases dz'
    have spaces : ∀ {b : Addr} {m : Str → Option Value}, s.heap.Ns b m → (hidT s.heap G).Ns b m := by
      rintro b m ⟨o, es, ep, z, dz, r⟩
      exact ⟨o, es, ep, keep z (dicts z dz), dz, r⟩
    have KB : K.In (hidT s.heap G) := by
      intro b o z
      refine keep (KI b o z) ?_
      cases q : G b with
      | none => rfl
      | some u =>
        have y := one b (by rw [q]; simp)
        subst y
        rw [free (by rw [q]; simp)] at z
        cases z
    have env : Env0 P w K mg (hidT s.heap G) callerA [] s G := by
      refine ⟨rfl, ⟨KB, spaces hns, ⟨mb, spaces hb, hbb⟩, ?_⟩, fun b o z => of_hidT z, Nat.le_of_eq (hidT_size _ _), trivial, fun b z => absurd (show b ∈ ([] : List Addr) from z) (by simp), ok, .of_eq gn⟩
      obtain ⟨mc, y1, y2⟩ := NL
      exact ⟨mc, spaces y1, y2⟩
    refine codeAny_mono ((F _ KB (spaces hns)).goes callerA [] s G ⟨[.ref a], []⟩ [.ref a] [.ref a] _ _ room rfl env (bind s (.ref a)) (.cons rfl .nil) (hs G hO hS)) fun r s' z => ?_
    match r, z with
    | .ok (.ret u), z =>
      obtain ⟨v, G', hos, bare, un, ok', rv, q⟩ := z
      have q' : v = .bl true := q
      subst q'
      obtain rfl : u = Value.bool true := rv
      refine ⟨rfl, OldK.of_keep fun b o y => ?_, hos, bare⟩
      cases q : G b with
      | none => exact un.keep b o y q (by intro m; exact absurd (show b ∈ ([] : List Addr) from m) (by simp)) (by simp)
      | some u =>
        rcases hO b with z | ⟨ob, xs, z⟩
        · rw [q] at z
          cases z
        · obtain ⟨y1, _⟩ := ok b _ z
          obtain ⟨y2, _⟩ := ok' b _ (un.frzs b ob _ z)
          rw [y] at y1
          cases y1
          exact y2
    | .error e, z => exact (show False from z).elim
    | .ok .next, z => exact (show False from z).elim
    | .ok .brk, z => exact (show False from z).elim
    | .ok .cont, z => exact (show False from z).elim
  cases hk : K.lookup a with
  | some o =>
    have z := KI a o hk
    rw [ha] at z
    cases z
    exact main (fun _ => none) (fun _ => .inl rfl) (.inr ⟨_, us.toArray, _, hk, rfl, rfl, rfl, by rw [List.size_toArray, many]; exact short, by simpa using vals⟩) (fun b u y => by cases (show (none : Option HO) = some u from y)) (fun b y => absurd rfl y) fun y => absurd rfl y
  | none =>
    have at_ : ∀ {b : Addr} {u : HO}, (if b = a then some (HO.frz { cls := .type "list", data := .seq us.toArray } (.lst (ns.map V.int))) else none) = some u → b = a ∧ u = .frz { cls := .type "list", data := .seq us.toArray } (.lst (ns.map V.int)) := by
      intro b u y
      by_cases q : b = a
      · rw [if_pos q] at y
        exact ⟨q, (Option.some.inj y).symm⟩
      · rw [if_neg q] at y
        cases y
    refine main (fun b => if b = a then some (.frz { cls := .type "list", data := .seq us.toArray } (.lst (ns.map V.int))) else none) (fun b => ?_) (.inl (.inr ⟨{ cls := .type "list", data := .seq us.toArray }, if_pos rfl⟩)) (fun b u y => ?_) (fun b y => ?_) fun _ => hk
    · by_cases q : b = a
      · exact .inr ⟨_, _, if_pos q⟩
      · exact .inl (if_neg q)
    · obtain ⟨rfl, rfl⟩ := at_ y
      exact ⟨ha, by rw [List.length_map]; exact short, us, _, vals, ha⟩
    · by_cases q : b = a
      · exact q
      · exact absurd (if_neg q) y
theorem walkG {l : PySem.W.OpenLaw} {n k : Nat} {q : Program} {loose : List Str} {XP : (Str → Option Value) → Heap → Prop} {YP : World → Heap → Prop} {d : DefRec} {K : Params → PySem.W.Frag} {sp : World → Sp} {x : Str} (hn : l.most = some n) (small : n ≤ sizeLine) (hd : d.params.defaults = []) (room : Room k callerA)
    (hY : ∀ (w : World) (h : Heap), YP w h → (K w.params).In h)
    (F : ∀ (w : World) (mg : Str → Option Value) (fa : Addr) (h : Heap), (K w.params).In h → h.Ns mainGlobals mg → mg d.name = some (.ref fa) →
      ∃ fd : FuncData, (∀ (s : Shared) (u : Value), BindsTo s fd ⟨[u], []⟩ [(x, u)]) ∧ ∀ base : Heap, (K w.params).In base → base.Ns mainGlobals mg → FnG l.prog w (K w.params) mg base k fa fd [x] (sp w))
    (hs : ∀ (w : World) (G : Hp) (a : Addr) (ns : List Int), ns.length ≤ n → Only G → SqL (K w.params) G a (ns.map V.int) → sp w [.ref a] G (fun v _ => v = .bl true) fun _ _ _ => False) :
    PySem.W.WalkO q loose XP YP l.row.toRowW d [] (fun f vs => PySem.call f vs) := by
  refine Att.attach_call hn hd fun w s₀ s₁ mg mb fa o pm cd doc a us ns G Y ho hq hcd hmg hobj hints hlen hg => ?_
  have KI := hY w _ Y
  obtain ⟨fd, hb, hF⟩ := F w mg fa _ KI G.T.g hmg
  exact callG KI G.T.g G.T.b G.T.builtins G.T.nolimit hg hobj hints (Nat.le_trans hlen small) room hF hb fun H hO hS => hs w H a ns hlen hO hS
end
end Af

set_option Elab.async false
set_option linter.all false
set_option maxRecDepth 100000
namespace Af
open PySem PySem.Spec PyProof.Rows L2
/-! data with empty dicts within, and its repr -/
mutual
inductive Dq (K : PySem.W.Frag) (H : Hp) : V → PyData → Prop
  | non : Dq K H .non .none
  | bl (b : Bool) : Dq K H (.bl b) (.bool b)
  | int (i : Int) : Dq K H (.int i) (.int i)
  | str (x : Str) : Dq K H (.str x) (.str x)
  | lst {a : Addr} {xs : List V} {ds : List PyData} : H a = some (.lst xs) → DqAll K H xs ds → Dq K H (.ref a) (.list ds)
  | tup {a : Addr} {xs : List V} {ds : List PyData} : H a = some (.tup xs) → DqAll K H xs ds → Dq K H (.ref a) (.tuple ds)
  | dic {a : Addr} : H a = some (.dK []) → Dq K H (.ref a) (.dict [])
inductive DqAll (K : PySem.W.Frag) (H : Hp) : List V → List PyData → Prop
  | nil : DqAll K H [] []
  | cons {v : V} {vs : List V} {d : PyData} {ds : List PyData} : Dq K H v d → DqAll K H vs ds → DqAll K H (v :: vs) (d :: ds)
end
section
variable {X : Cx} {pins : List (Addr × Obj)} {σ : L2.St} {H : Hp} {s : Shared}
mutual
/-- such data is read, and shown whatever calls are under way -/
theorem Dq.sees (I : Inv X pins σ H s) : ∀ (d : PyData) (v : V) (u : Value), Dq X.K H v d → RelV v u → d.showable = true → d.shown.length ≤ sizeLine →
    ∃ as bs, Reads s.heap u d as ∧ ReadAtMost s.heap d.depth bs ∧ ReprK X.prog X.w bs s.heap d.depth u d.shown
  | .none, _, _, h, r, sh, sz => by
    cases h
    cases r
    obtain ⟨bs, h1, h2⟩ := ReprK.of_reads (prog := X.prog) (w := X.w) (h₀ := s.heap) Reads.none sh (fun z => by cases z) sz
    exact ⟨_, bs, Reads.none, h1, h2⟩
  | .bool b, _, _, h, r, sh, sz => by
    cases h
    cases r
    obtain ⟨bs, h1, h2⟩ := ReprK.of_reads (prog := X.prog) (w := X.w) (h₀ := s.heap) (Reads.bool b) sh (fun z => by cases z) sz
    exact ⟨_, bs, Reads.bool b, h1, h2⟩
  | .int i, _, _, h, r, sh, sz => by
    cases h
    obtain ⟨t, rfl⟩ := r
    obtain ⟨bs, h1, h2⟩ := ReprK.of_reads (prog := X.prog) (w := X.w) (h₀ := s.heap) (Reads.int i t) sh (fun z => by cases z) sz
    exact ⟨_, bs, Reads.int i t, h1, h2⟩
  | .str x, _, _, h, r, sh, sz => by
    cases h
    obtain ⟨t, rfl⟩ := r
    obtain ⟨bs, h1, h2⟩ := ReprK.of_reads (prog := X.prog) (w := X.w) (h₀ := s.heap) (Reads.str x t) sh (fun z => by cases z) sz
    exact ⟨_, bs, Reads.str x t, h1, h2⟩
  | .list ds, _, _, h, r, sh, sz => by
    cases h with
    | @lst a xs _ hs ha =>
      cases r
      obtain ⟨its, rv, ⟨o, n, ho, hc, _, hd⟩, _⟩ := I.list (SqL.of hs)
      have sz' : (listText (PyData.shownAll ds)).length ≤ sizeLine := by simpa only [PyData.shown] using sz
      obtain ⟨as, bs, hr, hb, hk⟩ := Dq.seesAll I ds _ its ha rv (by simpa [PyData.showable] using sh) fun t ht => Nat.le_trans (listText_mem_le ht) sz'
      have rd : Reads s.heap (.ref a) (.list ds) _ := .list ho hc hd hr
      have new : a ∉ bs := not_mem_of_deeper rd (by simp only [PyData.depth]; omega) hb
      refine ⟨_, a :: bs, rd, ReadAtMost.cons rd (by simp only [PyData.depth]; omega) hb, ?_⟩
      simp only [PyData.depth, PyData.shown]
      cases its with
      | nil =>
        cases hr
        simp only [PyData.shownAll, listText_nil]
        exact ReprK.listEmpty ho hc hd
      | cons x l => exact ReprK.list ho hc hd new (by simpa using hk.length_eq) fun i y e => hk.item i y (by simpa using e)
  | .tuple ds, _, _, h, r, sh, sz => by
    cases h with
    | @tup a xs _ hs ha =>
      cases r
      obtain ⟨its, rv, ⟨o, ho, hc, n, hd⟩, _⟩ := I.tuple (SqT.of hs)
      have sz' : (tupleText (PyData.shownAll ds)).length ≤ sizeLine := by simpa only [PyData.shown] using sz
      obtain ⟨as, bs, hr, hb, hk⟩ := Dq.seesAll I ds _ its ha rv (by simpa [PyData.showable] using sh) fun t ht => Nat.le_trans (tupleText_mem_le ht) sz'
      have rd : Reads s.heap (.ref a) (.tuple ds) _ := .tuple ho hc hd hr
      have new : a ∉ bs := not_mem_of_deeper rd (by simp only [PyData.depth]; omega) hb
      refine ⟨_, a :: bs, rd, ReadAtMost.cons rd (by simp only [PyData.depth]; omega) hb, ?_⟩
      simp only [PyData.depth, PyData.shown]
      exact ReprK.tuple ho hc hd new hk
  | .dict kvs, _, _, h, r, sh, sz => by
    cases h with
    | @dic a ha =>
      cases r
      obtain ⟨_, hne, vs, rv, o, es, ep, h1, h2, h3, _, h4, _⟩ := dk_of I.hok ha
      cases rv
      have e : es.toList = [] := by
        cases q : es.toList with
        | nil => rfl
        | cons y l =>
          rw [q] at h4
          cases h4
      have rd : Reads s.heap (.ref a) (.dict []) ([a] ++ []) := Reads.dict (kvs := []) (as := []) (bs := []) h1 h2.1 h3 (by rw [e]; exact .nil) (by rw [e]; exact .nil)
      obtain ⟨bs, h5, h6⟩ := ReprK.of_reads (prog := X.prog) (w := X.w) (h₀ := s.heap) rd sh (fun _ z => by
        have z' : sysModules ∈ [a] := z
        rw [← List.mem_singleton.mp z'] at hne
        exact absurd hne (by simp)) sz
      exact ⟨_, bs, rd, h5, h6⟩
theorem Dq.seesAll (I : Inv X pins σ H s) : ∀ (ds : List PyData) (vs : List V) (us : List Value), DqAll X.K H vs ds → Vals vs us → PyData.showableAll ds = true → (∀ t ∈ PyData.shownAll ds, t.length ≤ sizeLine) →
    ∃ as bs, ReadsAll s.heap us ds as ∧ ReadAtMost s.heap (PyData.depthAll ds) bs ∧ ReprAllK X.prog X.w bs s.heap (PyData.depthAll ds) us (PyData.shownAll ds)
  | [], _, _, h, r, _, _ => by
    cases h
    cases r
    refine ⟨_, [], ReadsAll.nil, ⟨fun b z => (by simp at z), ?_⟩⟩
    simp only [PyData.shownAll]
    exact .nil
  | d :: ds, _, _, h, r, sh, sz => by
    cases h with
    | cons h1 h2 =>
      cases r with
      | cons r1 r2 =>
        have sh' : d.showable = true ∧ PyData.showableAll ds = true := by simpa [PyData.showableAll] using sh
        obtain ⟨a1, b1, q1, m1, k1⟩ := Dq.sees I d _ _ h1 r1 sh'.1 (sz _ (by simp only [PyData.shownAll]; exact List.mem_cons_self))
        obtain ⟨a2, b2, q2, m2, k2⟩ := Dq.seesAll I ds _ _ h2 r2 sh'.2 fun t ht => sz t (by simp only [PyData.shownAll]; exact List.mem_cons_of_mem _ ht)
        refine ⟨_, b1 ++ b2, ReadsAll.cons q1 q2, fun b hb => ?_, ?_⟩
        · simp only [PyData.depthAll]
          rcases List.mem_append.mp hb with hb | hb
          · obtain ⟨d', a', r', y⟩ := m1 b hb
            exact ⟨d', a', r', by omega⟩
          · obtain ⟨d', a', r', y⟩ := m2 b hb
            exact ⟨d', a', r', by omega⟩
        · simp only [PyData.depthAll, PyData.shownAll]
          refine .cons ((k1.more fun b hb => List.mem_append.mpr (.inl hb)).level_le (by omega)) (k2.more_le (fun b hb => List.mem_append.mpr (.inr hb)) (by omega))
end
def rRepr (K : PySem.W.Frag) : List V → Hp → VK → Prop := fun xs H Q => ∃ (a : Addr) (vs : List V) (ds : List PyData), xs = [.ref a] ∧ H a = some (.tup vs) ∧ DqAll K H vs ds ∧ PyData.showableAll ds = true ∧ PyData.depthAll ds ≤ 60 ∧ (PyData.tuple ds).shown.length ≤ sizeLine ∧ Q (.str (PyData.tuple ds).shown) H
/-- repr of a tuple of data -/
theorem call_repr' (hg : X.A.guards = some []) (hu : X.A.units + 64 < cLine) : CallR X (.builtin "repr") (rRepr X.K) := by
  intro pins s σ H xs us Q I r h
  obtain ⟨a, vs, ds, rfl, hs, hd, sh, dp, sz, q⟩ := h
  obtain ⟨u, rfl, ru⟩ := vals1 r
  cases (show u = Value.ref a from ru)
  obtain ⟨its, rv, ⟨o, ho, hc, n, hdd⟩, _⟩ := I.tuple (SqT.of hs)
  have sz' : (tupleText (PyData.shownAll ds)).length ≤ sizeLine := by simpa only [PyData.shown] using sz
  obtain ⟨as, bs, hr, hb, hk⟩ := Dq.seesAll I ds vs its hd rv sh fun t ht => Nat.le_trans (tupleText_mem_le ht) sz'
  have rd : Reads s.heap (.ref a) (.tuple ds) _ := .tuple ho hc hdd hr
  have new : a ∉ bs := not_mem_of_deeper rd (by simp only [PyData.depth]; omega) hb
  refine call_repr_slot (T := "tuple") (by omega) ⟨o, ho, hc⟩ PySem.F.slot_tuple_repr (call_tuple_reprK ho hc hdd new hk hg (fun b _ => Clear.nil b) (by show X.A.units + 1 + (PyData.depthAll ds + 1) < cLine; omega) (fun _ _ e => e) (fun h' u tk keep => ?_) sz')
  refine ⟨_, _, rfl, .str (PyData.tuple ds).shown, H, I.kept keep, ⟨u, ?_⟩, q⟩
  simp only [PyData.shown]
end
end Af

set_option Elab.async false
set_option linter.all false
set_option maxRecDepth 100000
namespace Af
open PySem PySem.Spec PyProof.Rows L2
/-! what the program's questions answer, told of data -/
def idxD (m : Int) : PyData → Bool
  | .int i => decide (0 ≤ i) && decide (i < m)
  | _ => false
def widthD : PyData → Bool
  | .int i => decide (1 ≤ i) && decide (i ≤ 24)
  | _ => false
def worthsD : PyData → Bool
  | .tuple ds => !ds.isEmpty && ds.all (idxD 8)
  | _ => false
def lenD : PyData → Nat
  | .tuple ds => ds.length
  | .list ds => ds.length
  | _ => 0
def contentD (d : PyData) : Bool := worthsD d && decide (lenD d ≤ 24)
def addD (m : Int) (n : Nat) : PyData → Bool
  | .int i => decide (i + (n : Int) ≤ m)
  | _ => false
def stepQ (m : Int) : PyData → Bool
  | .none => true
  | .tuple [f, ws] => idxD m f && worthsD ws && addD m (lenD ws) f
  | _ => false
def stepsQ (m : Int) : PyData → Bool
  | .list ds => ds.all (stepQ m)
  | _ => false
section
variable {K : PySem.W.Frag} {H : Hp}
theorem DqAll.len : ∀ {xs : List V} {ds : List PyData}, DqAll K H xs ds → xs.length = ds.length
  | _, _, .nil => rfl
  | _, _, .cons _ t => by
    rw [List.length_cons, List.length_cons, t.len]
theorem dq_idx {x : V} {d : PyData} (h : Dq K H x d) (m : Int) : idxB m x = idxD m d := by
  cases h <;> rfl
theorem dq_width {x : V} {d : PyData} (h : Dq K H x d) : widthB x = widthD d := by
  cases h <;> rfl
theorem dq_add {x : V} {d : PyData} (h : Dq K H x d) (m : Int) (n : Nat) : addB m n x = addD m n d := by
  cases h <;> rfl
theorem dq_all {m : Int} : ∀ {xs : List V} {ds : List PyData}, DqAll K H xs ds → xs.all (idxB m) = ds.all (idxD m)
  | _, _, .nil => rfl
  | _, _, .cons h t => by
    rw [List.all_cons, List.all_cons, dq_all t, dq_idx h]
theorem dq_empty {xs : List V} {ds : List PyData} (h : DqAll K H xs ds) : xs.isEmpty = ds.isEmpty := by
  cases h <;> rfl
theorem dq_len {x : V} {d : PyData} (h : Dq K H x d) : lenB H x = lenD d := by
  cases h with
  | lst e t => simp only [lenB, e, lenD]; exact t.len
  | tup e t => simp only [lenB, e, lenD]; exact t.len
  | dic e => simp only [lenB, e, lenD]
  | _ => rfl
theorem dq_worths {x : V} {d : PyData} (h : Dq K H x d) : worthsB H x = worthsD d := by
  cases h with
  | lst e t => simp only [worthsB, e, worthsD]
  | tup e t => simp only [worthsB, e, worthsD]; rw [dq_empty t, dq_all t]
  | dic e => simp only [worthsB, e, worthsD]
  | _ => rfl
theorem dq_content {x : V} {d : PyData} (h : Dq K H x d) : contentB H x = contentD d := by
  unfold contentB contentD
  rw [dq_worths h, dq_len h]
theorem dq_step {x : V} {d : PyData} (h : Dq K H x d) (m : Int) : stepB H m x = stepQ m d := by
  cases h with
  | non => rfl
  | lst e t => simp only [stepB, e, stepQ]
  | dic e => simp only [stepB, e, stepQ]
  | tup e t =>
    cases t with
    | nil => simp only [stepB, e, stepQ]
    | cons h1 t =>
      cases t with
      | nil => simp only [stepB, e, stepQ]
      | cons h2 t =>
        cases t with
        | nil =>
          simp only [stepB, e, stepQ]
          rw [dq_idx h1, dq_worths h2, dq_len h2, dq_add h1]
        | cons h3 t => simp only [stepB, e, stepQ]
  | _ => rfl
theorem dq_stepAll {m : Int} : ∀ {xs : List V} {ds : List PyData}, DqAll K H xs ds → xs.all (stepB H m) = ds.all (stepQ m)
  | _, _, .nil => rfl
  | _, _, .cons h t => by
    rw [List.all_cons, List.all_cons, dq_stepAll t, dq_step h]
theorem dq_steps {x : V} {d : PyData} (h : Dq K H x d) (m : Int) : stepsB H m x = stepsQ m d := by
  cases h with
  | lst e t => simp only [stepsB, e, stepsQ]; exact dq_stepAll t
  | tup e t => simp only [stepsB, e, stepsQ]
  | dic e => simp only [stepsB, e, stepsQ]
  | _ => rfl
theorem dq_ty {x : V} {d : PyData} (h : Dq K H x d) : ∃ n, Ty K H x n := by
  cases h with
  | non => exact ⟨_, .non, by decide, fun _ _ _ e => by cases e⟩
  | bl b => exact ⟨_, .bl b, by decide, fun _ _ _ e => by cases e⟩
  | int i => exact ⟨_, .int i, by decide, fun _ _ _ e => by cases e⟩
  | str z => exact ⟨_, .str z, by decide, fun _ _ _ e => by cases e⟩
  | lst e t => exact ⟨_, .lst e, by decide, fun b o u z q => by cases z; rw [e] at q; cases q⟩
  | tup e t => exact ⟨_, .tup e, by decide, fun b o u z q => by cases z; rw [e] at q; cases q⟩
  | dic e => exact ⟨_, .dK e, by decide, fun b o u z q => by cases z; rw [e] at q; cases q⟩
theorem DqAll.mem : ∀ {xs : List V} {ds : List PyData} {y : V}, DqAll K H xs ds → y ∈ xs → ∃ d, d ∈ ds ∧ Dq K H y d
  | _, _, _, .nil, h => by simp at h
  | _, _, y, .cons r t, h => by
    rcases List.mem_cons.mp h with rfl | h
    · exact ⟨_, List.mem_cons_self, r⟩
    · obtain ⟨d, h1, h2⟩ := t.mem h
      exact ⟨d, List.mem_cons_of_mem _ h1, h2⟩
mutual
theorem Dq.same {H' : Hp} (s : Same H H') : ∀ (d : PyData) (x : V), Dq K H x d → Dq K H' x d
  | .none, _, h => by cases h; exact .non
  | .bool _, _, h => by cases h; exact .bl _
  | .int _, _, h => by cases h; exact .int _
  | .str _, _, h => by cases h; exact .str _
  | .list ds, _, h => by
    cases h with
    | lst e t => exact .lst (s _ _ e) (DqAll.same s ds _ t)
  | .tuple ds, _, h => by
    cases h with
    | tup e t => exact .tup (s _ _ e) (DqAll.same s ds _ t)
  | .dict _, _, h => by
    cases h with
    | dic e => exact .dic (s _ _ e)
theorem DqAll.same {H' : Hp} (s : Same H H') : ∀ (ds : List PyData) (xs : List V), DqAll K H xs ds → DqAll K H' xs ds
  | [], _, h => by cases h; exact .nil
  | d :: ds, _, h => by
    cases h with
    | cons h1 h2 => exact .cons (Dq.same s d _ h1) (DqAll.same s ds _ h2)
end
/-! small data: to a depth, lists and tuples of at most 45 parts, short texts -/
def flatD : PyData → Bool
  | .none | .bool _ => true
  | .int i => decide (i.natAbs.log2 < 1920) && decide ((toString i : Str).length ≤ 45)
  | .str x => decide ((reprText x).length ≤ 45)
  | .dict kvs => kvs.isEmpty
  | _ => false
def Sm : Nat → PyData → Prop
  | 0, d => flatD d = true
  | n + 1, d => flatD d = true ∨ ∃ ds, (d = .list ds ∨ d = .tuple ds) ∧ ds.length ≤ 45 ∧ ∀ y ∈ ds, Sm n y
theorem Sm.mono {d : PyData} : ∀ {n : Nat}, Sm n d → Sm (n + 1) d
  | 0, h => .inl h
  | n + 1, h => by
    rcases h with h | ⟨ds, h1, h2, h3⟩
    · exact .inl h
    · exact .inr ⟨ds, h1, h2, fun y hy => (h3 y hy).mono⟩
theorem dq_th : ∀ {n : Nat} {x : V} {d : PyData}, Dq K H x d → Sm n d → Th K H n x
  | 0, _, _, h, _ => dq_ty h
  | n + 1, x, d, h, sm => by
    refine ⟨dq_ty h, fun a xs e z => ?_⟩
    subst e
    have key : ∀ ds, DqAll K H xs ds → (d = .list ds ∨ d = .tuple ds) → xs.length ≤ 100000 ∧ ∀ y ∈ xs, Th K H n y := fun ds t q => by
      rcases sm with f | ⟨es, h1, h2, h3⟩
      · rcases q with rfl | rfl <;> cases f
      · have e : es = ds := by
          rcases q with rfl | rfl <;> rcases h1 with h1 | h1 <;> cases h1 <;> rfl
        subst e
        refine ⟨by rw [t.len]; omega, fun y hy => ?_⟩
        obtain ⟨d', m1, m2⟩ := t.mem hy
        exact dq_th m2 (h3 d' m1)
    cases h with
    | lst e t =>
      rcases z with z | z
      · rw [e] at z; cases z
      · rw [e] at z; cases z; exact key _ t (.inl rfl)
    | tup e t =>
      rcases z with z | z
      · rw [e] at z; cases z; exact key _ t (.inr rfl)
      · rw [e] at z; cases z
    | dic e => rcases z with z | z <;> (rw [e] at z; cases z)
end
def bnd : Nat → Nat
  | 0 => 45
  | n + 1 => 45 * bnd n + 93
theorem bnd_le (n : Nat) : bnd n ≤ bnd (n + 1) := by
  show bnd n ≤ 45 * bnd n + 93
  omega
theorem flat_len {d : PyData} (h : flatD d = true) : d.shown.length ≤ 45 ∧ d.showable = true ∧ d.depth ≤ 1 := by
  cases d with
  | none => exact ⟨by decide, rfl, by decide⟩
  | bool b => cases b <;> exact ⟨by decide, rfl, by decide⟩
  | int i =>
    have h' : (decide (i.natAbs.log2 < 1920) && decide ((toString i : Str).length ≤ 45)) = true := h
    rw [Bool.and_eq_true] at h'
    refine ⟨?_, ?_, Nat.zero_le _⟩
    · simp only [PyData.shown]
      exact of_decide_eq_true h'.2
    · simp only [PyData.showable]
      exact h'.1
  | str x =>
    refine ⟨?_, by simp only [PyData.showable], Nat.zero_le _⟩
    simp only [PyData.shown]
    exact of_decide_eq_true h
  | dict kvs =>
    cases kvs with
    | nil => exact ⟨by decide +kernel, by simp only [PyData.showable, PyData.showableKv], by decide⟩
    | cons a b => cases h
  | list ds => cases h
  | tuple ds => cases h
theorem sum_le {b : Nat} : ∀ {ts : List Str}, (∀ t ∈ ts, t.length ≤ b) → (ts.map (·.length)).sum ≤ b * ts.length
  | [], _ => Nat.zero_le _
  | t :: ts, h => by
    have h1 := h t List.mem_cons_self
    have h2 := sum_le (b := b) (ts := ts) fun y hy => h y (List.mem_cons_of_mem _ hy)
    rw [List.map_cons, List.sum_cons, List.length_cons, Nat.mul_succ]
    omega
theorem shownAll_mem : ∀ {ds : List PyData} {t : Str}, t ∈ PyData.shownAll ds → ∃ d ∈ ds, d.shown = t
  | [], t, h => by
    simp only [PyData.shownAll] at h
    cases h
  | d :: ds, t, h => by
    simp only [PyData.shownAll] at h
    rcases List.mem_cons.mp h with h | h
    · exact ⟨d, List.mem_cons_self, h.symm⟩
    · obtain ⟨e, h1, h2⟩ := shownAll_mem h
      exact ⟨e, List.mem_cons_of_mem _ h1, h2⟩
theorem shownAll_len : ∀ ds : List PyData, (PyData.shownAll ds).length = ds.length
  | [] => by simp only [PyData.shownAll, List.length_nil]
  | d :: ds => by simp only [PyData.shownAll, List.length_cons, shownAll_len ds]
theorem showAll_of : ∀ {ds : List PyData}, (∀ d ∈ ds, d.showable = true) → PyData.showableAll ds = true
  | [], _ => by simp only [PyData.showableAll]
  | d :: ds, h => by
    simp only [PyData.showableAll, h d List.mem_cons_self, showAll_of fun y hy => h y (List.mem_cons_of_mem _ hy), Bool.and_self]
theorem depthAll_of {n : Nat} : ∀ {ds : List PyData}, (∀ d ∈ ds, d.depth ≤ n) → PyData.depthAll ds ≤ n
  | [], _ => Nat.zero_le _
  | d :: ds, h => by
    have h1 := h d List.mem_cons_self
    have h2 := depthAll_of (n := n) (ds := ds) fun y hy => h y (List.mem_cons_of_mem _ hy)
    show max d.depth (PyData.depthAll ds) ≤ n
    omega
theorem texts_le {b : Nat} {ds : List PyData} (h : ∀ d ∈ ds, d.shown.length ≤ b) : (listText (PyData.shownAll ds)).length ≤ b * ds.length + 2 * ds.length + 3 ∧ (tupleText (PyData.shownAll ds)).length ≤ b * ds.length + 2 * ds.length + 3 := by
  have q : ((PyData.shownAll ds).map (·.length)).sum ≤ b * (PyData.shownAll ds).length := sum_le fun t ht => by
    obtain ⟨d, h1, h2⟩ := shownAll_mem ht
    rw [← h2]
    exact h d h1
  have l := shownAll_len ds
  rw [l] at q
  have h1 := listText_len_le (PyData.shownAll ds)
  have h2 := tupleText_len_le (PyData.shownAll ds)
  rw [l] at h1 h2
  exact ⟨by omega, by omega⟩
theorem Sm.text : ∀ {n : Nat} {d : PyData}, Sm n d → d.shown.length ≤ bnd n ∧ d.showable = true ∧ d.depth ≤ n + 1
  | 0, d, h => flat_len h
  | n + 1, d, h => by
    rcases h with h | ⟨ds, h1, h2, h3⟩
    · obtain ⟨q1, q2, q3⟩ := flat_len h
      refine ⟨?_, q2, by omega⟩
      show _ ≤ 45 * bnd n + 93
      omega
    · have k : ∀ y ∈ ds, y.shown.length ≤ bnd n ∧ y.showable = true ∧ y.depth ≤ n + 1 := fun y hy => (h3 y hy).text
      obtain ⟨t1, t2⟩ := texts_le fun y hy => (k y hy).1
      have e : bnd n * ds.length ≤ bnd n * 45 := Nat.mul_le_mul_left _ h2
      have s := showAll_of fun y hy => (k y hy).2.1
      have p := depthAll_of fun y hy => (k y hy).2.2
      have u : bnd (n + 1) = 45 * bnd n + 93 := rfl
      rcases h1 with rfl | rfl
      · refine ⟨?_, by simpa only [PyData.showable] using s, by simp only [PyData.depth]; omega⟩
        simp only [PyData.shown]
        omega
      · refine ⟨?_, by simpa only [PyData.showable] using s, by simp only [PyData.depth]; omega⟩
        simp only [PyData.shown]
        omega
/-- three parts of small data can be shown -/
theorem three_text {a b c : PyData} (h1 : Sm 3 a) (h2 : Sm 3 b) (h3 : Sm 3 c) : PyData.showableAll [a, b, c] = true ∧ PyData.depthAll [a, b, c] ≤ 60 ∧ (PyData.tuple [a, b, c]).shown.length ≤ sizeLine := by
  have k : ∀ y ∈ [a, b, c], y.shown.length ≤ bnd 3 ∧ y.showable = true ∧ y.depth ≤ 4 := fun y hy => by
    simp only [List.mem_cons, List.not_mem_nil, or_false] at hy
    rcases hy with rfl | rfl | rfl
    · exact h1.text
    · exact h2.text
    · exact h3.text
  refine ⟨showAll_of fun y hy => (k y hy).2.1, Nat.le_trans (depthAll_of fun y hy => (k y hy).2.2) (by decide), ?_⟩
  simp only [PyData.shown]
  obtain ⟨_, t⟩ := texts_le fun y hy => (k y hy).1
  exact Nat.le_trans t (by show bnd 3 * 3 + 2 * 3 + 3 ≤ sizeLine; decide)
end Af

set_option Elab.async false
set_option linter.all false
set_option maxRecDepth 100000
namespace Af
open PySem PySem.Spec PyProof.Rows L2
/-! an object made where an exception is caught -/
section
variable {X : Cx} {CX : CXT} {k : Nat} {f C : Addr} {fd : FuncData} {ps : List Str} {sp : Sp} {E : L2.St → XK} {x : Str} {p pos : Pos} {e : Expr} {es : List Expr} {t : TA}
def tMakeS (C : Addr) (sp : Sp) (E : L2.St → XK) (t : TA) : TE := fun σ H Q => t σ H fun vs G => ∀ a d, G a = none → G d = none → d ≠ a → sp (.ref a :: vs) (upd (upd G d (.own a)) a (.ins C d [])) (fun v G' => v = .non ∧ Q (.ref a) G') (E σ)
theorem run_makeS {pins : List (Addr × Obj)} {σ : L2.St} {H : Hp} {s : Shared} {Q : VK} {us : List Value} {vs : List V} (M : Mk X.K C f) (F : FnOk X.prog X.w X.K X.mg X.base CX k f fd ps sp) (room : Room (k + 1) X.A) (b : Binds X.K fd ps []) (out : PassesAt CX X σ (E σ)) (I : Inv X pins σ H s) (r : Vals vs us)
    (h : ∀ a d, H a = none → H d = none → d ≠ a → sp (.ref a :: vs) (upd (upd H d (.own a)) a (.ins C d [])) (fun v G => v = .non ∧ Q (.ref a) G) (E σ)) : wpAny (model X.prog X.w) X.A (call (.ref C) us) (EP X pins σ Q) X.xe s := by
  have q := h (s.heap.objs.size + 1) s.heap.objs.size (I.hok.fresh (Nat.le_succ _)) (I.hok.fresh (Nat.le_refl _)) (Nat.ne_of_lt (Nat.lt_succ_self _))
  have J := Inv.made (C := C) I
  have rr : Vals (V.ref (s.heap.objs.size + 1) :: vs) (Value.ref (s.heap.objs.size + 1) :: us) := .cons rfl r
  have nl : (Value.ref (s.heap.objs.size + 1) :: us).length = ps.length := by
    rw [← rr.length]
    exact F.len _ _ _ _ q
  have bb := b _ (Value.ref (s.heap.objs.size + 1) :: us) J.kIn (by rw [List.append_nil]; exact nl)
  rw [List.append_nil] at bb
  refine wpAny_call (make_map (f := f) I.kIn M.makes M.init (beq_iff_eq.mp M.fn) (codeAny_mono (F.run _ X.stack _ _ ⟨Value.ref (s.heap.objs.size + 1) :: us, []⟩ (Value.ref (s.heap.objs.size + 1) :: us) _ _ (E σ) (room.make C us []) (J.env0.make C us []) bb rr q) fun r s' z => ?_))
  match r, z with
  | .error e, z => exact out pins _ _ e s' J z
  | .ok (.ret u), z =>
    obtain ⟨v, G, I3, rv, ev, q3⟩ := J.after z
    subst ev
    exact ⟨rv, ⟨V.ref (s.heap.objs.size + 1), G, I3, rfl, q3⟩⟩
  | .ok .next, z => exact (show False from z).elim
  | .ok .brk, z => exact (show False from z).elim
  | .ok .cont, z => exact (show False from z).elim
theorem pe_makeS (M : Mk X.K C f) (F : FnOk X.prog X.w X.K X.mg X.base CX k f fd ps sp) (room : Room (k + 1) X.A) (hg : Gl X x) (hm : X.mg x = some (.ref C)) (b : Binds X.K fd ps []) (out : ∀ σ, PassesAt CX X σ (E σ)) (ha : PA X (e :: es) t)
    (dbg : (x == ("__debug__" : Str)) = false := by decide) (he : starEach (e :: es) X.env = (false, eval e X.env) :: starEach es X.env := by rfl) (pl : (backTo pos (starEach es X.env)).any (·.1) = false := by rfl) :
    PE X (.Call (.Name x p) (e :: es) [] pos) (tMakeS C sp E t) := by
  refine ⟨fun pins s σ H Q I h => wpAny_Call_Name_kw (ld_glob I hg hm (PySem.W.callWith_K (h₀ := X.base) I.ok.mod.kin M.kp (thn (ha.run pos pins s σ H _ I h) fun us s1 z => ?_) he pl) dbg)⟩
  obtain ⟨vs, G, I1, r, q⟩ := z
  exact ⟨I1.kIn, run_makeS M F room b (out σ) I1 r q⟩
end
end Af

set_option Elab.async false
set_option linter.all false
set_option maxRecDepth 100000
set_option maxHeartbeats 2000000
namespace Af
open PySem PySem.Spec PyProof.Rows L2
/-! an error that a suite puts into a name is held behind the try -/
def HeldE (cls : Value) (d : Option Addr) (a : Addr) : HO := .ext fun h => ∃ (oe : Obj) (vs : Array Value), h.get? a = some oe ∧ Zc cls d oe ∧ oe.data = .fields vs
theorem heldE_ok {P : Program} {w : World} {H : Hp} {h : Heap} {a : Addr} {cls : Value} {d : Option Addr} {oe : Obj} {vs : Array Value} (e : h.get? a = some oe) (z : Zc cls d oe) (q : oe.data = .fields vs) : ObjOk P w H h a (HeldE cls d a) :=
  ⟨⟨oe, vs, e, z, q⟩, ⟨oe, e⟩, fun _ _ ⟨o, v, y, r⟩ k => ⟨o, v, k o y, r⟩⟩
/-- what 'except x as n' wishes: behind the suite the error is held -/
def wHold (K : PySem.W.Frag) (c : Value) (i : Nat) (ts : Addr → Value → Option Addr → TS) (Wout : WX) (D : Ends) : WX := fun cls d σ H => ∃ yes, PySem.W.exmOne K cls c = some yes ∧
  (yes = true → ∀ a, H a = none → ts a cls d { nx := fun τ G => D.nx (τ.set i none) (upd G a (HeldE cls d a)), rt := fun _ _ => False, bk := fun _ _ => False, ct := fun _ _ => False } (σ.set i (some (.ref a))) H) ∧ (yes = false → Wout cls d σ H)
section
variable {X : Cx} {x n : Str} {c : Value} {i : Nat} {body suite : List Stmt} {b₀ : Stmt} {np pos pos' : Pos} {tb : WX → TS} {ts : Addr → Value → Option Addr → TS} {Wout : WX}
theorem hold_end {pins : List (Addr × Obj)} {σ : L2.St} {H : Hp} {s : Shared} {a : Addr} {oe : Obj} {vs : Array Value} {cls : Value} {d : Option Addr} (I : Inv X ((a, oe) :: pins) σ H s) (z : Zc cls d oe) (q : oe.data = .fields vs) (fresh : X.s_0.heap.get? a = none)
    (apart : ∀ p ∈ X.pn ++ pins, p.1 ≠ a) : Inv X pins σ (upd H a (HeldE cls d a)) s := by
  obtain ⟨ea, na, nl, nf, nc⟩ := I.pin (a, oe) (List.mem_append.mpr (.inr List.mem_cons_self))
  have ins : ∀ p ∈ X.pn ++ pins, p ∈ X.pn ++ (a, oe) :: pins := fun p hp => by
    rcases List.mem_append.mp hp with hp | hp
    · exact List.mem_append.mpr (.inl hp)
    · exact List.mem_append.mpr (.inr (List.mem_cons_of_mem _ hp))
  have B := I.base
  refine ⟨I.ok, I.os, I.bare, ⟨B.keep, B.slot, fun b o e n x => ?_, B.there, fun b ys e => ?_, fun b o u e => ?_, fun b ps e => ?_⟩, I.loc, I.cell, ?_, fun y c e => ?_, fun p hp => ?_, ?_, I.len⟩
  · rw [upd_ne (fun y => by rw [y, fresh] at e; cases e)]
    exact B.free b o e n x
  · have y := B.tups b ys e
    rw [upd_ne (ne_of_none y na)]
    exact y
  · have y := B.frzs b o u e
    rw [upd_ne (ne_of_none y na)]
    exact y
  · obtain ⟨more, y⟩ := B.tbls b ps e
    exact ⟨more, by rw [upd_ne (ne_of_none y na)]; exact y⟩
  · rw [upd_ne (Ne.symm nl)]
    exact I.free
  · have f := I.freeC y c e
    by_cases h : c = a
    · obtain ⟨v, o, ho, hd⟩ := I.cell y c e
      rw [h, ea] at ho
      cases ho
      exact absurd hd (nc _)
    · rw [upd_ne h]
      exact f
  · obtain ⟨p1, p2, p3, p4, p5⟩ := I.pin p (ins p hp)
    exact ⟨p1, by rw [upd_ne (apart p hp)]; exact p2, p3, p4, p5⟩
  · exact I.hok.laidN (fun _ _ y => y) na (heldE_ok ea z q)
/-- try: body, except x as n: suite, where the suite runs through -/
theorem ps_try_hold (hs : X.stack = X.env :: X.outer) (hf : X.env.frame = some X.env.locals) (hN : X.N.Nodup) (hi : X.N[i]? = some n) (hln : X.env.kindOf n = some .local) (hex : X.ex = []) (hc : Names X x c) (tk : Takes X Wout)
    (main : ∀ (W : WX) (pn : List (Addr × Obj)) (xe : Value → Shared → Prop), Takes (X.tr pn xe) W → PassesOwn (model X.prog X.w) X.A X.env xe → PSs (X.tr pn xe) body (tb W))
    (after : ∀ (a : Addr) (oe : Obj) (cls : Value) (d : Option Addr) (pn : List (Addr × Obj)), Zc cls d oe → (∃ vs, oe.data = .fields vs) → PSs (X.suite a ((a, oe) :: pn)) (b₀ :: suite) (ts a cls d)) :
    PS X (.Try body [.ExceptHandler (some (.Name x np)) (some n) (b₀ :: suite) pos'] [] [] pos) (fun D σ H => tb (wHold X.K c i ts Wout D) D σ H) := by
  refine ⟨fun pins s σ H D I start => ?_⟩
  have okX := I.ok
  have frm : X.A.frames = some (X.env :: X.outer) := by rw [okX.frames, hs]
  refine wpAny_Try_except (wpAny_mono ((main (wHold X.K c i ts Wout D) (X.pn ++ pins) (fun e u => wpAny (model X.prog X.w) X.A (noteFrame e X.env) (fun _ u2 => wpAny (model X.prog X.w) X.A (setFlight e none) (fun _ u3 =>
    wpAny (model X.prog X.w) X.A (handleBy e X.env [.ExceptHandler (some (.Name x np)) (some n) (b₀ :: suite) pos']) (SP X pins D) X.xe u3) X.xe u2) X.xe u) (fun eu sr air => ?_) PassesOwn.looking).run [] s σ H D (I.toTry _) start) (fun fl s1 done => ?_) (fun _ _ y => y))
  · obtain ⟨a, B, s0, ps0, τ, G, cls, d, rfl, I0, nb, upS, sky, na, osE, bare, yes, hyes, onYes, onNo⟩ := air
    have I1 : Inv X pins τ G s0 := I0.ofTry okX
    show wpAny (model X.prog X.w) X.A (noteFrame (.ref a) X.env) _ _ _
    refine Sky.land Zc.steady frm hf (hs ▸ sky) fun h3 fly up3 => ?_
    have I3 : Inv X pins τ G { sr with heap := h3 } := I1.landed nb fly.1 (upS.trans up3) osE bare
    obtain ⟨o3, v3, at3, z3, d3⟩ := fly.there
    have offs : a ∉ frs (X.env :: X.outer) := fun m => by
      obtain ⟨_, o', e', nfd⟩ := fly.2.2.1.mem m
      rw [at3] at e'
      cases e'
      exact nfd _ d3
    have offL : a ≠ X.env.locals := fun y => offs (List.mem_filterMap.mpr ⟨X.env, List.mem_cons_self, by rw [hf, y]⟩)
    have offF : a ∉ X.fs := fun m => by
      obtain ⟨e, he, y⟩ := List.mem_filterMap.mp m
      exact offs (List.mem_filterMap.mpr ⟨e, List.mem_cons_of_mem _ he, y⟩)
    -- it is younger than all that stood ahead
    have young : s0.heap.get? a = none := by
      cases y : s0.heap.get? a with
      | none => rfl
      | some o =>
        have y2 := nb a o y (by rw [hs]; exact offs)
        rw [fly.2.1] at y2
        cases y2
    have fresh : X.s_0.heap.get? a = none := by
      cases y : X.s_0.heap.get? a with
      | none => rfl
      | some o =>
        obtain ⟨o', y2⟩ := I1.base.there a o y (by rw [hex]; simp)
        rw [young] at y2
        cases y2
    have apart : ∀ p ∈ X.pn ++ pins, p.1 ≠ a := fun p hp y => by
      obtain ⟨p1, _⟩ := I1.pin p hp
      rw [y, young] at p1
      cases p1
    have J3 := I3.suite at3 d3 na offL offF
    refine wpAny_handleBy_cons (codeAny_handlers_test ?_) (by intro y; cases y)
    have kind : PySem.W.Looks (model X.prog X.w) h3 (typeOf (.ref a)) cls := fun _ _ _ _ keep y => wpAny_typeOf_ref (keep _ _ at3) (by rw [z3.1]; exact y)
    have match_ := PySem.W.exm_one (M := model X.prog X.w) I3.kIn kind hyes
    have named : ∀ {R : Value → Shared → Prop} {E : Value → Shared → Prop}, R c { sr with heap := h3 } → wpAny (model X.prog X.w) (X.A.mark (some (.ref a))) (eval (.Name x np) X.env) R E { sr with heap := h3 } := fun {R E} y => by
      obtain ⟨g, dbg, own | ⟨no, bt, nn⟩⟩ := hc
      · exact ld_glob (X := X.suite a ((a, o3) :: (X.pn ++ pins))) J3 g own y dbg
      · exact ld_blt (X := X.suite a ((a, o3) :: (X.pn ++ pins))) J3 g no bt y nn dbg
    refine named (match_.here ?_)
    cases yes with
    | true =>
      refine codeAny_handlers_suite_as (HandSPX.lands_againZ fly fun h4 fly4 up4 => ?_)
      have I4 : Inv X pins τ G { sr with heap := h4 } := I1.landed nb fly4.1 ((upS.trans up3).trans up4) osE bare
      obtain ⟨o4, v4, at4, z4, d4⟩ := fly4.there
      refine store_ok (X := X.suite a ((a, o4) :: (X.pn ++ pins))) (v := .ref a) (I4.suite at4 d4 na offL offF) hN hi (.inl hln) rfl (fun s5 I5 => ?_) (.inr hln)
      refine wpAny_mono ((after a o4 cls d (X.pn ++ pins) z4 ⟨_, d4⟩).run [] s5 _ G _ I5 (onYes rfl a na)) (fun fl s6 y => ?_) (fun _ _ y => False.elim y)
      match fl, y with
      | .next, ⟨τ6, G6, I6, q6⟩ =>
        have I6' : Inv X ((a, o4) :: pins) τ6 G6 s6 := by
          have u := I6.unsuite (q := (a, o4)) okX
          exact ⟨u.ok, u.os, u.bare, u.base, u.loc, u.cell, u.free, u.freeC, fun p hp => by
            rcases List.mem_append.mp hp with hp | hp
            · exact u.pin p (List.mem_append.mpr (.inl hp))
            · rcases List.mem_cons.mp hp with rfl | hp
              · exact I6.pin _ (List.mem_append.mpr (.inl List.mem_cons_self))
              · exact u.pin p (List.mem_append.mpr (.inr hp)), u.hok, u.len⟩
        exact gone_ok I6' hN hi hln fun s7 I7 => ⟨_, _, hold_end I7 z4 d4 fresh apart, q6⟩
      | .ret u, ⟨_, _, _, _, _, q6⟩ => exact q6.elim
      | .brk, ⟨_, _, _, q6⟩ => exact q6.elim
      | .cont, ⟨_, _, _, q6⟩ => exact q6.elim
    | false =>
      show wpAny _ X.A (handleBy (.ref a) X.env []) _ _ _
      refine wpAny_handleBy_nil ?_
      obtain ⟨_, _, _, oe, vs, T, oT, tr, he, hz, hd, hT, _⟩ := id fly
      have up : wpAny (model X.prog X.w) X.A (setFlight (.ref a) X.env.frame) (fun _ u => wpAny (model X.prog X.w) X.A (throw (.ref a) : Sem Flow) (SP X pins D) X.xe u) X.xe { sr with heap := h3 } := by
        rw [hf]
        exact HandSPX.setFlight_upZ fly fun h4 held up4 => wpAny_throw (tk _ _ ⟨a, B, s0, pins, τ, G, cls, d, rfl, I1, nb, (upS.trans up3).trans up4, .inr (.inr (by rw [hs]; exact held)), na, osE, bare, onNo rfl⟩)
      unfold PySem.passOn
      refine wpAny_bind (wpAny_field he hd hT ?_)
      rw [if_neg (show ¬ ((Value.ref T == Value.none) = true) from by simp)]
      first
        | exact wpAny_bind (wpAny_pure (wpAny_bind up))
        | exact wpAny_bind up
  · match fl, done with
    | .next, ⟨τ, G, J, q⟩ => exact wpAny_execs_nil ⟨τ, G, J.ofTry okX, q⟩
    | .brk, ⟨τ, G, J, q⟩ => exact ⟨τ, G, J.ofTry okX, q⟩
    | .cont, ⟨τ, G, J, q⟩ => exact ⟨τ, G, J.ofTry okX, q⟩
    | .ret u, ⟨v, τ, G, J, r, q⟩ => exact ⟨v, τ, G, J.ofTry okX, r, q⟩
/-- isinstance(e, c) of an error that is held -/
def rIsHeld (K : PySem.W.Frag) (D : Addr) : List V → Hp → VK → Prop := fun xs H Q => ∃ (a : Addr) (c : V) (cv : Value) (b : Bool), xs = [.ref a, c] ∧ H a = some (HeldE (.ref D) none a) ∧ ClsV c cv ∧ PySem.W.kitOne K (.ref D) cv = some b ∧ Q (.bl b) H
theorem held_at {pins : List (Addr × Obj)} {σ : L2.St} {H : Hp} {s : Shared} {a D : Addr} (I : Inv X pins σ H s) (h : H a = some (HeldE (.ref D) none a)) : ∃ oe, PySem.W.InstAt s.heap a oe D none := by
  obtain ⟨⟨oe, vs, e, ⟨c1, c2⟩, dd⟩, _⟩ := (show ObjOk X.prog X.w H s.heap a (HeldE (.ref D) none a) from I.hok a _ h)
  obtain ⟨oc, od, oda, osl⟩ := oe
  dsimp only at c1 c2 dd
  subst c1 c2 dd
  exact ⟨_, e, rfl, rfl, trivial⟩
theorem call_isHeld {D : Addr} (C : L2.ExcC X.K D) : CallR X (.builtin "isinstance") (rIsHeld X.K D) := by
  intro pins s σ H xs us Q I r h
  obtain ⟨a, c, cv, b, rfl, ha, k, e, q⟩ := h
  obtain ⟨u1, u2, rfl, r1, r2⟩ := vals2 r
  cases (show u1 = Value.ref a from r1)
  have e2 := k.eq r2
  subst e2
  obtain ⟨oe, J⟩ := held_at I ha
  exact PySem.W.kia_one (PySem.W.handS_kitx_exc C.hg C.hk C.hs C.hd C.ha C.hn C.ht C.hm) I.kIn J e (fun y => nomatch y) fun tk => ⟨.bl b, H, I.tok tk, rfl, q⟩
/-- the same, a tuple of classes that was just laid -/
def rIsHeldT (K : PySem.W.Frag) (D : Addr) : List V → Hp → VK → Prop := fun xs H Q => ∃ (a tp : Addr) (cs : List V) (cvs : List Value) (b : Bool), xs = [.ref a, .ref tp] ∧ H a = some (HeldE (.ref D) none a) ∧ H tp = some (.tup cs) ∧ Paired ClsV cs cvs ∧ PySem.W.kitAny K (.ref D) cvs = some b ∧ Q (.bl b) H
theorem call_isHeldT {D : Addr} (C : L2.ExcC X.K D) : CallR X (.builtin "isinstance") (rIsHeldT X.K D) := by
  intro pins s σ H xs us Q I r h
  obtain ⟨a, tp, cs, cvs, b, rfl, ha, ht, k, e, q⟩ := h
  obtain ⟨u1, u2, rfl, r1, r2⟩ := vals2 r
  cases (show u1 = Value.ref a from r1)
  cases (show u2 = Value.ref tp from r2)
  obtain ⟨oe, J⟩ := held_at I ha
  obtain ⟨its, rv, ⟨o, h1, h2, n, h3⟩, _⟩ := I.tuple (SqT.of ht)
  have e3 := ClsV.all k rv
  subst e3
  obtain ⟨oc, od, dt, sl⟩ := o
  simp only at h2 h3
  subst h2 h3
  exact PySem.W.kia_tup (PySem.W.handS_kitx_exc C.hg C.hk C.hs C.hd C.ha C.hn C.ht C.hm) I.kIn J h1 e (fun y => nomatch y) fun tk => ⟨.bl b, H, I.tok tk, rfl, q⟩
end
end Af

set_option Elab.async false
set_option linter.all false
set_option maxRecDepth 100000
namespace Af
open PySem PySem.Spec PyProof.Rows L2
/-! a def that asks repr, called where no repr is under way; repr of data of any kind -/
structure CalG (P : Program) (w : World) (K : PySem.W.Frag) (mg : Str → Option Value) (base : Heap) (k : Nat) (x : Str) (ps : List Str) (sp : Sp) : Prop where
  ex : ∃ (f : Addr) (fd : FuncData), FnG P w K mg base k f fd ps sp ∧ mg x = some (.ref f) ∧ PySem.W.keepIn K (.ref f) = true ∧ Binds K fd ps []
section
variable {X : Cx} {k j : Nat} {x : Str} {ps : List Str} {sp : Sp} {e : Expr} {es : List Expr} {t : TA} {p pos : Pos}
theorem pe_calG (c : CalG X.prog X.w X.K X.mg X.base k x ps sp) (room : Room j X.A) (quiet : X.A.guards = some []) (ha : PA X (e :: es) t) (hkj : k ≤ j := by decide) (hg : Gl X x := by rfl) (dbg : (x == ("__debug__" : Str)) = false := by decide)
    (he : starEach (e :: es) X.env = (false, eval e X.env) :: starEach es X.env := by rfl) (pl : (backTo pos (starEach es X.env)).any (·.1) = false := by rfl) :
    PE X (.Call (.Name x p) (e :: es) [] pos) (tCal sp t) := by
  obtain ⟨f, fd, G, m, kp, b⟩ := c.ex
  refine ⟨fun pins s σ H Q I h => wpAny_Call_Name_kw (ld_glob I hg m (PySem.W.callWith_K (h₀ := X.base) I.ok.mod.kin kp (thn (ha.run pos pins s σ H _ I h) fun us s1 z => ?_) he pl) dbg)⟩
  obtain ⟨vs, H1, I1, r, q⟩ := z
  refine ⟨I1.kIn, ?_⟩
  have nl : us.length = ps.length := by
    rw [← r.length]
    exact G.many _ _ _ _ q
  have bb := b s1 us I1.kIn (by rw [List.append_nil]; exact nl)
  rw [List.append_nil] at bb
  refine wpAny_call (codeAny_mono (G.goes X.A X.stack s1 H1 ⟨us, []⟩ us vs Q E0 (room.mono hkj) quiet I1.env0 bb r q) fun r s' z => ?_)
  match r, z with
  | .error e, z => exact pass0 pins σ H1 s1 e s' I1 z
  | .ok (.ret u), z => exact I1.after z
  | .ok .next, z => exact (show False from z).elim
  | .ok .brk, z => exact (show False from z).elim
  | .ok .cont, z => exact (show False from z).elim
end
section
variable {X : Cx} {pins : List (Addr × Obj)} {σ : L2.St} {H : Hp} {s : Shared}
def rReprL (K : PySem.W.Frag) : List V → Hp → VK → Prop := fun xs H Q => ∃ (a : Addr) (vs : List V) (ds : List PyData), xs = [.ref a] ∧ H a = some (.lst vs) ∧ DqAll K H vs ds ∧ PyData.showableAll ds = true ∧ PyData.depthAll ds ≤ 60 ∧ (PyData.list ds).shown.length ≤ sizeLine ∧ Q (.str (PyData.list ds).shown) H
/-- repr of a list of data -/
theorem call_reprL (hg : X.A.guards = some []) (hu : X.A.units + 64 < cLine) : CallR X (.builtin "repr") (rReprL X.K) := by
  intro pins s σ H xs us Q I r h
  obtain ⟨a, vs, ds, rfl, hs, hd, sh, dp, sz, q⟩ := h
  obtain ⟨u, rfl, ru⟩ := vals1 r
  cases (show u = Value.ref a from ru)
  obtain ⟨its, rv, ⟨o, n, ho, hc, _, hdd⟩, _⟩ := I.list (SqL.of hs)
  have sz' : (listText (PyData.shownAll ds)).length ≤ sizeLine := by simpa only [PyData.shown] using sz
  obtain ⟨as, bs, hr, hb, hk⟩ := Dq.seesAll I ds vs its hd rv sh fun t ht => Nat.le_trans (listText_mem_le ht) sz'
  have rd : Reads s.heap (.ref a) (.list ds) _ := .list ho hc hdd hr
  have new : a ∉ bs := not_mem_of_deeper rd (by simp only [PyData.depth]; omega) hb
  have txt : (PyData.list ds).shown = listText (PyData.shownAll ds) := by simp only [PyData.shown]
  refine call_repr_slot (T := "list") (by omega) ⟨o, ho, hc⟩ PySem.F.slot_list_repr.toG ?_
  cases its with
  | nil =>
    cases hr
    have e0 : (PyData.list []).shown = ("[]" : Str) := by simp only [PyData.shown, PyData.shownAll, listText_nil]
    refine call_list_repr_empty ⟨o, ho, hc⟩ ho hdd ⟨_, _, rfl, .str (PyData.list []).shown, H, ?_, ⟨_, by rw [e0]⟩, q⟩
    exact I.kept (t' := _) fun _ _ y => y
  | cons y l =>
    refine call_list_reprK ho hc hdd new (by simpa using hk.length_eq) (fun i y e => hk.item i y (by simpa using e)) hg (fun b _ => Clear.nil b) (by show X.A.units + 1 + (PyData.depthAll ds + 1) < cLine; omega) (fun _ _ e => e) (fun h' u tk keep => ?_) sz'
    refine ⟨_, _, rfl, .str (PyData.list ds).shown, H, I.kept keep, ⟨u, ?_⟩, q⟩
    simp only [PyData.shown]
end
end Af

set_option Elab.async false
set_option linter.all false
set_option maxRecDepth 100000
namespace Af
open PySem PySem.Spec PyProof.Rows L2
/-! xs.count(None), exactly; repr of a thing of any kind -/
def rCntX (K : PySem.W.Frag) : V → List V → Hp → VK → Prop := fun x xs H Q => ∃ (p : Addr) (ys : List V) (ds : List PyData), x = .ref p ∧ xs = [.non] ∧ SqL K H p ys ∧ DpAll K H ys ds ∧ PyData.canLayAll0 ds = true ∧ Q (.int ((ds.countP (fun y => PyData.eqv y .none) : Nat) : Int)) H
theorem mt_countX {X : Cx} (hu : X.A.units + 1 < cLine) : MtR X "list.count" (rCntX X.K) := by
  intro pins s σ H x xs v us Q I rx rxs h
  obtain ⟨p, ys, ds, rfl, rfl, hs, hd, hl, q⟩ := h
  cases (show v = Value.ref p from rx)
  obtain ⟨u, rfl, ru⟩ := rxs.one
  cases (show u = Value.none from ru)
  obtain ⟨its, rv, pl, _⟩ := I.list hs
  obtain ⟨as, rs⟩ := Dp.readsAll I ds ys its hd rv
  refine PySem.SeqAt.count_list_data (d := .none) (vs := its.toArray) pl.isList (by simpa using rs) Reads.none (PyData.plainAll_of_canLay0 _ hl) rfl (by show X.A.units + 1 + min _ 0 < cLine; omega) ?_
  exact ⟨.int (ds.countP (fun y => PyData.eqv y .none) : Nat), H, I.tok _, ⟨_, rfl⟩, q⟩
/-- the barriers among these steps -/
def bars (l : List Stp) : Nat := l.countP fun s => s.isNone
theorem bars_count : ∀ l : List Stp, (stepsD l).countP (fun y => PyData.eqv y .none) = bars l
  | [] => rfl
  | a :: l => by
    have e : stepsD (a :: l) = stepD a :: stepsD l := rfl
    unfold bars
    rw [e, List.countP_cons, List.countP_cons, bars_count l]
    cases a with
    | none => rfl
    | some fw =>
      obtain ⟨f, ws⟩ := fw
      rfl
theorem bars_app (a b : List Stp) : bars (a ++ b) = bars a + bars b := List.countP_append ..
/-- repr of data that is no list, tuple or dict -/
def rReprF : List V → Hp → VK → Prop := fun xs H Q => ∃ (x : V) (d : PyData), xs = [x] ∧ (∀ K, Dq K H x d) ∧ flatD d = true ∧ (∀ kvs, d ≠ .dict kvs) ∧ Q (.str d.shown) H
theorem call_reprF {X : Cx} (hg : X.A.guards = some []) (hu : X.A.units + 64 < cLine) : CallR X (.builtin "repr") rReprF := by
  intro pins s σ H xs us Q I r h
  obtain ⟨x, d, rfl, hd, fl, nd, q⟩ := h
  obtain ⟨u, rfl, ru⟩ := vals1 r
  obtain ⟨tx, sh, dp⟩ := flat_len fl
  cases hd X.K with
  | int i =>
    obtain ⟨t, rfl⟩ := ru
    have lg : i.natAbs.log2 < 1920 := of_decide_eq_true (show decide (i.natAbs.log2 < 1920) = true from by simpa only [PyData.showable] using sh)
    refine PySem.P.repr_of_int lg ⟨.str _, H, I.tok _, ⟨_, rfl⟩, ?_⟩
    simpa only [PyData.shown] using q
  | non =>
    cases (show u = Value.none from ru)
    refine PySem.P.repr_of_none ⟨.str _, H, I.tok _, ⟨_, rfl⟩, ?_⟩
    simpa only [PyData.shown] using q
  | bl b =>
    cases (show u = Value.bool b from ru)
    refine PySem.P.repr_of_bool ⟨.str (PyData.bool b).shown, H, I.tok _, ⟨s.toks, ?_⟩, q⟩
    cases b <;> simp only [PyData.shown] <;> rfl
  | str z =>
    obtain ⟨t, rfl⟩ := ru
    refine PySem.P.repr_of_str ⟨.str (PyData.str z).shown, H, I.tok _, ⟨s.toks, ?_⟩, q⟩ ?_
    · simp only [PyData.shown]
    have := of_decide_eq_true fl
    exact Nat.le_trans this (by decide)
  | lst e t => cases fl
  | tup e t => cases fl
  | dic e => exact absurd rfl (nd _)
end Af

set_option Elab.async false
set_option linter.all false
set_option maxRecDepth 100000
set_option maxHeartbeats 4000000
namespace Af
open PySem L2
/-- the epoch of each step -/
def eps : Nat → List Stp → List Int
  | _, [] => []
  | k, s :: r => (k : Int) :: eps (if s.isNone = true then k + 1 else k) r
theorem eps_len : ∀ (l : List Stp) (k : Nat), (eps k l).length = l.length
  | [], _ => rfl
  | a :: l, k => by
    show (eps _ l).length + 1 = l.length + 1
    rw [eps_len l]
theorem eps_snoc (s : Stp) : ∀ (l : List Stp) (k : Nat), eps k (l ++ [s]) = eps k l ++ [((k + bars l : Nat) : Int)]
  | [], k => rfl
  | a :: l, k => by
    show (k : Int) :: eps _ (l ++ [s]) = (k : Int) :: (eps _ l ++ [((k + bars (a :: l) : Nat) : Int)])
    rw [eps_snoc s l]
    have e : bars (a :: l) = bars l + (if a.isNone = true then 1 else 0) := by
      unfold bars
      rw [List.countP_cons]
    rw [e]
    congr 3
    cases a with
    | none =>
      show (((k + 1 + bars l : Nat) : Int)) = ((k + (bars l + 1) : Nat) : Int)
      omega
    | some _ =>
      show (((k + bars l : Nat) : Int)) = ((k + (bars l + 0) : Nat) : Int)
      omega
theorem eps_take {l : List Stp} {i : Nat} {s : Stp} (h : l[i]? = some s) : eps 0 (l.take (i + 1)) = eps 0 (l.take i) ++ [((bars (l.take i) : Nat) : Int)] := by
  rw [List.take_add_one, h]
  show eps 0 (l.take i ++ [s]) = _
  rw [eps_snoc, Nat.zero_add]
theorem bars_take {l : List Stp} {i : Nat} {s : Stp} (h : l[i]? = some s) : bars (l.take (i + 1)) = bars (l.take i) + (if s.isNone = true then 1 else 0) := by
  rw [List.take_add_one, h]
  show bars (l.take i ++ [s]) = _
  rw [bars_app]
  congr 1
  unfold bars
  rw [List.countP_singleton]
def sp_epochsX : Sp := fun vs H Q _ => ∃ (a : Addr) (xs : List V) (sts : List Stp), vs = [.ref a] ∧ H a = some (.lst xs) ∧ Paired (StepV H) xs sts ∧ xs.length ≤ 100 ∧ ∀ l H', Same H H' → H l = none → H' l = some (.lst (ivs (eps 0 sts))) → Q (.ref l) H'
section
variable {P : Program} {w : World} {K : PySem.W.Frag} {mg : Str → Option Value} {base : Heap}
theorem ok_epochsX {f : Addr} {fd : FuncData} (F : Fun K "_epochs_of" "_epochs_of" s_epochs_of f fd) (T : Txt mg) : FnOk P w K mg base CX0 1 f fd ["steps"] sp_epochsX := by
  refine F.ok sc_epochs_of (fun vs H Q E h => ?_) (fun cdv A outer s H vs Q E hr h => ?_)
  · obtain ⟨_, _, _, rfl, _⟩ := h
    rfl
  obtain ⟨a, xs, sts, rfl, ha, hst, xl, k⟩ := h
  have hlen := paired_len hst
  refine ⟨_, (pss_cons (ps_par (i := 1) (j := 2) rfl sc_epochs_of.nd rfl rfl (by decide) rfl rfl (pa_cons (pe_lst' pa_nil) (pa_cons pe_int pa_nil)) (by rfl))
    (pss_cons (ps_for PassesOwn.never rfl (pi_list (pv 0)) (pg_name (i := 3) sc_epochs_of.nd rfl (Or.inl rfl))
      (pss_cons (ps_expr (pe_bm PySem.F.plainAttrs_list PySem.F.slot_list_append PySem.F.type_list_append mt_append (pv 1) (pa_cons (pv 2) pa_nil)))
    (pss_one (ps_if (pt_cmpR op_isN (pv 3) pe_non (nomark _))
      (pss_one (ps_aug (i := 2) sc_epochs_of.nd rfl (Or.inl rfl) pe_int ip_add))
      pss_nil))))
    (pss_one (ps_ret (pv 1))))), ?_⟩
  refine ⟨szr, fun el H1 hel s1 h1 => ⟨_, _, rfl, ?_⟩⟩
  refine ⟨_, rfl, a, rfl, ⟨xs, SqL.of (s1 _ _ ha)⟩, for_list (K := K) (a := a) (xs := xs) (fun i σ' H' => ∃ (v : Option V), σ' = [some (.ref a), some (.ref el), some (.int ((bars (sts.take i) : Nat) : Int)), v] ∧ Same H H' ∧ H' el = some (.lst (ivs (eps 0 (sts.take i))))) ?_ ?_ ?_ ?_⟩
  · exact ⟨none, rfl, s1, h1⟩
  · rintro i σ' H' _ ⟨v, rfl, s2, _⟩
    exact SqL.of (s2 _ _ ha)
  · rintro i x σ' H' hx ⟨v, rfl, s2, h2⟩
    have hi : i < xs.length := (List.getElem?_eq_some_iff.mp hx).1
    obtain ⟨st, hs1, hs2⟩ := paired_get hst hx
    have et := eps_take hs1
    have bt := bars_take hs1
    refine ⟨_, rfl, .inl ⟨rfl, _, SqL.of h2⟩, _, rfl, el, _, _, rfl, rfl, h2, szl (by rw [ivs_len, eps_len, List.length_take]; omega), ?_⟩
    have e2 : (upd H' el (.lst (ivs (eps 0 (sts.take i)) ++ [.int ((bars (sts.take i) : Nat) : Int)]))) el = some (.lst (ivs (eps 0 (sts.take (i + 1))))) := by
      rw [upd_same, et]
      unfold ivs
      rw [List.map_append]
      rfl
    cases st with
    | none =>
      have e : x = .non := hs2
      subst e
      refine ⟨_, rfl, rfl, _, rfl, iteT ?_⟩
      refine ⟨_, rfl, _, _, rfl, rfl, some .non, ?_, same_mut s2 hel, e2⟩
      rw [bt]
      rfl
    | some fw =>
      obtain ⟨f, ws⟩ := fw
      obtain ⟨t, b, e, _, _⟩ := hs2
      subst e
      refine ⟨_, rfl, rfl, _, rfl, iteF ⟨some (.ref t), ?_, same_mut s2 hel, e2⟩⟩
      rw [bt]
      rfl
  · rintro σ' H' ⟨v, rfl, s2, h2⟩
    rw [hlen, List.take_length] at h2
    exact ⟨_, rfl, k el H' s2 hel h2⟩
end
end Af

set_option Elab.async false
set_option linter.all false
set_option maxRecDepth 100000
namespace Af
open PySem L2
abbrev s_is_integer : Stmt := top 9
abbrev N_is_integer : List Str := ["thing"]
theorem sc_is_integer : FnScope N_is_integer ["thing"] (defScope s_is_integer) := ⟨rfl, rfl, rfl, by decide +kernel, rfl, by decide +kernel, by decide +kernel⟩

abbrev s_is_index : Stmt := top 10
abbrev N_is_index : List Str := ["thing", "many"]
theorem sc_is_index : FnScope N_is_index ["thing", "many"] (defScope s_is_index) := ⟨rfl, rfl, rfl, by decide +kernel, rfl, by decide +kernel, by decide +kernel⟩

abbrev s_are_worths : Stmt := top 14
abbrev N_are_worths : List Str := ["thing", "part"]
theorem sc_are_worths : FnScope N_are_worths ["thing"] (defScope s_are_worths) := ⟨rfl, rfl, rfl, by decide +kernel, rfl, by decide +kernel, by decide +kernel⟩

abbrev s_is_content : Stmt := top 15
abbrev N_is_content : List Str := ["thing"]
theorem sc_is_content : FnScope N_is_content ["thing"] (defScope s_is_content) := ⟨rfl, rfl, rfl, by decide +kernel, rfl, by decide +kernel, by decide +kernel⟩

abbrev s_is_width : Stmt := top 19
abbrev N_is_width : List Str := ["thing"]
theorem sc_is_width : FnScope N_is_width ["thing"] (defScope s_is_width) := ⟨rfl, rfl, rfl, by decide +kernel, rfl, by decide +kernel, by decide +kernel⟩

abbrev s_is_step : Stmt := top 20
abbrev N_is_step : List Str := ["cells", "thing", "first", "worths"]
theorem sc_is_step : FnScope N_is_step ["cells", "thing"] (defScope s_is_step) := ⟨rfl, rfl, rfl, by decide +kernel, rfl, by decide +kernel, by decide +kernel⟩

abbrev s_are_steps : Stmt := top 25
abbrev N_are_steps : List Str := ["cells", "width", "thing", "step"]
theorem sc_are_steps : FnScope N_are_steps ["cells", "width", "thing"] (defScope s_are_steps) := ⟨rfl, rfl, rfl, by decide +kernel, rfl, by decide +kernel, by decide +kernel⟩

/-- the module's constants -/
structure Cst (K : PySem.W.Frag) (mg : Str → Option Value) : Prop where
  cells : ∃ t, mg "MOST_CELLS" = some (.int 24 t)
  steps : ∃ t, mg "MOST_STEPS" = some (.int 40 t)
  pieces : ∃ t, mg "MOST_PIECES" = some (.int 40 t)
  worths : ∃ a, mg "ALL_WORTHS" = some (.ref a) ∧ ∀ H, SqT K H a (ivs [0, 1, 2, 3, 4, 5, 6, 7])
def sp_is_integer (K : PySem.W.Frag) : Sp := fun vs H Q _ => ∃ x n, vs = [x] ∧ Ty K H x n ∧ Q (.bl (decide (n = "int"))) H
def sp_is_index (K : PySem.W.Frag) : Sp := fun vs H Q _ => ∃ (x : V) (m : Int) (n : String), vs = [x, .int m] ∧ Ty K H x n ∧ Q (.bl (idxB m x)) H
def sp_is_width (K : PySem.W.Frag) : Sp := fun vs H Q _ => ∃ x n, vs = [x] ∧ Ty K H x n ∧ Q (.bl (widthB x)) H
def sp_are_worths (K : PySem.W.Frag) : Sp := fun vs H Q _ => ∃ x, vs = [x] ∧ Th K H 1 x ∧ ∀ H', Same H H' → Q (.bl (worthsB H x)) H'
def sp_is_content (K : PySem.W.Frag) : Sp := fun vs H Q _ => ∃ x, vs = [x] ∧ Th K H 1 x ∧ ∀ H', Same H H' → Q (.bl (contentB H x)) H'
def sp_is_step (K : PySem.W.Frag) : Sp := fun vs H Q _ => ∃ (m : Int) (x : V), vs = [.int m, x] ∧ Th K H 2 x ∧ ∀ H', Same H H' → Q (.bl (stepB H m x)) H'
def sp_are_steps (K : PySem.W.Frag) (spr : Sp) : Sp := fun vs H Q _ => ∃ (m wd : Int) (x : V), vs = [.int m, .int wd, x] ∧ Th K H 3 x ∧ (stepsB H m x = false → ∀ H', Same H H' → Q (.bl false) H') ∧ (stepsB H m x = true → ∀ H', Same H H' → spr [.int wd, x] H' Q E0)
section
variable {P : Program} {w : World} {K : PySem.W.Frag} {mg : Str → Option Value} {base : Heap}
theorem ok_is_integer {f : Addr} {fd : FuncData} (F : Fun K "is_integer" "is_integer" s_is_integer f fd) (T : Txt mg) : FnOk P w K mg base CX0 1 f fd ["thing"] (sp_is_integer K) := by
  refine F.ok sc_is_integer (fun vs H Q E h => ?_) (fun cdv A outer s H vs Q E hr h => ?_)
  · obtain ⟨_, _, rfl, _⟩ := h
    rfl
  obtain ⟨x, n, rfl, t, k⟩ := h
  refine ⟨_, (pss_one (ps_ret (pe_and (pe_callB call_isi' (by rfl) T.isinstance (by decide +kernel) (pa_cons (pv 0) (pa_cons (pe_bltn (v := .ty "int") (by rfl) T.int (by decide +kernel) rfl) pa_nil))) (pe_one (pe_not (pe_callB call_isi' (by rfl) T.isinstance (by decide +kernel) (pa_cons (pv 0) (pa_cons (pe_bltn (v := .ty "bool") (by rfl) T.bool (by decide +kernel) rfl) pa_nil)))))))), ?_⟩
  refine ⟨_, rfl, x, n, "int", rfl, t, by decide, _, rfl, ?_⟩
  cases c : isB n "int" with
  | true =>
    refine ⟨_, rfl, x, n, "bool", rfl, t, by decide, _, rfl, ?_⟩
    rw [int_one n t.mem c]
    exact k
  | false =>
    rw [int_two n t.mem c] at k
    exact k
theorem ok_is_index {f : Addr} {fd : FuncData} (F : Fun K "is_index" "is_index" s_is_index f fd) (T : Txt mg) (c_is_integer : Cal P w K mg base 1 "is_integer" ["thing"] (sp_is_integer K)) : FnOk P w K mg base CX0 2 f fd ["thing", "many"] (sp_is_index K) := by
  refine F.ok sc_is_index (fun vs H Q E h => ?_) (fun cdv A outer s H vs Q E hr h => ?_)
  · obtain ⟨_, _, _, rfl, _⟩ := h
    rfl
  obtain ⟨x, m, n, rfl, t, k⟩ := h
  refine ⟨_, (pss_one (ps_ret (pe_and (pe_cal c_is_integer hr (pa_cons (pv 0) pa_nil)) (pe_one (pe_chain op_le op_lt pe_int (pv 0) (pv 1)))))), ?_⟩
  refine ⟨_, rfl, x, n, rfl, t, _, rfl, ?_⟩
  by_cases c : n = "int"
  · rw [decide_eq_true c]
    obtain ⟨i, rfl⟩ := ty_int t c
    refine ⟨_, rfl, _, _, rfl, rfl, _, rfl, ?_⟩
    have e : idxB m (.int i) = (decide (0 ≤ i) && decide (i < m)) := rfl
    rw [e] at k
    cases c2 : decide ((0 : Int) ≤ i) with
    | true =>
      rw [c2] at k
      exact ⟨_, rfl, _, _, rfl, rfl, k⟩
    | false =>
      rw [c2] at k
      exact k
  · rw [decide_eq_false c]
    rw [idx_not (no_int t c)] at k
    exact k
theorem ok_is_width {f : Addr} {fd : FuncData} (F : Fun K "is_width" "is_width" s_is_width f fd) (T : Txt mg) (C : Cst K mg) (c_is_integer : Cal P w K mg base 1 "is_integer" ["thing"] (sp_is_integer K)) : FnOk P w K mg base CX0 2 f fd ["thing"] (sp_is_width K) := by
  obtain ⟨tk, c_MOST_CELLS⟩ := C.cells
  refine F.ok sc_is_width (fun vs H Q E h => ?_) (fun cdv A outer s H vs Q E hr h => ?_)
  · obtain ⟨_, _, rfl, _⟩ := h
    rfl
  obtain ⟨x, n, rfl, t, k⟩ := h
  refine ⟨_, (pss_one (ps_ret (pe_and (pe_cal c_is_integer hr (pa_cons (pv 0) pa_nil)) (pe_one (pe_chain op_le op_le pe_int (pv 0) (pe_glob (v := .int 24) rfl c_MOST_CELLS ⟨_, rfl⟩)))))), ?_⟩
  refine ⟨_, rfl, x, n, rfl, t, _, rfl, ?_⟩
  by_cases c : n = "int"
  · rw [decide_eq_true c]
    obtain ⟨i, rfl⟩ := ty_int t c
    refine ⟨_, rfl, _, _, rfl, rfl, _, rfl, ?_⟩
    have e : widthB (.int i) = (decide (1 ≤ i) && decide (i ≤ 24)) := rfl
    rw [e] at k
    cases c2 : decide ((1 : Int) ≤ i) with
    | true =>
      rw [c2] at k
      exact ⟨_, _, rfl, rfl, k⟩
    | false =>
      rw [c2] at k
      exact k
  · rw [decide_eq_false c]
    rw [width_not (no_int t c)] at k
    exact k
theorem ok_are_worths {f : Addr} {fd : FuncData} (F : Fun K "are_worths" "are_worths" s_are_worths f fd) (T : Txt mg) (C : Cst K mg) (c_is_index : Cal P w K mg base 2 "is_index" ["thing", "many"] (sp_is_index K)) : FnOk P w K mg base CX0 3 f fd ["thing"] (sp_are_worths K) := by
  obtain ⟨aw, aw_m, aw_s⟩ := C.worths
  refine F.ok sc_are_worths (fun vs H Q E h => ?_) (fun cdv A outer s H vs Q E hr h => ?_)
  · obtain ⟨_, rfl, _⟩ := h
    rfl
  obtain ⟨x, rfl, th, k⟩ := h
  obtain ⟨n, t⟩ := th.ty
  refine ⟨_, (pss_cons (ps_cut (ps_if (PW.pt (pw_or (pt_not (pt_val (pe_callB call_isi' (by rfl) T.isinstance (by decide +kernel) (pa_cons (pv 0) (pa_cons (pe_bltn (v := .ty "tuple") (by rfl) T.tuple (by decide +kernel) rfl) pa_nil))))) (pw_or1 (pt_not (pt_truth (pv 0) (by intro _; rfl))))))
      (pss_one (ps_ret pe_bl))
      pss_nil))
    (pss_one (ps_ret (pe_callB (cr_all rfl) (by rfl) T.all (by decide +kernel) (pa_cons (pe_lc (own := [("part", 1)]) (g := (gName 1)) (tt := tYes) rfl sc_are_worths.nd (pi_tup (pv 0)) (blkOk_by (own := [("part", 1)]) (N := N_are_worths) (sc := defScope s_are_worths) (by decide +kernel)) (fun _ _ _ _ _ => pg_name (i := 1) sc_are_worths.nd rfl (Or.inl rfl)) (fun _ _ _ _ _ => pts_nil) (fun _ _ _ _ _ => (pe_cal c_is_index hr (pa_cons (pv 1) (pa_cons (pe_callB (r := rLenK K) call_lenK (by rfl) T.len (by decide +kernel) (pa_cons (pe_glob (v := .ref aw) rfl aw_m rfl) pa_nil)) pa_nil))))) pa_nil))))), ?_⟩
  refine ⟨fun σ' H' => ∃ a xs, x = .ref a ∧ H a = some (.tup xs) ∧ xs ≠ [] ∧ σ' = [some x, none] ∧ H = H', ?_, ?_⟩
  · refine ⟨_, rfl, x, n, "tuple", rfl, t, by decide, _, rfl, ?_⟩
    by_cases c : n = "tuple"
    · obtain ⟨a, xs, rfl, ha⟩ := ty_tup t c
      have e : (!isB n "tuple") = false := by rw [c]; decide
      rw [e]
      refine ⟨_, rfl, !xs.isEmpty, .inr (.inl ⟨xs, SqT.of ha, rfl⟩), ?_⟩
      cases xs with
      | nil =>
        have z := k H (Same.refl H)
        rw [worths_at ha] at z
        exact z
      | cons y ys => exact ⟨a, _, rfl, ha, by simp, rfl, rfl⟩
    · rw [tup_not n t.mem c]
      have z := k H (Same.refl H)
      rw [worths_not t c] at z
      exact z
  · rintro _ _ ⟨a, xs, rfl, ha, hne, rfl, rfl⟩
    obtain ⟨hl, hy⟩ := th.2 a xs rfl (.inl ha)
    refine ⟨_, rfl, a, rfl, ⟨xs, SqT.of ha⟩, fun D hD => lc_tup (K := K) (a := a) (xs := xs) (fun i H' => Same H H' ∧ H' D = some (.lst ((xs.take i).map fun y => V.bl (idxB 8 y)))) ?_ ?_ ?_ ?_⟩
    · exact ⟨same_new hD, upd_same⟩
    · rintro i H' _ ⟨s1, _⟩
      exact SqT.of (s1 _ _ ha)
    · rintro i y H' hx ⟨s1, h1⟩
      obtain ⟨n1, t1⟩ := (hy y (List.mem_of_getElem? hx)).ty
      have il : i < xs.length := (List.getElem?_eq_some_iff.mp hx).1
      refine ⟨rfl, _, rfl, aw, _, rfl, .inr (aw_s H'), y, 8, n1, rfl, t1.same s1, _, h1, ?_, same_mut s1 hD, ?_⟩
      · rw [List.length_map, List.length_take]
        exact szl (by omega)
      · rw [upd_same, List.take_add_one, hx]
        simp
    · rintro H' ⟨s1, h1⟩
      rw [List.take_length] at h1
      have z := k H' s1
      rw [worths_at ha] at z
      refine ⟨D, xs.map (idxB 8), rfl, SqL.of (by rw [h1, List.map_map]; rfl), ?_⟩
      have e : (!xs.isEmpty && xs.all (idxB 8)) = (xs.map (idxB 8)).all id := by
        cases xs with
        | nil => exact absurd rfl hne
        | cons y ys => simp
      rw [e] at z
      exact z
theorem ok_is_content {f : Addr} {fd : FuncData} (F : Fun K "is_content" "is_content" s_is_content f fd) (T : Txt mg) (C : Cst K mg) (c_are_worths : Cal P w K mg base 3 "are_worths" ["thing"] (sp_are_worths K)) : FnOk P w K mg base CX0 4 f fd ["thing"] (sp_is_content K) := by
  obtain ⟨tk, c_MOST_CELLS⟩ := C.cells
  refine F.ok sc_is_content (fun vs H Q E h => ?_) (fun cdv A outer s H vs Q E hr h => ?_)
  · obtain ⟨_, rfl, _⟩ := h
    rfl
  obtain ⟨x, rfl, th, k⟩ := h
  refine ⟨_, (pss_one (ps_ret (pe_and (pe_cal c_are_worths hr (pa_cons (pv 0) pa_nil)) (pe_one (pe_cmpR op_le (pe_callB call_len' (by rfl) T.len (by decide +kernel) (pa_cons (pv 0) pa_nil)) (pe_glob (v := .int 24) rfl c_MOST_CELLS ⟨_, rfl⟩) (nomark _)))))), ?_⟩
  refine ⟨_, rfl, x, rfl, th, fun H1 s1 => ⟨_, rfl, ?_⟩⟩
  have z := k H1 s1
  unfold contentB at z
  cases c : worthsB H x with
  | true =>
    obtain ⟨a, xs, rfl, ha, _⟩ := worths_true c
    rw [c, len_at ha] at z
    refine ⟨_, rfl, a, xs, rfl, .inr (s1 _ _ ha), _, _, rfl, rfl, ?_⟩
    have e : decide (((xs.length : Nat) : Int) ≤ 24) = decide (xs.length ≤ 24) := decide_eq_decide.mpr (by omega)
    show Q (V.bl (decide (((xs.length : Nat) : Int) ≤ 24))) H1
    rw [e]
    exact z
  | false =>
    rw [c] at z
    exact z
theorem ok_is_step {f : Addr} {fd : FuncData} (F : Fun K "is_step" "is_step" s_is_step f fd) (T : Txt mg) (c_is_index : Cal P w K mg base 2 "is_index" ["thing", "many"] (sp_is_index K)) (c_are_worths : Cal P w K mg base 3 "are_worths" ["thing"] (sp_are_worths K)) : FnOk P w K mg base CX0 4 f fd ["cells", "thing"] (sp_is_step K) := by
  refine F.ok sc_is_step (fun vs H Q E h => ?_) (fun cdv A outer s H vs Q E hr h => ?_)
  · obtain ⟨_, _, rfl, _⟩ := h
    rfl
  obtain ⟨m, x, rfl, th, k⟩ := h
  obtain ⟨n, t⟩ := th.ty
  refine ⟨_, (pss_cons (ps_if (pt_cmpR op_isN (pv 1) pe_non (nomark _))
      (pss_one (ps_ret pe_bl))
      pss_nil)
    (pss_cons (ps_cut (ps_if (PW.pt (pw_or (pt_not (pt_val (pe_callB call_isi' (by rfl) T.isinstance (by decide +kernel) (pa_cons (pv 1) (pa_cons (pe_bltn (v := .ty "tuple") (by rfl) T.tuple (by decide +kernel) rfl) pa_nil))))) (pw_or1 (pt_cmpR op_ne (pe_callB call_len' (by rfl) T.len (by decide +kernel) (pa_cons (pv 1) pa_nil)) pe_int (nomark _)))))
      (pss_one (ps_ret pe_bl))
      pss_nil))
    (pss_cons (ps_asg (pv 1) (pg_tup rfl (pgs_cons (pg_name (i := 2) sc_is_step.nd rfl (Or.inl rfl)) (pgs_cons (pg_name (i := 3) sc_is_step.nd rfl (Or.inl rfl)) pgs_nil))))
    (pss_one (ps_ret (pe_and (pe_cal c_is_index hr (pa_cons (pv 2) (pa_cons (pv 0) pa_nil))) (pe_and (pe_cal c_are_worths hr (pa_cons (pv 3) pa_nil)) (pe_one (pe_cmpR op_le (pe_op op_add (pv 2) (pe_callB call_len' (by rfl) T.len (by decide +kernel) (pa_cons (pv 3) pa_nil))) (pv 0) (nomark _)))))))))), ?_⟩
  refine ⟨_, rfl, rfl, _, rfl, ite2 (fun c0 => ?_) (fun c0 => ?_)⟩
  · have e : x = .non := of_decide_eq_true c0
    subst e
    exact k H (Same.refl H)
  have xn : x ≠ .non := fun e => c0 (decide_eq_true e)
  refine ⟨fun σ' H' => ∃ a f ws, x = .ref a ∧ H a = some (.tup [f, ws]) ∧ σ' = [some (.int m), some x, none, none] ∧ H = H', ?_, ?_⟩
  · refine ⟨_, rfl, x, n, "tuple", rfl, t, by decide, _, rfl, ?_⟩
    by_cases c : n = "tuple"
    · obtain ⟨a, xs, rfl, ha⟩ := ty_tup t c
      have e : (!isB n "tuple") = false := by rw [c]; decide
      rw [e]
      refine ⟨_, rfl, a, xs, rfl, .inr ha, rfl, _, rfl, ite2 (fun c => ?_) (fun c => ?_)⟩
      · have z := k H (Same.refl H)
        have e2 : stepB H m (.ref a) = false := by
          unfold stepB
          simp only [ha]
          split
          · rename_i f ws e3
            cases e3
            exact absurd c (by show ¬ (!decide (V.int 2 = V.int 2)) = true; decide)
          · rfl
        rw [e2] at z
        exact z
      · have hl : xs.length = 2 := by
          have c' : ¬ (!decide (V.int ((xs.length : Nat) : Int) = V.int 2)) = true := c
          by_cases q : xs.length = 2
          · exact q
          · refine absurd ?_ c'
            rw [decide_eq_false (fun e => q (by injection e; omega))]
            rfl
        match xs, hl with
        | [f, ws], _ => exact ⟨a, f, ws, rfl, ha, rfl, rfl⟩
    · rw [tup_not n t.mem c]
      have z := k H (Same.refl H)
      have e2 : stepB H m x = false := by
        have z2 := no_tup t c
        cases x with
        | non => exact absurd rfl xn
        | ref a =>
          unfold stepB
          simp only
          split
          · rename_i e3
            exact absurd e3 (z2 a _ rfl)
          · rfl
        | _ => rfl
      rw [e2] at z
      exact z
  · rintro _ _ ⟨a, f, ws, rfl, ha, rfl, rfl⟩
    obtain ⟨hl, hy⟩ := th.2 a _ rfl (.inl ha)
    obtain ⟨n1, t1⟩ := (hy f (List.mem_cons_self)).ty
    have th2 := hy ws (List.mem_cons_of_mem _ List.mem_cons_self)
    have e2 : stepB H m (.ref a) = (idxB m f && worthsB H ws && addB m (lenB H ws) f) := by
      unfold stepB
      simp only [ha]
    refine ⟨_, rfl, a, _, rfl, SqT.of ha, rfl, _, _, rfl, _, _, rfl, rfl, ?_⟩
    refine ⟨_, rfl, _, rfl, f, m, n1, rfl, t1, _, rfl, ?_⟩
    rw [e2] at k
    cases c1 : idxB m f with
    | false =>
      rw [c1] at k
      exact k H (Same.refl H)
    | true =>
      rw [c1] at k
      refine ⟨_, rfl, ws, rfl, th2, fun H1 s1 => ⟨_, rfl, ?_⟩⟩
      have z := k H1 s1
      cases c2 : worthsB H ws with
      | false =>
        rw [c2] at z
        exact z
      | true =>
        rw [c2] at z
        obtain ⟨b, ys, rfl, hb, _⟩ := worths_true c2
        rw [len_at hb] at z
        cases f with
        | int i => exact ⟨_, rfl, _, rfl, b, ys, rfl, .inr (s1 _ _ hb), _, _, rfl, rfl, _, rfl, _, _, rfl, rfl, z⟩
        | _ => cases c1
theorem ok_are_steps {f : Addr} {fd : FuncData} {spr : Sp} (F : Fun K "are_steps" "are_steps" s_are_steps f fd) (T : Txt mg) (c_is_step : Cal P w K mg base 4 "is_step" ["cells", "thing"] (sp_is_step K)) (c_is_room : Cal P w K mg base 3 "is_room" ["width", "steps"] spr) : FnOk P w K mg base CX0 5 f fd ["cells", "width", "thing"] (sp_are_steps K spr) := by
  refine F.ok sc_are_steps (fun vs H Q E h => ?_) (fun cdv A outer s H vs Q E hr h => ?_)
  · obtain ⟨_, _, _, rfl, _⟩ := h
    rfl
  obtain ⟨m, wd, x, rfl, th, k0, k1⟩ := h
  obtain ⟨n, t⟩ := th.ty
  refine ⟨_, (pss_cons (ps_cut (ps_if (PW.pt (pw_or (pt_not (pt_val (pe_callB call_isi' (by rfl) T.isinstance (by decide +kernel) (pa_cons (pv 2) (pa_cons (pe_bltn (v := .ty "list") (by rfl) T.list (by decide +kernel) rfl) pa_nil))))) (pw_or1 (pt_not (pt_val (pe_callB (cr_all rfl) (by rfl) T.all (by decide +kernel) (pa_cons (pe_lc (own := [("step", 3)]) (g := (gName 3)) (tt := tYes) rfl sc_are_steps.nd (pi_list (pv 2)) (blkOk_by (own := [("step", 3)]) (N := N_are_steps) (sc := defScope s_are_steps) (by decide +kernel)) (fun _ _ _ _ _ => pg_name (i := 3) sc_are_steps.nd rfl (Or.inl rfl)) (fun _ _ _ _ _ => pts_nil) (fun _ _ _ _ _ => (pe_cal c_is_step hr (pa_cons (pv 0) (pa_cons (pv 3) pa_nil))))) pa_nil)))))))
      (pss_one (ps_ret pe_bl))
      pss_nil))
    (pss_one (ps_ret (pe_cal c_is_room hr (pa_cons (pv 1) (pa_cons (pv 2) pa_nil)))))), ?_⟩
  refine ⟨fun σ' H' => stepsB H m x = true ∧ σ' = [some (.int m), some (.int wd), some x, none] ∧ Same H H', ?_, ?_⟩
  · refine ⟨_, rfl, x, n, "list", rfl, t, by decide, _, rfl, ?_⟩
    by_cases c : n = "list"
    · obtain ⟨a, xs, rfl, ha⟩ := ty_lst t c
      obtain ⟨hl, hy⟩ := th.2 a xs rfl (.inr ha)
      have e : isB n "list" = true := by rw [c]; decide
      rw [e]
      refine ⟨_, rfl, a, rfl, ⟨xs, SqL.of ha⟩, fun D hD => lc_list (K := K) (a := a) (xs := xs) (fun i H' => Same H H' ∧ H' D = some (.lst ((xs.take i).map fun y => V.bl (stepB H m y)))) ?_ ?_ ?_ ?_⟩
      · exact ⟨same_new hD, upd_same⟩
      · rintro i H' _ ⟨s1, _⟩
        exact SqL.of (s1 _ _ ha)
      · rintro i y H' hx ⟨s1, h1⟩
        have th2 := hy y (List.mem_of_getElem? hx)
        have il : i < xs.length := (List.getElem?_eq_some_iff.mp hx).1
        refine ⟨rfl, _, rfl, _, rfl, m, y, rfl, th2.same s1, fun H2 s2 => ⟨_, s2 _ _ h1, ?_, same_mut (s1.trans s2) hD, ?_⟩⟩
        · rw [List.length_map, List.length_take]
          exact szl (by omega)
        · rw [upd_same, List.take_add_one, hx, step_same th2 s1]
          simp
      · rintro H' ⟨s1, h1⟩
        rw [List.take_length] at h1
        have e2 : stepsB H m (.ref a) = (xs.map (stepB H m)).all id := by
          unfold stepsB
          simp only [ha]
          simp
        refine ⟨D, xs.map (stepB H m), rfl, SqL.of (by rw [h1, List.map_map]; rfl), ?_⟩
        rw [← e2]
        refine ⟨_, rfl, ?_⟩
        cases e3 : stepsB H m (.ref a) with
        | true => exact iteF ⟨rfl, rfl, s1⟩
        | false => exact iteT (k0 e3 H' s1)
    · rw [lst_not n t.mem c]
      have e2 : stepsB H m x = false := by
        cases x with
        | ref a =>
          unfold stepsB
          simp only
          split
          · rename_i e3
            exact absurd (ty_is_lst t e3) c
          · rfl
        | _ => rfl
      exact k0 e2 H (Same.refl H)
  · rintro _ H1 ⟨e3, rfl, s1⟩
    exact ⟨_, rfl, _, rfl, k1 e3 H1 s1⟩
end
end Af

set_option Elab.async false
set_option linter.all false
set_option maxRecDepth 100000
namespace Af
open PySem PySem.Calls PySem.Spec PyProof.Rows L2
/-! == and != of an instance whose class has its own __eq__ and no __ne__ -/
section
variable {M : Model} {prog : Program} {w : World} {A : Around} {E : Value → Shared → Prop} {s : Shared} {K : PySem.W.Frag} {x C L f : Addr} {ox : Obj} {od : Option Obj} {b tb : Value} {h₀ : Heap} {m : Str → Option Value}
theorem ifBound_ne {args : List Value} {Q : Option Value → Shared → Prop} (X : K.In s.heap) (I : PySem.W.InstAt s.heap x ox C od) (hs : PySem.W.findIn K (.ref C) "__ne__" = some (some (.builtin "object.__ne__")))
    (h : wpAny M A (call (.builtin "object.__ne__") (.ref x :: args)) (fun v => Q (some v)) E s) : wpAny M A (callSpecialIfBound? (.ref x) "__ne__" args) Q E s := by
  simp only [callSpecialIfBound?, bindSpecialIfBound?]
  refine wpAny_holding (wpAny_bind (wpAny_bind (wpAny_bind (I.type.here ((PySem.W.looks_findIn X hs).here ?_)))))
  refine wpAny_bind (wpAny_askSetting (wpAny_ite ?_))
  have last : wpAny M A (call (.builtin "object.__ne__") ([.ref x] ++ args) >>= fun v => pure (some v)) Q E s := wpAny_bind (wpAny_mono h (fun _ _ q => wpAny_pure q) fun _ _ q => q)
  split
  · exact wpAny_bind (wpAny_of_eq (F.cmp_object.ne.bind _) (wpAny_pure (by exact last)))
  · exact wpAny_tryCatch (wpAny_bind (wpAny_of_eq (F.cmp_object.ne.bind _) (wpAny_pure (by exact last))))
theorem entry_ne {Q : Fin → Shared → Prop} (hu : A.units < cLine) (X : K.In s.heap) (I : PySem.W.InstAt s.heap x ox C od) (hs : PySem.W.findIn K (.ref C) "__eq__" = some (some (.ref f))) (hf : PySem.W.isFn K (.ref f) = true)
    (h : wpAny (model prog w) A (call (.ref f) [.ref x, b]) (fun v s' => ∃ r, v = .bool r ∧ Q (.done (.ret (.bool (!r)))) s') E s) :
    wpAny (model prog w) A (Builtin.«object.__ne__» ⟨[.ref x, b], []⟩) Q E s := by
  unfold Builtin.«object.__ne__»
  repeat (first
    | with_reducible refine wpAny_cRoomFor hu ?_
    | (refine wpAny_bind (m := callSpecialIfBound? (.ref x) (Str.ofString "__eq__") [b])
        (PySem.W.ifBound_K X I hs hf (wpAny_mono h (fun r s' hr => by
          obtain ⟨b, rfl, hq⟩ := hr
          repeat (first | exact hq | exact wpAny_pure hq | exact wpAny_truthy_bool hq | (refine wpAny_bind (m := truthy (.bool _)) (wpAny_truthy_bool ?_)) | wp_step)) fun _ _ e => e)))
    | wp_step)
theorem rc_ne {Q : Value → Shared → Prop} (hu : A.units + 1 < cLine) (Y : PyProof.Rows.Fr h₀ L s.heap m) (X₀ : K.In h₀) (I : PySem.W.InstAt s.heap x ox C od) (hb : PySem.W.Looks (model prog w) s.heap (typeOf b) tb) (hn : PySem.W.notFirst K C tb = true)
    (hs : PySem.W.findIn K (.ref C) "__eq__" = some (some (.ref f))) (hf : PySem.W.isFn K (.ref f) = true) (hne : PySem.W.findIn K (.ref C) "__ne__" = some (some (.builtin "object.__ne__"))) (hm : PySem.W.mroIn K C (.type "object") = some true)
    (h : wpAny (model prog w) A.in1 (call (.ref f) [.ref x, b]) (fun v s' => ∃ r, v = .bool r ∧ Q (.bool (!r)) s') E s) : wpAny (model prog w) A (richCompare .NotEq (.ref x) b) Q E s := by
  have X := X₀.keeps Y.keep
  have one : wpAny (model prog w) A (tryCompare (.ref x) "__ne__" b) (fun r s' => ∃ v, r = some v ∧ Q v s') E s := by
    unfold tryCompare
    refine wpAny_bind (ifBound_ne X I hne (wpAny_call (codeAny_call_builtin F.cmp_object.ne.plain F.cmpEntry_ne (PySem.W.check_slot F.cmpKind_ne F.cmpSplit_ne (I.type.andThen (PySem.W.looks_mroIn X hm)) (F.cmpArgs_ne _ _) (entry_ne (A := A.in1) hu X I hs hf (wpAny_mono h (fun v s' z => ?_) fun _ _ e => e))))))
    obtain ⟨r, rfl, hq⟩ := z
    exact ⟨r, rfl, wpAny_pure ⟨_, rfl, hq⟩⟩
  unfold richCompare
  simp only [oneThing_ref]
  refine wpAny_holding (wpAny_bind (wpAny_cRoomFor (Nat.lt_of_succ_lt hu) ?_))
  refine wpAny_bind (I.type.here (wpAny_bind (hb.here ?_)))
  have go : wpAny (model prog w) A (tryCompare (.ref x) "__ne__" b) (fun r s' => ∃ v, r = some v ∧ Q v s') E s := one
  split
  · rename_i q
    have e : PySem.W.subIn K tb (.ref C) = some false := by
      rcases Bool.or_eq_true_iff.mp hn with e | e
      · rw [beq_iff_eq.mp e] at q; simp at q
      · exact beq_iff_eq.mp e
    refine wpAny_bind ((PySem.W.looks_subIn X e).here ?_)
    simp only [Bool.false_eq_true, if_false]
    refine wpAny_bind (wpAny_mono one (fun r s' z => ?_) fun _ _ e => e)
    obtain ⟨v, rfl, hq⟩ := z
    exact wpAny_pure hq
  · refine wpAny_bind (wpAny_pure ?_)
    simp only [Bool.false_eq_true, if_false]
    refine wpAny_bind (wpAny_mono one (fun r s' z => ?_) fun _ _ e => e)
    obtain ⟨v, rfl, hq⟩ := z
    exact wpAny_pure hq
end
/-- what is asked of the class at C for its own == -/
structure OwnEqC (K : PySem.W.Frag) (C f : Addr) : Prop where
  eq : PySem.W.findIn K (.ref C) "__eq__" = some (some (.ref f))
  fn : PySem.W.isFn K (.ref f) = true
  ne : PySem.W.findIn K (.ref C) "__ne__" = some (some (.builtin "object.__ne__"))
  ob : PySem.W.mroIn K C (.type "object") = some true
/-- x == y where x is an instance: what the own __eq__ promises, which answers a bool -/
def rOwnEq (K : PySem.W.Frag) (C : Addr) (sp : Sp) : R2 := fun x y H Q => ∃ a dx fs t, x = .ref a ∧ H a = some (.ins C dx fs) ∧ TyX K H y t ∧ PySem.W.notFirst K C t = true ∧ sp [x, y] H (fun v H' => ∃ b, v = .bl b ∧ Q (.bl b) H') E0
def rOwnNe (K : PySem.W.Frag) (C : Addr) (sp : Sp) : R2 := fun x y H Q => ∃ a dx fs t, x = .ref a ∧ H a = some (.ins C dx fs) ∧ TyX K H y t ∧ PySem.W.notFirst K C t = true ∧ sp [x, y] H (fun v H' => ∃ b, v = .bl b ∧ Q (.bl (!b)) H') E0
section
variable {X : Cx} {C f : Addr} {fd : FuncData} {ps : List Str} {sp : Sp} {k n : Nat}
theorem own_run (G : FnOk X.prog X.w X.K X.mg X.base CX0 k f fd ps sp) (hb : Binds X.K fd ps []) {A : Around} (hr : Room k A) (hA : A.frames = X.A.frames) {pins : List (Addr × Obj)} {s : Shared} {σ : L2.St} {H : Hp} {x y : V} {v u : Value} (I : Inv X pins σ H s) (rx : RelV x v) (ry : RelV y u)
    {Q : VK} (hq : sp [x, y] H Q E0) : wpAny (model X.prog X.w) A (call (.ref f) [v, u]) (fun r s' => EP X pins σ Q r s') X.xe s := by
  have e0 : Env0 X.prog X.w X.K X.mg X.base A X.stack s H := by
    have e := I.env0
    exact ⟨by rw [hA]; exact e.frames, e.mod, e.bs, e.bsz, e.funs, e.frf, e.hok, e.bare⟩
  have hl := G.len _ _ _ _ hq
  refine wpAny_call (codeAny_mono (G.run A X.stack s H ⟨[v, u], []⟩ [v, u] [x, y] _ E0 hr e0 (by
    have := hb s [v, u] I.kIn (by simpa using hl)
    simpa using this) (.cons rx (.cons ry .nil)) hq) fun r s' z => ?_)
  cases r with
  | error e => exact pass0 pins σ H s e s' I z
  | ok fl =>
    cases fl with
    | ret w => exact I.after z
    | next => exact False.elim z
    | brk => exact False.elim z
    | cont => exact False.elim z
theorem op_ownEq (O : OwnEqC X.K C f) (G : FnOk X.prog X.w X.K X.mg X.base CX0 k f fd ps sp) (hb : Binds X.K fd ps []) (hr : Room n X.A) (hkn : k ≤ n := by decide) : OpR X (compareOp .Eq) (rOwnEq X.K C sp) := by
  intro pins s σ H x y v u Q I rx ry h
  obtain ⟨a, dx, fs, t, rfl, ha, ty, nf, q⟩ := h
  cases (show v = Value.ref a from rx)
  obtain ⟨mA, J, _⟩ := ins_get I.hok ha
  obtain ⟨od, J, _⟩ := J.look
  obtain ⟨P, Z, p, _⟩ := kit_of I ry ty
  obtain ⟨m, hF⟩ := I.fr
  have lk := Z.ty (model X.prog X.w) s.heap I.kIn p
  show wpAny (model X.prog X.w) X.A (richCompare .Eq (.ref a) u) (EP X pins σ Q) X.xe s
  refine PySem.W.cmp_K (op := .Eq) (tb := t) hr.units0 hF I.ok.mod.kin J lk nf O.eq O.fn ?_
  refine wpAny_mono (own_run G hb (hr.mono hkn) rfl (x := .ref a) (v := .ref a) I rfl ry q) (fun r s' z => ?_) fun _ _ z => z
  obtain ⟨v', H', I', rv, b, e, z⟩ := z
  subst e
  cases (show r = Value.bool b from rv)
  exact ⟨.bl b, H', I', rfl, z⟩
theorem op_ownNe (O : OwnEqC X.K C f) (G : FnOk X.prog X.w X.K X.mg X.base CX0 k f fd ps sp) (hb : Binds X.K fd ps []) (hr : Room n X.A) (hkn : k + 1 ≤ n := by decide) : OpR X (compareOp .NotEq) (rOwnNe X.K C sp) := by
  intro pins s σ H x y v u Q I rx ry h
  obtain ⟨a, dx, fs, t, rfl, ha, ty, nf, q⟩ := h
  cases (show v = Value.ref a from rx)
  obtain ⟨mA, J, _⟩ := ins_get I.hok ha
  obtain ⟨od, J, _⟩ := J.look
  obtain ⟨P, Z, p, _⟩ := kit_of I ry ty
  obtain ⟨m, hF⟩ := I.fr
  have lk := Z.ty (model X.prog X.w) s.heap I.kIn p
  show wpAny (model X.prog X.w) X.A (richCompare .NotEq (.ref a) u) (EP X pins σ Q) X.xe s
  have hr' : Room (k + 1) X.A := hr.mono hkn
  refine rc_ne (tb := t) hr'.in1.units0 hF I.ok.mod.kin J lk nf O.eq O.fn O.ne O.ob ?_
  refine wpAny_mono (own_run G hb hr'.in1 rfl (x := .ref a) (v := .ref a) I rfl ry q) (fun r s' z => ?_) fun _ _ z => z
  obtain ⟨v', H', I', rv, b, e, z⟩ := z
  subst e
  cases (show r = Value.bool b from rv)
  exact ⟨b, rfl, .bl (!b), H', I', rfl, z⟩
end
end Af

set_option Elab.async false
set_option linter.all false
set_option maxRecDepth 100000
set_option maxHeartbeats 4000000
namespace Af
open PySem L2
abbrev s_is_room : Stmt := top 21
abbrev N_is_room : List Str := ["width", "steps"]
theorem sc_is_room : FnScope N_is_room ["width", "steps"] (defScope s_is_room) := ⟨rfl, rfl, rfl, by decide +kernel, rfl, by decide +kernel, by decide +kernel⟩

abbrev s_Plan___init : Stmt := inClass (top 26) 0
abbrev N_Plan___init : List Str := ["self", "base", "width", "steps", "epochs", "piece"]
theorem sc_Plan___init : FnScope N_Plan___init ["self", "base", "width", "steps"] (defScope s_Plan___init) := ⟨rfl, rfl, rfl, by decide +kernel, rfl, by decide +kernel, by decide +kernel⟩

/-- what the text has written of the class -/
structure PlanC (K : PySem.W.Frag) (mg : Str → Option Value) (C : Addr) : Prop where
  cl : Cls K C
  nB : NoAttr K C "_base"
  nW : NoAttr K C "_width"
  nS : NoAttr K C "_steps"
  nP : NoAttr K C "_pieces"
  nE : NoAttr K C "_piece_epochs"
  nN : NoAttr K C "_epochs"
  mgC : mg "Plan" = some (.ref C)
  is1 : PySem.W.kitOne K (.ref C) (.ref C) = some true
  is0 : ∀ n ∈ tyNames, PySem.W.kitOne K (.type n) (.ref C) = some false
  first : ∀ n ∈ tyNames, PySem.W.notFirst K C (.type n) = true
  ha : PySem.W.findIn K (.ref C) "__class__" = some (some (.builtin "object.__class__"))
  hn : PySem.W.specialIn K (.builtin "object.__class__") "__get__" = some (some (.builtin "getset_descriptor.__get__"))
  htk : PySem.W.takesIn K (.builtin "object.__class__") = some true
  hm : PySem.W.mroIn K C (.type "object") = some true
theorem PlanC.ty {K : PySem.W.Frag} {mg : Str → Option Value} {C a dx : Addr} {fs : List (Str × V)} {H : Hp} (T : PlanC K mg C) (h : H a = some (.ins C dx fs)) : TyX K H (.ref a) (.ref C) := .base (.ins h T.cl T.ha T.hn T.htk T.hm)
/-- the parts of a plan that the program takes -/
structure OkP (pl : Pl) : Prop where
  c1 : 1 ≤ pl.cs.length
  c24 : pl.cs.length ≤ 24
  cb : ∀ z ∈ pl.cs, 0 ≤ z ∧ z < 8
  w1 : 1 ≤ pl.w
  w24 : pl.w ≤ 24
  st : ∀ x ∈ pl.sts, OkS pl.cs.length x
  sl : pl.sts.length ≤ 40
  pc : (allP pl.w 0 pl.sts).length ≤ 40
def sp_roomX : Sp := fun vs H Q _ => ∃ (wd : Int) (a : Addr) (xs : List V) (sts : List Stp), vs = [.int wd, .ref a] ∧ H a = some (.lst xs) ∧ Paired (StepV H) xs sts ∧ 0 < wd ∧ xs.length ≤ 40 ∧ (∀ x ∈ sts, OkS 24 x) ∧ (allP wd 0 sts).length ≤ 40 ∧
  ∀ H', Same H H' → Q (.bl true) H'
/-- the epoch of each piece -/
def pieceE (sts : List Stp) (ps : List (Int × (Int × List Int))) : List Int := ps.map fun p => ((eps 0 sts)[p.1.toNat]?).getD 0
theorem allP_in {w : Int} : ∀ {l : List Stp} {i : Nat} {p : Int × (Int × List Int)}, p ∈ allP w i l → ∃ j : Nat, p.1 = (j : Int) ∧ i ≤ j ∧ j < i + l.length
  | [], _, _, h => by cases h
  | a :: l, i, p, h => by
    have h' : p ∈ oneP w i a ++ allP w (i + 1) l := h
    rcases List.mem_append.mp h' with h | h
    · cases a with
      | none => cases h
      | some fw =>
        obtain ⟨f, ws⟩ := fw
        obtain ⟨y, _, rfl⟩ := List.mem_map.mp h
        exact ⟨i, rfl, Nat.le_refl _, by rw [List.length_cons]; omega⟩
    · obtain ⟨j, h1, h2, h3⟩ := allP_in h
      exact ⟨j, h1, by omega, by rw [List.length_cons]; omega⟩
def sp_initX (C : Addr) : Sp := fun vs H Q _ => ∃ (x dx ca sa : Addr) (pl : Pl) (xs : List V), vs = [.ref x, .ref ca, .int pl.w, .ref sa] ∧ H x = some (.ins C dx []) ∧ H ca = some (.tup (ivs pl.cs)) ∧ H sa = some (.lst xs) ∧ Paired (StepV H) xs pl.sts ∧ OkP pl ∧
  ∀ H' (sl ql el : Addr) (fs : List (Str × V)) (ys : List V), (∀ a o, a ≠ x → H a = some o → H' a = some o) → H sl = none → H ql = none → H el = none → H' x = some (.ins C dx fs) → fs.lookup ("_base" : Str) = some (.ref ca) → fs.lookup ("_width" : Str) = some (.int pl.w) → fs.lookup ("_steps" : Str) = some (.ref sl) →
    fs.lookup ("_pieces" : Str) = some (.ref ql) → fs.lookup ("_piece_epochs" : Str) = some (.ref el) → fs.lookup ("_epochs" : Str) = some (.int ((bars pl.sts : Nat) + 1)) → (fs.lookup ("epoch_of" : Str) = none ∧ fs.lookup ("with_step" : Str) = none ∧ fs.lookup ("without_step" : Str) = none) → H' sl = some (.lst xs) → H' ql = some (.lst ys) → Paired (PieceA H') ys (allP pl.w 0 pl.sts) → H' el = some (.lst (ivs (pieceE pl.sts (allP pl.w 0 pl.sts)))) → Q .non H'
theorem all_idx {ns : List Int} {m : Int} (h : ∀ z ∈ ns, 0 ≤ z ∧ z < m) : (ivs ns).all (idxB m) = true := by
  refine List.all_eq_true.mpr fun x hx => ?_
  obtain ⟨z, hz, rfl⟩ := List.mem_map.mp hx
  obtain ⟨a, b⟩ := h z hz
  show (decide (0 ≤ z) && decide (z < m)) = true
  rw [decide_eq_true a, decide_eq_true b]
  rfl
theorem ivs_ne {ns : List Int} (h : ns ≠ []) : (!(ivs ns).isEmpty) = true := by
  cases ns with
  | nil => exact absurd rfl h
  | cons a b => rfl
theorem th_ints {K : PySem.W.Frag} {H : Hp} {a : Addr} {ns : List Int} (h : H a = some (.tup (ivs ns))) (hl : ns.length ≤ 100000) {d : Nat} : Th K H (d + 1) (.ref a) := by
  refine th_tup h (by rw [ivs_len]; exact hl) fun y hy => ?_
  obtain ⟨z, _, rfl⟩ := List.mem_map.mp hy
  exact th_int
theorem content_ok {H : Hp} {a : Addr} {ns : List Int} (h : H a = some (.tup (ivs ns))) (c1 : 1 ≤ ns.length) (c2 : ns.length ≤ 24) (cb : ∀ z ∈ ns, 0 ≤ z ∧ z < 8) : contentB H (.ref a) = true := by
  unfold contentB
  rw [worths_at h, len_at h, ivs_ne (fun z => by rw [z] at c1; exact absurd c1 (by decide)), all_idx cb, ivs_len, decide_eq_true c2]
  rfl
theorem width_ok {w : Int} (h1 : 1 ≤ w) (h2 : w ≤ 24) : widthB (.int w) = true := by
  show (decide (1 ≤ w) && decide (w ≤ 24)) = true
  rw [decide_eq_true h1, decide_eq_true h2]
  rfl
theorem step_ok {H : Hp} {x : V} {st : Stp} {n : Nat} (h : StepV H x st) (o : OkS n st) : stepB H (n : Int) x = true := by
  cases st with
  | none =>
    have e : x = .non := h
    subst e
    rfl
  | some fw =>
    obtain ⟨f, ws⟩ := fw
    obtain ⟨a, b, rfl, h1, h2⟩ := h
    obtain ⟨o1, o2, o3, o4⟩ := o
    have hp : 0 < ws.length := List.length_pos_iff.mpr o2
    have e : stepB H (n : Int) (.ref a) = (idxB (n : Int) (.int f) && worthsB H (.ref b) && addB (n : Int) (lenB H (.ref b)) (.int f)) := by
      unfold stepB
      simp only [h1]
    rw [e, worths_at h2, len_at h2, ivs_ne o2, all_idx o4, ivs_len]
    show ((decide (0 ≤ f) && decide (f < (n : Int))) && (true && true) && decide (f + (ws.length : Int) ≤ (n : Int))) = true
    rw [decide_eq_true o1, decide_eq_true o3, decide_eq_true (by omega)]
    rfl
theorem th_step {K : PySem.W.Frag} {H : Hp} {x : V} {st : Stp} {n : Nat} (h : StepV H x st) (o : OkS n st) (hn : n ≤ 1000) : Th K H 2 x := by
  cases st with
  | none =>
    have e : x = .non := h
    subst e
    exact th_non
  | some fw =>
    obtain ⟨f, ws⟩ := fw
    obtain ⟨a, b, rfl, h1, h2⟩ := h
    obtain ⟨o1, o2, o3, o4⟩ := o
    refine th_tup h1 (by show 2 ≤ 100000; decide) fun y hy => ?_
    simp only [List.mem_cons, List.not_mem_nil, or_false] at hy
    rcases hy with rfl | rfl
    · exact th_int
    · exact th_ints h2 (by omega)
theorem paired_mem {α β : Type} {F : α → β → Prop} : ∀ {a : List α} {b : List β} {x : α}, Paired F a b → x ∈ a → ∃ y, y ∈ b ∧ F x y
  | _, _, _, .nil, h => by simp at h
  | _, _, x, .cons r t, h => by
    rcases List.mem_cons.mp h with rfl | h
    · exact ⟨_, List.mem_cons_self, r⟩
    · obtain ⟨y, h1, h2⟩ := paired_mem t h
      exact ⟨y, List.mem_cons_of_mem _ h1, h2⟩
theorem steps_ok {H : Hp} {a : Addr} {xs : List V} {sts : List Stp} {n : Nat} (h : H a = some (.lst xs)) (hst : Paired (StepV H) xs sts) (ok : ∀ x ∈ sts, OkS n x) : stepsB H (n : Int) (.ref a) = true := by
  have e : stepsB H (n : Int) (.ref a) = xs.all (stepB H (n : Int)) := by
    unfold stepsB
    simp only [h]
  rw [e]
  refine List.all_eq_true.mpr fun x hx => ?_
  obtain ⟨st, h1, h2⟩ := paired_mem hst hx
  exact step_ok h2 (ok st h1)
theorem th_steps {K : PySem.W.Frag} {H : Hp} {a : Addr} {xs : List V} {sts : List Stp} {n : Nat} (h : H a = some (.lst xs)) (hl : xs.length ≤ 100000) (hst : Paired (StepV H) xs sts) (ok : ∀ x ∈ sts, OkS n x) (hn : n ≤ 1000) : Th K H 3 (.ref a) := by
  refine th_lst h hl fun y hy => ?_
  obtain ⟨st, h1, h2⟩ := paired_mem hst hy
  exact th_step h2 (ok st h1) hn
theorem ok24 {n : Nat} {st : Stp} (h : OkS n st) (hn : n ≤ 24) : OkS 24 st := by
  cases st with
  | none => exact True.intro
  | some fw =>
    obtain ⟨f, ws⟩ := fw
    obtain ⟨o1, o2, o3, o4⟩ := h
    exact ⟨o1, o2, by omega, o4⟩
/-- fields that are set one after the other -/
def fs6 (ca : Addr) (w : Int) (sl pl pe : Addr) (n : V) : List (Str × V) := putF "_epochs" n (putF "_piece_epochs" (.ref pe) (putF "_pieces" (.ref pl) (putF "_steps" (.ref sl) (putF "_width" (.int w) (putF "_base" (.ref ca) [])))))
/-- all but the object at x stands -/
def Ko (x : Addr) (H H' : Hp) : Prop := ∀ a o, a ≠ x → H a = some o → H' a = some o
theorem Ko.same {x : Addr} {H H1 H2 : Hp} (k : Ko x H H1) (s : Same H1 H2) : Ko x H H2 := fun a o n e => s _ _ (k a o n e)
theorem Ko.upd {x : Addr} {H H1 : Hp} {o : HO} (k : Ko x H H1) : Ko x H (L2.upd H1 x o) := fun a u n e => by
  rw [upd_ne n]
  exact k a u n e
theorem steps_ko {x C dx : Addr} {fs : List (Str × V)} {H H' : Hp} (k : Ko x H H') (hx : H x = some (.ins C dx fs)) {xs : List V} {sts : List Stp} (h : Paired (StepV H) xs sts) : Paired (StepV H') xs sts := L2.Paired.mapP h fun v st z => by
  have nt : ∀ {a : Addr} {l : List V}, H a = some (.tup l) → H' a = some (.tup l) := fun {a l} e => k a _ (ne_of e hx (by intro q; cases q)) e
  cases st with
  | none => exact z
  | some fw =>
    obtain ⟨f, ws⟩ := fw
    obtain ⟨a, b, e, h1, h2⟩ := z
    exact ⟨a, b, e, nt h1, nt h2⟩
theorem int_in {ns : List Int} {j : Nat} (h : j < ns.length) : ∃ z : Int, (ivs ns)[j]? = some (.int z) := ⟨_, ivs_get h⟩
theorem len_put {f : Str} {v : V} {fs : List (Str × V)} {n : Nat} (h : fs.length ≤ n) : (putF f v fs).length ≤ n + 1 := Nat.le_trans (length_putF f v fs) (Nat.succ_le_succ h)
theorem put_at {f : Str} {v : V} {fs : List (Str × V)} : (putF f v fs).lookup f = some v := by
  rw [lookup_putF, if_pos rfl]
theorem put_no {f g : Str} {v u : V} {fs : List (Str × V)} (h : fs.lookup g = some u) (n : ¬ g = f := by decide +kernel) : (putF f v fs).lookup g = some u := by
  rw [lookup_putF, if_neg n]
  exact h
section
variable {P : Program} {w : World} {K : PySem.W.Frag} {mg : Str → Option Value} {base : Heap}
theorem ok_roomX {f : Addr} {fd : FuncData} (F : Fun K "is_room" "is_room" s_is_room f fd) (T : Txt mg) (C : Cst K mg) (c_pieces_of : Cal P w K mg base 2 "_pieces_of" ["width", "steps"] sp_piecesX) : FnOk P w K mg base CX0 3 f fd ["width", "steps"] sp_roomX := by
  obtain ⟨tk1, c_MOST_STEPS⟩ := C.steps
  obtain ⟨tk2, c_MOST_PIECES⟩ := C.pieces
  refine F.ok sc_is_room (fun vs H Q E h => ?_) (fun cdv A outer s H vs Q E hr h => ?_)
  · obtain ⟨_, _, _, _, rfl, _⟩ := h
    rfl
  obtain ⟨wd, a, xs, sts, rfl, ha, hst, w0, xl, ok, tl, k⟩ := h
  refine ⟨_, (pss_one (ps_ret (pe_and (pe_cmpR op_le (pe_callB call_len' (by rfl) T.len (by decide +kernel) (pa_cons (pv 1) pa_nil)) (pe_glob (v := .int 40) rfl c_MOST_STEPS ⟨_, rfl⟩) (nomark _)) (pe_one (pe_cmpR op_le (pe_callB call_len' (by rfl) T.len (by decide +kernel) (pa_cons (pe_cal c_pieces_of hr (pa_cons (pv 0) (pa_cons (pv 1) pa_nil))) pa_nil)) (pe_glob (v := .int 40) rfl c_MOST_PIECES ⟨_, rfl⟩) (nomark _)))))), ?_⟩
  refine ⟨_, rfl, a, xs, rfl, .inl ha, _, _, rfl, rfl, _, rfl, ?_⟩
  have e1 : decide (((xs.length : Nat) : Int) ≤ 40) = true := decide_eq_true (by omega)
  rw [e1]
  refine iteT ⟨_, rfl, _, rfl, wd, a, xs, sts, rfl, ha, hst, w0, by omega, ok, fun l H1 ys s1 hl h1 p1 => ?_⟩
  have yl := paired_len p1
  refine ⟨l, ys, rfl, .inl h1, _, _, rfl, rfl, ?_⟩
  have e2 : decide (((ys.length : Nat) : Int) ≤ 40) = true := decide_eq_true (by omega)
  show Q (V.bl (decide (((ys.length : Nat) : Int) ≤ 40))) H1
  rw [e2]
  exact k H1 s1
theorem ok_initX {f C : Addr} {fd : FuncData} (F : Fun K "__init__" "Plan.__init__" s_Plan___init f fd) (T : Txt mg) (TC : PlanC K mg C)
    (c_is_content : Cal P w K mg base 4 "is_content" ["thing"] (sp_is_content K)) (c_is_width : Cal P w K mg base 2 "is_width" ["thing"] (sp_is_width K)) (c_are_steps : Cal P w K mg base 5 "are_steps" ["cells", "width", "thing"] (sp_are_steps K sp_roomX))
    (c_epochs_of : Cal P w K mg base 1 "_epochs_of" ["steps"] sp_epochsX) (c_pieces_of : Cal P w K mg base 2 "_pieces_of" ["width", "steps"] sp_piecesX) :
    FnOk P w K mg base CX0 6 f fd ["self", "base", "width", "steps"] (sp_initX C) := by
  refine F.ok sc_Plan___init (fun vs H Q E h => ?_) (fun cdv A outer s H vs Q E hr h => ?_)
  · obtain ⟨_, _, _, _, _, _, rfl, _⟩ := h
    rfl
  obtain ⟨x, dx, ca, sa, pl, xs, rfl, hx, hca, hsa, hst, gd, k⟩ := h
  refine ⟨_, (pss_cons (ps_cut (ps_if (PW.pt (pw_or (pt_not (pt_val (pe_cal c_is_content hr (pa_cons (pv 1) pa_nil)))) (pw_or (pt_not (pt_val (pe_cal c_is_width hr (pa_cons (pv 2) pa_nil)))) (pw_or1 (pt_not (pt_val (pe_cal c_are_steps hr (pa_cons (pe_callB call_len' (by rfl) T.len (by decide +kernel) (pa_cons (pv 1) pa_nil)) (pa_cons (pv 2) (pa_cons (pv 3) pa_nil))))))))))
      (pss_one ps_never)
      pss_nil))
    (pss_cons (ps_set (i := 4) sc_Plan___init.nd rfl (Or.inr rfl) (pe_cal c_epochs_of hr (pa_cons (pv 3) pa_nil)))
    (pss_cons (ps_fld (pv 0) (pv 1) rfl)
    (pss_cons (ps_fld (pv 0) (pv 2) rfl)
    (pss_cons (ps_fld (pv 0) (pe_callTy call_list' (by rfl) T.list (by decide +kernel) (pa_cons (pv 3) pa_nil)) rfl)
    (pss_cons (ps_fld (pv 0) (pe_cal c_pieces_of hr (pa_cons (pv 2) (pa_cons (pv 3) pa_nil))) rfl)
    (pss_cons (ps_fld (pv 0) (pe_lc (own := [("piece", 5)]) (g := (gName 5)) (tt := tYes) rfl sc_Plan___init.nd (pi_list (pe_fld (pv 0) rfl)) (blkOk_by (own := [("piece", 5)]) (N := N_Plan___init) (sc := defScope s_Plan___init) (by decide +kernel)) (fun _ _ _ _ _ => pg_name (i := 5) sc_Plan___init.nd rfl (Or.inl rfl)) (fun _ _ _ _ _ => pts_nil) (fun _ _ _ _ _ => (pe_ix ix_seq' (pv 4) (pe_ix ix_seq' (pv 5) pe_int (fun _ _ => rfl)) (fun _ _ => rfl)))) rfl)
    (pss_one (ps_fld (pv 0) (pe_op op_add (pe_bm PySem.F.plainAttrs_list PySem.F.slot_list_count PySem.F.type_list_count (mt_countX (Nat.lt_of_le_of_lt (Nat.add_le_add_left (show 1 ≤ 64 by decide) _) hr.units)) (pv 3) (pa_cons pe_non pa_nil)) pe_int) rfl))))))))), ?_⟩
  have xl := paired_len hst
  have l1 := gd.sl
  have l2 := gd.c24
  have l3 := gd.pc
  -- the questions, all of them right
  refine ⟨fun σ' H' => σ' = [some (.ref x), some (.ref ca), some (.int pl.w), some (.ref sa), none, none] ∧ Same H H', ?_, ?_⟩
  · refine ⟨_, rfl, _, rfl, th_ints hca (by omega), fun H1 s1 => ⟨_, rfl, ?_⟩⟩
    rw [content_ok hca gd.c1 gd.c24 gd.cb]
    refine iteF ⟨_, rfl, _, "int", rfl, ⟨.int _, by decide, fun _ _ _ e => by cases e⟩, ?_⟩
    rw [width_ok gd.w1 gd.w24]
    refine ⟨_, rfl, iteF ?_⟩
    have so := steps_ok (s1 _ _ hsa) (steps_same s1 hst) (fun y hy => gd.st y hy)
    refine ⟨_, rfl, ca, _, rfl, .inr (s1 _ _ hca), _, rfl, _, rfl, _, _, .ref sa, rfl, th_steps (s1 _ _ hsa) (by omega) (steps_same s1 hst) (fun y hy => gd.st y hy) (by omega), fun z => ?_, fun _ H2 s2 => ?_⟩
    · rw [ivs_len, so] at z
      cases z
    · exact ⟨pl.w, sa, xs, pl.sts, rfl, s2 _ _ (s1 _ _ hsa), steps_same (s1.trans s2) hst, by have := gd.w1; omega, by omega, fun y hy => ok24 (gd.st y hy) gd.c24, gd.pc, fun H3 s3 => ⟨_, rfl, iteF ⟨rfl, s1.trans (s2.trans s3)⟩⟩⟩
  rintro _ H2 ⟨rfl, S2⟩
  -- the epochs of the steps
  refine ⟨_, rfl, sa, xs, pl.sts, rfl, S2 _ _ hsa, steps_same S2 hst, by omega, fun el H3 s3 hel h3 => ?_⟩
  have k3 : Ko x H H3 := fun a o _ e => (S2.trans s3) _ _ e
  have x3 : H3 x = some (.ins C dx []) := (S2.trans s3) _ _ hx
  have nca : ca ≠ x := ne_of hca hx (by intro q; cases q)
  have nsa : sa ≠ x := ne_of hsa hx (by intro q; cases q)
  have nel : el ≠ x := ne_of h3 x3 (by intro q; cases q)
  -- base, width, steps
  refine ⟨_, rfl, _, rfl, x, C, dx, _, rfl, x3, TC.cl, TC.nB, by show 0 < 1000; decide, ?_⟩
  refine ⟨_, rfl, _, rfl, x, C, dx, _, rfl, upd_same, TC.cl, TC.nW, Nat.lt_of_le_of_lt (len_put (Nat.le_refl _)) (by decide), ?_⟩
  have k5 := (k3.upd (o := .ins C dx (putF "_base" (.ref ca) []))).upd (o := .ins C dx (putF "_width" (.int pl.w) (putF "_base" (.ref ca) [])))
  have e5 : (L2.upd (L2.upd H3 x (.ins C dx (putF "_base" (.ref ca) []))) x (.ins C dx (putF "_width" (.int pl.w) (putF "_base" (.ref ca) [])))) el = some (.lst (ivs (eps 0 pl.sts))) := by rw [upd_ne nel, upd_ne nel]; exact h3
  generalize hH5 : L2.upd (L2.upd H3 x (.ins C dx (putF "_base" (.ref ca) []))) x (.ins C dx (putF "_width" (.int pl.w) (putF "_base" (.ref ca) []))) = H5 at k5 e5
  have x5 : H5 x = some (.ins C dx (putF "_width" (.int pl.w) (putF "_base" (.ref ca) []))) := by rw [← hH5]; exact upd_same
  have f5 : ∀ a, H5 a = none → H a = none := fun a e => by
    cases z : H a with
    | none => rfl
    | some o =>
      by_cases n : a = x
      · rw [n, x5] at e
        cases e
      · rw [k5 a o n z] at e
        cases e
  refine ⟨_, rfl, sa, xs, rfl, .inl (k5 _ _ nsa hsa), fun sl H6 hsl s6 h6 => ?_⟩
  have x6 := s6 _ _ x5
  have nsl : sl ≠ x := ne_of h6 x6 (by intro q; cases q)
  refine ⟨_, rfl, x, C, dx, _, rfl, x6, TC.cl, TC.nS, Nat.lt_of_le_of_lt (len_put (len_put (Nat.le_refl _))) (by decide), ?_⟩
  have k7 := (k5.same s6).upd (o := .ins C dx (putF "_steps" (.ref sl) (putF "_width" (.int pl.w) (putF "_base" (.ref ca) []))))
  -- the pieces
  refine ⟨_, rfl, _, rfl, pl.w, sa, xs, pl.sts, rfl, k7 _ _ nsa hsa, steps_ko k7 hx hst, by have := gd.w1; omega, by omega, fun y hy => ok24 (gd.st y hy) gd.c24, fun ql H8 ys s8 hql h8 pv => ?_⟩
  have ylen := paired_len pv
  have x8 := s8 _ _ (upd_same (H := H6) (a := x) (o := .ins C dx (putF "_steps" (.ref sl) (putF "_width" (.int pl.w) (putF "_base" (.ref ca) [])))))
  have k8 := k7.same s8
  have nql : ql ≠ x := ne_of h8 x8 (by intro q; cases q)
  refine ⟨_, rfl, x, C, dx, _, rfl, x8, TC.cl, TC.nP, Nat.lt_of_le_of_lt (len_put (len_put (len_put (Nat.le_refl _)))) (by decide), ?_⟩
  have sl8 : H8 sl = some (.lst xs) := s8 _ _ (by rw [upd_ne nsl]; exact h6)
  have el8 : H8 el = some (.lst (ivs (eps 0 pl.sts))) := s8 _ _ (by rw [upd_ne nel]; exact s6 _ _ e5)
  -- their epochs
  have k9 := k8.upd (o := .ins C dx (putF "_pieces" (.ref ql) (putF "_steps" (.ref sl) (putF "_width" (.int pl.w) (putF "_base" (.ref ca) [])))))
  have q9 : (L2.upd H8 x (.ins C dx (putF "_pieces" (.ref ql) (putF "_steps" (.ref sl) (putF "_width" (.int pl.w) (putF "_base" (.ref ca) [])))))) ql = some (.lst ys) := by rw [upd_ne nql]; exact h8
  have el9 : (L2.upd H8 x (.ins C dx (putF "_pieces" (.ref ql) (putF "_steps" (.ref sl) (putF "_width" (.int pl.w) (putF "_base" (.ref ca) [])))))) el = some (.lst (ivs (eps 0 pl.sts))) := by rw [upd_ne nel]; exact el8
  have sl9 : (L2.upd H8 x (.ins C dx (putF "_pieces" (.ref ql) (putF "_steps" (.ref sl) (putF "_width" (.int pl.w) (putF "_base" (.ref ca) [])))))) sl = some (.lst xs) := by rw [upd_ne nsl]; exact sl8
  have p9 : Paired (PieceA (L2.upd H8 x (.ins C dx (putF "_pieces" (.ref ql) (putF "_steps" (.ref sl) (putF "_width" (.int pl.w) (putF "_base" (.ref ca) []))))))) ys (allP pl.w 0 pl.sts) := L2.Paired.mapP pv fun v p z => by
    obtain ⟨t, b, e, ht, hb⟩ := z
    exact ⟨t, b, e, by rw [upd_ne (ne_of ht x8 (by intro q; cases q))]; exact ht, by rw [upd_ne (ne_of hb x8 (by intro q; cases q))]; exact hb⟩
  have x9 : (L2.upd H8 x (.ins C dx (putF "_pieces" (.ref ql) (putF "_steps" (.ref sl) (putF "_width" (.int pl.w) (putF "_base" (.ref ca) [])))))) x = _ := upd_same
  generalize L2.upd H8 x (.ins C dx (putF "_pieces" (.ref ql) (putF "_steps" (.ref sl) (putF "_width" (.int pl.w) (putF "_base" (.ref ca) []))))) = H9 at k9 q9 el9 sl9 p9 x9
  refine ⟨_, rfl, x, C, dx, _, _, rfl, x9, TC.cl, TC.nP, put_at, ql, rfl, ⟨ys, SqL.of q9⟩, fun D hD => lc_list (K := K) (a := ql) (xs := ys) (fun i H' => Same H9 H' ∧ H' D = some (.lst (ivs ((pieceE pl.sts (allP pl.w 0 pl.sts)).take i)))) ?_ ?_ ?_ ?_⟩
  · exact ⟨same_new hD, upd_same⟩
  · rintro i H' _ ⟨s10, _⟩
    exact SqL.of (s10 _ _ q9)
  · rintro i y H' hy ⟨s10, h10⟩
    have il : i < ys.length := (List.getElem?_eq_some_iff.mp hy).1
    obtain ⟨p, hp1, t, b, rfl, ht, hb⟩ := paired_get p9 hy
    obtain ⟨j, hj1, _, hj2⟩ := allP_in (List.mem_of_getElem? hp1)
    have jl : j < (eps 0 pl.sts).length := by rw [eps_len]; omega
    have ge : (pieceE pl.sts (allP pl.w 0 pl.sts))[i]? = some (eps 0 pl.sts)[j] := by
      unfold pieceE
      rw [List.getElem?_map, hp1]
      show some (((eps 0 pl.sts)[p.1.toNat]?).getD 0) = _
      rw [hj1, Int.toNat_natCast, List.getElem?_eq_getElem jl]
      rfl
    have ht' := s10 _ _ ht
    rw [hj1] at ht'
    refine ⟨rfl, _, rfl, _, rfl, t, _, _, _, rfl, rfl, .inr ht', rfl, el, _, _, _, rfl, rfl, .inl (s10 _ _ el9), atI_nat (ivs_get jl), _, h10, szl (by rw [ivs_len, List.length_take]; omega), same_mut s10 hD, ?_⟩
    rw [upd_same, List.take_add_one, ge]
    unfold ivs
    rw [List.map_append]
    rfl
  · rintro H10 ⟨s10, h10⟩
    have pl' : (pieceE pl.sts (allP pl.w 0 pl.sts)).length = ys.length := by
      unfold pieceE
      rw [List.length_map, ylen]
    rw [← pl', List.take_length] at h10
    have x10 := s10 _ _ x9
    have nD : D ≠ x := ne_of h10 x10 (by intro q; cases q)
    refine ⟨_, rfl, x, C, dx, _, rfl, x10, TC.cl, TC.nE, Nat.lt_of_le_of_lt (len_put (len_put (len_put (len_put (Nat.le_refl _))))) (by decide), ?_⟩
    have k11 := (k9.same s10).upd (o := .ins C dx (putF "_piece_epochs" (.ref D) (putF "_pieces" (.ref ql) (putF "_steps" (.ref sl) (putF "_width" (.int pl.w) (putF "_base" (.ref ca) []))))))
    refine ⟨_, rfl, .inl ⟨rfl, _, SqL.of (k11 _ _ nsa hsa)⟩, sa, xs, _, rfl, rfl, SqL.of (k11 _ _ nsa hsa), dp_steps (steps_ko k11 hx hst), (lay_steps _).1, ⟨_, _, rfl, rfl, ?_⟩⟩
    refine ⟨_, rfl, x, C, dx, _, rfl, upd_same, TC.cl, TC.nN, Nat.lt_of_le_of_lt (len_put (len_put (len_put (len_put (len_put (Nat.le_refl _)))))) (by decide), ?_⟩
    rw [bars_count]
    have f8 : ∀ c, (L2.upd H6 x (.ins C dx (putF "_steps" (.ref sl) (putF "_width" (.int pl.w) (putF "_base" (.ref ca) []))))) c = none → H c = none := fun c e => by
      cases z : H c with
      | none => rfl
      | some o =>
        by_cases n : c = x
        · rw [n, upd_same] at e
          cases e
        · rw [k7 c o n z] at e
          cases e
    have f9 : ∀ c, H9 c = none → H c = none := fun c e => by
      cases z : H c with
      | none => rfl
      | some o =>
        by_cases n : c = x
        · rw [n, x9] at e
          cases e
        · rw [k9 c o n z] at e
          cases e
    refine k _ sl ql D _ ys k11.upd (f5 _ hsl) (f8 _ hql) (f9 _ hD) upd_same ?_ ?_ ?_ ?_ ?_ put_at ⟨by rfl, by rfl, by rfl⟩ ?_ ?_ ?_ ?_
    · exact put_no (put_no (put_no (put_no (put_no put_at))))
    · exact put_no (put_no (put_no (put_no put_at)))
    · exact put_no (put_no (put_no put_at))
    · exact put_no (put_no put_at)
    · exact put_no put_at
    · rw [upd_ne nsl, upd_ne nsl]
      exact s10 _ _ sl9
    · rw [upd_ne nql, upd_ne nql]
      exact s10 _ _ q9
    · refine L2.Paired.mapP p9 fun v p z => ?_
      obtain ⟨t, b, e, ht, hb⟩ := z
      have ht' := s10 _ _ ht
      have hb' := s10 _ _ hb
      exact ⟨t, b, e, by rw [upd_ne (ne_of ht' x10 (by intro q; cases q)), upd_ne (ne_of ht' x10 (by intro q; cases q))]; exact ht', by rw [upd_ne (ne_of hb' x10 (by intro q; cases q)), upd_ne (ne_of hb' x10 (by intro q; cases q))]; exact hb'⟩
    · rw [upd_ne nD, upd_ne nD]
      exact h10
end
end Af

set_option Elab.async false
set_option linter.all false
set_option maxRecDepth 100000
namespace Af
open PySem L2
/-- a plan's tuple with its list of steps told -/
def sp_parts : Sp := fun vs H Q _ => ∃ (a ca sa : Addr) (sp : Int) (xs : List V) (sts : List Stp), vs = [.ref a] ∧ H a = some (.tup [.ref ca, .int sp, .ref sa]) ∧ H sa = some (.lst xs) ∧ Paired (StepV H) xs sts ∧ 0 < sp ∧ xs.length ≤ 100 ∧
  (∀ f ws, some (f, ws) ∈ sts → ws.length ≤ 100) ∧ ∀ l H' ys, Same H H' → H l = none → H' l = some (.lst ys) → Q (.ref l) H'
def sp_write : Sp := fun vs H Q _ => ∃ (q : Pn) (m : Nat) (many kinds lo : Int), vs = [.ref q.p, .int many, .int kinds, .int lo] ∧ Pen q m H ∧ m + 30 < 1000000000000 ∧ 1 ≤ many ∧ many ≤ 24 ∧ 1 ≤ kinds ∧ kinds ≤ 8 ∧ 1 ≤ lo ∧ lo ≤ 24 ∧
  ∀ v H' f ws, Go q (m + 30) H H' → StepV H' v (some (f, ws)) → 0 ≤ f → ws ≠ [] → (ws.length : Int) ≤ lo → f + (ws.length : Int) ≤ many → (∀ z ∈ ws, 0 ≤ z ∧ z < kinds) → Q v H'
section
variable {P : Program} {w : World} {K : PySem.W.Frag} {mg : Str → Option Value} {base : Heap}
theorem weak_parts {f : Addr} {fd : FuncData} (F : FnOk P w K mg base CX0 2 f fd ["_law_plan_here"] sp_partsX) : FnOk P w K mg base CX0 2 f fd ["_law_plan_here"] sp_parts :=
  F.imp fun vs H Q E h => by
    obtain ⟨a, ca, sa, sp, xs, sts, e, h1, h2, h3, h4, h5, h6, k⟩ := h
    exact ⟨a, ca, sa, sp, xs, sts, e, h1, h2, h3, h4, h5, h6, fun l H' ys s hl h7 _ => k l H' ys s hl h7⟩
theorem ok_write {f : Addr} {fd : FuncData} (F : Fun K "_law_write" "_law_write" s_l_write f fd) (T : Txt mg) (c_l_draw : Cal P w K mg base 2 "_law_draw" ["_law_pen_here", "_law_under"] sp_draw) :
    FnOk P w K mg base CX0 3 f fd ["_law_pen_here", "_law_many", "_law_kinds", "_law_longest_row"] sp_write := by
  refine F.ok sc_l_write (fun vs H Q E h => ?_) (fun cdv A outer s H vs Q E hr h => ?_)
  · obtain ⟨_, _, _, _, _, rfl, _⟩ := h
    rfl
  obtain ⟨q, m, many, kinds, lo, rfl, hP, hm, m1, m2, k1, k2, l1, l2, k⟩ := h
  refine ⟨_, (pss_cons (ps_set (i := 4) sc_l_write.nd rfl (Or.inl rfl) (pe_cal c_l_draw hr (pa_cons (pv 0) (pa_cons (pv 1) pa_nil))))
    (pss_cons (ps_set (i := 5) sc_l_write.nd rfl (Or.inl rfl) (pe_callB (call_min2 rfl) (by rfl) T.min (by decide +kernel) (pa_cons (pv 3) (pa_cons (pe_op op_sub (pv 1) (pv 4)) pa_nil))))
    (pss_one (ps_ret (pe_tup' (pa_cons (pv 4) (pa_cons (pe_callTy call_tuple' (by rfl) T.tuple (by decide +kernel) (pa_cons (pe_lc (own := [("_law_k", 6)]) (g := (gName 6)) (tt := tYes) rfl sc_l_write.nd (pi_range1 rfl T.range (pa_cons (pe_op op_add pe_int (pe_cal c_l_draw hr (pa_cons (pv 0) (pa_cons (pv 5) pa_nil)))) pa_nil)) (blkOk_by (own := [("_law_k", 6)]) (N := N_l_write) (sc := defScope s_l_write) (by decide +kernel)) (fun _ _ _ _ _ => pg_name (i := 6) sc_l_write.nd rfl (Or.inl rfl)) (fun _ _ _ _ _ => pts_nil) (fun _ _ _ _ _ => (pe_cal c_l_draw hr (pa_cons (pv 0) (pa_cons (pv 2) pa_nil))))) pa_nil)) pa_nil))))))), ?_⟩
  refine ⟨_, rfl, _, rfl, q, m, many, rfl, by omega, by omega, hP, by omega, fun d H1 d0 d1 g1 => ?_⟩
  refine ⟨_, rfl, _, rfl, _, rfl, _, _, rfl, rfl, _, _, rfl, ?_⟩
  have hmore : ∃ more : Int, (if many - d < lo then many - d else lo) = more ∧ 1 ≤ more ∧ more ≤ lo ∧ d + more ≤ many := by
    by_cases c : many - d < lo
    · rw [if_pos c]
      exact ⟨_, rfl, by omega, by omega, by omega⟩
    · rw [if_neg c]
      exact ⟨_, rfl, by omega, by omega, by omega⟩
  obtain ⟨more, e, r1, r2, r3⟩ := hmore
  rw [e]
  refine ⟨_, rfl, _, rfl, _, rfl, q, m + 1, more, rfl, by omega, by omega, g1.pen, by omega, fun d2 H2 d20 d21 g2 => ⟨_, _, rfl, rfl, _, rfl, ?_, ?_, ?_⟩⟩
  · omega
  · omega
  refine lc_draws (q := q) (m := m + 1 + 1) (u := kinds) g2.pen ?_ ?_ (fun x H3 Q m3 p3 h3 kk => ?_) (fun D H3 ns hD g3 h3 hl hb => ?_)
  · omega
  · exact fun x => rfl
  · exact ⟨_, rfl, _, rfl, q, m3, kinds, rfl, by omega, by omega, p3, by omega, kk⟩
  · refine ⟨D, _, rfl, .inl h3, fun t H4 s4 h4 => ⟨szr, fun r H5 hr5 s5 h5 => ?_⟩⟩
    have gg := g1.trans (g2.trans g3)
    have hlen : ns.length = (1 + d2).toNat := hl
    refine k _ H5 d ns (((gg.same s4).same s5).mono (by omega)) ⟨r, t, rfl, h5, s5 _ _ h4⟩ d0 ?_ (by omega) (by omega) hb
    intro z
    rw [z] at hlen
    have : (0 : Nat) = (1 + d2).toNat := hlen
    omega
end
end Af

set_option Elab.async false
set_option linter.all false
set_option maxRecDepth 100000
namespace Af
open PySem L2
abbrev s_l_drawn : Stmt := top 53
abbrev N_l_drawn : List Str := ["_law_pen_here", "_law_many", "_law_most", "_law_kinds", "_law_cells_here", "_law_plan_here", "_law_turn", "_law_longer", "_law_k"]
theorem sc_l_drawn : FnScope N_l_drawn ["_law_pen_here", "_law_many", "_law_most", "_law_kinds"] (defScope s_l_drawn) := ⟨rfl, rfl, rfl, by decide +kernel, rfl, by decide +kernel, by decide +kernel⟩

abbrev s_l_log : Stmt := top 54
abbrev N_l_log : List Str := ["_law_pen_here", "_law_kinds", "_law_news", "_law_steps_here", "_law_step_here"]
theorem sc_l_log : FnScope N_l_log ["_law_pen_here", "_law_kinds"] (defScope s_l_log) := ⟨rfl, rfl, rfl, by decide +kernel, rfl, by decide +kernel, by decide +kernel⟩

abbrev s_l_copy : Stmt := top 55
abbrev N_l_copy : List Str := ["_law_pen_here", "_law_kinds", "_law_news", "_law_steps_here"]
theorem sc_l_copy : FnScope N_l_copy ["_law_pen_here", "_law_kinds"] (defScope s_l_copy) := ⟨rfl, rfl, rfl, by decide +kernel, rfl, by decide +kernel, by decide +kernel⟩

abbrev s_l_plan : Stmt := top 56
abbrev N_l_plan : List Str := ["_law_pen_here", "_law_most", "_law_road"]
theorem sc_l_plan : FnScope N_l_plan ["_law_pen_here", "_law_most"] (defScope s_l_plan) := ⟨rfl, rfl, rfl, by decide +kernel, rfl, by decide +kernel, by decide +kernel⟩

/-- barriers that stand right behind another barrier -/
def adjA : Bool → List Stp → Nat
  | _, [] => 0
  | p, x :: l => (if (p && x.isNone) = true then 1 else 0) + adjA x.isNone l
theorem adj_some (fw : Int × List Int) : ∀ (p : Bool) (l : List Stp), adjA p (l ++ [some fw]) = adjA p l
  | p, [] => by cases p <;> rfl
  | p, x :: l => by
    show (if (p && x.isNone) = true then 1 else 0) + adjA x.isNone (l ++ [some fw]) = _
    rw [adj_some fw x.isNone l]
    rfl
theorem adj_none : ∀ (p : Bool) (l : List Stp), adjA p (l ++ [none]) ≤ adjA p l + 1
  | p, [] => by cases p <;> decide
  | p, x :: l => by
    show (if (p && x.isNone) = true then 1 else 0) + adjA x.isNone (l ++ [none]) ≤ ((if (p && x.isNone) = true then 1 else 0) + adjA x.isNone l) + 1
    have := adj_none x.isNone l
    omega
theorem adj_two (fw : Int × List Int) : ∀ (p : Bool) (l : List Stp), adjA p ((l ++ [some fw]) ++ [none]) = adjA p l
  | p, [] => by cases p <;> rfl
  | p, x :: l => by
    show (if (p && x.isNone) = true then 1 else 0) + adjA x.isNone ((l ++ [some fw]) ++ [none]) = _
    rw [adj_two fw x.isNone l]
    rfl
theorem adj_bars : ∀ (p : Bool) (l : List Stp), adjA p l ≤ bars l
  | _, [] => Nat.zero_le _
  | p, x :: l => by
    have h := adj_bars x.isNone l
    have e : bars (x :: l) = bars l + (if x.isNone = true then 1 else 0) := by unfold bars; rw [List.countP_cons]
    rw [e]
    show (if (p && x.isNone) = true then 1 else 0) + adjA x.isNone l ≤ _
    cases p <;> cases x <;> simp <;> simp at h <;> omega
/-- how many steps, and how many barriers in a row -/
structure DB (i : Nat) (l : List Stp) : Prop where
  s : l.length + adjA false l ≤ 2 * i
  b : bars l ≤ i
/-- within a turn -/
structure MB (i : Nat) (l : List Stp) : Prop where
  s : l.length + adjA false l ≤ 2 * i ∨ ∃ l' fw, l = l' ++ [some fw] ∧ l'.length + adjA false l' ≤ 2 * i
  b : bars l ≤ i
theorem DB.mb {i : Nat} {l : List Stp} (h : DB i l) : MB i l := ⟨.inl h.s, h.b⟩
theorem DB.app {i : Nat} {l : List Stp} (h : DB i l) (fw : Int × List Int) : MB i (l ++ [some fw]) := ⟨.inr ⟨l, fw, rfl, h.s⟩, by rw [bars_app]; exact h.b⟩
theorem MB.none {i : Nat} {l : List Stp} (h : MB i l) : DB (i + 1) (l ++ [none]) := by
  have hb := h.b
  refine ⟨?_, by rw [bars_app]; show bars l + 1 ≤ _; omega⟩
  rcases h.s with h | ⟨l', fw, rfl, h⟩
  · have := adj_none false l
    rw [List.length_append]
    show l.length + 1 + _ ≤ _
    omega
  · rw [adj_two, List.length_append, List.length_append]
    show l'.length + 1 + 1 + _ ≤ _
    omega
theorem MB.db {i : Nat} {l : List Stp} (h : MB i l) : DB (i + 1) l := by
  have hb := h.b
  refine ⟨?_, by omega⟩
  rcases h.s with h | ⟨l', fw, rfl, h⟩
  · omega
  · rw [adj_some, List.length_append]
    show l'.length + 1 + _ ≤ _
    omega
theorem DB.of_len {l : List Stp} (h : l.length ≤ 7) : DB 7 l := by
  have h1 := adj_bars false l
  have h2 : bars l ≤ l.length := List.countP_le_length
  exact ⟨by omega, by omega⟩
theorem DB.mono {i j : Nat} {l : List Stp} (h : DB i l) (u : i ≤ j) : DB j l := ⟨by have := h.s; omega, by have := h.b; omega⟩
def sp_drawn : Sp := fun vs H Q _ => ∃ (q : Pn) (m : Nat) (many most kinds : Int), vs = [.ref q.p, .int many, .int most, .int kinds] ∧ Pen q m H ∧ m + 2000 < 1000000000000 ∧ 1 ≤ many ∧ many ≤ 24 ∧ 0 ≤ most ∧ most ≤ 12 ∧ 1 ≤ kinds ∧ kinds ≤ 8 ∧
  ∀ v H' pl, Go q (m + 2000) H H' → PlanV q.p H' v pl → Good (2 * most.toNat) (3 * most.toNat) pl → pl.cs.length = many.toNat → DB most.toNat pl.sts → Q v H'
def sp_log : Sp := fun vs H Q _ => ∃ (q : Pn) (m : Nat) (kinds : Int), vs = [.ref q.p, .int kinds] ∧ Pen q m H ∧ m + 20 < 1000000000000 ∧ 1 ≤ kinds ∧ kinds ≤ 8 ∧
  ∀ v H' pl, Go q (m + 20) H H' → PlanV q.p H' v pl → Good 10 10 pl → pl.cs.length = 5 → DB 7 pl.sts → Q v H'
def sp_plan : Sp := fun vs H Q _ => ∃ (q : Pn) (m : Nat) (most : Int), vs = [.ref q.p, .int most] ∧ Pen q m H ∧ m + 2100 < 1000000000000 ∧ 5 ≤ most ∧ most ≤ 12 ∧
  ∀ v H' pl, Go q (m + 2100) H H' → PlanV q.p H' v pl → Good (2 * most.toNat) (3 * most.toNat) pl → pl.cs.length ≤ 5 → (most = 7 → DB 7 pl.sts) → Q v H'
section
variable {P : Program} {w : World} {K : PySem.W.Frag} {mg : Str → Option Value} {base : Heap}
theorem ok_drawn {f : Addr} {fd : FuncData} (F : Fun K "_law_drawn" "_law_drawn" s_l_drawn f fd) (T : Txt mg) (c_l_draw : Cal P w K mg base 2 "_law_draw" ["_law_pen_here", "_law_under"] sp_draw)
    (c_l_parts : Cal P w K mg base 2 "_law_parts" ["_law_plan_here"] sp_parts) (c_l_write : Cal P w K mg base 3 "_law_write" ["_law_pen_here", "_law_many", "_law_kinds", "_law_longest_row"] sp_write) :
    FnOk P w K mg base CX0 4 f fd ["_law_pen_here", "_law_many", "_law_most", "_law_kinds"] sp_drawn := by
  refine F.ok sc_l_drawn (fun vs H Q E h => ?_) (fun cdv A outer s H vs Q E hr h => ?_)
  · obtain ⟨_, _, _, _, _, rfl, _⟩ := h
    rfl
  obtain ⟨q, m, many, most, kinds, rfl, hP, hm, m1, m2, o1, o2, k1, k2, k⟩ := h
  refine ⟨_, (pss_cons (ps_set (i := 4) sc_l_drawn.nd rfl (Or.inl rfl) (pe_callTy call_tuple' (by rfl) T.tuple (by decide +kernel) (pa_cons (pe_lc (own := [("_law_k", 8)]) (g := (gName 8)) (tt := tYes) rfl sc_l_drawn.nd (pi_range1 rfl T.range (pa_cons (pv 1) pa_nil)) (blkOk_by (own := [("_law_k", 8)]) (N := N_l_drawn) (sc := defScope s_l_drawn) (by decide +kernel)) (fun _ _ _ _ _ => pg_name (i := 8) sc_l_drawn.nd rfl (Or.inl rfl)) (fun _ _ _ _ _ => pts_nil) (fun _ _ _ _ _ => (pe_cal c_l_draw hr (pa_cons (pv 0) (pa_cons (pv 3) pa_nil))))) pa_nil)))
    (pss_cons (ps_set (i := 5) sc_l_drawn.nd rfl (Or.inl rfl) (pe_tup' (pa_cons (pv 4) (pa_cons (pe_op op_add pe_int (pe_cal c_l_draw hr (pa_cons (pv 0) (pa_cons pe_int pa_nil)))) (pa_cons (pe_lst' pa_nil) pa_nil)))))
    (pss_cons (ps_for PassesOwn.never rfl (pi_range1 rfl T.range (pa_cons (pe_cal c_l_draw hr (pa_cons (pv 0) (pa_cons (pe_op op_add (pv 2) pe_int) pa_nil))) pa_nil)) (pg_name (i := 6) sc_l_drawn.nd rfl (Or.inl rfl))
      (pss_cons (ps_set (i := 7) sc_l_drawn.nd rfl (Or.inl rfl) (pe_op op_cat' (pe_ix ix_seq' (pv 5) pe_int (fun _ _ => rfl)) (pe_lst' (pa_cons (pe_cal c_l_write hr (pa_cons (pv 0) (pa_cons (pv 1) (pa_cons (pv 3) (pa_cons pe_int pa_nil))))) pa_nil))))
    (pss_cons (ps_cut (ps_if (pt_cmpR op_le (pe_callB call_len' (by rfl) T.len (by decide +kernel) (pa_cons (pe_cal c_l_parts hr (pa_cons (pe_tup' (pa_cons (pv 4) (pa_cons (pe_ix ix_seq' (pv 5) pe_int (fun _ _ => rfl)) (pa_cons (pv 7) pa_nil)))) pa_nil)) pa_nil)) (pv 2) (nomark _))
      (pss_one (ps_set (i := 5) sc_l_drawn.nd rfl (Or.inl rfl) (pe_tup' (pa_cons (pv 4) (pa_cons (pe_ix ix_seq' (pv 5) pe_int (fun _ _ => rfl)) (pa_cons (pv 7) pa_nil))))))
      pss_nil))
    (pss_one (ps_if (pt_cmpR op_eq (pe_cal c_l_draw hr (pa_cons (pv 0) (pa_cons pe_int pa_nil))) pe_int (nomark _))
      (pss_one (ps_set (i := 5) sc_l_drawn.nd rfl (Or.inl rfl) (pe_tup' (pa_cons (pv 4) (pa_cons (pe_ix ix_seq' (pv 5) pe_int (fun _ _ => rfl)) (pa_cons (pe_op op_cat' (pe_ix ix_seq' (pv 5) pe_int (fun _ _ => rfl)) (pe_lst' (pa_cons pe_non pa_nil))) pa_nil))))))
      pss_nil)))))
    (pss_one (ps_ret (pv 5)))))), ?_⟩
  -- the cells
  refine ⟨_, rfl, _, rfl, ?_, ?_, ?_⟩
  · omega
  · omega
  refine lc_draws (q := q) (m := m) (u := kinds) hP ?_ ?_ (fun x H3 Q m3 p3 h3 kk => ?_) (fun D H1 cs hD g1 h1 hl hb => ?_)
  · omega
  · exact fun x => rfl
  · exact ⟨_, rfl, _, rfl, q, m3, kinds, rfl, by omega, by omega, p3, by omega, kk⟩
  refine ⟨D, _, rfl, .inl h1, fun ca H2 s2 h2 => ?_⟩
  -- the plan without steps
  have g2 := (g1.same s2).mono (m' := m + 24) (by omega)
  refine ⟨_, rfl, _, rfl, q, m + 24, 3, rfl, by decide, by decide, g2.pen, by omega, fun d H3 d0 d1 g3 => ⟨_, _, rfl, rfl, szr, fun l H4 hl4 s4 h4 => ⟨szr, fun t H5 ht s5 h5 => ?_⟩⟩⟩
  have g5 := ((g2.trans g3).same s4).same s5
  -- the turns
  refine ⟨_, rfl, _, rfl, _, _, rfl, rfl, q, m + 25, most + 1, rfl, by omega, by omega, g5.pen, by omega, fun n H6 n0 n1 g6 => ⟨_, rfl, by omega, by omega, ?_⟩⟩
  have g7 := g5.trans g6
  have c6 : H6 ca = some (.tup (ivs cs)) := g6.kp.tup (s5 _ _ (s4 _ _ (g3.kp.tup h2)))
  have hcs : cs.length = many.toNat := hl
  refine for_range (lo := 0) (fun i σ' H' => ∃ v pl lv kv, σ' = [some (.ref q.p), some (.int many), some (.int most), some (.int kinds), some (.ref ca), some v, kv, lv, none] ∧ Go q (m + 26 + 31 * i) H H' ∧ H' ca = some (.tup (ivs cs)) ∧ PlanV q.p H' v pl ∧ pl.cs = cs ∧ Good (2 * i) (3 * i) pl ∧ DB i pl.sts) ?_ ?_ ?_
  · refine ⟨.ref t, ⟨cs, 1 + d, []⟩, none, none, rfl, g7, c6, ?_, rfl, ?_, ⟨Nat.zero_le _, Nat.zero_le _⟩⟩
    · refine (PlanV.mk ⟨t, ca, l, [], rfl, h5, s5 _ _ (s4 _ _ (g3.kp.tup h2)), (g3.pen.free hl4).1, s5 _ _ h4, .nil⟩ : PlanV q.p H5 (.ref t) ⟨cs, 1 + d, []⟩).kp g6.kp
    · exact ⟨by show 1 ≤ cs.length; omega, by show cs.length ≤ 24; omega, fun z hz => by have := hb z hz; omega, by show 1 ≤ 1 + d; omega, by show 1 + d ≤ 24; omega, fun x hx => by simp at hx, Nat.le_refl _, Nat.le_refl _⟩
  · rintro i σ' H' hi ⟨v, pl, lv, kv, rfl, gi, ci, hv, ec, gd, db⟩
    have hi' : (i : Int) < most := by omega
    obtain ⟨a, ca', sa, xs, rfl, ha, hca, hn, hsa, hst⟩ := hv.ex
    -- longer
    refine ⟨_, rfl, a, _, _, _, rfl, rfl, .inr ha, rfl, _, rfl, _, rfl, _, rfl, q, _, many, kinds, 3, rfl, gi.pen, by omega, by omega, by omega, by omega, by omega, by decide, by decide, fun wv H1 f ws gw hsv f0 wn wl wm wb => ⟨szr, fun ll H2 hll s2' h2' => ?_⟩⟩
    have xl := paired_len hst
    have sl := gd.sl
    refine ⟨sa, ll, xs, _, rfl, rfl, s2' _ _ (gw.kp.lst hn hsa), h2', sz (by show xs.length + 1 ≤ 100000; omega), fun r H3 hr3 s3' h3' => ?_⟩
    have g3' := (gw.same s2').same s3'
    have st3 : Paired (StepV H3) (xs ++ [wv]) (pl.sts ++ [some (f, ws)]) := steps_same s3' (steps_same s2' (paired_app (steps_kp gw.kp hst) (.cons hsv .nil)))
    have a3 := g3'.kp.tup ha
    have c3 := g3'.kp.tup ci
    have v3 := hv.kp g3'.kp
    refine ⟨fun σ'' H'' => ∃ v pl lv kv, σ'' = [some (.ref q.p), some (.int many), some (.int most), some (.int kinds), some (.ref ca), some v, kv, lv, none] ∧ Go q (m + 56 + 31 * i) H H'' ∧ H'' ca = some (.tup (ivs cs)) ∧ PlanV q.p H'' v pl ∧ pl.cs = cs ∧ Good (2 * i + 1) (3 * i + 3) pl ∧ MB i pl.sts, ?_, ?_⟩
    · refine ⟨_, rfl, _, rfl, a, _, _, _, rfl, rfl, .inr a3, rfl, _, rfl, szr, fun tt H4 htt s4' h4' => ?_⟩
      have okl : ∀ f ws, some (f, ws) ∈ pl.sts ++ [some (f, ws)] → True := fun _ _ _ => trivial
      refine ⟨tt, ca, r, pl.w, xs ++ [wv], pl.sts ++ [some (f, ws)], rfl, h4', s4' _ _ h3', steps_same s4' st3, by have := gd.w1; omega, by rw [List.length_append]; show xs.length + 1 ≤ 100; omega, fun f' ws' hm' => ?_, fun pl2 H5 ys s5' hp2 h5' => ?_⟩
      · rcases List.mem_append.mp hm' with z | z
        · have q1 := gd.st _ z
          obtain ⟨q2, _, q3, _⟩ := q1
          have := gd.c24
          omega
        · cases List.mem_singleton.mp z
          omega
      · have gg := (gi.trans g3').same s4' |>.same s5'
        refine ⟨pl2, _, rfl, .inl h5', _, rfl, _, _, rfl, rfl, _, rfl, ite2 (fun _ => ?_) (fun _ => ?_)⟩
        · have a5 := s5' _ _ (s4' _ _ a3)
          refine ⟨_, rfl, _, rfl, a, _, _, _, rfl, rfl, .inr a5, rfl, _, rfl, szr, fun t2 H6 ht2 s6' h6' => ?_⟩
          have c6' := s6' _ _ (s5' _ _ (s4' _ _ c3))
          refine ⟨.ref t2, ⟨cs, pl.w, pl.sts ++ [some (f, ws)]⟩, _, _, rfl, (gg.same s6').mono (by omega), c6', ⟨t2, ca, r, _, rfl, h6', c6', ?_, s6' _ _ (s5' _ _ (s4' _ _ h3')), steps_same s6' (steps_same s5' (steps_same s4' st3))⟩, rfl, ?_, db.app _⟩
          · exact ((gw.same s2').pen.free hr3).1
          · refine ⟨by show 1 ≤ cs.length; omega, by show cs.length ≤ 24; omega, fun z hz => by have := hb z hz; omega, gd.w1, gd.w24, fun x hx => ?_, ?_, ?_⟩
            · rcases List.mem_append.mp hx with z | z
              · have := gd.st x z
                rw [ec] at this
                exact this
              · rw [List.mem_singleton.mp z]
                exact ⟨f0, wn, by show f + (ws.length : Int) ≤ (cs.length : Int); omega, fun z hz => by have := wb z hz; omega⟩
            · show (pl.sts ++ [some (f, ws)]).length ≤ _
              rw [List.length_append]
              show pl.sts.length + 1 ≤ _
              omega
            · show tot (pl.sts ++ [some (f, ws)]) ≤ _
              rw [tot_app, tot_one]
              have := gd.tl
              show tot pl.sts + ws.length ≤ _
              omega
        · exact ⟨.ref a, pl, _, _, rfl, gg.mono (by omega), s5' _ _ (s4' _ _ c3), (v3.same s4').same s5', ec, gd.mono (by omega) (by omega), db.mb⟩
    · rintro σ'' H'' ⟨v, pl, lv, kv, rfl, gj, cj, hv, ec, gd, mb⟩
      refine ⟨_, rfl, q, _, 3, rfl, by decide, by decide, gj.pen, by omega, fun d H1 d0 d1 g1 => ⟨rfl, _, rfl, ite2 (fun _ => ?_) (fun _ => ?_)⟩⟩
      · have hv1 := hv.kp g1.kp
        obtain ⟨a, ca', sa, xs, rfl, ha, hca, hn, hsa, hst⟩ := hv1.ex
        have xl := paired_len hst
        have sl := gd.sl
        refine ⟨_, rfl, _, rfl, a, _, _, _, rfl, rfl, .inr ha, rfl, _, rfl, a, _, _, _, rfl, rfl, .inr ha, rfl, szr, fun ll H2 hll s2' h2' => ?_⟩
        refine ⟨sa, ll, xs, _, rfl, rfl, s2' _ _ hsa, h2', sz (by show xs.length + 1 ≤ 100000; omega), fun r H3 hr3 s3' h3' => ⟨szr, fun t2 H4 ht2 s4' h4' => ?_⟩⟩
        have gg := ((((gj.trans g1).same s2').same s3').same s4')
        have c4 := s4' _ _ (s3' _ _ (s2' _ _ (g1.kp.tup cj)))
        refine ⟨.ref t2, ⟨cs, pl.w, pl.sts ++ [none]⟩, _, _, rfl, gg.mono (by omega), c4, ⟨t2, ca, r, _, rfl, h4', c4, ((g1.same s2').pen.free hr3).1, s4' _ _ h3', steps_same s4' (steps_same s3' (steps_same s2' (paired_app hst (.cons rfl .nil))))⟩, rfl, ?_, mb.none⟩
        refine ⟨by show 1 ≤ cs.length; omega, by show cs.length ≤ 24; omega, fun z hz => by have := hb z hz; omega, gd.w1, gd.w24, fun x hx => ?_, ?_, ?_⟩
        · rcases List.mem_append.mp hx with z | z
          · have := gd.st x z
            rw [ec] at this
            exact this
          · rw [List.mem_singleton.mp z]
            exact True.intro
        · show (pl.sts ++ [none]).length ≤ _
          rw [List.length_append]
          show pl.sts.length + 1 ≤ _
          omega
        · show tot (pl.sts ++ [none]) ≤ _
          rw [tot_app, tot_one]
          have := gd.tl
          show tot pl.sts + 0 ≤ _
          omega
      · exact ⟨v, pl, _, _, rfl, (gj.trans g1).mono (by omega), g1.kp.tup cj, hv.kp g1.kp, ec, gd.mono (by omega) (by omega), mb.db⟩
  · rintro σ' H' ⟨v, pl, lv, kv, rfl, gi, ci, hv, ec, gd, db⟩
    exact ⟨_, rfl, k v H' pl (gi.mono (by omega)) hv (gd.mono (by omega) (by omega)) (by rw [ec]; exact hcs) (db.mono (by omega))⟩
end
end Af

set_option Elab.async false
set_option linter.all false
set_option maxRecDepth 100000
namespace Af
open PySem L2
/-- no or one barrier -/
theorem rep_none {kk : Int} (h : kk = 0 ∨ kk = 1) {H : Hp} : ∃ bs : List Stp, Paired (StepV H) (List.replicate kk.toNat [V.non]).flatten bs ∧ bs.length ≤ 1 ∧ tot bs = 0 ∧ ∀ x ∈ bs, x = none := by
  rcases h with h | h
  · subst h
    exact ⟨[], .nil, Nat.zero_le _, rfl, fun x hx => by simp at hx⟩
  · subst h
    exact ⟨[none], .cons rfl .nil, Nat.le_refl _, rfl, fun x hx => List.mem_singleton.mp hx⟩
theorem one_or {c : Bool} : ∃ kk : Int, (if c = true then (1 : Int) else 0) = kk ∧ (kk = 0 ∨ kk = 1) := by
  cases c with
  | true => exact ⟨1, rfl, .inr rfl⟩
  | false => exact ⟨0, rfl, .inl rfl⟩
theorem rep_len {kk : Int} (h : kk = 0 ∨ kk = 1) : (List.replicate kk.toNat [V.non]).flatten.length ≤ 1 := by
  rcases h with h | h <;> (subst h; decide)
section
variable {P : Program} {w : World} {K : PySem.W.Frag} {mg : Str → Option Value} {base : Heap}
theorem ok_log {f : Addr} {fd : FuncData} (F : Fun K "_law_log" "_law_log" s_l_log f fd) (T : Txt mg) (c_l_draw : Cal P w K mg base 2 "_law_draw" ["_law_pen_here", "_law_under"] sp_draw) :
    FnOk P w K mg base CX0 3 f fd ["_law_pen_here", "_law_kinds"] sp_log := by
  refine F.ok sc_l_log (fun vs H Q E h => ?_) (fun cdv A outer s H vs Q E hr h => ?_)
  · obtain ⟨_, _, _, rfl, _⟩ := h
    rfl
  obtain ⟨q, m, kinds, rfl, hP, hm, k1, k2, k⟩ := h
  refine ⟨_, (pss_cons (ps_set (i := 2) sc_l_log.nd rfl (Or.inl rfl) (pe_tup' (pa_cons (pe_cal c_l_draw hr (pa_cons (pv 0) (pa_cons (pv 1) pa_nil))) (pa_cons (pe_cal c_l_draw hr (pa_cons (pv 0) (pa_cons (pv 1) pa_nil))) pa_nil))))
    (pss_cons (ps_set (i := 3) sc_l_log.nd rfl (Or.inl rfl) (pe_lst' (pa_cons (pe_tup' (pa_cons pe_int (pa_cons (pv 2) pa_nil))) pa_nil)))
    (pss_cons (ps_for PassesOwn.never rfl (pi_tup (pe_tup' (pa_cons (pe_tup' (pa_cons pe_int (pa_cons (pe_tup' (pa_cons pe_int pa_nil)) pa_nil))) (pa_cons (pe_tup' (pa_cons pe_int (pa_cons (pv 2) pa_nil))) (pa_cons (pe_tup' (pa_cons pe_int (pa_cons (pe_tup' (pa_cons pe_int pa_nil)) pa_nil))) pa_nil))))) (pg_name (i := 4) sc_l_log.nd rfl (Or.inl rfl))
      (pss_one (ps_set (i := 3) sc_l_log.nd rfl (Or.inl rfl) (pe_op op_cat' (pe_op op_cat' (pv 3) (pe_op op_rep' (pe_lst' (pa_cons pe_non pa_nil)) (pe_callTy call_int1 (by rfl) T.int (by decide +kernel) (pa_cons (pe_cmpR op_gt (pe_cal c_l_draw hr (pa_cons (pv 0) (pa_cons pe_int pa_nil))) pe_int (nomark _)) pa_nil)))) (pe_lst' (pa_cons (pv 4) pa_nil))))))
    (pss_one (ps_ret (pe_tup' (pa_cons (pe_tup' (pa_cons pe_int (pa_cons pe_int (pa_cons pe_int (pa_cons (pe_cal c_l_draw hr (pa_cons (pv 0) (pa_cons (pv 1) pa_nil))) (pa_cons (pe_cal c_l_draw hr (pa_cons (pv 0) (pa_cons (pv 1) pa_nil))) pa_nil)))))) (pa_cons (pe_op op_add pe_int (pe_cal c_l_draw hr (pa_cons (pv 0) (pa_cons pe_int pa_nil)))) (pa_cons (pv 3) pa_nil))))))))), ?_⟩
  refine ⟨_, rfl, _, rfl, q, m, kinds, rfl, by omega, by omega, hP, by omega, fun d1 H1 d10 d11 g1 => ⟨_, rfl, _, rfl, q, m + 1, kinds, rfl, by omega, by omega, g1.pen, by omega, fun d2 H2 d20 d21 g2 => ⟨szr, fun nw H3 hn s3 h3 => ?_⟩⟩⟩
  refine ⟨_, rfl, szr, fun t H4 ht s4 h4 => ⟨szr, fun sl H5 hsl s5 h5 => ?_⟩⟩
  have g5 := (((g1.trans g2).same s3).same s4).same s5
  have nsl := (((g1.trans g2).same s3).same s4).pen.free hsl
  refine ⟨szr, fun a1 H6 _ s6 h6 => ⟨szr, fun t1 H7 _ s7 h7 => ⟨_, rfl, szr, fun t2 H8 _ s8 h8 => ⟨szr, fun a3 H9 _ s9 h9 => ⟨szr, fun t3 H10 _ s10 h10 => ⟨szr, fun tt H11 _ s11 h11 => ?_⟩⟩⟩⟩⟩⟩
  have S := s6.trans (s7.trans (s8.trans (s9.trans (s10.trans s11))))
  have g11 := g5.same S
  have nw11 : H11 nw = some (.tup (ivs [d1, d2])) := S _ _ (s5 _ _ (s4 _ _ h3))
  have its : Paired (StepV H11) [V.ref t1, V.ref t2, V.ref t3] [some (2, [1]), some (3, [d1, d2]), some (2, [0])] :=
    .cons ⟨t1, a1, rfl, s11 _ _ (s10 _ _ (s9 _ _ (s8 _ _ h7))), s11 _ _ (s10 _ _ (s9 _ _ (s8 _ _ (s7 _ _ h6))))⟩
      (.cons ⟨t2, nw, rfl, s11 _ _ (s10 _ _ (s9 _ _ h8)), nw11⟩ (.cons ⟨t3, a3, rfl, s11 _ _ h10, s11 _ _ (s10 _ _ h9)⟩ .nil))
  have iok : ∀ x ∈ ([some (2, [1]), some (3, [d1, d2]), some (2, [0])] : List Stp), OkS 5 x ∧ stl x ≤ 2 := by
    intro x hx
    simp only [List.mem_cons, List.not_mem_nil, or_false] at hx
    rcases hx with rfl | rfl | rfl
    · exact ⟨⟨by decide, by simp, by decide, fun z hz => by rw [List.mem_singleton.mp hz]; decide⟩, by decide⟩
    · refine ⟨⟨by decide, by simp, by show (3 : Int) + 2 ≤ 5; decide, fun z hz => ?_⟩, Nat.le_refl _⟩
      simp only [List.mem_cons, List.not_mem_nil, or_false] at hz
      rcases hz with rfl | rfl <;> omega
    · exact ⟨⟨by decide, by simp, by decide, fun z hz => by rw [List.mem_singleton.mp hz]; decide⟩, by decide⟩
  refine ⟨tt, rfl, ⟨_, SqT.of h11⟩, for_tup (K := K) (a := tt) (xs := [V.ref t1, V.ref t2, V.ref t3]) (fun i σ' H' => ∃ sl xs sts kv, σ' = [some (.ref q.p), some (.int kinds), some (.ref nw), some (.ref sl), kv] ∧ Go q (m + 2 + i) H H' ∧ Kp q.p H11 H' ∧ sl ≠ q.p ∧ H' sl = some (.lst xs) ∧ Paired (StepV H') xs sts ∧ sts.length ≤ 1 + 2 * i ∧ (∀ x ∈ sts, OkS 5 x) ∧ tot sts ≤ 2 + 2 * i) ?_ ?_ ?_ ?_⟩
  · refine ⟨sl, _, [some (0, [d1, d2])], none, rfl, g11, Kp.refl, nsl.1, S _ _ h5, .cons ⟨t, nw, rfl, S _ _ (s5 _ _ h4), nw11⟩ .nil, Nat.le_refl _, fun x hx => ?_, Nat.le_refl _⟩
    rw [List.mem_singleton.mp hx]
    refine ⟨by decide, by simp, by show (0 : Int) + 2 ≤ 5; decide, fun z hz => ?_⟩
    simp only [List.mem_cons, List.not_mem_nil, or_false] at hz
    rcases hz with rfl | rfl <;> omega
  · rintro i σ' H' hi ⟨sl, xs, sts, kv, rfl, gi, ki, _⟩
    exact SqT.of (ki.tup h11)
  · rintro i x σ' H' hx ⟨sl, xs, sts, kv, rfl, gi, ki, ns, h1', hst, l1, ok, l2⟩
    have i3 : i < 3 := (List.getElem?_eq_some_iff.mp hx).1
    obtain ⟨st, hs1, hs2⟩ := paired_get its hx
    obtain ⟨o1, o2⟩ := iok st (List.mem_of_getElem? hs1)
    have xl := paired_len hst
    refine ⟨_, rfl, szr, fun nl H1' hnl s1' h2' => ⟨_, rfl, q, _, 3, rfl, by decide, by decide, gi.pen.same s1', by omega, fun d H2' d0 d1' gd => ⟨_, _, rfl, rfl, .inr ⟨_, rfl, ?_⟩⟩⟩⟩
    obtain ⟨kk, ek, hk⟩ := one_or (c := decide (0 < d))
    rw [ek]
    have gg := (gi.same s1').trans gd
    have hnl' : nl ≠ q.p := (gi.pen.free hnl).1
    refine ⟨nl, kk, _, rfl, rfl, gd.kp.lst hnl' h2', by omega, by omega, sz (by show 1 * kk.toNat ≤ 100000; omega), fun r H3' hr3 s3' h3' => ?_⟩
    have rl := rep_len hk
    refine ⟨sl, r, xs, _, rfl, rfl, s3' _ _ (gd.kp.lst ns (s1' _ _ h1')), h3', sz (by omega), fun r2 H4' hr4 s4' h4' => ⟨_, rfl, szr, fun l5 H5' h5n s5' h5' => ?_⟩⟩
    have gg4 := ((gg.same s3').same s4').same s5'
    refine ⟨r2, l5, _, _, rfl, rfl, s5' _ _ h4', h5', sz (by rw [List.length_append]; show _ + 1 ≤ 100000; omega), fun r6 H6' h6n s6' h6' => ?_⟩
    obtain ⟨bs, b1, b2, b3, b4⟩ := rep_none hk (H := H6')
    have kk6 : Kp q.p H' H6' := (Kp.same s1').trans (gd.kp.trans (Kp.same (s3'.trans (s4'.trans (s5'.trans s6')))))
    refine ⟨r6, _, (sts ++ bs) ++ [st], _, rfl, (gg4.same s6').mono (by omega), ki.trans kk6, (gg4.pen.free h6n).1, h6', paired_app (paired_app (steps_kp kk6 hst) b1) (.cons ((hs2.kp ki).kp kk6) .nil), ?_, fun y hy => ?_, ?_⟩
    · rw [List.length_append, List.length_append]
      show sts.length + bs.length + 1 ≤ _
      omega
    · rcases List.mem_append.mp hy with hy | hy
      · rcases List.mem_append.mp hy with hy | hy
        · exact ok y hy
        · rw [b4 y hy]
          exact True.intro
      · rw [List.mem_singleton.mp hy]
        exact o1
    · rw [tot_app, tot_app, tot_one, b3]
      omega
  · rintro σ' H' ⟨sl, xs, sts, kv, rfl, gi, ki, ns, h1', hst, l1, ok, l2⟩
    have l1' : sts.length ≤ 7 := l1
    have l2' : tot sts ≤ 8 := l2
    have gi' : Go q (m + 5) H H' := gi
    refine ⟨_, rfl, _, rfl, q, m + 5, kinds, rfl, by omega, by omega, gi'.pen, by omega, fun e1 H1' e10 e11 ge1 => ⟨_, rfl, _, rfl, q, _, kinds, rfl, by omega, by omega, ge1.pen, by omega, fun e2 H2' e20 e21 ge2 => ⟨szr, fun ct H3' hct s3' h3' => ?_⟩⟩⟩
    refine ⟨_, rfl, q, _, 2, rfl, by decide, by decide, ge2.pen.same s3', by omega, fun d H4' d0 d1' gd => ⟨_, _, rfl, rfl, _, rfl, szr, fun r H5' hr5 s5' h5' => ?_⟩⟩
    have gg := (((gi'.trans (ge1.trans ge2)).same s3').trans gd).same s5'
    have kp : Kp q.p H' H5' := ge1.kp.trans (ge2.kp.trans ((Kp.same s3').trans (gd.kp.trans (Kp.same s5'))))
    refine k (.ref r) H5' ⟨[0, 0, 0, e1, e2], 1 + d, sts⟩ (gg.mono (by omega)) ⟨r, ct, sl, xs, rfl, h5', s5' _ _ (gd.kp.tup h3'), ns, kp.lst ns h1', steps_kp kp hst⟩ ?_ rfl (DB.of_len l1')
    refine ⟨by show 1 ≤ 5; decide, by show 5 ≤ 24; decide, fun z hz => ?_, by show 1 ≤ 1 + d; omega, by show 1 + d ≤ 24; omega, ok, by show sts.length ≤ 10; omega, by show tot sts ≤ 10; omega⟩
    simp only [List.mem_cons, List.not_mem_nil, or_false] at hz
    rcases hz with rfl | rfl | rfl | rfl | rfl <;> omega
theorem ok_copy {f : Addr} {fd : FuncData} (F : Fun K "_law_copy" "_law_copy" s_l_copy f fd) (T : Txt mg) (c_l_draw : Cal P w K mg base 2 "_law_draw" ["_law_pen_here", "_law_under"] sp_draw) :
    FnOk P w K mg base CX0 3 f fd ["_law_pen_here", "_law_kinds"] sp_log := by
  refine F.ok sc_l_copy (fun vs H Q E h => ?_) (fun cdv A outer s H vs Q E hr h => ?_)
  · obtain ⟨_, _, _, rfl, _⟩ := h
    rfl
  obtain ⟨q, m, kinds, rfl, hP, hm, k1, k2, k⟩ := h
  refine ⟨_, (pss_cons (ps_set (i := 2) sc_l_copy.nd rfl (Or.inl rfl) (pe_tup' (pa_cons (pe_cal c_l_draw hr (pa_cons (pv 0) (pa_cons (pv 1) pa_nil))) (pa_cons (pe_cal c_l_draw hr (pa_cons (pv 0) (pa_cons (pv 1) pa_nil))) pa_nil))))
    (pss_cons (ps_set (i := 3) sc_l_copy.nd rfl (Or.inl rfl) (pe_op op_cat' (pe_op op_cat' (pe_lst' (pa_cons (pe_tup' (pa_cons pe_int (pa_cons (pv 2) pa_nil))) pa_nil)) (pe_op op_rep' (pe_lst' (pa_cons pe_non pa_nil)) (pe_callTy call_int1 (by rfl) T.int (by decide +kernel) (pa_cons (pe_cmpR op_gt (pe_cal c_l_draw hr (pa_cons (pv 0) (pa_cons pe_int pa_nil))) pe_int (nomark _)) pa_nil)))) (pe_lst' (pa_cons (pe_tup' (pa_cons pe_int (pa_cons (pe_tup' (pa_cons pe_int pa_nil)) pa_nil))) pa_nil))))
    (pss_one (ps_ret (pe_tup' (pa_cons (pe_tup' (pa_cons (pe_cal c_l_draw hr (pa_cons (pv 0) (pa_cons (pv 1) pa_nil))) (pa_cons (pe_cal c_l_draw hr (pa_cons (pv 0) (pa_cons (pv 1) pa_nil))) (pa_cons pe_int (pa_cons pe_int (pa_cons pe_int pa_nil)))))) (pa_cons (pe_op op_add pe_int (pe_cal c_l_draw hr (pa_cons (pv 0) (pa_cons pe_int pa_nil)))) (pa_cons (pv 3) pa_nil)))))))), ?_⟩
  refine ⟨_, rfl, _, rfl, q, m, kinds, rfl, by omega, by omega, hP, by omega, fun d1 H1 d10 d11 g1 => ⟨_, rfl, _, rfl, q, m + 1, kinds, rfl, by omega, by omega, g1.pen, by omega, fun d2 H2 d20 d21 g2 => ⟨szr, fun nw H3 hn s3 h3 => ?_⟩⟩⟩
  refine ⟨_, rfl, szr, fun t H4 ht s4 h4 => ⟨szr, fun sl H5 hsl s5 h5 => ⟨szr, fun nl H6 hnl s6 h6 => ?_⟩⟩⟩
  have g6 := ((((g1.trans g2).same s3).same s4).same s5).same s6
  have nsl := (((g1.trans g2).same s3).same s4).pen.free hsl
  have nnl := ((((g1.trans g2).same s3).same s4).same s5).pen.free hnl
  refine ⟨_, rfl, q, _, 3, rfl, by decide, by decide, g6.pen, by omega, fun d H7 d0 d1' gd => ⟨_, _, rfl, rfl, .inr ⟨_, rfl, ?_⟩⟩⟩
  obtain ⟨kk, ek, hk⟩ := one_or (c := decide (0 < d))
  rw [ek]
  refine ⟨nl, kk, _, rfl, rfl, gd.kp.lst nnl.1 h6, by omega, by omega, sz (by show 1 * kk.toNat ≤ 100000; omega), fun r H8 hr8 s8 h8 => ?_⟩
  have rl := rep_len hk
  refine ⟨sl, r, _, _, rfl, rfl, s8 _ _ (gd.kp.lst nsl.1 (s6 _ _ h5)), h8, sz (by show 1 + _ ≤ 100000; omega), fun r2 H9 hr9 s9 h9 => ⟨szr, fun a3 H10 ha3 s10 h10 => ⟨szr, fun t3 H11 ht3 s11 h11 => ⟨szr, fun l5 H12 hl5 s12 h12 => ?_⟩⟩⟩⟩
  have S := s9.trans (s10.trans (s11.trans s12))
  refine ⟨r2, l5, _, _, rfl, rfl, s12 _ _ (s11 _ _ (s10 _ _ h9)), h12, sz (by rw [List.length_append]; show (1 + _) + 1 ≤ 100000; omega), fun r6 H13 h13n s13 h13 => ?_⟩
  obtain ⟨bs, b1, b2, b3, b4⟩ := rep_none hk (H := H13)
  have kp6 : Kp q.p H6 H13 := gd.kp.trans (Kp.same (s8.trans (S.trans s13)))
  have g13 := (((((((g6.trans gd).same s8).same s9).same s10).same s11).same s12).same s13)
  have n6 := (((((((g6.trans gd).same s8).same s9).same s10).same s11).same s12)).pen.free h13n
  have nw13 : H13 nw = some (.tup (ivs [d1, d2])) := kp6.tup (s6 _ _ (s5 _ _ (s4 _ _ h3)))
  have hst : Paired (StepV H13) (([V.ref t] ++ (List.replicate kk.toNat [V.non]).flatten) ++ [V.ref t3]) (([some (2, [d1, d2])] ++ bs) ++ [some (4, [1])]) :=
    paired_app (paired_app (.cons ⟨t, nw, rfl, kp6.tup (s6 _ _ (s5 _ _ h4)), nw13⟩ .nil) b1) (.cons ⟨t3, a3, rfl, s13 _ _ (s12 _ _ h11), s13 _ _ (s12 _ _ (s11 _ _ h10))⟩ .nil)
  -- the plan
  refine ⟨_, rfl, _, rfl, q, _, kinds, rfl, by omega, by omega, g13.pen, by omega, fun e1 H1' e10 e11 ge1 => ⟨_, rfl, _, rfl, q, _, kinds, rfl, by omega, by omega, ge1.pen, by omega, fun e2 H2' e20 e21 ge2 => ⟨szr, fun ct H3' hct s3' h3' => ?_⟩⟩⟩
  refine ⟨_, rfl, q, _, 2, rfl, by decide, by decide, ge2.pen.same s3', by omega, fun d' H4' d0' d1'' gd' => ⟨_, _, rfl, rfl, _, rfl, szr, fun r' H5' hr5 s5' h5' => ?_⟩⟩
  have gg := (((g13.trans (ge1.trans ge2)).same s3').trans gd').same s5'
  have kp : Kp q.p H13 H5' := ge1.kp.trans (ge2.kp.trans ((Kp.same s3').trans (gd'.kp.trans (Kp.same s5'))))
  refine k (.ref r') H5' ⟨[e1, e2, 0, 0, 0], 1 + d', ([some (2, [d1, d2])] ++ bs) ++ [some (4, [1])]⟩ (gg.mono (by omega)) ⟨r', ct, r6, _, rfl, h5', s5' _ _ (gd'.kp.tup h3'), n6.1, kp.lst n6.1 h13, steps_kp kp hst⟩ ?_ rfl (DB.of_len (by rw [List.length_append, List.length_append]; show 1 + bs.length + 1 ≤ 7; omega))
  refine ⟨by show 1 ≤ 5; decide, by show 5 ≤ 24; decide, fun z hz => ?_, by show 1 ≤ 1 + d'; omega, by show 1 + d' ≤ 24; omega, fun x hx => ?_, ?_, ?_⟩
  · simp only [List.mem_cons, List.not_mem_nil, or_false] at hz
    rcases hz with rfl | rfl | rfl | rfl | rfl <;> omega
  · rcases List.mem_append.mp hx with hx | hx
    · rcases List.mem_append.mp hx with hx | hx
      · rw [List.mem_singleton.mp hx]
        refine ⟨by decide, by simp, by show (2 : Int) + 2 ≤ 5; decide, fun z hz => ?_⟩
        simp only [List.mem_cons, List.not_mem_nil, or_false] at hz
        rcases hz with rfl | rfl <;> omega
      · rw [b4 x hx]
        exact True.intro
    · rw [List.mem_singleton.mp hx]
      exact ⟨by decide, by simp, by show (4 : Int) + 1 ≤ 5; decide, fun z hz => by rw [List.mem_singleton.mp hz]; decide⟩
  · show (([some (2, [d1, d2])] ++ bs) ++ [some (4, [1])] : List Stp).length ≤ 10
    rw [List.length_append, List.length_append]
    show 1 + bs.length + 1 ≤ 10
    omega
  · show tot (([some (2, [d1, d2])] ++ bs) ++ [some (4, [1])] : List Stp) ≤ 10
    rw [tot_app, tot_app, tot_one, tot_one, b3]
    show 2 + 0 + 1 ≤ 10
    decide
theorem at3 {a b c : Int} {d : Int} (h0 : 0 ≤ d) (h1 : d < 3) : ∃ v, atI [V.int a, .int b, .int c] d = some (.int v) ∧ (v = a ∨ v = b ∨ v = c) := by
  have : d = 0 ∨ d = 1 ∨ d = 2 := by omega
  rcases this with rfl | rfl | rfl
  · exact ⟨a, rfl, .inl rfl⟩
  · exact ⟨b, rfl, .inr (.inl rfl)⟩
  · exact ⟨c, rfl, .inr (.inr rfl)⟩
theorem ok_plan {f : Addr} {fd : FuncData} (F : Fun K "_law_plan" "_law_plan" s_l_plan f fd) (T : Txt mg) (c_l_draw : Cal P w K mg base 2 "_law_draw" ["_law_pen_here", "_law_under"] sp_draw)
    (c_l_log : Cal P w K mg base 3 "_law_log" ["_law_pen_here", "_law_kinds"] sp_log) (c_l_copy : Cal P w K mg base 3 "_law_copy" ["_law_pen_here", "_law_kinds"] sp_log)
    (c_l_drawn : Cal P w K mg base 4 "_law_drawn" ["_law_pen_here", "_law_many", "_law_most", "_law_kinds"] sp_drawn) :
    FnOk P w K mg base CX0 5 f fd ["_law_pen_here", "_law_most"] sp_plan := by
  refine F.ok sc_l_plan (fun vs H Q E h => ?_) (fun cdv A outer s H vs Q E hr h => ?_)
  · obtain ⟨_, _, _, rfl, _⟩ := h
    rfl
  obtain ⟨q, m, most, rfl, hP, hm, o1, o2, k⟩ := h
  refine ⟨_, (pss_cons (ps_set (i := 2) sc_l_plan.nd rfl (Or.inl rfl) (pe_cal c_l_draw hr (pa_cons (pv 0) (pa_cons pe_int pa_nil))))
    (pss_cons (ps_cut (ps_if (PW.pt (pw_and (pt_cmpR op_eq (pv 2) pe_int (nomark _)) (pw_and1 (pt_cmpR op_gt (pv 1) pe_int (nomark _)))))
      (pss_one (ps_ret (pe_cal c_l_log hr (pa_cons (pv 0) (pa_cons pe_int pa_nil)))))
      pss_nil))
    (pss_cons (ps_cut (ps_if (PW.pt (pw_and (pt_cmpR op_eq (pv 2) pe_int (nomark _)) (pw_and1 (pt_cmpR op_gt (pv 1) pe_int (nomark _)))))
      (pss_one (ps_ret (pe_cal c_l_copy hr (pa_cons (pv 0) (pa_cons pe_int pa_nil)))))
      pss_nil))
    (pss_one (ps_ret (pe_cal c_l_drawn hr (pa_cons (pv 0) (pa_cons (pe_op op_add pe_int (pe_cal c_l_draw hr (pa_cons (pv 0) (pa_cons pe_int pa_nil)))) (pa_cons (pv 1) (pa_cons (pe_ix ix_seq' (pe_lst' (pa_cons pe_int (pa_cons pe_int (pa_cons pe_int pa_nil)))) (pe_cal c_l_draw hr (pa_cons (pv 0) (pa_cons pe_int pa_nil))) (fun _ _ => rfl)) pa_nil)))))))))), ?_⟩
  refine ⟨_, rfl, q, m, 6, rfl, by decide, by decide, hP, by omega, fun d H1 d0 d1 g1 => ?_⟩
  have fall : ∀ v H' pl, Go q (m + 21) H H' → PlanV q.p H' v pl → Good 10 10 pl → pl.cs.length = 5 → DB 7 pl.sts → Q v H' := fun v H' pl g hv gd cl db => k v H' pl (g.mono (by omega)) hv (gd.mono (by omega) (by omega)) (by omega) fun _ => db
  refine ⟨fun σ' H' => σ' = [some (.ref q.p), some (.int most), some (.int d)] ∧ H1 = H', ?_, ?_⟩
  · refine ⟨_, rfl, rfl, _, rfl, ite2 (fun _ => ?_) (fun _ => iteF ⟨rfl, rfl⟩)⟩
    refine ⟨_, rfl, _, _, rfl, rfl, _, rfl, ite2 (fun _ => ?_) (fun _ => ⟨rfl, rfl⟩)⟩
    exact ⟨_, rfl, q, m + 1, 3, rfl, g1.pen, by omega, by decide, by decide, fun v H' pl g hv gd cl db => fall v H' pl ((g1.trans g).mono (by omega)) hv gd cl db⟩
  rintro _ _ ⟨rfl, rfl⟩
  refine ⟨fun σ' H' => σ' = [some (.ref q.p), some (.int most), some (.int d)] ∧ H1 = H', ?_, ?_⟩
  · refine ⟨_, rfl, rfl, _, rfl, ite2 (fun _ => ?_) (fun _ => iteF ⟨rfl, rfl⟩)⟩
    refine ⟨_, rfl, _, _, rfl, rfl, _, rfl, ite2 (fun _ => ?_) (fun _ => ⟨rfl, rfl⟩)⟩
    exact ⟨_, rfl, q, m + 1, 3, rfl, g1.pen, by omega, by decide, by decide, fun v H' pl g hv gd cl db => fall v H' pl ((g1.trans g).mono (by omega)) hv gd cl db⟩
  rintro _ _ ⟨rfl, rfl⟩
  refine ⟨_, rfl, _, rfl, q, m + 1, 4, rfl, by decide, by decide, g1.pen, by omega, fun c H2 c0 c1 g2 => ⟨_, _, rfl, rfl, _, rfl, szr, fun l H3 hl s3 h3 => ?_⟩⟩
  refine ⟨_, rfl, q, m + 2, 3, rfl, by decide, by decide, (g1.trans g2).pen.same s3, by omega, fun e H4 e0 e1 g4 => ?_⟩
  obtain ⟨v, hv, hv2⟩ := at3 (a := 2) (b := 3) (c := 8) e0 e1
  have nl := (g1.trans g2).pen.free hl
  refine ⟨l, _, _, _, rfl, rfl, .inl (g4.kp.lst nl.1 h3), hv, ?_⟩
  have g5 := (((g1.trans g2).same s3).trans g4)
  refine ⟨q, m + 3, 1 + c, most, v, rfl, g5.pen, by omega, by omega, by omega, by omega, o2, by omega, by omega, fun v H' pl g hv gd cl db => k v H' pl ((g5.trans g).mono (by omega)) hv (gd.mono (by omega) (by omega)) (by omega) fun e => by subst e; exact db⟩
end
end Af

set_option Elab.async false
set_option linter.all false
set_option maxRecDepth 100000
namespace Af
open PySem L2
abbrev s_Plan_base : Stmt := inClass (top 26) 1
abbrev N_Plan_base : List Str := ["self"]
theorem sc_Plan_base : FnScope N_Plan_base ["self"] (defScope s_Plan_base) := ⟨rfl, rfl, rfl, by decide +kernel, rfl, by decide +kernel, by decide +kernel⟩

abbrev s_Plan_width : Stmt := inClass (top 26) 2
abbrev N_Plan_width : List Str := ["self"]
theorem sc_Plan_width : FnScope N_Plan_width ["self"] (defScope s_Plan_width) := ⟨rfl, rfl, rfl, by decide +kernel, rfl, by decide +kernel, by decide +kernel⟩

abbrev s_Plan_steps : Stmt := inClass (top 26) 3
abbrev N_Plan_steps : List Str := ["self"]
theorem sc_Plan_steps : FnScope N_Plan_steps ["self"] (defScope s_Plan_steps) := ⟨rfl, rfl, rfl, by decide +kernel, rfl, by decide +kernel, by decide +kernel⟩

abbrev s_Plan_pieces : Stmt := inClass (top 26) 4
abbrev N_Plan_pieces : List Str := ["self"]
theorem sc_Plan_pieces : FnScope N_Plan_pieces ["self"] (defScope s_Plan_pieces) := ⟨rfl, rfl, rfl, by decide +kernel, rfl, by decide +kernel, by decide +kernel⟩

abbrev s_Plan_epochs : Stmt := inClass (top 26) 5
abbrev N_Plan_epochs : List Str := ["self"]
theorem sc_Plan_epochs : FnScope N_Plan_epochs ["self"] (defScope s_Plan_epochs) := ⟨rfl, rfl, rfl, by decide +kernel, rfl, by decide +kernel, by decide +kernel⟩

/-- a plan that was made: its six fields and its lists -/
structure PlanX (C x ca sl ql el : Addr) (H : Hp) (pl : Pl) (xs ys : List V) : Prop where
  ins : ∃ dx fs, H x = some (.ins C dx fs) ∧ fs.lookup ("_base" : Str) = some (.ref ca) ∧ fs.lookup ("_width" : Str) = some (.int pl.w) ∧ fs.lookup ("_steps" : Str) = some (.ref sl) ∧
    fs.lookup ("_pieces" : Str) = some (.ref ql) ∧ fs.lookup ("_piece_epochs" : Str) = some (.ref el) ∧ fs.lookup ("_epochs" : Str) = some (.int ((bars pl.sts : Nat) + 1)) ∧ (fs.lookup ("epoch_of" : Str) = none ∧ fs.lookup ("with_step" : Str) = none ∧ fs.lookup ("without_step" : Str) = none)
  steps : H sl = some (.lst xs)
  pieces : H ql = some (.lst ys)
  eps : H el = some (.lst (ivs (pieceE pl.sts (allP pl.w 0 pl.sts))))
def sp_p_base (C : Addr) : Sp := fun vs H Q _ => ∃ (x ca sl ql el : Addr) (pl : Pl) (xs ys : List V), vs = [.ref x] ∧ PlanX C x ca sl ql el H pl xs ys ∧ Q (.ref ca) H
def sp_p_width (C : Addr) : Sp := fun vs H Q _ => ∃ (x ca sl ql el : Addr) (pl : Pl) (xs ys : List V), vs = [.ref x] ∧ PlanX C x ca sl ql el H pl xs ys ∧ Q (.int pl.w) H
def sp_p_steps (C : Addr) : Sp := fun vs H Q _ => ∃ (x ca sl ql el : Addr) (pl : Pl) (xs ys : List V), vs = [.ref x] ∧ PlanX C x ca sl ql el H pl xs ys ∧ ∀ l H', Same H H' → H l = none → H' l = some (.lst xs) → Q (.ref l) H'
def sp_p_pieces (C : Addr) : Sp := fun vs H Q _ => ∃ (x ca sl ql el : Addr) (pl : Pl) (xs ys : List V), vs = [.ref x] ∧ PlanX C x ca sl ql el H pl xs ys ∧ ∀ l H', Same H H' → H l = none → H' l = some (.lst ys) → Q (.ref l) H'
def sp_p_epochs (C : Addr) : Sp := fun vs H Q _ => ∃ (x ca sl ql el : Addr) (pl : Pl) (xs ys : List V), vs = [.ref x] ∧ PlanX C x ca sl ql el H pl xs ys ∧ Q (.int ((bars pl.sts : Nat) + 1)) H
section
variable {P : Program} {w : World} {K : PySem.W.Frag} {mg : Str → Option Value} {base : Heap}
theorem ok_p_base {f C : Addr} {fd : FuncData} (F : Fun K "base" "Plan.base" s_Plan_base f fd) (TC : PlanC K mg C) : FnOk P w K mg base CX0 1 f fd ["self"] (sp_p_base C) := by
  refine F.ok sc_Plan_base (fun vs H Q E h => ?_) (fun cdv A outer s H vs Q E hr h => ?_)
  · obtain ⟨_, _, _, _, _, _, _, _, rfl, _⟩ := h
    rfl
  obtain ⟨x, ca, sl, ql, el, pl, xs, ys, rfl, ⟨⟨dx, fs, hx, hB, hW, hS, hP, hE, hN, hM⟩, h1, h2, h3⟩, k⟩ := h
  refine ⟨_, (pss_one (ps_ret (pe_fld (pv 0) rfl))), ?_⟩
  exact ⟨_, rfl, x, C, dx, fs, _, rfl, hx, TC.cl, TC.nB, hB, k⟩
theorem ok_p_width {f C : Addr} {fd : FuncData} (F : Fun K "width" "Plan.width" s_Plan_width f fd) (TC : PlanC K mg C) : FnOk P w K mg base CX0 1 f fd ["self"] (sp_p_width C) := by
  refine F.ok sc_Plan_width (fun vs H Q E h => ?_) (fun cdv A outer s H vs Q E hr h => ?_)
  · obtain ⟨_, _, _, _, _, _, _, _, rfl, _⟩ := h
    rfl
  obtain ⟨x, ca, sl, ql, el, pl, xs, ys, rfl, ⟨⟨dx, fs, hx, hB, hW, hS, hP, hE, hN, hM⟩, h1, h2, h3⟩, k⟩ := h
  refine ⟨_, (pss_one (ps_ret (pe_fld (pv 0) rfl))), ?_⟩
  exact ⟨_, rfl, x, C, dx, fs, _, rfl, hx, TC.cl, TC.nW, hW, k⟩
theorem ok_p_steps {f C : Addr} {fd : FuncData} (F : Fun K "steps" "Plan.steps" s_Plan_steps f fd) (T : Txt mg) (TC : PlanC K mg C) : FnOk P w K mg base CX0 1 f fd ["self"] (sp_p_steps C) := by
  refine F.ok sc_Plan_steps (fun vs H Q E h => ?_) (fun cdv A outer s H vs Q E hr h => ?_)
  · obtain ⟨_, _, _, _, _, _, _, _, rfl, _⟩ := h
    rfl
  obtain ⟨x, ca, sl, ql, el, pl, xs, ys, rfl, ⟨⟨dx, fs, hx, hB, hW, hS, hP, hE, hN, hM⟩, h1, h2, h3⟩, k⟩ := h
  refine ⟨_, (pss_one (ps_ret (pe_callTy call_list' (by rfl) T.list (by decide +kernel) (pa_cons (pe_fld (pv 0) rfl) pa_nil)))), ?_⟩
  refine ⟨_, rfl, x, C, dx, fs, _, rfl, hx, TC.cl, TC.nS, hS, ?_⟩
  exact ⟨sl, _, rfl, .inl h1, fun c H2 hc s3 h3 => k c H2 s3 hc h3⟩
theorem ok_p_pieces {f C : Addr} {fd : FuncData} (F : Fun K "pieces" "Plan.pieces" s_Plan_pieces f fd) (T : Txt mg) (TC : PlanC K mg C) : FnOk P w K mg base CX0 1 f fd ["self"] (sp_p_pieces C) := by
  refine F.ok sc_Plan_pieces (fun vs H Q E h => ?_) (fun cdv A outer s H vs Q E hr h => ?_)
  · obtain ⟨_, _, _, _, _, _, _, _, rfl, _⟩ := h
    rfl
  obtain ⟨x, ca, sl, ql, el, pl, xs, ys, rfl, ⟨⟨dx, fs, hx, hB, hW, hS, hP, hE, hN, hM⟩, h1, h2, h3⟩, k⟩ := h
  refine ⟨_, (pss_one (ps_ret (pe_callTy call_list' (by rfl) T.list (by decide +kernel) (pa_cons (pe_fld (pv 0) rfl) pa_nil)))), ?_⟩
  refine ⟨_, rfl, x, C, dx, fs, _, rfl, hx, TC.cl, TC.nP, hP, ?_⟩
  exact ⟨ql, _, rfl, .inl h2, fun c H2 hc s3 h3 => k c H2 s3 hc h3⟩
theorem ok_p_epochs {f C : Addr} {fd : FuncData} (F : Fun K "epochs" "Plan.epochs" s_Plan_epochs f fd) (TC : PlanC K mg C) : FnOk P w K mg base CX0 1 f fd ["self"] (sp_p_epochs C) := by
  refine F.ok sc_Plan_epochs (fun vs H Q E h => ?_) (fun cdv A outer s H vs Q E hr h => ?_)
  · obtain ⟨_, _, _, _, _, _, _, _, rfl, _⟩ := h
    rfl
  obtain ⟨x, ca, sl, ql, el, pl, xs, ys, rfl, ⟨⟨dx, fs, hx, hB, hW, hS, hP, hE, hN, hM⟩, h1, h2, h3⟩, k⟩ := h
  refine ⟨_, (pss_one (ps_ret (pe_fld (pv 0) rfl))), ?_⟩
  exact ⟨_, rfl, x, C, dx, fs, _, rfl, hx, TC.cl, TC.nN, hN, k⟩
end
end Af

set_option Elab.async false
set_option linter.all false
set_option maxRecDepth 100000
namespace Af
open PySem PySem.Spec PySem.Calls PyProof.Rows PySem.SeqAt L2
open AutoSeq1 (wpAny_loadPart')
/-! a tuple times 0, 1, or more -/
theorem mul_one (l : Addr) (items : Array Value) (n : Nat) (dd : Option Addr) (sl : Array (Option Value)) (u : Tok) :
    Meets (Builtin.«tuple.__mul__» ⟨[.ref l, .int 1 u], []⟩) (fun _ R s => s.heap.get? l = some { cls := .type "tuple", dict := dd, data := .seq items n, slots := sl } ∧ R (.ok (.ret (Value.ref l))) s) :=
  .of_wp fun prog w A R s h => by
    obtain ⟨hp, g, d, tk, os⟩ := s
    obtain ⟨hl, h⟩ := h
    have f1 := AutoSeq1.idx_int
    wp_walk using wpAny_loadPart' hl
    exact ⟨_, rfl, h⟩
theorem mul_zero (l : Addr) (items : Array Value) (n : Nat) (dd : Option Addr) (sl : Array (Option Value)) (u : Tok) (hi : items.isEmpty = false) :
    Meets (Builtin.«tuple.__mul__» ⟨[.ref l, .int 0 u], []⟩) (fun _ R s => s.heap.get? l = some { cls := .type "tuple", dict := dd, data := .seq items n, slots := sl } ∧
      R (.ok (.ret (Value.ref s.heap.objs.size))) { s with heap := s.heap.push { cls := Value.type "tuple", data := Data.seq #[] }, toks := s.toks }) :=
  .of_wp fun prog w A R s h => by
    obtain ⟨hp, g, d, tk, os⟩ := s
    obtain ⟨hl, h⟩ := h
    have f1 := AutoSeq1.idx_int
    wp_walk using wpAny_loadPart' hl
    exact ⟨_, rfl, h⟩
def rRepT' : R2 := fun x y H Q => ∃ l k xs, x = .ref l ∧ y = .int k ∧ H l = some (.tup xs) ∧ xs ≠ [] ∧ 0 ≤ k ∧ k ≤ 1000 ∧ xs.length ≤ 1000 ∧ NewT (List.replicate k.toNat xs).flatten H Q
theorem op_repT' {X : Cx} : OpR X (binaryOp .Mult) rRepT' := by
  intro pins s σ H x y v u Q I rx ry h
  obtain ⟨l, k, xs, rfl, rfl, hT, ne, h1, h2, hz, q⟩ := h
  by_cases two : 2 ≤ k
  · exact op_repT pins s σ H _ _ v u Q I rx ry ⟨l, k, xs, rfl, rfl, SqT.of hT, ne, two, h2, hz, fun p hp => q p _ (same_new hp) upd_same⟩
  cases (show v = Value.ref l from rx)
  obtain ⟨t, rfl⟩ := (show ∃ t, u = Value.int k t from ry)
  obtain ⟨its, r, ⟨⟨cls, dd, data, sl⟩, ho, hc, n, hd⟩, hs⟩ := I.tuple (SqT.of hT)
  simp only at hc hd
  subst hc hd
  have many : its.length = xs.length := r.length.symm
  have some_ : its.toArray.isEmpty = false := by
    cases its with
    | nil => exact absurd (List.eq_nil_of_length_eq_zero many.symm) ne
    | cons a b => rfl
  have go : ∀ {R : Value → Shared → Prop} {E : Value → Shared → Prop}, wpAny (model X.prog X.w) X.A.in1 (call (.builtin "tuple.__mul__") [.ref l, .int k t]) R E s → True := fun _ => trivial
  rcases (show k = 0 ∨ k = 1 by omega) with rfl | rfl
  · refine wpAny_binaryOp_repeat_ref (T := "tuple") (U := "int") (by decide) ⟨_, ho, rfl⟩ (fun s' => typeIs_int s' 0 t) noFill_tuple_mul F.fills_int_mul F.slot_int_rmul repeat_tuple F.slot_int_index.lookup
      (call_meets F.slot_int_rmul (typeIs_int s 0 t) F.entry_int_rmul (F.args_int_rmul_2 _ _) (int_rmul_tuple 0 t l its.toArray n dd sl) ⟨ho, rfl, ⟨_, ho, rfl⟩, call_meets F.slot_tuple_mul ⟨_, ho, rfl⟩ F.entry_tuple_mul (F.args_tuple_mul_2 _ _) (mul_zero l its.toArray n dd sl t some_) ⟨ho, ?_⟩⟩)
    exact ⟨.ref s.heap.objs.size, _, I.laid (t' := s.toks) (o := .tup []) (fun b ob y => Heap.get?_push_of_some _ y) (Nat.le_refl _) ⟨Nat.zero_le _, [], .nil, PyProof.Rows.IsTup.new _ _⟩, rfl, q _ _ (same_new (I.hok.fresh (Nat.le_refl _))) upd_same⟩
  · refine wpAny_binaryOp_repeat_ref (T := "tuple") (U := "int") (by decide) ⟨_, ho, rfl⟩ (fun s' => typeIs_int s' 1 t) noFill_tuple_mul F.fills_int_mul F.slot_int_rmul repeat_tuple F.slot_int_index.lookup
      (call_meets F.slot_int_rmul (typeIs_int s 1 t) F.entry_int_rmul (F.args_int_rmul_2 _ _) (int_rmul_tuple 1 t l its.toArray n dd sl) ⟨ho, rfl, ⟨_, ho, rfl⟩, call_meets F.slot_tuple_mul ⟨_, ho, rfl⟩ F.entry_tuple_mul (F.args_tuple_mul_2 _ _) (mul_one l its.toArray n dd sl t) ⟨ho, ?_⟩⟩)
    refine ⟨.ref l, H, I, rfl, q l H (Same.refl H) ?_⟩
    rw [hT]
    show some (HO.tup xs) = some (HO.tup (List.replicate 1 xs).flatten)
    simp
end Af

set_option Elab.async false
set_option linter.all false
set_option maxRecDepth 100000
namespace Af
open PySem PySem.Spec PyProof.Rows L2
/-! data whose text is not long -/
/-- its text has at most b signs, it can be shown, it nests at most n deep -/
structure Bd (b n : Nat) (d : PyData) : Prop where
  tx : d.shown.length ≤ b
  sh : d.showable = true
  dp : d.depth ≤ n
theorem Bd.mono {b n b' n' : Nat} {d : PyData} (h : Bd b n d) (h1 : b ≤ b') (h2 : n ≤ n') : Bd b' n' d := ⟨Nat.le_trans h.tx h1, h.sh, Nat.le_trans h.dp h2⟩
theorem Bd.flat {d : PyData} (h : flatD d = true) : Bd 45 1 d := by
  obtain ⟨h1, h2, h3⟩ := flat_len h
  exact ⟨h1, h2, h3⟩
theorem Bd.lst {b n k : Nat} {ds : List PyData} (h : ∀ d ∈ ds, Bd b n d) (hl : ds.length ≤ k) : Bd (k * (b + 2) + 3) (n + 1) (.list ds) := by
  obtain ⟨t, _⟩ := texts_le fun d hd => (h d hd).tx
  have e : ds.length * (b + 2) ≤ k * (b + 2) := Nat.mul_le_mul_right _ hl
  have e2 : ds.length * (b + 2) = b * ds.length + 2 * ds.length := by rw [Nat.mul_add, Nat.mul_comm ds.length b, Nat.mul_comm ds.length 2]
  refine ⟨?_, ?_, ?_⟩
  · simp only [PyData.shown]
    omega
  · simp only [PyData.showable]
    exact showAll_of fun d hd => (h d hd).sh
  · simp only [PyData.depth]
    have := depthAll_of fun d hd => (h d hd).dp
    omega
theorem Bd.tup {b n k : Nat} {ds : List PyData} (h : ∀ d ∈ ds, Bd b n d) (hl : ds.length ≤ k) : Bd (k * (b + 2) + 3) (n + 1) (.tuple ds) := by
  obtain ⟨_, t⟩ := texts_le fun d hd => (h d hd).tx
  have e : ds.length * (b + 2) ≤ k * (b + 2) := Nat.mul_le_mul_right _ hl
  have e2 : ds.length * (b + 2) = b * ds.length + 2 * ds.length := by rw [Nat.mul_add, Nat.mul_comm ds.length b, Nat.mul_comm ds.length 2]
  refine ⟨?_, ?_, ?_⟩
  · simp only [PyData.shown]
    omega
  · simp only [PyData.showable]
    exact showAll_of fun d hd => (h d hd).sh
  · simp only [PyData.depth]
    have := depthAll_of fun d hd => (h d hd).dp
    omega
theorem mem_shown {ds : List PyData} {d : PyData} (h : d ∈ ds) : d.shown ∈ PyData.shownAll ds := by
  induction ds with
  | nil => simp at h
  | cons a r ih =>
    simp only [PyData.shownAll]
    rcases List.mem_cons.mp h with rfl | h
    · exact List.mem_cons_self
    · exact List.mem_cons_of_mem _ (ih h)
theorem piled_ge : ∀ ts : List Str, 2 * ts.length ≤ piled ts
  | [] => Nat.zero_le _
  | t :: ts => by
    have := piled_ge ts
    simp only [piled, List.map_cons, List.sum_cons, List.length_cons] at *
    omega
theorem th_text {K : PySem.W.Frag} {H : Hp} : ∀ {n : Nat} {x : V} {d : PyData}, Dq K H x d → d.shown.length ≤ 200000 → Th K H n x
  | 0, _, _, h, _ => dq_ty h
  | n + 1, x, d, h, sz => by
    refine ⟨dq_ty h, fun a xs e z => ?_⟩
    subst e
    have key : ∀ ds, DqAll K H xs ds → (∀ y ∈ ds, y.shown.length ≤ 200000) → 2 * ds.length ≤ 200000 → xs.length ≤ 100000 ∧ ∀ y ∈ xs, Th K H n y := fun ds t q l => by
      refine ⟨by rw [t.len]; omega, fun y hy => ?_⟩
      obtain ⟨d', m1, m2⟩ := t.mem hy
      exact th_text m2 (q d' m1)
    cases h with
    | @lst _ ys ds e t =>
      have p := piled_le_listText (PyData.shownAll ds)
      have g := piled_ge (PyData.shownAll ds)
      rw [shownAll_len] at g
      simp only [PyData.shown] at sz
      rcases z with z | z
      · rw [e] at z; cases z
      · rw [e] at z; cases z; exact key ds t (fun y hy => Nat.le_trans (listText_mem_le (mem_shown hy)) sz) (by omega)
    | @tup _ ys ds e t =>
      have p := piled_le_tupleText (PyData.shownAll ds)
      have g := piled_ge (PyData.shownAll ds)
      rw [shownAll_len] at g
      simp only [PyData.shown] at sz
      rcases z with z | z
      · rw [e] at z; cases z; exact key ds t (fun y hy => Nat.le_trans (tupleText_mem_le (mem_shown hy)) sz) (by omega)
      · rw [e] at z; cases z
    | dic e => rcases z with z | z <;> (rw [e] at z; cases z)
def few : PyData → Prop
  | .list l => l.length ≤ 100
  | _ => True
end Af

set_option Elab.async false
set_option linter.all false
set_option maxRecDepth 100000
namespace Af
open PySem PySem.Spec PyProof.Rows L2
/-! a heap without the lists that are changed -/
def hd (p : Addr) (H : Hp) : Hp := fun a => if a = p then none else H a
theorem hd_ne {p a : Addr} {H : Hp} (h : a ≠ p) : hd p H a = H a := if_neg h
theorem hd_in {p : Addr} {H : Hp} : Same (hd p H) H := fun a o e => by
  by_cases h : a = p
  · rw [h] at e
    rw [show hd p H p = none from if_pos rfl] at e
    cases e
  · rw [hd_ne h] at e
    exact e
theorem hd_same {p : Addr} {H H' : Hp} (s : Same H H') : Same (hd p H) (hd p H') := fun a o e => by
  by_cases h : a = p
  · rw [h] at e
    rw [show hd p H p = none from if_pos rfl] at e
    cases e
  · rw [hd_ne h] at e ⊢
    exact s a o e
theorem hd_kp {p : Addr} {H H' : Hp} (k : Kp p H H') : Same (hd p H) (hd p H') := fun a o e => by
  by_cases h : a = p
  · rw [h] at e
    rw [show hd p H p = none from if_pos rfl] at e
    cases e
  · rw [hd_ne h] at e ⊢
    exact k a o (.inl h) e
theorem hd_upd {p : Addr} {H : Hp} {o : HO} : hd p (upd H p o) = hd p H := funext fun a => by
  by_cases h : a = p
  · rw [h]
    exact (if_pos rfl).trans (if_pos rfl).symm
  · rw [hd_ne h, hd_ne h, upd_ne h]
theorem hd_comm {p l : Addr} {H : Hp} : hd l (hd p H) = hd p (hd l H) := funext fun a => by
  by_cases h : a = p
  · by_cases g : a = l
    · rw [show hd l (hd p H) a = none from if_pos g, show hd p (hd l H) a = none from if_pos h]
    · rw [hd_ne g, show hd p H a = none from if_pos h, show hd p (hd l H) a = none from if_pos h]
  · by_cases g : a = l
    · rw [show hd l (hd p H) a = none from if_pos g, hd_ne h, show hd l H a = none from if_pos g]
    · rw [hd_ne g, hd_ne h, hd_ne h, hd_ne g]
theorem kp_hd {p : Addr} {H : Hp} {ys : List V} (e : H p = some (.lst ys)) : Kp p H (hd p H) := fun a o n k => by
  by_cases h : a = p
  · rcases n with n | n
    · exact absurd h n
    · rw [h, e] at k
      exact absurd (Option.some.inj k).symm (n ys)
  · rw [hd_ne h]
    exact k
/-- what is new is hidden: all else stands -/
theorem same_hd {p : Addr} {H H' : Hp} (n : H p = none) (s : Same H H') : Same H (hd p H') := fun a o e => by
  rw [hd_ne (fun h => by rw [h, n] at e; cases e)]
  exact s a o e
/-- the heap G with both hidden -/
abbrev hd2 (p l : Addr) (H : Hp) : Hp := hd l (hd p H)
theorem hd2_at {p l a : Addr} {H : Hp} {o : HO} (e : H a = some o) (h1 : a ≠ p) (h2 : a ≠ l) : hd2 p l H a = some o := by
  show hd l (hd p H) a = some o
  rw [hd_ne h2, hd_ne h1]
  exact e
theorem hd2_same {p l : Addr} {H H' : Hp} (s : Same H H') : Same (hd2 p l H) (hd2 p l H') := hd_same (hd_same s)
theorem hd2_kp {p l : Addr} {H H' : Hp} (k : Kp p H H') : Same (hd2 p l H) (hd2 p l H') := hd_same (hd_kp k)
theorem hd2_upd {p l : Addr} {H : Hp} {o : HO} : hd2 p l (upd H l o) = hd2 p l H := by
  show hd l (hd p (upd H l o)) = hd l (hd p H)
  rw [hd_comm, hd_upd, hd_comm]
theorem hd2_in {p l : Addr} {H : Hp} : Same (hd2 p l H) H := fun a o e => hd_in a o (hd_in a o e)
section
variable {K : PySem.W.Frag}
theorem dq_stepV {H : Hp} {x : V} {st : Stp} (h : StepV H x st) : Dq K H x (stepD st) := by
  cases st with
  | none =>
    have e : x = V.non := h
    subst e
    exact .non
  | some fw =>
    obtain ⟨f, ws⟩ := fw
    obtain ⟨a, b, rfl, h1, h2⟩ := h
    refine .tup h1 (.cons (.int f) (.cons (.tup h2 ?_) .nil))
    clear h2
    induction ws with
    | nil => exact .nil
    | cons n ns ih => exact .cons (.int n) ih
theorem dq_ints {H : Hp} : ∀ ns : List Int, DqAll K H (ivs ns) (dvs ns)
  | [] => .nil
  | n :: ns => .cons (.int n) (dq_ints ns)
theorem dq_stepsV {H : Hp} : ∀ {xs : List V} {sts : List Stp}, Paired (StepV H) xs sts → DqAll K H xs (stepsD sts)
  | _, _, .nil => .nil
  | _, _, .cons h t => .cons (dq_stepV h) (dq_stepsV t)
theorem DqAll.app {H : Hp} : ∀ {xs ys : List V} {ds es : List PyData}, DqAll K H xs ds → DqAll K H ys es → DqAll K H (xs ++ ys) (ds ++ es)
  | _, _, _, _, .nil, h => h
  | _, _, _, _, .cons r t, h => .cons r (t.app h)
theorem DqAll.take {H : Hp} : ∀ {xs : List V} {ds : List PyData} (n : Nat), DqAll K H xs ds → DqAll K H (xs.take n) (ds.take n)
  | _, _, 0, _ => by
    rw [List.take_zero, List.take_zero]
    exact .nil
  | _, _, n + 1, .nil => .nil
  | _, _, n + 1, .cons r t => .cons r (t.take n)
theorem DqAll.drop {H : Hp} : ∀ {xs : List V} {ds : List PyData} (n : Nat), DqAll K H xs ds → DqAll K H (xs.drop n) (ds.drop n)
  | _, _, 0, h => h
  | _, _, n + 1, .nil => .nil
  | _, _, n + 1, .cons r t => t.drop n
theorem DqAll.rep {H : Hp} {x : V} {d : PyData} (h : Dq K H x d) : ∀ n : Nat, DqAll K H (List.replicate n [x]).flatten (List.replicate n d)
  | 0 => .nil
  | n + 1 => .cons h (DqAll.rep h n)
/-- a thing, told by data that is not long -/
def Tg (K : PySem.W.Frag) (G : Hp) (b n : Nat) (P : PyData → Prop) (x : V) : Prop := ∃ d, Dq K G x d ∧ Bd b n d ∧ P d
theorem Tg.same {G G' : Hp} {b n : Nat} {P : PyData → Prop} {x : V} (h : Tg K G b n P x) (s : Same G G') : Tg K G' b n P x := by
  obtain ⟨d, h1, h2, h3⟩ := h
  exact ⟨d, Dq.same s d x h1, h2, h3⟩
end
end Af

set_option Elab.async false
set_option linter.all false
set_option maxRecDepth 100000
namespace Af
open PySem PySem.Spec PyProof.Rows L2
theorem same_hd2 {p D : Addr} {H H' : Hp} (n : H D = none) (s : Same H H') : Same (hd p H) (hd2 p D H') := fun a o e => by
  have ap : a ≠ p := fun h => by
    rw [h, show hd p H p = none from if_pos rfl] at e
    cases e
  rw [hd_ne ap] at e
  exact hd2_at (s a o e) ap (fun h => by rw [h, n] at e; cases e)
theorem hd2_to {p l l' : Addr} {H H' : Hp} (n : H l' = none) (s : Same H H') : Same (hd2 p l H) (hd2 p l' H') := fun a o e => by
  have e1 := hd2_in a o e
  have ap : a ≠ p := fun h => by
    have e2 := hd_in a o e
    rw [h, show hd p H p = none from if_pos rfl] at e2
    cases e2
  exact hd2_at (s a o e1) ap (fun h => by rw [h, n] at e1; cases e1)
theorem len_stepsD : ∀ l : List Stp, (stepsD l).length = l.length
  | [] => rfl
  | a :: r => by
    show (stepsD r).length + 1 = r.length + 1
    rw [len_stepsD r]
theorem flat_small {z : Int} (h : 0 ≤ z ∧ z < 8) : flatD (.int z) = true := by
  have k : ∀ n : Fin 8, flatD (.int ((n.val : Nat) : Int)) = true := by decide +kernel
  obtain ⟨n, rfl⟩ := Int.eq_ofNat_of_zero_le h.1
  exact k ⟨n, by omega⟩
theorem flat_place {z : Int} (h : 0 ≤ z ∧ z ≤ 64) : flatD (.int z) = true := by
  have k : ∀ n : Fin 65, flatD (.int ((n.val : Nat) : Int)) = true := by decide +kernel
  obtain ⟨n, rfl⟩ := Int.eq_ofNat_of_zero_le h.1
  exact k ⟨n, by omega⟩
theorem dvs_mem {ns : List Int} {d : PyData} (h : d ∈ dvs ns) : ∃ z ∈ ns, d = .int z := by
  obtain ⟨z, hz, e⟩ := List.mem_map.mp h
  exact ⟨z, hz, e.symm⟩
theorem bd_cells {ns : List Int} (hl : ns.length ≤ 25) (h : ∀ z ∈ ns, 0 ≤ z ∧ z < 8) : Bd 1200 2 (.tuple (dvs ns)) := by
  refine (Bd.tup (b := 45) (n := 1) (k := 25) (fun d hd => ?_) (by rw [show (dvs ns).length = ns.length from List.length_map ..]; exact hl)).mono (by decide) (by decide)
  obtain ⟨z, hz, rfl⟩ := dvs_mem hd
  exact Bd.flat (flat_small (h z hz))
theorem bd_step {n : Nat} {st : Stp} (o : OkS n st) (hn : n ≤ 24) : Bd 2500 3 (stepD st) := by
  cases st with
  | none => exact (Bd.flat rfl).mono (by decide) (by decide)
  | some fw =>
    obtain ⟨f, ws⟩ := fw
    obtain ⟨o1, o2, o3, o4⟩ := o
    refine (Bd.tup (b := 1200) (n := 2) (k := 2) (ds := [.int f, .tuple (dvs ws)]) (fun d hd => ?_) (Nat.le_refl 2)).mono (by decide) (by decide)
    simp only [List.mem_cons, List.not_mem_nil, or_false] at hd
    rcases hd with rfl | rfl
    · exact (Bd.flat (flat_place ⟨o1, by omega⟩)).mono (by decide) (by decide)
    · exact bd_cells (by omega) o4
theorem stepsD_mem {n : Nat} : ∀ {l : List Stp} {d : PyData}, (∀ x ∈ l, OkS n x) → d ∈ stepsD l → ∃ st ∈ l, d = stepD st
  | [], d, _, h => by cases h
  | a :: r, d, o, h => by
    rcases List.mem_cons.mp h with rfl | h
    · exact ⟨a, List.mem_cons_self, rfl⟩
    · obtain ⟨st, h1, h2⟩ := stepsD_mem (fun x hx => o x (List.mem_cons_of_mem _ hx)) h
      exact ⟨st, List.mem_cons_of_mem _ h1, h2⟩
theorem bd_steps {n : Nat} {l : List Stp} (o : ∀ x ∈ l, OkS n x) (hn : n ≤ 24) : ∀ d ∈ stepsD l, Bd 4000 6 d := fun d hd => by
  obtain ⟨st, h1, rfl⟩ := stepsD_mem o hd
  exact (bd_step (o st h1) hn).mono (by decide) (by decide)
/-- a triple that is no plan's -/
def BadT (K : PySem.W.Frag) (good : PyData → PyData → PyData → Bool) (G : Hp) (u : V) : Prop := ∃ t b w s db dw ds, u = .ref t ∧ G t = some (.tup [b, w, s]) ∧ Dq K G b db ∧ Dq K G w dw ∧ Dq K G s ds ∧ Bd 190000 20 db ∧ Bd 190000 20 dw ∧ Bd 190000 20 ds ∧ few ds ∧ good db dw ds = false
theorem BadT.same {K : PySem.W.Frag} {good : PyData → PyData → PyData → Bool} {G G' : Hp} {u : V} (h : BadT K good G u) (s : Same G G') : BadT K good G' u := by
  obtain ⟨t, b, w, v, db, dw, ds, e, h1, h2, h3, h4, r⟩ := h
  exact ⟨t, b, w, v, db, dw, ds, e, s _ _ h1, Dq.same s _ _ h2, Dq.same s _ _ h3, Dq.same s _ _ h4, r⟩
/-- a triple that was just laid -/
theorem bad_mk {K : PySem.W.Frag} {good : PyData → PyData → PyData → Bool} {p l t : Addr} {H : Hp} {b w v : V} {db dw ds : PyData} {ys zs : List V} (hp : H p = some (.lst ys)) (hl : H l = some (.lst zs)) (ht : H t = some (.tup [b, w, v])) (h2 : Dq K (hd2 p l H) b db) (h3 : Dq K (hd2 p l H) w dw) (h4 : Dq K (hd2 p l H) v ds)
    (b1 : Bd 190000 20 db) (b2 : Bd 190000 20 dw) (b3 : Bd 190000 20 ds) (f : few ds) (bad : good db dw ds = false) : BadT K good (hd2 p l H) (.ref t) :=
  ⟨t, b, w, v, db, dw, ds, rfl, hd2_at ht (ne_of ht hp (by intro q; cases q)) (ne_of ht hl (by intro q; cases q)), h2, h3, h4, b1, b2, b3, f, bad⟩
end Af

set_option Elab.async false
set_option linter.all false
set_option maxRecDepth 100000
namespace Af
open PySem PySem.Spec PyProof.Rows L2
/-! repr of data of any kind -/
def rReprA (K : PySem.W.Frag) : List V → Hp → VK → Prop := fun xs H Q => ∃ (x : V) (d : PyData), xs = [x] ∧ Dq K H x d ∧ d.showable = true ∧ d.depth ≤ 60 ∧ d.shown.length ≤ sizeLine ∧ Q (.str d.shown) H
theorem call_reprA {X : Cx} (hg : X.A.guards = some []) (hu : X.A.units + 64 < cLine) : CallR X (.builtin "repr") (rReprA X.K) := by
  intro pins s σ H xs us Q I r h
  obtain ⟨x, d, rfl, hd, sh, dp, sz, q⟩ := h
  have hd0 := hd
  cases hd with
  | int i =>
    obtain ⟨u, rfl, ru⟩ := vals1 r
    obtain ⟨t, rfl⟩ := ru
    have lg : i.natAbs.log2 < 1920 := of_decide_eq_true (show decide (i.natAbs.log2 < 1920) = true from by simpa only [PyData.showable] using sh)
    refine PySem.P.repr_of_int lg ⟨.str _, H, I.tok _, ⟨_, rfl⟩, ?_⟩
    simpa only [PyData.shown] using q
  | non =>
    obtain ⟨u, rfl, ru⟩ := vals1 r
    cases (show u = Value.none from ru)
    refine PySem.P.repr_of_none ⟨.str _, H, I.tok _, ⟨_, rfl⟩, ?_⟩
    simpa only [PyData.shown] using q
  | bl b =>
    obtain ⟨u, rfl, ru⟩ := vals1 r
    cases (show u = Value.bool b from ru)
    refine PySem.P.repr_of_bool ⟨.str (PyData.bool b).shown, H, I.tok _, ⟨s.toks, ?_⟩, q⟩
    cases b <;> simp only [PyData.shown] <;> rfl
  | str z =>
    obtain ⟨u, rfl, ru⟩ := vals1 r
    obtain ⟨t, rfl⟩ := ru
    refine PySem.P.repr_of_str ⟨.str (PyData.str z).shown, H, I.tok _, ⟨s.toks, ?_⟩, q⟩ ?_
    · simp only [PyData.shown]
    simpa only [PyData.shown] using sz
  | @lst a xs ds e t =>
    have dp' : PyData.depthAll ds + 1 ≤ 60 := by simpa only [PyData.depth] using dp
    exact call_reprL hg hu pins s σ H _ us Q I r ⟨a, xs, ds, rfl, e, t, by simpa only [PyData.showable] using sh, by omega, sz, q⟩
  | @tup a xs ds e t =>
    have dp' : PyData.depthAll ds + 1 ≤ 60 := by simpa only [PyData.depth] using dp
    exact call_repr' hg hu pins s σ H _ us Q I r ⟨a, xs, ds, rfl, e, t, by simpa only [PyData.showable] using sh, by omega, sz, q⟩
  | @dic a ha =>
    obtain ⟨u, rfl, ru⟩ := vals1 r
    cases (show u = Value.ref a from ru)
    obtain ⟨_, hne, vs, rv, o, es, ep, h1, h2, h3, _, h4, _⟩ := dk_of I.hok ha
    cases rv
    have e : es.toList = [] := by
      cases q : es.toList with
      | nil => rfl
      | cons y l =>
        rw [q] at h4
        cases h4
    have rd : Reads s.heap (.ref a) (.dict []) ([a] ++ []) := Reads.dict (kvs := []) (as := []) (bs := []) h1 h2.1 h3 (by rw [e]; exact .nil) (by rw [e]; exact .nil)
    refine repr_of_reads' (h₀ := s.heap) rd sh (fun _ z => ?_) hg (by omega) (fun _ _ y => y) (fun h' u tk keep => ⟨.str (PyData.dict []).shown, H, I.kept keep, ⟨u, rfl⟩, q⟩) sz
    have z' : sysModules ∈ [a] := z
    rw [← List.mem_singleton.mp z'] at hne
    exact absurd hne (by simp)
end Af

set_option Elab.async false
set_option linter.all false
set_option maxRecDepth 100000
set_option maxHeartbeats 4000000
namespace Af
open PySem L2
abbrev s_Plan___eq : Stmt := inClass (top 26) 9
abbrev N_Plan___eq : List Str := ["self", "other"]
theorem sc_Plan___eq : FnScope N_Plan___eq ["self", "other"] (defScope s_Plan___eq) := ⟨rfl, rfl, rfl, by decide +kernel, rfl, by decide +kernel, by decide +kernel⟩

abbrev s_l_plan_of : Stmt := top 57
abbrev N_l_plan_of : List Str := ["_law_plan_here"]
theorem sc_l_plan_of : FnScope N_l_plan_of ["_law_plan_here"] (defScope s_l_plan_of) := ⟨rfl, rfl, rfl, by decide +kernel, rfl, by decide +kernel, by decide +kernel⟩

/-- x is a plan of the program's with these parts -/
structure PlanI (p C : Addr) (H : Hp) (x : V) (pl : Pl) : Prop where
  ex : ∃ (a dx ca sl : Addr) (fs : List (Str × V)) (xs : List V), x = .ref a ∧ H a = some (.ins C dx fs) ∧ fs.lookup ("_base" : Str) = some (.ref ca) ∧ fs.lookup ("_width" : Str) = some (.int pl.w) ∧ fs.lookup ("_steps" : Str) = some (.ref sl) ∧
    H ca = some (.tup (ivs pl.cs)) ∧ sl ≠ p ∧ H sl = some (.lst xs) ∧ Paired (StepV H) xs pl.sts
theorem PlanI.kp {p C : Addr} {H H' : Hp} {x : V} {pl : Pl} (k : Kp p H H') (h : PlanI p C H x pl) : PlanI p C H' x pl := by
  obtain ⟨a, dx, ca, sl, fs, xs, e, h1, l1, l2, l3, h2, n, h3, h4⟩ := h.ex
  exact ⟨a, dx, ca, sl, fs, xs, e, k.ins h1, l1, l2, l3, k.tup h2, n, k.lst n h3, steps_kp k h4⟩
def sp_eq (K : PySem.W.Frag) (C : Addr) : Sp := fun vs H Q _ => ∃ (p : Addr) (x y : V) (pl : Pl), vs = [x, y] ∧ PlanI p C H x pl ∧ ((∃ pl', PlanI p C H y pl' ∧ Q (.bl (samePl pl pl')) H) ∨ ∃ n, Ty K H y n ∧ Q (.bl false) H)

/-- a plan that was made, whole -/
structure PlanF (C : Addr) (H : Hp) (x : V) (pl : Pl) (sl ql el : Addr) : Prop where
  ex : ∃ a ca xs ys, x = .ref a ∧ PlanX C a ca sl ql el H pl xs ys ∧ H ca = some (.tup (ivs pl.cs)) ∧ Paired (StepV H) xs pl.sts ∧ Paired (PieceA H) ys (allP pl.w 0 pl.sts)
  ok : OkP pl
structure PlanW (p C : Addr) (H : Hp) (x : V) (pl : Pl) : Prop where
  ex : ∃ sl ql el, PlanF C H x pl sl ql el ∧ sl ≠ p ∧ ql ≠ p ∧ el ≠ p
structure PlanN (C : Addr) (H0 H : Hp) (x : V) (pl : Pl) : Prop where
  ex : ∃ sl ql el, PlanF C H x pl sl ql el ∧ H0 sl = none ∧ H0 ql = none ∧ H0 el = none
theorem PlanF.kp {p C sl ql el : Addr} {H H' : Hp} {x : V} {pl : Pl} (h : PlanF C H x pl sl ql el) (k : Kp p H H') (n1 : sl ≠ p) (n2 : ql ≠ p) (n3 : el ≠ p) : PlanF C H' x pl sl ql el := by
  obtain ⟨a, ca, xs, ys, e, ⟨⟨dx, fs, h1, h2⟩, h3, h4, h5⟩, h6, h7, h8⟩ := h.ex
  exact ⟨⟨a, ca, xs, ys, e, ⟨⟨dx, fs, k.ins h1, h2⟩, k.lst n1 h3, k.lst n2 h4, k.lst n3 h5⟩, k.tup h6, steps_kp k h7, pieceA_kp k h8⟩, h.ok⟩
theorem PlanF.same {C sl ql el : Addr} {H H' : Hp} {x : V} {pl : Pl} (h : PlanF C H x pl sl ql el) (s : Same H H') : PlanF C H' x pl sl ql el := by
  obtain ⟨a, ca, xs, ys, e, ⟨⟨dx, fs, h1, h2⟩, h3, h4, h5⟩, h6, h7, h8⟩ := h.ex
  exact ⟨⟨a, ca, xs, ys, e, ⟨⟨dx, fs, s _ _ h1, h2⟩, s _ _ h3, s _ _ h4, s _ _ h5⟩, s _ _ h6, steps_same s h7, pieceA_st s h8⟩, h.ok⟩
theorem PlanW.kp {p C : Addr} {H H' : Hp} {x : V} {pl : Pl} (h : PlanW p C H x pl) (k : Kp p H H') : PlanW p C H' x pl := by
  obtain ⟨sl, ql, el, f, n1, n2, n3⟩ := h.ex
  exact ⟨sl, ql, el, f.kp k n1 n2 n3, n1, n2, n3⟩
theorem PlanW.same {p C : Addr} {H H' : Hp} {x : V} {pl : Pl} (h : PlanW p C H x pl) (s : Same H H') : PlanW p C H' x pl := h.kp (Kp.same s)
theorem PlanN.w {p C : Addr} {H0 H : Hp} {x : V} {pl : Pl} {o : HO} (h : PlanN C H0 H x pl) (e : H0 p = some o) : PlanW p C H x pl := by
  obtain ⟨sl, ql, el, f, n1, n2, n3⟩ := h.ex
  exact ⟨sl, ql, el, f, nofree e n1 |>.symm |> fun z => z.symm, nofree e n2, nofree e n3⟩
theorem PlanW.i {p C : Addr} {H : Hp} {x : V} {pl : Pl} (h : PlanW p C H x pl) : PlanI p C H x pl := by
  obtain ⟨sl, ql, el, f, n1, n2, n3⟩ := h.ex
  obtain ⟨a, ca, xs, ys, e, ⟨⟨dx, fs, h1, h2, h2', h2'', _⟩, h3, h4, h5⟩, h6, h7, h8⟩ := f.ex
  exact ⟨a, dx, ca, sl, fs, xs, e, h1, h2, h2', h2'', h6, n1, h3, h7⟩
theorem PlanW.ok {p C : Addr} {H : Hp} {x : V} {pl : Pl} (h : PlanW p C H x pl) : OkP pl := by
  obtain ⟨_, _, _, f, _⟩ := h.ex
  exact f.ok
/-- the classes' facts of the five properties -/
structure PropC (P : Program) (w : World) (K : PySem.W.Frag) (mg : Str → Option Value) (base : Heap) (C : Addr) (f : Str) (sp : Sp) : Prop where
  ex : ∃ p g fd, PropOf K C f p g ∧ FnOk P w K mg base CX0 1 g fd ["self"] sp ∧ Binds K fd ["self"] []
theorem pe_propC {X : Cx} {C : Addr} {f : Str} {sp : Sp} {e : Expr} {pos : Pos} {ta : TE} {j : Nat} (c : Cls X.K C) (h : PropC X.prog X.w X.K X.mg X.base C f sp) (hr : Room j X.A) (he : PE X e ta) (hj : 2 ≤ j := by decide) (hab : attributeBase e f X.env (eval e X.env) = eval e X.env := by rfl) :
    PE X (.Attribute e f pos) (tProp C sp [] E0 ta) := by
  obtain ⟨p, g, fd, hp, F, b⟩ := h.ex
  exact pe_prop he c hp F (hr.mono hj) b .nil pass0 hab
def sp_plan_of (C : Addr) : Sp := fun vs H Q _ => ∃ (p : Addr) (v : V) (pl : Pl), vs = [v] ∧ PlanV p H v pl ∧ OkP pl ∧ ∀ y H', Same H H' → PlanN C H H' y pl → Q y H'

theorem made_outW {K : PySem.W.Frag} {C : Addr} {wd : Int} {pl : Pl} {H G : Hp} {Q : VK} {E : XK} {x dx ca sa : Addr} {xs : List V} (hw : wd = pl.w) (hx : H x = none) (s0 : Same H G) (gx : G x = some (.ins C dx [])) (h1 : G ca = some (.tup (ivs pl.cs))) (h2 : G sa = some (.lst xs)) (h3 : Paired (StepV G) xs pl.sts) (okp : OkP pl)
    (k : ∀ H', Same H H' → PlanN C H H' (.ref x) pl → Q .non H') : sp_initX C [.ref x, .ref ca, .int wd, .ref sa] G Q E := by
  subst hw
  refine ⟨x, dx, ca, sa, pl, xs, rfl, gx, h1, h2, h3, okp, fun H' sl ql el fs ys ko nsl nql nel hx' l1 l2 l3 l4 l5 l6 l7 hsl hql hys hel => ?_⟩
  have s1 : Same H H' := fun b u e => ko b u (ne_of_none e hx) (s0 b u e)
  have nf : ∀ {c}, G c = none → H c = none := fun {c} e => s0.free e
  have kg : ∀ {c : Addr} {l : List V}, G c = some (.tup l) → H' c = some (.tup l) := fun {c l} e => ko c _ (ne_of e gx (by intro q; cases q)) e
  have st' : Paired (StepV H') xs pl.sts := L2.Paired.mapP h3 fun v st z => by
    cases st with
    | none => exact z
    | some fw =>
      obtain ⟨f, ws⟩ := fw
      obtain ⟨a, b, e, z1, z2⟩ := z
      exact ⟨a, b, e, kg z1, kg z2⟩
  exact k H' s1 ⟨sl, ql, el, ⟨⟨x, ca, xs, ys, rfl, ⟨⟨dx, fs, hx', l1, l2, l3, l4, l5, l6, l7⟩, hsl, hql, hel⟩, kg h1, st', hys⟩, okp⟩, nf nsl, nf nql, nf nel⟩
section
variable {P : Program} {w : World} {K : PySem.W.Frag} {mg : Str → Option Value} {base : Heap}
theorem ok_eq {f C : Addr} {fd : FuncData} (F : Fun K "__eq__" "Plan.__eq__" s_Plan___eq f fd) (T : Txt mg) (TC : PlanC K mg C) : FnOk P w K mg base CX0 1 f fd ["self", "other"] (sp_eq K C) := by
  have c_Plan := TC.mgC
  refine F.ok sc_Plan___eq (fun vs H Q E h => ?_) (fun cdv A outer s H vs Q E hr h => ?_)
  · obtain ⟨_, _, _, _, rfl, _⟩ := h
    rfl
  obtain ⟨p, x, y, pl, rfl, hx, k⟩ := h
  refine ⟨_, (pss_one (ps_ret (pe_and (pe_callB call_isi (by rfl) T.isinstance (by decide +kernel) (pa_cons (pv 1) (pa_cons (pe_glob (v := .ref C) rfl c_Plan rfl) pa_nil))) (pe_and (pe_cmpR (op_eqD hr.units) (pe_fld (pv 0) rfl) (pe_fld (pv 1) rfl) (nomark _)) (pe_and (pe_cmpR (op_eqD hr.units) (pe_fld (pv 0) rfl) (pe_fld (pv 1) rfl) (nomark _)) (pe_one (pe_cmpR (op_eqD hr.units) (pe_fld (pv 0) rfl) (pe_fld (pv 1) rfl) (nomark _)))))))), ?_⟩
  obtain ⟨a, dx, ca, sl, fs, xs, rfl, h1, l1, l2, l3, h2, n, h3, h4⟩ := hx.ex
  rcases k with ⟨pl', hy, k⟩ | ⟨m, t, k⟩
  · obtain ⟨b, dy, cb, tl, gs, ys, rfl, g1, m1, m2, m3, g2, n2, g3, g4⟩ := hy.ex
    refine ⟨_, rfl, .ref b, .ref C, _, _, true, rfl, .own C, TC.ty g1, TC.is1, ?_⟩
    refine ⟨_, rfl, iteT ?_⟩
    refine ⟨_, rfl, a, C, dx, fs, _, rfl, h1, TC.cl, TC.nB, l1, _, rfl, b, C, dy, gs, _, rfl, g1, TC.cl, TC.nB, m1, ?_⟩
    refine ⟨_, _, .tup (SqT.of h2) (dp_ints _), .tup (SqT.of g2) (dp_ints _), sh_ints _, sh_ints _, _, rfl, ?_⟩
    cases e1 : PyData.eqv (.tuple (dvs pl.cs)) (.tuple (dvs pl'.cs)) with
    | false =>
      refine iteF ?_
      have : samePl pl pl' = false := by unfold samePl; rw [e1]; rfl
      rw [this] at k
      exact k
    | true =>
      refine iteT ?_
      refine ⟨_, rfl, a, C, dx, fs, _, rfl, h1, TC.cl, TC.nW, l2, _, rfl, b, C, dy, gs, _, rfl, g1, TC.cl, TC.nW, m2, ?_⟩
      refine ⟨_, _, .int _, .int _, sh_int _, sh_int _, _, rfl, ?_⟩
      cases e2 : PyData.eqv (.int pl.w) (.int pl'.w) with
      | false =>
        refine iteF ?_
        have : samePl pl pl' = false := by unfold samePl; rw [e1, e2]; rfl
        rw [this] at k
        exact k
      | true =>
        refine iteT ?_
        refine ⟨_, rfl, a, C, dx, fs, _, rfl, h1, TC.cl, TC.nS, l3, _, rfl, b, C, dy, gs, _, rfl, g1, TC.cl, TC.nS, m3, ?_⟩
        refine ⟨_, _, .lst (SqL.of h3) (dp_steps h4), .lst (SqL.of g3) (dp_steps g4), sh_steps _, sh_steps _, ?_⟩
        have : samePl pl pl' = PyData.eqv (.list (stepsD pl.sts)) (.list (stepsD pl'.sts)) := by unfold samePl; rw [e1, e2]; rfl
        rw [this] at k
        exact k
  · refine ⟨_, rfl, y, .ref C, _, _, false, rfl, .own C, .base t.ty, TC.is0 m t.mem, ?_⟩
    exact ⟨_, rfl, iteF k⟩

theorem ok_plan_of {f C fI : Addr} {fd fdI : FuncData} (F : Fun K "_law_plan_of" "_law_plan_of" s_l_plan_of f fd) (T : Txt mg) (TC : PlanC K mg C) (M_Plan : Mk K C fI)
    (G_Plan : FnOk P w K mg base CX0 6 fI fdI ["self", "base", "width", "steps"] (sp_initX C)) (b_Plan : Binds K fdI ["self", "base", "width", "steps"] []) : FnOk P w K mg base CX0 8 f fd ["_law_plan_here"] (sp_plan_of C) := by
  refine F.ok sc_l_plan_of (fun vs H Q E h => ?_) (fun cdv A outer s H vs Q E hr h => ?_)
  · obtain ⟨_, _, _, rfl, _⟩ := h
    rfl
  obtain ⟨p, v, pl, rfl, hv, gd, k⟩ := h
  refine ⟨_, (pss_one (ps_ret (pe_make M_Plan G_Plan hr rfl TC.mgC b_Plan .nil pass0 (pa_cons (pe_ix ix_seq' (pv 0) pe_int (fun _ _ => rfl)) (pa_cons (pe_ix ix_seq' (pv 0) pe_int (fun _ _ => rfl)) (pa_cons (pe_ix ix_seq' (pv 0) pe_int (fun _ _ => rfl)) pa_nil)))))), ?_⟩
  obtain ⟨a, ca, sa, xs, rfl, h1, h2, n, h3, h4⟩ := hv.ex
  refine ⟨_, rfl, a, _, _, _, rfl, rfl, .inr h1, rfl, _, rfl, a, _, _, _, rfl, rfl, .inr h1, rfl, _, rfl, a, _, _, _, rfl, rfl, .inr h1, rfl, fun x dx hx hdx ndx => ?_⟩
  have s0 : Same H (upd (upd H dx (.own x)) x (.ins C dx [])) := fun b o e => by
    rw [upd_ne (ne_of_none e hx), upd_ne (ne_of_none e hdx)]
    exact e
  exact made_outW (K := K) (pl := pl) rfl hx s0 upd_same (s0 _ _ h2) (s0 _ _ h3) (steps_same s0 h4) gd fun H' s' n => ⟨rfl, k _ H' s' n⟩
end
end Af

set_option Elab.async false
set_option linter.all false
set_option maxRecDepth 100000
namespace Af
open PySem L2
abbrev s_Plan_epoch_of : Stmt := inClass (top 26) 6
abbrev N_Plan_epoch_of : List Str := ["self", "piece"]
theorem sc_Plan_epoch_of : FnScope N_Plan_epoch_of ["self", "piece"] (defScope s_Plan_epoch_of) := ⟨rfl, rfl, rfl, by decide +kernel, rfl, by decide +kernel, by decide +kernel⟩

/-- an own exception class without an __init__ of its own -/
structure ExcC (K : PySem.W.Frag) (mg : Str → Option Value) (n : Str) (C : Addr) : Prop where
  gP : mg n = some (.ref C)
  xP : PySem.W.excIn K C [.type "ValueError", .type "Exception", .type "BaseException", .type "object"] "ValueError.__new__" = true
  kP : PySem.W.keepIn K (.ref C) = true
  bP : PySem.W.subIn K (.ref C) (.type "BaseException") = some true
  tP : PySem.W.typeIn K (.ref C) = some (.type "type")
def sp_epoch_of (K : PySem.W.Frag) (C CE : Addr) : Sp := fun vs H Q E => ∃ (x ca sl ql el : Addr) (pl : Pl) (xs ys : List V) (v : V) (n : String), vs = [.ref x, v] ∧ PlanX C x ca sl ql el H pl xs ys ∧ ys.length = (allP pl.w 0 pl.sts).length ∧ Ty K H v n ∧
  (∀ (i : Nat) (e : Int), v = .int i → (pieceE pl.sts (allP pl.w 0 pl.sts))[i]? = some e → Q (.int e) H) ∧ (idxB ys.length v = false → E (.ref CE) none H)
section
variable {P : Program} {w : World} {K : PySem.W.Frag} {mg : Str → Option Value} {base : Heap}
theorem ok_epoch_of {f C CE : Addr} {fd : FuncData} (F : Fun K "epoch_of" "Plan.epoch_of" s_Plan_epoch_of f fd) (T : Txt mg) (TC : PlanC K mg C) (X : ExcC K mg "UnknownPiece" CE)
    (c_is_index : Cal P w K mg base 2 "is_index" ["thing", "many"] (sp_is_index K)) :
    FnOk P w K mg base (L2.CX P w) 3 f fd ["self", "piece"] (sp_epoch_of K C CE) := by
  refine F.okX sc_Plan_epoch_of (fun vs H Q E h => ?_) (fun cdv A outer s H vs Q E hr h => ?_)
  · obtain ⟨_, _, _, _, _, _, _, _, _, _, rfl, _⟩ := h
    rfl
  obtain ⟨x, ca, sl, ql, el, pl, xs, ys, v, n, rfl, ⟨⟨dx, fs, hx, hB, hW, hS, hP, hE, hN, hM⟩, h1, h2, h3⟩, hlen, ht, kg, kb⟩ := h
  refine ⟨_, (pss_cons (ps_if (pt_not (pt_val (pe_cal c_is_index hr (pa_cons (pv 1) (pa_cons (pe_callB call_len' (by rfl) T.len (by decide +kernel) (pa_cons (pe_fld (pv 0) rfl) pa_nil)) pa_nil)))))
      (pss_one (ps_raise rfl (takes_of rfl rfl rfl rfl) (pmk_own PySem.F.excBase_ValueError X.xP X.gP X.kP (raises_own X.bP X.tP) rfl)))
      pss_nil)
    (pss_one (ps_ret (pe_ix ix_seq' (pe_fld (pv 0) rfl) (pv 1) (fun _ _ => rfl))))), ?_⟩
  refine ⟨_, rfl, _, rfl, x, C, dx, fs, _, rfl, hx, TC.cl, TC.nP, hP, ql, ys, rfl, .inl h2, _, _, n, rfl, ht, ?_⟩
  refine ⟨_, rfl, ?_⟩
  cases e : idxB (ys.length : Int) v with
  | false => exact kb e
  | true =>
    obtain ⟨z, rfl⟩ : ∃ z, v = .int z := by
      cases v with
      | int z => exact ⟨z, rfl⟩
      | _ => cases e
    have e' : (decide (0 ≤ z) && decide (z < (ys.length : Int))) = true := e
    rw [Bool.and_eq_true] at e'
    have z0 := of_decide_eq_true e'.1
    have z1 := of_decide_eq_true e'.2
    obtain ⟨i, rfl⟩ := Int.eq_ofNat_of_zero_le z0
    have pl' : (pieceE pl.sts (allP pl.w 0 pl.sts)).length = ys.length := by
      unfold pieceE
      rw [List.length_map, hlen]
    have il : i < (pieceE pl.sts (allP pl.w 0 pl.sts)).length := by omega
    exact ⟨_, rfl, x, C, dx, fs, _, rfl, hx, TC.cl, TC.nE, hE, _, rfl, el, _, _, _, rfl, rfl, .inl h3, atI_nat (ivs_get il), kg i _ rfl (List.getElem?_eq_getElem il)⟩
end
end Af

set_option Elab.async false
set_option linter.all false
set_option maxRecDepth 100000
namespace Af
open PySem L2
abbrev s_l_ranks : Stmt := top 51
abbrev N_l_ranks : List Str := ["_law_plan_here", "_law_part"]
theorem sc_l_ranks : FnScope N_l_ranks ["_law_plan_here"] (defScope s_l_ranks) := ⟨rfl, rfl, rfl, by decide +kernel, rfl, by decide +kernel, by decide +kernel⟩

theorem cut_to (xs : List V) (n : Nat) : cutV xs none (some (n : Int)) = xs.take n := by
  unfold cutV
  have : HT.sIx xs.length xs.length (some (n : Int)) = min n xs.length := HT.sIx_nat _ _ n
  rw [this, HT.sIx_none, List.drop_zero, Nat.sub_zero]
  by_cases h : n ≤ xs.length
  · rw [Nat.min_eq_left h]
  · rw [Nat.min_eq_right (by omega), List.take_length, List.take_of_length_le (by omega)]
theorem pe_cntK {X : Cx} {K : PySem.W.Frag} {o e : Expr} {es : List Expr} {to : TE} {t : TA} {apos cpos : Pos} (hK : X.K = K) (hu : X.A.units + 1 < cLine) (ho : PE X o to) (ha : PA X (e :: es) t)
    (hbase : attributeBase o "count" X.env (eval o X.env) = eval o X.env := by rfl)
    (hfew : ((backTo cpos (starEach (e :: es) X.env)).all (fun x => !x.1) && (backToKw cpos (keywordEach [] X.env)).all (fun x => x.1.isSome)
      && decide ((e :: es).length + ([] : List Keyword).length + (if ([] : List Keyword).isEmpty then 0 else 1) < 30)) = true := by rfl)
    (hline : (apos.endLine == cpos.line) = true := by rfl) (hs : starEach (e :: es) X.env = (false, eval e X.env) :: starEach es X.env := by rfl) (hplain : (backTo cpos (starEach es X.env)).any (·.1) = false := by rfl) :
    PE X (.Call (.Attribute o "count" apos) (e :: es) [] cpos) (tBM K "list" (rCntX K) to t) := by
  subst hK
  exact pe_bm PySem.F.plainAttrs_list PySem.F.slot_list_count PySem.F.type_list_count (mt_countX hu) ho ha hbase hfew hline hs hplain
/-- the epoch of each part, as the law counts it -/
def rnk (sts : List Stp) (ps : List (Int × (Int × List Int))) : List Int := ps.map fun p => ((bars (sts.take p.1.toNat) : Nat) : Int)
def sp_ranks : Sp := fun vs H Q _ => ∃ (a ca sa : Addr) (sp : Int) (xs : List V) (sts : List Stp), vs = [.ref a] ∧ H a = some (.tup [.ref ca, .int sp, .ref sa]) ∧ H sa = some (.lst xs) ∧ Paired (StepV H) xs sts ∧ 0 < sp ∧ xs.length ≤ 100 ∧
  (∀ f ws, some (f, ws) ∈ sts → ws.length ≤ 100) ∧ (allP sp 0 sts).length ≤ 40 ∧ ∀ l H', Same H H' → H l = none → H' l = some (.lst (ivs (rnk sts (allP sp 0 sts)))) → Q (.ref l) H'
section
variable {P : Program} {w : World} {K : PySem.W.Frag} {mg : Str → Option Value} {base : Heap}
theorem ok_ranks {f : Addr} {fd : FuncData} (F : Fun K "_law_ranks" "_law_ranks" s_l_ranks f fd) (T : Txt mg) (c_l_parts : Cal P w K mg base 2 "_law_parts" ["_law_plan_here"] sp_partsX) : FnOk P w K mg base CX0 3 f fd ["_law_plan_here"] sp_ranks := by
  refine F.ok sc_l_ranks (fun vs H Q E h => ?_) (fun cdv A outer s H vs Q E hr h => ?_)
  · obtain ⟨_, _, _, _, _, _, rfl, _⟩ := h
    rfl
  obtain ⟨a, ca, sa, sp, xs, sts, rfl, ha, hsa, hst, hsp, hxl, hw, h40, k⟩ := h
  refine ⟨_, (pss_one (ps_ret (pe_lc (own := [("_law_part", 1)]) (g := (gName 1)) (tt := tYes) rfl sc_l_ranks.nd (pi_list (pe_cal c_l_parts hr (pa_cons (pv 0) pa_nil))) (blkOk_by (own := [("_law_part", 1)]) (N := N_l_ranks) (sc := defScope s_l_ranks) (by decide +kernel)) (fun _ _ _ _ _ => pg_name (i := 1) sc_l_ranks.nd rfl (Or.inl rfl)) (fun _ _ _ _ _ => pts_nil) (fun _ _ _ _ _ => (pe_cntK (K := K) rfl (Nat.lt_of_le_of_lt (Nat.add_le_add_left (show 1 ≤ 64 by decide) _) hr.units) (pe_slice sl_list' (pe_ix ix_seq' (pv 0) pe_int (fun _ _ => rfl)) po_none (po_some (pe_ix ix_seq' (pv 1) pe_int (fun _ _ => rfl)))) (pa_cons pe_non pa_nil)))))), ?_⟩
  refine ⟨_, rfl, a, ca, sa, sp, xs, sts, rfl, ha, hsa, hst, hsp, hxl, hw, fun l H1 ys s1 hl h1 hp => ?_⟩
  have ylen : ys.length = (allP sp 0 sts).length := paired_len hp
  refine ⟨l, rfl, ⟨ys, SqL.of h1⟩, fun D hD => lc_list (K := K) (a := l) (xs := ys) (fun i H' => Same H1 H' ∧ H' D = some (.lst (ivs ((rnk sts (allP sp 0 sts)).take i)))) ?_ ?_ ?_ ?_⟩
  · exact ⟨same_new hD, upd_same⟩
  · rintro i H' _ ⟨s2, _⟩
    exact SqL.of (s2 _ _ h1)
  · rintro i y H' hy ⟨s2, h2⟩
    have il : i < ys.length := (List.getElem?_eq_some_iff.mp hy).1
    obtain ⟨p, hp1, t, b, rfl, ht, hb⟩ := paired_get hp hy
    obtain ⟨j, hj1, _, hj2⟩ := allP_in (List.mem_of_getElem? hp1)
    have ge : (rnk sts (allP sp 0 sts))[i]? = some ((bars (sts.take j) : Nat) : Int) := by
      unfold rnk
      rw [List.getElem?_map, hp1]
      show some ((bars (sts.take p.1.toNat) : Nat) : Int) = _
      rw [hj1, Int.toNat_natCast]
    have ht' := s2 _ _ ht
    rw [hj1] at ht'
    refine ⟨rfl, _, rfl, a, _, _, _, rfl, rfl, .inr (s2 _ _ (s1 _ _ ha)), rfl, _, rfl, t, _, _, _, rfl, rfl, .inr ht', rfl, _, rfl, sa, _, rfl, s2 _ _ (s1 _ _ hsa), fun c H3 hc s3 h3 => ?_⟩
    rw [cut_to] at h3
    have st3 : Paired (StepV H3) (xs.take j) (sts.take j) := paired_take j (steps_same (s1.trans (s2.trans s3)) hst)
    refine ⟨.inl ⟨rfl, _, SqL.of h3⟩, c, _, _, rfl, rfl, SqL.of h3, dp_steps st3, (lay_steps _).1, ?_⟩
    rw [bars_count]
    refine ⟨_, s3 _ _ h2, szl (by rw [ivs_len, List.length_take]; omega), same_mut (s2.trans s3) hD, ?_⟩
    rw [upd_same, List.take_add_one, ge]
    unfold ivs
    rw [List.map_append]
    rfl
  · rintro H3 ⟨s3, h3⟩
    have pl' : (rnk sts (allP sp 0 sts)).length = ys.length := by
      unfold rnk
      rw [List.length_map, ylen]
    rw [← pl', List.take_length] at h3
    exact k D H3 (s1.trans s3) (s1.free hD) h3
end
end Af

set_option Elab.async false
set_option linter.all false
namespace Af
open PySem L2
theorem sub_len : ∀ {l1 l2 : List Nat}, l1.Nodup → (∀ x ∈ l1, x ∈ l2) → l1.length ≤ l2.length
  | [], _, _, _ => Nat.zero_le _
  | x :: l1, l2, n, s => by
    obtain ⟨n1, n2⟩ := List.nodup_cons.mp n
    have h := sub_len (l2 := l2.erase x) n2 fun y hy => (List.mem_erase_of_ne (fun (e : y = x) => n1 (by rw [← e]; exact hy))).mpr (s y (List.mem_cons_of_mem _ hy))
    have hx := s x List.mem_cons_self
    rw [List.length_erase_of_mem hx] at h
    have := List.length_pos_of_mem hx
    rw [List.length_cons]
    omega
theorem all_in {l : List Nat} {c j : Nat} (n : l.Nodup) (h : ∀ x ∈ l, x < c) (hl : c ≤ l.length) (hj : j < c) : j ∈ l := by
  by_cases m : j ∈ l
  · exact m
  have q := sub_len (l1 := j :: l) (l2 := List.range c) (List.nodup_cons.mpr ⟨m, n⟩) fun x hx => by
    rcases List.mem_cons.mp hx with rfl | hx
    · exact List.mem_range.mpr hj
    · exact List.mem_range.mpr (h x hx)
  rw [List.length_range, List.length_cons] at q
  omega
def gE (es : List Int) (j : Nat) : Int := es.getD j 0
def okAt (es : List Int) (ps : List Nat) (k : Nat) : Bool := !(ps.take k).contains (ps.getD k 0) && !(List.range es.length).any fun j => decide (gE es j < gE es (ps.getD k 0)) && !(ps.take k).contains j
def lawB (es : List Int) (ps : List Nat) : Bool := (List.range ps.length).all (okAt es ps)
def fallB (es : List Int) (ps : List Nat) : Bool := decide ps.Nodup && decide (ps.map (gE es) = es.take ps.length)
theorem okAt_iff {es : List Int} {ps : List Nat} {k : Nat} (h : k < ps.length) : okAt es ps k = true ↔ ps[k] ∉ ps.take k ∧ ∀ j < es.length, gE es j < gE es ps[k] → j ∈ ps.take k := by
  have e : ps.getD k 0 = ps[k] := by
    rw [List.getD_eq_getElem?_getD, List.getElem?_eq_getElem h]
    rfl
  unfold okAt
  rw [e, Bool.and_eq_true, Bool.not_eq_true', Bool.not_eq_true', List.any_eq_false]
  constructor
  · rintro ⟨h1, h2⟩
    refine ⟨fun m => ?_, fun j hj hlt => ?_⟩
    · rw [List.contains_iff_mem.mpr m] at h1
      cases h1
    · have := h2 j (List.mem_range.mpr hj)
      by_cases m : j ∈ ps.take k
      · exact m
      · refine absurd ?_ this
        rw [decide_eq_true hlt]
        simpa using m
  · rintro ⟨h1, h2⟩
    refine ⟨by simpa using h1, fun j hj => ?_⟩
    intro z
    rw [Bool.and_eq_true] at z
    have := h2 j (List.mem_range.mp hj) (of_decide_eq_true z.1)
    rw [List.contains_iff_mem.mpr this] at z
    cases z.2
theorem take_nodup {ps : List Nat} (n : ps.Nodup) (k : Nat) : (ps.take k).Nodup := n.sublist (List.take_sublist _ _)
theorem not_before {ps : List Nat} (n : ps.Nodup) {k : Nat} (h : k < ps.length) : ps[k] ∉ ps.take k := fun m => by
  obtain ⟨j, hj⟩ := List.mem_iff_getElem?.mp m
  rw [List.getElem?_take] at hj
  by_cases hji : j < k
  · rw [if_pos hji] at hj
    obtain ⟨hjl, ej⟩ := List.getElem?_eq_some_iff.mp hj
    exact absurd ej (List.pairwise_iff_getElem.mp n j k hjl h hji)
  · rw [if_neg hji] at hj
    cases hj
theorem before_nodup {ps : List Nat} (h : ∀ k (hk : k < ps.length), ps[k] ∉ ps.take k) : ps.Nodup :=
  List.pairwise_iff_getElem.mpr fun i j hi hj l e => h j hj (by
    refine List.mem_iff_getElem?.mpr ⟨i, ?_⟩
    rw [List.getElem?_take, if_pos l, List.getElem?_eq_getElem hi, e])
theorem falls_same {es : List Int} {ps : List Nat} (so : ∀ i j, i ≤ j → j < es.length → gE es i ≤ gE es j) (hb : ∀ p ∈ ps, p < es.length) : lawB es ps = fallB es ps := by
  have gt : ∀ k, k < es.length → es[k]? = some (gE es k) := fun k hk => by
    unfold gE
    rw [List.getD_eq_getElem?_getD, List.getElem?_eq_getElem hk]
    rfl
  have ea : lawB es ps = true ↔ ∀ k (hk : k < ps.length), ps[k] ∉ ps.take k ∧ ∀ j < es.length, gE es j < gE es ps[k] → j ∈ ps.take k := by
    unfold lawB
    rw [List.all_eq_true]
    exact ⟨fun h k hk => (okAt_iff hk).mp (h k (List.mem_range.mpr hk)), fun h k hk => (okAt_iff (List.mem_range.mp hk)).mpr (h k (List.mem_range.mp hk))⟩
  have eb : fallB es ps = true ↔ ps.Nodup ∧ ps.map (gE es) = es.take ps.length := by
    unfold fallB
    rw [Bool.and_eq_true, decide_eq_true_iff, decide_eq_true_iff]
  refine Bool.eq_iff_iff.mpr (ea.trans (Iff.trans ?_ eb.symm))
  constructor
  · intro h
    have nd := before_nodup fun k hk => (h k hk).1
    have ln : ps.length ≤ es.length := by
      have := sub_len (l2 := List.range es.length) nd fun x hx => List.mem_range.mpr (hb x hx)
      rwa [List.length_range] at this
    refine ⟨nd, List.ext_getElem? fun k => ?_⟩
    rw [List.getElem?_map, List.getElem?_take]
    by_cases hk : k < ps.length
    · rw [if_pos hk, gt k (by omega), List.getElem?_eq_getElem hk]
      show some (gE es ps[k]) = some (gE es k)
      congr 1
      have hp := hb ps[k] (List.getElem_mem hk)
      have h1 : gE es ps[k] ≤ gE es k := by
        rcases Int.lt_or_le (gE es k) (gE es ps[k]) with c | c
        · have := sub_len (l1 := List.range (k + 1)) (l2 := ps.take k) List.nodup_range fun j hj => (h k hk).2 j (by have := List.mem_range.mp hj; omega) (Int.lt_of_le_of_lt (so j k (by have := List.mem_range.mp hj; omega) (by omega)) c)
          rw [List.length_range, List.length_take] at this
          omega
        · exact c
      have h2 : gE es k ≤ gE es ps[k] := by
        rcases Int.lt_or_le (gE es ps[k]) (gE es k) with c | c
        · have all : ∀ i (hi : i < ps.length), i ≤ k → gE es ps[i] ≤ gE es ps[k] := fun i hi ik => by
            rcases Int.lt_or_le (gE es ps[k]) (gE es ps[i]) with d | d
            · have m := (h i hi).2 ps[k] hp d
              refine absurd ?_ (h k hk).1
              obtain ⟨j, hj⟩ := List.mem_iff_getElem?.mp m
              rw [List.getElem?_take] at hj
              by_cases hji : j < i
              · rw [if_pos hji] at hj
                exact List.mem_iff_getElem?.mpr ⟨j, by rw [List.getElem?_take, if_pos (by omega)]; exact hj⟩
              · rw [if_neg hji] at hj
                cases hj
            · exact d
          have := sub_len (l1 := ps.take (k + 1)) (l2 := List.range k) (take_nodup nd _) fun x hx => by
            obtain ⟨j, hj⟩ := List.mem_iff_getElem?.mp hx
            rw [List.getElem?_take] at hj
            by_cases hji : j < k + 1
            · rw [if_pos hji] at hj
              obtain ⟨hjl, ej⟩ := List.getElem?_eq_some_iff.mp hj
              have a := all j hjl (by omega)
              rw [ej] at a
              refine List.mem_range.mpr ?_
              rcases Nat.lt_or_ge x k with d | d
              · exact d
              · have := so k x d (hb x (ej ▸ List.getElem_mem hjl))
                omega
            · rw [if_neg hji] at hj
              cases hj
          rw [List.length_range, List.length_take] at this
          omega
        · exact c
      omega
    · rw [if_neg hk, List.getElem?_eq_none (by omega)]
      rfl
  · rintro ⟨nd, hm⟩ k hk
    have ln : ps.length ≤ es.length := by
      have := sub_len (l2 := List.range es.length) nd fun x hx => List.mem_range.mpr (hb x hx)
      rwa [List.length_range] at this
    have at_ : ∀ i (hi : i < ps.length), gE es ps[i] = gE es i := fun i hi => by
      have q := congrArg (fun l => l[i]?) hm
      simp only [List.getElem?_map, List.getElem?_take] at q
      rw [if_pos hi, gt i (by omega), List.getElem?_eq_getElem hi] at q
      exact Option.some.inj q
    refine ⟨not_before nd hk, fun j hj hlt => ?_⟩
    rw [at_ k hk] at hlt
    have jk : j < k := by
      rcases Nat.lt_or_ge j k with d | d
      · exact d
      · have := so k j d hj
        omega
    -- the least place with an epoch as k's
    have low : ∃ c, c ≤ k ∧ (∀ i, i < c → gE es i < gE es k) ∧ ¬ gE es c < gE es k := by
      have : ∀ m, m ≤ k → (∀ i, i < m → gE es i < gE es k) → ∃ c, c ≤ k ∧ (∀ i, i < c → gE es i < gE es k) ∧ ¬ gE es c < gE es k := by
        intro m hm
        generalize e : k - m = d
        induction d generalizing m with
        | zero =>
          intro hi
          have : m = k := by omega
          subst this
          exact ⟨m, Nat.le_refl _, hi, Int.lt_irrefl _⟩
        | succ d ih =>
          intro hi
          by_cases c : gE es m < gE es k
          · exact ih (m + 1) (by omega) (by omega) fun i h => by
              rcases Nat.lt_or_ge i m with y | y
              · exact hi i y
              · have : i = m := by omega
                rw [this]
                exact c
          · exact ⟨m, hm, hi, c⟩
      exact this 0 (Nat.zero_le _) fun i h => absurd h (Nat.not_lt_zero _)
    obtain ⟨c, hc1, hc2, hc3⟩ := low
    have jc : j < c := by
      rcases Nat.lt_or_ge j c with d | d
      · exact d
      · have := so c j d hj
        omega
    have m := all_in (l := ps.take c) (c := c) (take_nodup nd _) (fun x hx => by
      obtain ⟨i, hi⟩ := List.mem_iff_getElem?.mp hx
      rw [List.getElem?_take] at hi
      by_cases ic : i < c
      · rw [if_pos ic] at hi
        obtain ⟨il, ei⟩ := List.getElem?_eq_some_iff.mp hi
        have a := at_ i il
        rw [ei] at a
        have b := hc2 i ic
        rcases Nat.lt_or_ge x c with d | d
        · exact d
        · have := so c x d (hb x (ei ▸ List.getElem_mem il))
          omega
      · rw [if_neg ic] at hi
        cases hi) (by rw [List.length_take]; omega) jc
    obtain ⟨i, hi⟩ := List.mem_iff_getElem?.mp m
    rw [List.getElem?_take] at hi
    by_cases ic : i < c
    · rw [if_pos ic] at hi
      exact List.mem_iff_getElem?.mpr ⟨i, by rw [List.getElem?_take, if_pos (by omega)]; exact hi⟩
    · rw [if_neg ic] at hi
      cases hi
end Af

set_option Elab.async false
set_option linter.all false
set_option maxRecDepth 100000
namespace Af
open PySem PySem.Spec PyProof.Rows L2
/-! len(set(xs)) of numbers, also where some are equal -/
theorem range_get (ns : List Int) : ∀ i, i ≤ ns.length → (List.range i).map (fun i => ns.getD i 0) = ns.take i
  | 0, _ => rfl
  | i + 1, h => by
    have hlt : i < ns.length := h
    rw [List.range_succ, List.map_append, range_get ns i (Nat.le_of_lt hlt), List.take_add_one, List.getElem?_eq_getElem hlt]
    show ns.take i ++ [ns.getD i 0] = ns.take i ++ [ns[i]]
    rw [List.getD_eq_getElem?_getD, List.getElem?_eq_getElem hlt]
    rfl
theorem nodup_snoc {l : List Int} {z : Int} : (l ++ [z]).Nodup ↔ l.Nodup ∧ z ∉ l := by
  unfold List.Nodup
  rw [List.pairwise_append]
  constructor
  · rintro ⟨h1, _, h3⟩
    exact ⟨h1, fun m => h3 z m z (List.mem_singleton.mpr rfl) rfl⟩
  · rintro ⟨h1, h2⟩
    exact ⟨h1, List.pairwise_singleton _ _, fun a ha b hb e => h2 (by rw [← List.mem_singleton.mp hb, ← e]; exact ha)⟩
theorem fm_len (ns : List Int) : ∀ i, i ≤ ns.length → (firstMet (fun i => ns.getD i 0) i).length ≤ i ∧ ((firstMet (fun i => ns.getD i 0) i).length = i ↔ (ns.take i).Nodup)
  | 0, _ => ⟨Nat.le_refl _, by simp [firstMet_zero]⟩
  | i + 1, h => by
    have hlt : i < ns.length := h
    obtain ⟨h1, h2⟩ := fm_len ns i (Nat.le_of_lt hlt)
    have e1 : ns.getD i 0 = ns[i] := by
      rw [List.getD_eq_getElem?_getD, List.getElem?_eq_getElem hlt]
      rfl
    have e2 : ns.take (i + 1) = ns.take i ++ [ns[i]] := by
      rw [List.take_add_one, List.getElem?_eq_getElem hlt]
      rfl
    have ea : (firstMet (fun i => ns.getD i 0) i).any (· == ns.getD i 0) = (ns.take i).any (· == ns[i]) := by
      rw [firstMet_any, range_get ns i (Nat.le_of_lt hlt), e1]
    rw [firstMet_succ, step_length, ea, e2, nodup_snoc]
    cases c : (ns.take i).any (· == ns[i]) with
    | true =>
      rw [if_pos rfl]
      obtain ⟨y, hy, ey⟩ := List.any_eq_true.mp c
      have ey2 : y = ns[i] := eq_of_beq ey
      exact ⟨by omega, ⟨fun z => by omega, fun z => absurd (ey2 ▸ hy) z.2⟩⟩
    | false =>
      rw [if_neg (by simp)]
      have no : ns[i] ∉ ns.take i := fun m => by
        have w : (ns.take i).any (· == ns[i]) = true := List.any_eq_true.mpr ⟨_, m, beq_self_eq_true ns[i]⟩
        rw [c] at w
        cases w
      exact ⟨by omega, ⟨fun z => ⟨h2.mp (by omega), no⟩, fun z => by rw [h2.mpr z.1]⟩⟩
def tLenSetA (K : PySem.W.Frag) (ta : TE) : TE := fun σ H Q => ta σ H fun x H1 => ∃ (l : Addr) (ns : List Int), x = .ref l ∧ H1 l = some (.lst (ivs ns)) ∧ ns.length ≤ 4000 ∧ ∀ c : Nat, c ≤ ns.length → (c = ns.length ↔ ns.Nodup) → Q (.int (c : Nat)) H1
theorem pe_lenSetA {X : Cx} {a : Expr} {ta : TE} {p p2 q pos : Pos} (hg : Gl X "len") (hm : X.mg "len" = none) (hg2 : Gl X "set") (hm2 : X.mg "set" = none) (ha : PE X a ta) (hc : X.calm = true := by rfl)
    (na : starEach [a] X.env = (false, eval a X.env) :: starEach [] X.env := by rfl) : PE X (.Call (.Name "len" p) [.Call (.Name "set" p2) [a] [] q] [] pos) (tLenSetA X.K ta) := by
  refine ⟨fun pins s σ H Q I h => ?_⟩
  refine Call_ (ld_blt I hg hm boot_len ?_)
  refine PyProof.Rows.callWith_builtin1 (PyProof.Rows.args_cons ?_ rfl) rfl rfl
  refine Call_ (ld_blt I hg2 hm2 boot_set ?_)
  refine PyProof.Rows.callWith_type1 (PyProof.Rows.args_cons (thn (ha.run pins s σ H _ I h) fun v s1 ⟨x, H1, I1, r1, q1⟩ => PyProof.Rows.args_nil ?_) na) na rfl
  obtain ⟨l, ns, rfl, hq, hl, q1⟩ := q1
  cases r1
  obtain ⟨its, r, pl, hz⟩ := I1.list (SqL.of hq)
  have hlen : its.toArray.size = ns.length := by rw [List.size_toArray, ← r.length]; exact List.length_map _
  refine call_set_list (I1.ok.hd hc) pl.isList (by simpa using RZ.intsAre_vals r) (by rw [hlen]; unfold scanBound; omega) fun h' tk hS hk => ?_
  refine PyProof.Rows.args_nil ?_
  rw [hlen] at hS
  obtain ⟨f1, f2⟩ := fm_len ns ns.length (Nat.le_refl _)
  rw [List.take_length] at f2
  obtain ⟨o, es, ep, t, ho, hex, hd, _, _, _, hf, hn⟩ := hS
  have I2 : Inv X pins σ H1 { s1 with heap := h', toks := tk } := I1.kept fun b o e => hk b o (Heap.lt_size e) e
  exact call_len_set ho hex hd hf (by rw [hn] <;> omega) ⟨.int ((firstMet (fun i => ns.getD i 0) ns.length).length : Nat), H1, I2.tok _, ⟨_, by rw [hn]⟩, q1 _ f1 f2⟩
end Af

set_option Elab.async false
set_option linter.all false
set_option maxRecDepth 100000
namespace Af
open PySem PySem.Spec PyProof.Rows L2
/-! a method called where its error is caught -/
section
variable {X : Cx} {CX : CXT} {k : Nat} {f C : Addr} {fd : FuncData} {ps : List Str} {sp : Sp} {E : L2.St → XK} {m : Str} {pos apos : Pos} {e o : Expr} {es : List Expr} {ta : TE} {t : TA}
def tMethX (C : Addr) (m : Str) (sp : Sp) (E : L2.St → XK) (ta : TE) (t : TA) : TE := fun σ H Q => ta σ H fun x G => ∃ a dx fs, x = .ref a ∧ G a = some (.ins C dx fs) ∧ fs.lookup m = none ∧ t σ G fun vs G2 => sp (x :: vs) G2 Q (E σ)
theorem pe_methX {pl : Sem Bool} (he : PE X o ta) (c : Cls X.K C) (hm : Meth X.K C m f) (F : FnOk X.prog X.w X.K X.mg X.base CX k f fd ps sp) (room : Room k X.A) (b : Binds X.K fd ps []) (out : ∀ σ, PassesAt CX X σ (E σ)) (ha : PA X (e :: es) t)
    (h1 : starEach (e :: es) X.env = (false, eval e X.env) :: starEach es X.env := by rfl) (h2 : (backTo pos (starEach es X.env)).any (·.1) = false := by rfl)
    (h3 : eval (.Call (.Attribute o m apos) (e :: es) [] pos) X.env = (do
      let v ← eval o X.env
      standAt apos.atName
      let (g, own) ← holding [v] (getMethod v m pl)
      callWith pos g own (backTo pos (starEach (e :: es) X.env)) (backToKw pos (keywordEach [] X.env))) := by rfl) :
    PE X (.Call (.Attribute o m apos) (e :: es) [] pos) (tMethX C m sp E ta t) := by
  refine ⟨fun pins s σ H Q I h => PySem.W.methodCall_KW (pl := pl) (thn (he.run pins s σ H _ I h) fun u s1 z => ?_) h3⟩
  obtain ⟨x, G, I1, rx, a, dx, fs, ex, ea, l, q⟩ := z
  subst ex
  obtain rfl : u = Value.ref a := rx
  refine getmeth_ok I1 ea c hm l (PySem.W.callWith_K (first := [.ref a]) (h₀ := X.base) I.ok.mod.kin hm.kp (thn (ha.run pos pins s1 σ G _ I1 q) fun us s2 z => ?_) h1 h2)
  obtain ⟨vs, G2, I2, r, q2⟩ := z
  exact ⟨I2.kIn, run_fnS (us := .ref a :: us) (vs := .ref a :: vs) F room b (out σ) I2 (.cons rfl r) q2⟩
end
end Af

set_option Elab.async false
set_option linter.all false
set_option maxRecDepth 100000
set_option maxHeartbeats 4000000
namespace Af
open PySem L2
abbrev s_piece_epochs : Stmt := top 27
abbrev N_piece_epochs : List Str := ["plan", "piece"]
theorem sc_piece_epochs : FnScope N_piece_epochs ["plan"] (defScope s_piece_epochs) := ⟨rfl, rfl, rfl, by decide +kernel, rfl, by decide +kernel, by decide +kernel⟩

abbrev s_is_fall : Stmt := top 40
abbrev N_is_fall : List Str := ["plan", "thing", "epochs", "piece"]
theorem sc_is_fall : FnScope N_is_fall ["plan", "thing"] (defScope s_is_fall) := ⟨rfl, rfl, rfl, by decide +kernel, rfl, by decide +kernel, by decide +kernel⟩

theorem eps_get : ∀ (l : List Stp) (k i : Nat), i < l.length → (eps k l)[i]? = some ((k + bars (l.take i) : Nat) : Int)
  | [], _, _, h => absurd h (Nat.not_lt_zero _)
  | a :: l, k, 0, _ => rfl
  | a :: l, k, i + 1, h => by
    show (eps (if a.isNone = true then k + 1 else k) l)[i]? = _
    rw [eps_get l _ i (Nat.lt_of_succ_lt_succ h)]
    have e : bars ((a :: l).take (i + 1)) = bars (l.take i) + (if a.isNone = true then 1 else 0) := by
      show bars (a :: l.take i) = _
      unfold bars
      rw [List.countP_cons]
    rw [e]
    cases a with
    | none =>
      show some (((k + 1 + bars (l.take i) : Nat) : Int)) = some ((k + (bars (l.take i) + 1) : Nat) : Int)
      congr 2
      omega
    | some fw => rfl
theorem pieceE_rnk {w : Int} (sts : List Stp) : pieceE sts (allP w 0 sts) = rnk sts (allP w 0 sts) := by
  unfold pieceE rnk
  refine List.map_congr_left fun p hp => ?_
  obtain ⟨j, hj1, _, hj2⟩ := allP_in hp
  rw [hj1, Int.toNat_natCast, eps_get sts 0 j (by omega), Nat.zero_add]
  rfl
theorem PlanX.px {C x ca sl ql el : Addr} {H : Hp} {pl : Pl} {xs ys : List V} (h : PlanX C x ca sl ql el H pl xs ys) : ∃ dx fs, H x = some (.ins C dx fs) ∧ fs.lookup ("epoch_of" : Str) = none := by
  obtain ⟨⟨dx, fs, a, b⟩, c⟩ := h
  obtain ⟨_, _, _, _, _, _, q⟩ := b
  exact ⟨dx, fs, a, q.1⟩
theorem PlanX.px3 {C x ca sl ql el : Addr} {H : Hp} {pl : Pl} {xs ys : List V} (h : PlanX C x ca sl ql el H pl xs ys) : ∃ dx fs, H x = some (.ins C dx fs) ∧ (fs.lookup ("epoch_of" : Str) = none ∧ fs.lookup ("with_step" : Str) = none ∧ fs.lookup ("without_step" : Str) = none) := by
  obtain ⟨⟨dx, fs, a, b⟩, c⟩ := h
  obtain ⟨_, _, _, _, _, _, q⟩ := b
  exact ⟨dx, fs, a, q⟩
theorem PlanX.same {C x ca sl ql el : Addr} {H H' : Hp} {pl : Pl} {xs ys : List V} (h : PlanX C x ca sl ql el H pl xs ys) (s : Same H H') : PlanX C x ca sl ql el H' pl xs ys := by
  obtain ⟨⟨dx, fs, h1, h2⟩, h3, h4, h5⟩ := h
  exact ⟨⟨dx, fs, s _ _ h1, h2⟩, s _ _ h3, s _ _ h4, s _ _ h5⟩
theorem passN {P : Program} {w : World} {X : Cx} (hp : X.prog = P) (hw : X.w = w) (σ : L2.St) : PassesAt (L2.CX P w) X σ E0 := by
  subst hp hw
  intro pins H s e s' I c
  obtain ⟨_, _, _, _, _, _, _, _, _, _, _, _, q⟩ := c
  exact q.elim
/-- the pieces' epochs -/
def rkP (pl : Pl) : List Int := rnk pl.sts (allP pl.w 0 pl.sts)
theorem rkP_len (pl : Pl) : (rkP pl).length = (allP pl.w 0 pl.sts).length := by
  unfold rkP rnk
  rw [List.length_map]
def sp_pe (C : Addr) : Sp := fun vs H Q _ => ∃ (x : V) (pl : Pl) (sl ql el : Addr), vs = [x] ∧ PlanF C H x pl sl ql el ∧ ∀ l H', Same H H' → H l = none → H' l = some (.lst (ivs (rkP pl))) → Q (.ref l) H'
/-! is_fall told of things -/
def toN : V → Nat
  | .int i => i.toNat
  | _ => 0
def fallV (es : List Int) (H : Hp) : V → Bool
  | .ref a => match H a with
    | some (.lst xs) => xs.all (idxB es.length) && fallB es (xs.map toN)
    | _ => false
  | _ => false
def lawV (es : List Int) (H : Hp) : V → Bool
  | .ref a => match H a with
    | some (.lst xs) => xs.all (idxB es.length) && lawB es (xs.map toN)
    | _ => false
  | _ => false
theorem fallV_at {es : List Int} {H : Hp} {a : Addr} {xs : List V} (h : H a = some (.lst xs)) : fallV es H (.ref a) = (xs.all (idxB es.length) && fallB es (xs.map toN)) := by
  unfold fallV
  simp only [h]
theorem lawV_at {es : List Int} {H : Hp} {a : Addr} {xs : List V} (h : H a = some (.lst xs)) : lawV es H (.ref a) = (xs.all (idxB es.length) && lawB es (xs.map toN)) := by
  unfold lawV
  simp only [h]
theorem fallV_not {K : PySem.W.Frag} {es : List Int} {H : Hp} {x : V} {n : String} (t : Ty K H x n) (c : n ≠ "list") : fallV es H x = false := by
  cases x with
  | ref a =>
    unfold fallV
    simp only
    split
    · rename_i e3
      exact absurd (ty_is_lst t e3) c
    · rfl
  | _ => rfl
theorem lawV_not {K : PySem.W.Frag} {es : List Int} {H : Hp} {x : V} {n : String} (t : Ty K H x n) (c : n ≠ "list") : lawV es H x = false := by
  cases x with
  | ref a =>
    unfold lawV
    simp only
    split
    · rename_i e3
      exact absurd (ty_is_lst t e3) c
    · rfl
  | _ => rfl
theorem idx_all {m : Nat} : ∀ {xs : List V}, xs.all (idxB m) = true → xs = ivs ((xs.map toN).map fun p => ((p : Nat) : Int)) ∧ ∀ p ∈ xs.map toN, p < m
  | [], _ => ⟨rfl, fun _ h => by cases h⟩
  | x :: xs, h => by
    rw [List.all_cons, Bool.and_eq_true] at h
    obtain ⟨h1, h2⟩ := idx_all h.2
    cases x with
    | int i =>
      have e' : (decide (0 ≤ i) && decide (i < (m : Int))) = true := h.1
      rw [Bool.and_eq_true] at e'
      have z0 := of_decide_eq_true e'.1
      have z1 := of_decide_eq_true e'.2
      refine ⟨?_, fun p hp => ?_⟩
      · show V.int i :: xs = V.int ((i.toNat : Nat) : Int) :: _
        rw [Int.toNat_of_nonneg z0]
        exact congrArg (V.int i :: ·) h1
      · rcases List.mem_cons.mp hp with rfl | hp
        · show i.toNat < m
          omega
        · exact h2 p hp
    | _ => cases h.1
/-- a thing whose parts, if it is a list, are things -/
def Ob (K : PySem.W.Frag) (H : Hp) (v : V) : Prop := Th K H 1 v ∧ ∀ a xs, v = .ref a → H a = some (.lst xs) → xs.length ≤ 200
def sp_is_fall (K : PySem.W.Frag) (C : Addr) : Sp := fun vs H Q _ => ∃ (x v : V) (pl : Pl) (sl ql el : Addr), vs = [x, v] ∧ PlanF C H x pl sl ql el ∧ Ob K H v ∧ ∀ H', Same H H' → Q (.bl (fallV (rkP pl) H v)) H'
theorem nodup_cast {ps : List Nat} : (ps.map fun p => ((p : Nat) : Int)).Nodup ↔ ps.Nodup := by
  unfold List.Nodup
  rw [List.pairwise_map]
  constructor
  · intro h
    exact h.imp fun k e => k (by rw [e])
  · intro h
    exact h.imp fun k e => k (by omega)
section
variable {P : Program} {w : World} {K : PySem.W.Frag} {mg : Str → Option Value} {base : Heap}
theorem ok_pe {f C CE fI : Addr} {fd fdI : FuncData} (F : Fun K "piece_epochs" "piece_epochs" s_piece_epochs f fd) (T : Txt mg) (TC : PlanC K mg C) (M_eo : Meth K C "epoch_of" fI)
    (G_eo : FnOk P w K mg base (L2.CX P w) 3 fI fdI ["self", "piece"] (sp_epoch_of K C CE)) (b_eo : Binds K fdI ["self", "piece"] [])
    (P_pieces : PropC P w K mg base C "pieces" (sp_p_pieces C)) : FnOk P w K mg base CX0 4 f fd ["plan"] (sp_pe C) := by
  refine F.ok sc_piece_epochs (fun vs H Q E h => ?_) (fun cdv A outer s H vs Q E hr h => ?_)
  · obtain ⟨_, _, _, _, _, rfl, _⟩ := h
    rfl
  obtain ⟨xv, pl, sl, ql, el, rfl, pF, k⟩ := h
  obtain ⟨x, ca, xs, ys, rfl, px, hca, hxs, hys⟩ := pF.ex
  have o := pF.ok
  obtain ⟨dx, fs, hx, hM⟩ := px.px
  have yl := paired_len hys
  have pel : (pieceE pl.sts (allP pl.w 0 pl.sts)).length = ys.length := by
    unfold pieceE
    rw [List.length_map, yl]
  refine ⟨_, (pss_one (ps_ret (pe_lc (own := [("piece", 1)]) (g := (gName 1)) (tt := tYes) rfl sc_piece_epochs.nd (pi_range1 rfl T.range (pa_cons (pe_callB call_len' (by rfl) T.len (by decide +kernel) (pa_cons (pe_propC TC.cl P_pieces hr (pv 0)) pa_nil)) pa_nil)) (blkOk_by (own := [("piece", 1)]) (N := N_piece_epochs) (sc := defScope s_piece_epochs) (by decide +kernel)) (fun _ _ _ _ _ => pg_name (i := 1) sc_piece_epochs.nd rfl (Or.inl rfl)) (fun _ _ _ _ _ => pts_nil) (fun _ _ _ _ _ => (pe_methX (E := fun _ => E0) (pl := _) (pv 0) TC.cl M_eo G_eo (hr.mono (by decide)) b_eo (passN rfl rfl) (pa_cons (pv 1) pa_nil)))))), ?_⟩
  refine ⟨_, rfl, x, dx, fs, rfl, hx, x, ca, sl, ql, el, pl, xs, ys, rfl, px, fun l1 H1 s1 n1 h1 => ?_⟩
  have px1 := px.same s1
  refine ⟨l1, _, rfl, .inl h1, _, rfl, ?_, ?_, fun D hD => lc_range (lo := 0) (fun i H' => Same H1 H' ∧ H' D = some (.lst (ivs ((pieceE pl.sts (allP pl.w 0 pl.sts)).take i)))) ?_ ?_ ?_⟩
  · omega
  · have := o.pc
    omega
  · exact ⟨same_new hD, upd_same⟩
  · rintro j H8 hj ⟨s8, h8⟩
    have hj' : j < ys.length := by omega
    have px8 := px1.same s8
    refine ⟨rfl, _, rfl, x, dx, fs, rfl, s8 _ _ (s1 _ _ hx), hM, _, rfl, x, ca, sl, ql, el, pl, xs, ys, _, "int", rfl, px8, yl, ⟨.int _, by decide, fun _ _ _ e => by cases e⟩, fun j' e hv he => ?_, fun z => ?_⟩
    · have ej : j' = j := by
        have z : (0 : Int) + (j : Int) = (j' : Int) := by injection hv
        omega
      subst ej
      refine ⟨_, h8, szl (by rw [ivs_len, List.length_take]; have := o.pc; omega), same_mut s8 hD, ?_⟩
      rw [upd_same, List.take_add_one, he]
      unfold ivs
      rw [List.map_append]
      rfl
    · have : idxB (ys.length : Int) (.int (0 + (j : Int))) = true := by
        show (decide (0 ≤ 0 + (j : Int)) && decide (0 + (j : Int) < ys.length)) = true
        rw [decide_eq_true (by omega), decide_eq_true (by omega)]
        rfl
      rw [this] at z
      cases z
  rintro H8 ⟨s8, h8⟩
  rw [List.take_of_length_le (by rw [pel]; omega), pieceE_rnk] at h8
  exact k D H8 (s1.trans s8) (s1.free hD) h8
end
end Af

set_option Elab.async false
set_option linter.all false
set_option maxRecDepth 100000
set_option maxHeartbeats 4000000
namespace Af
open PySem L2
theorem op_inK {X : Cx} {K : PySem.W.Frag} (hK : X.K = K) : OpR X (compareOp .In) (rIn K false) := by
  subst hK
  exact op_in_seq
theorem op_notInK {X : Cx} {K : PySem.W.Frag} (hK : X.K = K) : OpR X (compareOp .NotIn) (rIn K true) := by
  subst hK
  exact op_notIn_seq
theorem in_ivs (z : Int) : ∀ cs : List Int, inV (.int z) (ivs cs) = cs.contains z
  | [] => rfl
  | c :: cs => by
    show (eqV (.int c) (.int z) || inV (.int z) (ivs cs)) = _
    rw [in_ivs z cs, List.contains_cons]
    congr 1
    show (c == z) = (z == c)
    exact BEq.comm
theorem flat_ivs (cs : List Int) : (ivs cs).all flatV = true := List.all_eq_true.mpr fun x hx => by
  obtain ⟨z, _, rfl⟩ := List.mem_map.mp hx
  rfl
/-- numbers that are no less than nought, as things -/
def nvs (ps : List Nat) : List V := ivs (ps.map fun p => ((p : Nat) : Int))
theorem nvs_len (ps : List Nat) : (nvs ps).length = ps.length := by
  unfold nvs
  rw [ivs_len, List.length_map]
theorem nvs_get {ps : List Nat} {k : Nat} (h : k < ps.length) : (nvs ps)[k]? = some (.int ((ps[k] : Nat) : Int)) := by
  unfold nvs ivs
  rw [List.getElem?_map, List.getElem?_map, List.getElem?_eq_getElem h]
  rfl
theorem in_nvs (z : Nat) : ∀ ps : List Nat, inV (.int (z : Int)) (nvs ps) = ps.contains z
  | [] => rfl
  | c :: cs => by
    show (eqV (.int (c : Int)) (.int (z : Int)) || inV (.int (z : Int)) (nvs cs)) = _
    rw [in_nvs z cs, List.contains_cons]
    congr 1
    show ((c : Int) == (z : Int)) = (z == c)
    rw [Bool.eq_iff_iff, beq_iff_eq, beq_iff_eq]
    omega
theorem nvs_take (ps : List Nat) (k : Nat) : (nvs ps).take k = nvs (ps.take k) := by
  unfold nvs ivs
  rw [← List.map_take, ← List.map_take]
theorem shl_ints (ns : List Int) : SeqAt.shaped (.list (dvs ns)) = true := sh_ints ns
theorem eqvAll_dvs : ∀ a b : List Int, PyData.eqvAll (dvs a) (dvs b) = decide (a = b)
  | [], [] => rfl
  | [], _ :: _ => rfl
  | _ :: _, [] => rfl
  | x :: a, y :: b => by
    show (PyData.eqv (.int x) (.int y) && PyData.eqvAll (dvs a) (dvs b)) = _
    rw [eqvAll_dvs a b]
    have e : PyData.eqv (.int x) (.int y) = decide (x = y) := rfl
    rw [e, Bool.eq_iff_iff, Bool.and_eq_true, decide_eq_true_iff, decide_eq_true_iff, decide_eq_true_iff, List.cons.injEq]
theorem eqv_dvs (a b : List Int) : PyData.eqv (.list (dvs a)) (.list (dvs b)) = decide (a = b) := eqvAll_dvs a b
section
variable {P : Program} {w : World} {K : PySem.W.Frag} {mg : Str → Option Value} {base : Heap}
theorem ok_is_fall {f C : Addr} {fd : FuncData} (F : Fun K "is_fall" "is_fall" s_is_fall f fd) (T : Txt mg) (t_set : mg "set" = none) (c_piece_epochs : Cal P w K mg base 4 "piece_epochs" ["plan"] (sp_pe C))
    (c_is_index : Cal P w K mg base 2 "is_index" ["thing", "many"] (sp_is_index K)) : FnOk P w K mg base CX0 5 f fd ["plan", "thing"] (sp_is_fall K C) := by
  refine F.ok sc_is_fall (fun vs H Q E h => ?_) (fun cdv A outer s H vs Q E hr h => ?_)
  · obtain ⟨_, _, _, _, _, _, rfl, _⟩ := h
    rfl
  obtain ⟨xv, v, pl, sl, ql, el, rfl, pF, ⟨th, hlv⟩, k⟩ := h
  obtain ⟨n, t⟩ := th.ty
  have rl : (rkP pl).length ≤ 40 := by rw [rkP_len]; exact pF.ok.pc
  refine ⟨_, (pss_cons (ps_set (i := 2) sc_is_fall.nd rfl (Or.inr rfl) (pe_cal c_piece_epochs hr (pa_cons (pv 0) pa_nil)))
    (pss_cons (ps_cut (ps_if (PW.pt (pw_or (pt_not (pt_val (pe_callB call_isi' (by rfl) T.isinstance (by decide +kernel) (pa_cons (pv 1) (pa_cons (pe_bltn (v := .ty "list") (by rfl) T.list (by decide +kernel) rfl) pa_nil))))) (pw_or1 (pt_not (pt_val (pe_callB (cr_all rfl) (by rfl) T.all (by decide +kernel) (pa_cons (pe_lc (own := [("piece", 3)]) (g := (gName 3)) (tt := tYes) rfl sc_is_fall.nd (pi_list (pv 1)) (blkOk_by (own := [("piece", 3)]) (N := N_is_fall) (sc := defScope s_is_fall) (by decide +kernel)) (fun _ _ _ _ _ => pg_name (i := 3) sc_is_fall.nd rfl (Or.inl rfl)) (fun _ _ _ _ _ => pts_nil) (fun _ _ _ _ _ => (pe_cal c_is_index hr (pa_cons (pv 3) (pa_cons (pe_callB call_len' (by rfl) T.len (by decide +kernel) (pa_cons (pv 2) pa_nil)) pa_nil))))) pa_nil)))))))
      (pss_one (ps_ret pe_bl))
      pss_nil))
    (pss_cons (ps_if (pt_cmpR op_lt (pe_lenSetA (by rfl) T.len (by rfl) t_set (pv 1)) (pe_callB call_len' (by rfl) T.len (by decide +kernel) (pa_cons (pv 1) pa_nil)) (nomark _))
      (pss_one (ps_ret pe_bl))
      pss_nil)
    (pss_one (ps_ret (pe_cmpR (op_eqD hr.units) (pe_lc (own := [("piece", 3)]) (g := (gName 3)) (tt := tYes) rfl sc_is_fall.nd (pi_list (pv 1)) (blkOk_by (own := [("piece", 3)]) (N := N_is_fall) (sc := defScope s_is_fall) (by decide +kernel)) (fun _ _ _ _ _ => pg_name (i := 3) sc_is_fall.nd rfl (Or.inl rfl)) (fun _ _ _ _ _ => pts_nil) (fun _ _ _ _ _ => (pe_ix ix_seq' (pv 2) (pv 3) (fun _ _ => rfl)))) (pe_slice sl_list' (pv 2) po_none (po_some (pe_callB call_len' (by rfl) T.len (by decide +kernel) (pa_cons (pv 1) pa_nil)))) (nomark _))))))), ?_⟩
  refine ⟨_, rfl, xv, pl, sl, ql, el, rfl, pF, fun l1 H1 s1 n1 h1 => ?_⟩
  refine ⟨fun σ' H' => ∃ a xs, v = .ref a ∧ H a = some (.lst xs) ∧ xs.all (idxB (rkP pl).length) = true ∧ σ' = [some xv, some v, some (.ref l1), none] ∧ Same H H' ∧ H' l1 = some (.lst (ivs (rkP pl))), ?_, ?_⟩
  · refine ⟨_, rfl, v, n, "list", rfl, t.same s1, by decide, _, rfl, ?_⟩
    by_cases c : n = "list"
    · obtain ⟨a, xs, rfl, ha⟩ := ty_lst t c
      have hl := hlv a xs rfl ha
      obtain ⟨_, hy⟩ := th.2 a xs rfl (.inr ha)
      have e : isB n "list" = true := by rw [c]; decide
      rw [e]
      refine ⟨_, rfl, a, rfl, ⟨xs, SqL.of (s1 _ _ ha)⟩, fun D hD => lc_list (K := K) (a := a) (xs := xs) (fun i H' => Same H1 H' ∧ H' D = some (.lst ((xs.take i).map fun y => V.bl (idxB (rkP pl).length y)))) ?_ ?_ ?_ ?_⟩
      · exact ⟨same_new hD, upd_same⟩
      · rintro i H' _ ⟨s2, _⟩
        exact SqL.of (s2 _ _ (s1 _ _ ha))
      · rintro i y H' hx ⟨s2, h2⟩
        obtain ⟨m, ty⟩ := hy y (List.mem_of_getElem? hx)
        have il : i < xs.length := (List.getElem?_eq_some_iff.mp hx).1
        refine ⟨rfl, _, rfl, _, rfl, l1, _, rfl, .inl (s2 _ _ h1), ?_⟩
        rw [ivs_len]
        refine ⟨y, _, m, rfl, ty.same (s1.trans s2), _, h2, ?_, same_mut s2 hD, ?_⟩
        · rw [List.length_map, List.length_take]
          exact szl (by omega)
        · rw [upd_same, List.take_add_one, hx]
          simp
      · rintro H' ⟨s2, h2⟩
        rw [List.take_length] at h2
        have z := k H' (s1.trans s2)
        rw [fallV_at ha] at z
        refine ⟨D, xs.map (idxB (rkP pl).length), rfl, SqL.of (by rw [h2, List.map_map]; rfl), ?_⟩
        have e2 : (xs.map (idxB (rkP pl).length)).all id = xs.all (idxB (rkP pl).length) := by simp
        rw [e2]
        refine ⟨_, rfl, ?_⟩
        cases e3 : xs.all (idxB (rkP pl).length) with
        | true => exact iteF ⟨a, xs, rfl, ha, e3, rfl, s1.trans s2, s2 _ _ h1⟩
        | false =>
          rw [e3] at z
          exact iteT z
    · rw [lst_not n t.mem c]
      have z := k H1 s1
      rw [fallV_not t c] at z
      exact z
  rintro _ H2 ⟨a, xs, rfl, ha, hall, rfl, s2, h2⟩
  have hl := hlv a xs rfl ha
  obtain ⟨ex, hb⟩ := idx_all hall
  have ha2 := s2 _ _ ha
  have ha2' : H2 a = some (.lst (ivs ((xs.map toN).map fun p => ((p : Nat) : Int)))) := by rw [ha2, ← ex]
  have pl' : (xs.map toN).length = xs.length := List.length_map _
  refine ⟨_, rfl, a, _, rfl, ha2', by rw [List.length_map, pl']; omega, fun c hc1 hc2 => ?_⟩
  rw [List.length_map, pl'] at hc1 hc2
  refine ⟨_, rfl, a, _, rfl, .inl ha2, _, _, rfl, rfl, ?_⟩
  have z := fun H' s => k H' s
  rw [fallV_at ha, hall, Bool.true_and] at z
  refine ⟨_, rfl, ite2 (fun y => ?_) (fun y => ?_)⟩
  · have y' : ((c : Nat) : Int) < ((xs.length : Nat) : Int) := of_decide_eq_true y
    have nn : ¬ (xs.map toN).Nodup := fun q => by
      have := hc2.mpr (nodup_cast.mpr q)
      omega
    have e : fallB (rkP pl) (xs.map toN) = false := by
      unfold fallB
      rw [decide_eq_false nn]
      rfl
    rw [e] at z
    exact z H2 s2
  · have y' : ¬ ((c : Nat) : Int) < ((xs.length : Nat) : Int) := fun q => y (decide_eq_true q)
    have nn : (xs.map toN).Nodup := nodup_cast.mp (hc2.mp (by omega))
    refine ⟨_, rfl, a, rfl, ⟨xs, SqL.of ha2⟩, fun D hD => lc_list (K := K) (a := a) (xs := xs) (fun i H' => Same H2 H' ∧ H' D = some (.lst (ivs (((xs.map toN).map (gE (rkP pl))).take i)))) ?_ ?_ ?_ ?_⟩
    · exact ⟨same_new hD, upd_same⟩
    · rintro i H' _ ⟨s3, _⟩
      exact SqL.of (s3 _ _ ha2)
    · rintro i y H' hx ⟨s3, h3⟩
      have il : i < xs.length := (List.getElem?_eq_some_iff.mp hx).1
      have ip : i < (xs.map toN).length := by omega
      have hx' := hx
      rw [ex] at hx'
      have e0 := nvs_get ip
      unfold nvs at e0
      rw [e0] at hx'
      cases hx'
      have hlt := hb _ (List.getElem_mem ip)
      refine ⟨rfl, _, rfl, _, rfl, l1, _, _, _, rfl, rfl, .inl (s3 _ _ h2), atI_nat (ivs_get hlt), _, h3, szl (by rw [ivs_len, List.length_take, List.length_map]; omega), same_mut s3 hD, ?_⟩
      rw [upd_same, List.take_add_one, List.getElem?_map, List.getElem?_eq_getElem ip]
      unfold ivs
      rw [List.map_append]
      show some (HO.lst (_ ++ [V.int (rkP pl)[(xs.map toN)[i]]])) = some (HO.lst (_ ++ [V.int (gE (rkP pl) (xs.map toN)[i])]))
      unfold gE
      rw [List.getD_eq_getElem?_getD, List.getElem?_eq_getElem hlt]
      rfl
    · rintro H3 ⟨s3, h3⟩
      have ha3 := s3 _ _ ha2
      rw [List.take_of_length_le (by rw [List.length_map]; omega)] at h3
      refine ⟨_, rfl, _, rfl, a, _, rfl, .inl ha3, _, rfl, l1, _, rfl, s3 _ _ h2, fun c4 H4 n4 s4 h4 => ?_⟩
      rw [cut_to] at h4
      have h4' : H4 c4 = some (.lst (ivs ((rkP pl).take xs.length))) := by
        rw [h4]
        unfold ivs
        rw [List.map_take]
      refine ⟨_, _, .lst (SqL.of (s4 _ _ h3)) (dp_ints _), .lst (SqL.of h4') (dp_ints _), shl_ints _, shl_ints _, ?_⟩
      rw [eqv_dvs]
      have e : fallB (rkP pl) (xs.map toN) = decide ((xs.map toN).map (gE (rkP pl)) = (rkP pl).take xs.length) := by
        unfold fallB
        rw [decide_eq_true nn, Bool.true_and, pl']
      rw [e] at z
      exact z H4 (s2.trans (s3.trans s4))
end
end Af

set_option Elab.async false
set_option linter.all false
namespace Af
open PySem L2
theorem lawB_iff {es : List Int} {ps : List Nat} : lawB es ps = true ↔ ∀ k (hk : k < ps.length), ps[k] ∉ ps.take k ∧ ∀ j < es.length, gE es j < gE es ps[k] → j ∈ ps.take k := by
  unfold lawB
  rw [List.all_eq_true]
  exact ⟨fun h k hk => (okAt_iff hk).mp (h k (List.mem_range.mpr hk)), fun h k hk => (okAt_iff (List.mem_range.mp hk)).mpr (h k (List.mem_range.mp hk))⟩
theorem mem_take {ps : List Nat} {k j : Nat} : j ∈ ps.take k ↔ ∃ i, i < k ∧ ∃ h : i < ps.length, ps[i] = j := by
  constructor
  · intro m
    obtain ⟨i, hi⟩ := List.mem_iff_getElem?.mp m
    rw [List.getElem?_take] at hi
    by_cases c : i < k
    · rw [if_pos c] at hi
      obtain ⟨h, e⟩ := List.getElem?_eq_some_iff.mp hi
      exact ⟨i, c, h, e⟩
    · rw [if_neg c] at hi
      cases hi
  · rintro ⟨i, c, h, e⟩
    exact List.mem_iff_getElem?.mpr ⟨i, by rw [List.getElem?_take, if_pos c, List.getElem?_eq_getElem h, e]⟩
/-- a barrier behind the first c pieces shuts it -/
def shutB (ps : List Nat) (c : Nat) : Bool := (ps.take c).any fun p => decide (c ≤ p)
theorem shut_same {es es' : List Int} {ps : List Nat} {c : Nat} (so : ∀ i j, i ≤ j → j < es.length → gE es i ≤ gE es j) (ln : es'.length = es.length) (hb : ∀ p ∈ ps, p < es.length) (hc : c ≤ es.length)
    (he : ∀ j < es.length, gE es' j = gE es j + (if c ≤ j then 1 else 0)) (hf : lawB es ps = true) : lawB es' ps = !shutB ps c := by
  have hf' := lawB_iff.mp hf
  have nd := before_nodup fun k hk => (hf' k hk).1
  have e1 : shutB ps c = false ↔ ∀ i, i < c → ∀ h : i < ps.length, ps[i] < c := by
    unfold shutB
    rw [List.any_eq_false]
    constructor
    · intro h i ic il
      have := h ps[i] (mem_take.mpr ⟨i, ic, il, rfl⟩)
      have : ¬ c ≤ ps[i] := fun z => this (decide_eq_true z)
      omega
    · intro h p hp z
      obtain ⟨i, ic, il, rfl⟩ := mem_take.mp hp
      have := h i ic il
      have := of_decide_eq_true z
      omega
  rw [Bool.eq_iff_iff, Bool.not_eq_true', e1, lawB_iff]
  constructor
  · intro h i ic il
    rcases Nat.lt_or_ge ps[i] c with d | d
    · exact d
    · have hp := hb _ (List.getElem_mem il)
      have := sub_len (l1 := List.range c) (l2 := ps.take i) List.nodup_range fun j hj => by
        have jc := List.mem_range.mp hj
        refine (h i il).2 j (by omega) ?_
        rw [he j (by omega), he _ hp, if_neg (by omega), if_pos d]
        have := so j ps[i] (by omega) hp
        omega
      rw [List.length_range, List.length_take] at this
      omega
  · intro h k hk
    refine ⟨(hf' k hk).1, fun j hj hlt => ?_⟩
    rw [ln] at hj
    have hp := hb _ (List.getElem_mem hk)
    rcases Int.lt_or_le (gE es j) (gE es ps[k]) with d | d
    · exact (hf' k hk).2 j hj d
    · rw [he j hj, he _ hp] at hlt
      have jc : j < c := by
        rcases Nat.lt_or_ge j c with x | x
        · exact x
        · rw [if_pos x] at hlt
          split at hlt <;> omega
      have pc : c ≤ ps[k] := by
        rcases Nat.lt_or_ge ps[k] c with x | x
        · rw [if_neg (show ¬ c ≤ ps[k] by omega)] at hlt
          split at hlt <;> omega
        · exact x
      have kc : c ≤ k := by
        rcases Nat.lt_or_ge k c with x | x
        · have := h k x hk
          omega
        · exact x
      have m := all_in (l := ps.take c) (c := c) (take_nodup nd _) (fun x hx => by
        obtain ⟨i, ic, il, rfl⟩ := mem_take.mp hx
        exact h i ic il) (by rw [List.length_take]; omega) jc
      obtain ⟨i, ic, il, e⟩ := mem_take.mp m
      exact mem_take.mpr ⟨i, by omega, il, e⟩
/-- a fall goes on with a piece of the least epoch that is left -/
theorem law_snoc {es : List Int} {ps : List Nat} {p : Nat} (h : lawB es ps = true) (np : p ∉ ps) (low : ∀ j < es.length, j ∉ ps → gE es p ≤ gE es j) : lawB es (ps ++ [p]) = true := by
  rw [lawB_iff] at h ⊢
  intro k hk
  rw [List.length_append, List.length_singleton] at hk
  rcases Nat.lt_or_ge k ps.length with d | d
  · rw [List.getElem_append_left d, List.take_append_of_le_length (by omega)]
    exact h k d
  · have e : k = ps.length := by omega
    subst e
    rw [List.getElem_append_right (Nat.le_refl _)]
    have e2 : (ps ++ [p]).take ps.length = ps := List.take_left
    rw [e2]
    simp only [Nat.sub_self, List.getElem_cons_zero]
    refine ⟨np, fun j hj hlt => ?_⟩
    by_cases m : j ∈ ps
    · exact m
    · have := low j hj m
      omega
end Af

set_option Elab.async false
set_option linter.all false
set_option maxRecDepth 100000
set_option maxHeartbeats 4000000
namespace Af
open PySem L2
theorem gE_get {es : List Int} {j : Nat} (h : j < es.length) : (ivs es)[j]? = some (.int (gE es j)) := by
  rw [ivs_get h]
  unfold gE
  rw [List.getD_eq_getElem?_getD, List.getElem?_eq_getElem h]
  rfl
theorem allP_up {w : Int} : ∀ (l : List Stp) (i : Nat), (allP w i l).Pairwise fun p p' => p.1 ≤ p'.1
  | [], _ => .nil
  | a :: l, i => by
    show (oneP w i a ++ allP w (i + 1) l).Pairwise _
    have one : ∀ p ∈ oneP w i a, p.1 = (i : Int) := fun p hp => by
      cases a with
      | none => cases hp
      | some fw =>
        obtain ⟨f, ws⟩ := fw
        obtain ⟨y, hy, rfl⟩ := List.mem_map.mp hp
        rfl
    refine List.pairwise_append.mpr ⟨?_, allP_up l (i + 1), fun p hp p' hp' => ?_⟩
    · refine List.pairwise_iff_getElem.mpr fun x y hx hy _ => ?_
      rw [one _ (List.getElem_mem hx), one _ (List.getElem_mem hy)]
      exact Int.le_refl _
    · obtain ⟨j, hj1, hj2, _⟩ := allP_in hp'
      rw [one p hp, hj1]
      omega
theorem bars_up (l : List Stp) {a b : Nat} (h : a ≤ b) : bars (l.take a) ≤ bars (l.take b) := by
  unfold bars
  have : l.take a = (l.take b).take a := by rw [List.take_take, Nat.min_eq_left h]
  rw [this]
  exact (List.take_sublist _ _).countP_le
theorem rkP_up (pl : Pl) : ∀ i j, i ≤ j → j < (rkP pl).length → gE (rkP pl) i ≤ gE (rkP pl) j := fun i j ij hj => by
  have hi : i < (rkP pl).length := by omega
  unfold gE
  rw [List.getD_eq_getElem?_getD, List.getD_eq_getElem?_getD, List.getElem?_eq_getElem hi, List.getElem?_eq_getElem hj]
  show (rkP pl)[i] ≤ (rkP pl)[j]
  have pw : (rkP pl).Pairwise (· ≤ ·) := by
    unfold rkP rnk
    refine List.pairwise_map.mpr ((allP_up pl.sts 0).imp fun {p p'} h => ?_)
    have := bars_up pl.sts (a := p.1.toNat) (b := p'.1.toNat) (by omega)
    omega
  rcases Nat.lt_or_ge i j with d | d
  · exact List.pairwise_iff_getElem.mp pw i j hi hj d
  · have e : i = j := by omega
    subst e
    exact Int.le_refl _
theorem fall_law {pl : Pl} {H : Hp} {v : V} : fallV (rkP pl) H v = lawV (rkP pl) H v := by
  cases v with
  | ref a =>
    unfold fallV lawV
    simp only
    split
    · rename_i xs e
      cases c : xs.all (idxB (rkP pl).length) with
      | false => rfl
      | true =>
        rw [Bool.true_and, Bool.true_and]
        exact (falls_same (rkP_up pl) (idx_all c).2).symm
    · rfl
  | _ => rfl
end Af

set_option Elab.async false
set_option linter.all false
set_option maxRecDepth 100000
namespace L2
open PySem PySem.Spec PyProof.Rows
/-! list(range(8, 0, -1)) -/
section
variable {X : Cx}
def tLst3 (ta : TA) : TE := fun σ H Q => ta σ H fun vs H1 => vs = [.int 8, .int 0, .int (-1)] ∧ ∀ q, H1 q = none → Q (.ref q) (upd H1 q (.lst ([8, 7, 6, 5, 4, 3, 2, 1].map V.int)))
theorem pe_listRg3 {a b c : Expr} {ta : TA} {p p2 pos pos2 : Pos} (hg : Gl X "list") (hm : X.mg "list" = none) (hg2 : Gl X "range") (hm2 : X.mg "range" = none) (ha : PA X [a, b, c] ta) (hc : X.calm = true := by rfl)
    (hs : starEach [a, b, c] X.env = (false, eval a X.env) :: starEach [b, c] X.env := by rfl) (hpl : (backTo pos2 (starEach [b, c] X.env)).any (·.1) = false := by rfl)
    (na : starEach [.Call (.Name "range" p2) [a, b, c] [] pos2] X.env = (false, eval (.Call (.Name "range" p2) [a, b, c] [] pos2) X.env) :: starEach [] X.env := by rfl) :
    PE X (.Call (.Name "list" p) [.Call (.Name "range" p2) [a, b, c] [] pos2] [] pos) (tLst3 ta) := by
  refine ⟨fun pins s σ H Q I h => ?_⟩
  have inner : wpAny (model X.prog X.w) X.A (eval (.Call (.Name "range" p2) [a, b, c] [] pos2) X.env) (fun x s' => ∃ r t u v H', x = .ref r ∧ IsRange s'.heap r 8 0 (-1) t u v ∧ Inv X pins σ H' s' ∧ ∀ q, H' q = none → Q (.ref q) (upd H' q (.lst ([8, 7, 6, 5, 4, 3, 2, 1].map V.int)))) X.xe s := by
    refine Call_ (ld_blt I hg2 hm2 boot_range (PyProof.Rows.callWith_type1 (thn (ha.run pos2 pins s σ H _ I h) fun us s1 ⟨vs, H1, I1, r1, q1⟩ => ?_) hs hpl))
    obtain ⟨e, q⟩ := q1
    subst e
    cases r1 with
    | cons r rr =>
      cases rr with
      | cons r' rr =>
        cases rr with
        | cons r'' rr =>
          cases rr
          obtain ⟨t, rfl⟩ := r
          obtain ⟨t', rfl⟩ := r'
          obtain ⟨t'', rfl⟩ := r''
          refine call_range_3 (by decide) ?_ (.inl (PyProof.noPylong_small (by decide +kernel)))
          exact ⟨_, _, _, _, H1, rfl, IsRange.new _ _ _ _ _ _ _, I1.kept (t' := s1.toks) fun b u e => Heap.get?_push_of_some _ e, q⟩
  refine Call_ (ld_blt I hg hm boot_list (PyProof.Rows.callWith_type1 (args_cons (thn inner fun x s1 ⟨r, t, u, v, H1, ex, hr, I1, q⟩ => args_nil ?_) na) na))
  subst ex
  refine call_list_range (n := 8) (I1.ok.hd hc) hr (by decide +kernel) (by decide +kernel) (by decide) fun h' tk acc c' hk e' hi => ?_
  refine ⟨.ref s1.heap.objs.size, upd H1 s1.heap.objs.size (.lst ([8, 7, 6, 5, 4, 3, 2, 1].map V.int)), I1.laid hk (Nat.le_refl _) (show ObjOk X.prog X.w _ _ _ (.lst _) from ⟨?_, acc.toList, c', ?_, ?_⟩), rfl, q _ (I1.hok.fresh (Nat.le_refl _))⟩
  · show 8 ≤ sizeLine
    decide
  · have e : acc.toList.length = 8 := by rw [Array.length_toList]; exact hi.1
    have z := vals_of_get acc.toList (fun m => V.int (8 + (m : Int) * (-1))) fun j u hj => hi.2 j u (by rw [← hj, Array.getElem?_toList])
    rw [e] at z
    exact z
  · rw [Array.toArray_toList]
    exact e'
end
end L2

set_option Elab.async false
set_option linter.all false
set_option maxRecDepth 100000
set_option maxHeartbeats 4000000
namespace Af
open PySem L2
abbrev s_behind_piece : Stmt := top 44
abbrev N_behind_piece : List Str := ["content", "piece", "_", "first", "worths"]
theorem sc_behind_piece : FnScope N_behind_piece ["content", "piece"] (defScope s_behind_piece) := ⟨rfl, rfl, rfl, by decide +kernel, rfl, by decide +kernel, by decide +kernel⟩

abbrev s_overwritten : Stmt := top 43
abbrev N_overwritten : List Str := ["plan", "fall", "content", "pieces", "piece"]
theorem sc_overwritten : FnScope N_overwritten ["plan", "fall"] (defScope s_overwritten) := ⟨rfl, rfl, rfl, by decide +kernel, rfl, by decide +kernel, by decide +kernel⟩

abbrev s_l_left : Stmt := top 58
abbrev N_l_left : List Str := ["_law_plan_here", "_law_some", "_law_parts_here", "_law_found", "_law_one", "_law_index", "_law_first", "_law_worths_here", "_law_k"]
theorem sc_l_left : FnScope N_l_left ["_law_plan_here", "_law_some"] (defScope s_l_left) := ⟨rfl, rfl, rfl, by decide +kernel, rfl, by decide +kernel, by decide +kernel⟩

theorem spl_in {w : Int} : ∀ (r acc : List Int) (st pos : Int), pos = st + (acc.length : Int) → ∀ p ∈ spl w st acc pos r, st ≤ p.1 ∧ p.1 + (p.2.length : Int) ≤ pos + (r.length : Int)
  | [], acc, st, pos, h, p, hp => by
    have e : p = (st, acc) := List.mem_singleton.mp hp
    subst e
    refine ⟨Int.le_refl _, ?_⟩
    show st + (acc.length : Int) ≤ pos + ((0 : Nat) : Int)
    omega
  | x :: r, acc, st, pos, h, p, hp => by
    have le : (((x :: r).length : Nat) : Int) = (r.length : Int) + 1 := by rw [List.length_cons]; rfl
    by_cases c : acc ≠ [] ∧ pos % w = 0
    · rw [spl_cut c] at hp
      rcases List.mem_cons.mp hp with e | hp
      · subst e
        refine ⟨Int.le_refl _, ?_⟩
        show st + (acc.length : Int) ≤ _
        omega
      · obtain ⟨h1, h2⟩ := spl_in r [x] pos (pos + 1) (by show pos + 1 = pos + ((1 : Nat) : Int); rfl) p hp
        omega
    · rw [spl_go c] at hp
      obtain ⟨h1, h2⟩ := spl_in r (acc ++ [x]) st (pos + 1) (by rw [List.length_append]; show pos + 1 = st + ((acc.length + 1 : Nat) : Int); omega) p hp
      omega
theorem allP_fit {w : Int} {n : Nat} : ∀ {l : List Stp} {i : Nat}, (∀ x ∈ l, OkS n x) → ∀ p ∈ allP w i l, 0 ≤ p.2.1 ∧ p.2.1 + (p.2.2.length : Int) ≤ (n : Int)
  | [], _, _, p, hp => by cases hp
  | a :: l, i, h, p, hp => by
    have hp : p ∈ oneP w i a ++ allP w (i + 1) l := hp
    rcases List.mem_append.mp hp with hp | hp
    · have o := h a List.mem_cons_self
      cases a with
      | none => cases hp
      | some fw =>
        obtain ⟨f, ws⟩ := fw
        obtain ⟨o1, o2, o3, _⟩ := o
        obtain ⟨q, hq, rfl⟩ := List.mem_map.mp hp
        obtain ⟨h1, h2⟩ := spl_in ws [] f f (by show f = f + ((0 : Nat) : Int); omega) q hq
        show 0 ≤ q.1 ∧ q.1 + (q.2.length : Int) ≤ (n : Int)
        omega
    · exact allP_fit (fun x hx => h x (List.mem_cons_of_mem _ hx)) p hp
/-- a content behind a piece, behind a fall -/
def behF (c : List Int) (p : Int × (Int × List Int)) : List Int := c.take p.2.1.toNat ++ p.2.2 ++ c.drop (p.2.1.toNat + p.2.2.length)
def pcAt (ps : List (Int × (Int × List Int))) (k : Nat) : Int × (Int × List Int) := ps.getD k (0, (0, []))
def overF (ps : List (Int × (Int × List Int))) (c : List Int) (ls : List Nat) : List Int := ls.foldl (fun c k => behF c (pcAt ps k)) c
theorem behF_len {c : List Int} {p : Int × (Int × List Int)} (h0 : 0 ≤ p.2.1) (h1 : p.2.1 + (p.2.2.length : Int) ≤ (c.length : Int)) : (behF c p).length = c.length := by
  unfold behF
  rw [List.length_append, List.length_append, List.length_take, List.length_drop]
  omega
theorem overF_snoc (ps : List (Int × (Int × List Int))) (c : List Int) (ls : List Nat) (k : Nat) : overF ps c (ls ++ [k]) = behF (overF ps c ls) (pcAt ps k) := by
  unfold overF
  rw [List.foldl_append]
  rfl
theorem overF_len {ps : List (Int × (Int × List Int))} {n : Nat} (hb : ∀ p ∈ ps, 0 ≤ p.2.1 ∧ p.2.1 + (p.2.2.length : Int) ≤ (n : Int)) : ∀ (ls : List Nat) (c : List Int), c.length = n → (∀ k ∈ ls, k < ps.length) → (overF ps c ls).length = n
  | [], c, h, _ => h
  | k :: ls, c, h, hk => by
    have kl : k < ps.length := hk k List.mem_cons_self
    have pm : pcAt ps k ∈ ps := by
      unfold pcAt
      rw [List.getD_eq_getElem?_getD, List.getElem?_eq_getElem kl]
      exact List.getElem_mem kl
    obtain ⟨b1, b2⟩ := hb _ pm
    exact overF_len hb ls (behF c (pcAt ps k)) (by rw [behF_len b1 (by rw [h]; exact b2), h]) fun x hx => hk x (List.mem_cons_of_mem _ hx)
theorem nvs_app (a b : List Nat) : nvs (a ++ b) = nvs a ++ nvs b := by
  unfold nvs ivs
  rw [List.map_append, List.map_append]
theorem nvs_snoc (ps : List Nat) (p : Nat) : nvs (ps ++ [p]) = nvs ps ++ [.int ((p : Nat) : Int)] := by rw [nvs_app]; rfl
theorem nvs_lt {ps : List Nat} {i : Nat} {y : V} (h : (nvs ps)[i]? = some y) : ∃ hi : i < ps.length, y = .int ((ps[i] : Nat) : Int) := by
  have il : i < ps.length := by rw [← nvs_len]; exact (List.getElem?_eq_some_iff.mp h).1
  rw [nvs_get il] at h
  exact ⟨il, (Option.some.inj h).symm⟩
/-- a content, partly overwritten -/
def midF (c : List Int) (n : Nat) (ws : List Int) (j : Nat) : List Int := c.take n ++ ws.take j ++ c.drop (n + j)
theorem midF_set {c : List Int} {n : Nat} {ws : List Int} {j : Nat} (hj : j < ws.length) (hn : n + ws.length ≤ c.length) : (midF c n ws j).set (n + j) ws[j] = midF c n ws (j + 1) := by
  unfold midF
  have l1 : (c.take n ++ ws.take j).length = n + j := by rw [List.length_append, List.length_take, List.length_take]; omega
  rw [List.drop_eq_getElem_cons (show n + j < c.length by omega), List.set_append, if_neg (by omega), l1, Nat.sub_self, List.set_cons_zero, List.take_add_one, List.getElem?_eq_getElem hj, Nat.add_assoc]
  show _ = c.take n ++ (ws.take j ++ [ws[j]]) ++ _
  rw [List.append_assoc, List.append_assoc, List.append_assoc]
  rfl
theorem midF_len {c : List Int} {n : Nat} {ws : List Int} {j : Nat} (hj : j ≤ ws.length) (hn : n + ws.length ≤ c.length) : (midF c n ws j).length = c.length := by
  unfold midF
  rw [List.length_append, List.length_append, List.length_take, List.length_take, List.length_drop]
  omega
theorem ivs_set (c : List Int) (n : Nat) (z : Int) : (ivs c).set n (.int z) = ivs (c.set n z) := by unfold ivs; rw [List.map_set]
theorem cut_fr (xs : List V) (n : Nat) : cutV xs (some (n : Int)) none = xs.drop n := by
  unfold cutV
  have e1 : HT.sIx xs.length 0 (some (n : Int)) = min n xs.length := HT.sIx_nat _ _ n
  have e2 : HT.sIx xs.length xs.length none = xs.length := rfl
  rw [e1, e2]
  by_cases h : n ≤ xs.length
  · rw [Nat.min_eq_left h, List.take_of_length_le (by rw [List.length_drop]; exact Nat.le_refl _)]
  · rw [Nat.min_eq_right (by omega), Nat.sub_self, List.take_zero, List.drop_of_length_le (by omega)]
theorem ivs_take (c : List Int) (n : Nat) : (ivs c).take n = ivs (c.take n) := by unfold ivs; rw [List.map_take]
theorem ivs_drop (c : List Int) (n : Nat) : (ivs c).drop n = ivs (c.drop n) := by unfold ivs; rw [List.map_drop]
theorem ivs_app (a b : List Int) : ivs a ++ ivs b = ivs (a ++ b) := by unfold ivs; rw [List.map_append]
def sp_behind : Sp := fun vs H Q _ => ∃ (ca : Addr) (c : List Int) (x : V) (p : Int × (Int × List Int)), vs = [.ref ca, x] ∧ H ca = some (.tup (ivs c)) ∧ PieceA H x p ∧ 0 ≤ p.2.1 ∧ p.2.1 + (p.2.2.length : Int) ≤ (c.length : Int) ∧ c.length ≤ 1000 ∧ ∀ a H', Same H H' → H' a = some (.tup (ivs (behF c p))) → Q (.ref a) H'
def sp_over (C : Addr) : Sp := fun vs H Q _ => ∃ (x : V) (pl : Pl) (sl ql el b : Addr) (ls : List Nat), vs = [x, .ref b] ∧ PlanF C H x pl sl ql el ∧ H b = some (.lst (nvs ls)) ∧ (∀ k ∈ ls, k < (allP pl.w 0 pl.sts).length) ∧ ls.length ≤ 60 ∧ ∀ a H', Same H H' → H' a = some (.tup (ivs (overF (allP pl.w 0 pl.sts) pl.cs ls))) → Q (.ref a) H'
def sp_left : Sp := fun vs H Q _ => ∃ (a ca sa b : Addr) (sp : Int) (xs : List V) (sts : List Stp) (cs : List Int) (ls : List Nat), vs = [.ref a, .ref b] ∧ H a = some (.tup [.ref ca, .int sp, .ref sa]) ∧ H ca = some (.tup (ivs cs)) ∧ H sa = some (.lst xs) ∧ Paired (StepV H) xs sts ∧ 0 < sp ∧ xs.length ≤ 100 ∧
  (∀ x ∈ sts, OkS cs.length x) ∧ cs.length ≤ 24 ∧ H b = some (.lst (nvs ls)) ∧ (∀ k ∈ ls, k < (allP sp 0 sts).length) ∧ ls.length ≤ 60 ∧ ∀ t H', Same H H' → H' t = some (.tup (ivs (overF (allP sp 0 sts) cs ls))) → Q (.ref t) H'
section
variable {P : Program} {w : World} {K : PySem.W.Frag} {mg : Str → Option Value} {base : Heap}
theorem ok_behind {f : Addr} {fd : FuncData} (F : Fun K "behind_piece" "behind_piece" s_behind_piece f fd) (T : Txt mg) : FnOk P w K mg base CX0 1 f fd ["content", "piece"] sp_behind := by
  refine F.ok sc_behind_piece (fun vs H Q E h => ?_) (fun cdv A outer s H vs Q E hr h => ?_)
  · obtain ⟨_, _, _, _, rfl, _⟩ := h
    rfl
  obtain ⟨ca, c, x, ⟨ix, pf, ws⟩, rfl, hca, ⟨t, b, rfl, ht, hb⟩, h0, h1, cl, k⟩ := h
  have h0 : 0 ≤ pf := h0
  have h1 : pf + (ws.length : Int) ≤ (c.length : Int) := h1
  have hb : H b = some (.tup (ivs ws)) := hb
  obtain ⟨n, rfl⟩ := Int.eq_ofNat_of_zero_le h0
  refine ⟨_, (pss_cons (ps_asg (pv 1) (pg_tup rfl (pgs_cons (pg_name (i := 2) sc_behind_piece.nd rfl (Or.inl rfl)) (pgs_cons (pg_name (i := 3) sc_behind_piece.nd rfl (Or.inl rfl)) (pgs_cons (pg_name (i := 4) sc_behind_piece.nd rfl (Or.inl rfl)) pgs_nil)))))
    (pss_one (ps_ret (pe_op op_catT' (pe_op op_catT' (pe_slice sl_tup' (pv 0) po_none (po_some (pv 3))) (pv 4)) (pe_slice sl_tup' (pv 0) (po_some (pe_op op_add (pv 3) (pe_callB call_len' (by rfl) T.len (by decide +kernel) (pa_cons (pv 4) pa_nil)))) po_none))))), ?_⟩
  refine ⟨_, rfl, t, _, rfl, SqT.of ht, rfl, _, _, rfl, _, _, rfl, _, _, rfl, rfl, ?_⟩
  refine ⟨_, rfl, _, rfl, _, rfl, ca, _, rfl, hca, fun a1 H1 s1 j1 => ?_⟩
  refine ⟨_, rfl, a1, b, _, _, rfl, rfl, j1, s1 _ _ hb, sz ?_, fun a2 H2 s2 j2 => ?_⟩
  · refine Nat.le_trans (Nat.add_le_add (cutV_length _ _ _) (Nat.le_refl _)) ?_
    rw [ivs_len, ivs_len]
    omega
  rw [cut_to, ivs_take, ivs_app] at j2
  have S2 := s1.trans s2
  refine ⟨_, rfl, _, rfl, _, rfl, b, _, rfl, .inr (S2 _ _ hb), _, _, rfl, rfl, _, rfl, ca, _, rfl, S2 _ _ hca, fun a3 H3 s3 j3 => ?_⟩
  rw [ivs_len, show ((n : Nat) : Int) + ((ws.length : Nat) : Int) = ((n + ws.length : Nat) : Int) from rfl, cut_fr, ivs_drop] at j3
  refine ⟨a2, a3, _, _, rfl, rfl, s3 _ _ j2, j3, sz ?_, fun a4 H4 s4 j4 => ?_⟩
  · rw [ivs_len, ivs_len, List.length_append, List.length_take, List.length_drop]
    omega
  rw [ivs_app] at j4
  exact k a4 H4 (S2.trans (s3.trans s4)) j4
theorem ok_over {f C : Addr} {fd : FuncData} (F : Fun K "overwritten" "overwritten" s_overwritten f fd) (T : Txt mg) (TC : PlanC K mg C) (P_base : PropC P w K mg base C "base" (sp_p_base C)) (P_pieces : PropC P w K mg base C "pieces" (sp_p_pieces C))
    (c_behind_piece : Cal P w K mg base 1 "behind_piece" ["content", "piece"] sp_behind) : FnOk P w K mg base CX0 3 f fd ["plan", "fall"] (sp_over C) := by
  refine F.ok sc_overwritten (fun vs H Q E h => ?_) (fun cdv A outer s H vs Q E hr h => ?_)
  · obtain ⟨_, _, _, _, _, _, _, rfl, _⟩ := h
    rfl
  obtain ⟨x, pl, sl, ql, el, b, ls, rfl, pF, hb, lb, ll, k⟩ := h
  have ib := allP_fit (w := pl.w) (i := 0) pF.ok.st
  have c24 := pF.ok.c24
  obtain ⟨pa, ca, xs0, ys0, rfl, pX, hca, hst, hps⟩ := pF.ex
  obtain ⟨⟨dx, fs, hx, _⟩, _⟩ := id pX
  have yl := paired_len hps
  refine ⟨_, (pss_cons (ps_par (i := 2) (j := 3) rfl sc_overwritten.nd rfl rfl (by decide) rfl rfl (pa_cons (pe_propC TC.cl P_base hr (pv 0)) (pa_cons (pe_propC TC.cl P_pieces hr (pv 0)) pa_nil)) (by rfl))
    (pss_cons (ps_for PassesOwn.never rfl (pi_list (pv 1)) (pg_name (i := 4) sc_overwritten.nd rfl (Or.inl rfl))
      (pss_one (ps_set (i := 2) sc_overwritten.nd rfl (Or.inl rfl) (pe_cal c_behind_piece hr (pa_cons (pv 2) (pa_cons (pe_ix ix_seq' (pv 3) (pv 4) (fun _ _ => rfl)) pa_nil))))))
    (pss_one (ps_ret (pv 2))))), ?_⟩
  refine ⟨_, rfl, pa, dx, fs, rfl, hx, pa, ca, sl, ql, el, pl, xs0, ys0, rfl, pX, ?_⟩
  refine ⟨_, rfl, pa, dx, fs, rfl, hx, pa, ca, sl, ql, el, pl, xs0, ys0, rfl, pX, fun l1 H1 s1 n1 h1 => ?_⟩
  refine ⟨_, _, rfl, ?_⟩
  refine ⟨_, rfl, b, rfl, ⟨_, SqL.of (s1 _ _ hb)⟩, for_list (K := K) (a := b) (xs := nvs ls) (fun i σ' H' => ∃ cc v4, σ' = [some (.ref pa), some (.ref b), some (.ref cc), some (.ref l1), v4] ∧ Same H1 H' ∧ H' cc = some (.tup (ivs (overF (allP pl.w 0 pl.sts) pl.cs (ls.take i))))) ?_ ?_ ?_ ?_⟩
  · exact ⟨ca, _, rfl, Same.refl _, s1 _ _ hca⟩
  · rintro i σ' H' _ ⟨_, _, rfl, s2, _⟩
    exact SqL.of (s2 _ _ (s1 _ _ hb))
  · rintro i y σ' H' hy ⟨cc, v4, rfl, s2, h2⟩
    obtain ⟨il, rfl⟩ := nvs_lt hy
    have kl := lb _ (List.getElem_mem il)
    have kl2 : ls[i] < ys0.length := by omega
    obtain ⟨e, he, ep⟩ := paired_get (pieceA_st (s1.trans s2) hps) (List.getElem?_eq_getElem kl2)
    have em := ib _ (List.mem_of_getElem? he)
    have len := overF_len ib (ls.take i) pl.cs rfl fun k hk => lb k (List.mem_of_mem_take hk)
    refine ⟨_, rfl, _, rfl, _, rfl, l1, _, _, _, rfl, rfl, .inl (s2 _ _ h1), atI_nat (List.getElem?_eq_getElem kl2), ?_⟩
    refine ⟨cc, _, _, e, rfl, h2, ep, em.1, by rw [len]; exact em.2, by rw [len]; omega, fun a H2 s3 h3 => ⟨a, _, rfl, s2.trans s3, ?_⟩⟩
    have tk : ls.take (i + 1) = ls.take i ++ [ls[i]] := by rw [List.take_add_one, List.getElem?_eq_getElem il]; rfl
    rw [h3, tk, overF_snoc]
    unfold pcAt
    rw [List.getD_eq_getElem?_getD, he]
    rfl
  · rintro σ' H' ⟨cc, v4, rfl, s2, h2⟩
    rw [nvs_len, List.take_length] at h2
    exact ⟨_, rfl, k cc H' (s1.trans s2) h2⟩
theorem ok_left {f : Addr} {fd : FuncData} (F : Fun K "_law_left" "_law_left" s_l_left f fd) (T : Txt mg) (c_l_parts : Cal P w K mg base 2 "_law_parts" ["_law_plan_here"] sp_partsX) : FnOk P w K mg base CX0 3 f fd ["_law_plan_here", "_law_some"] sp_left := by
  refine F.ok sc_l_left (fun vs H Q E h => ?_) (fun cdv A outer s H vs Q E hr h => ?_)
  · obtain ⟨_, _, _, _, _, _, _, _, _, rfl, _⟩ := h
    rfl
  obtain ⟨a, ca, sa, b, sp, xs, sts, cs, ls, rfl, ha, hca, hsa, hst, hsp, hxl, oks, c24, hb, lb, ll, k⟩ := h
  have ib := allP_fit (w := sp) (i := 0) oks
  have hw : ∀ f ws, some (f, ws) ∈ sts → ws.length ≤ 100 := fun f ws hm => by
    obtain ⟨o1, _, o3, _⟩ := oks _ hm
    omega
  refine ⟨_, (pss_cons (ps_par (i := 2) (j := 3) rfl sc_l_left.nd rfl rfl (by decide) rfl rfl (pa_cons (pe_cal c_l_parts hr (pa_cons (pv 0) pa_nil)) (pa_cons (pe_callTy call_list' (by rfl) T.list (by decide +kernel) (pa_cons (pe_ix ix_seq' (pv 0) pe_int (fun _ _ => rfl)) pa_nil)) pa_nil)) (by rfl))
    (pss_cons (ps_for PassesOwn.never rfl (pi_list (pv 1)) (pg_name (i := 4) sc_l_left.nd rfl (Or.inl rfl))
      (pss_cons (ps_asg (pe_ix ix_seq' (pv 2) (pv 4) (fun _ _ => rfl)) (pg_tup rfl (pgs_cons (pg_name (i := 5) sc_l_left.nd rfl (Or.inl rfl)) (pgs_cons (pg_name (i := 6) sc_l_left.nd rfl (Or.inl rfl)) (pgs_cons (pg_name (i := 7) sc_l_left.nd rfl (Or.inl rfl)) pgs_nil)))))
    (pss_one (ps_for PassesOwn.never rfl (pi_range1 rfl T.range (pa_cons (pe_callB call_len' (by rfl) T.len (by decide +kernel) (pa_cons (pv 7) pa_nil)) pa_nil)) (pg_name (i := 8) sc_l_left.nd rfl (Or.inl rfl))
      (pss_one (ps_asg (pe_ix ix_seq' (pv 7) (pv 8) (fun _ _ => rfl)) (pg_sub (pv 3) (pe_op op_add (pv 6) (pv 8)) set_list)))))))
    (pss_one (ps_ret (pe_callTy call_tuple' (by rfl) T.tuple (by decide +kernel) (pa_cons (pv 3) pa_nil)))))), ?_⟩
  refine ⟨_, rfl, a, ca, sa, sp, xs, sts, rfl, ha, hsa, hst, hsp, hxl, hw, fun l1 H1 ys s1 n1 h1 hp => ?_⟩
  refine ⟨_, rfl, a, _, _, _, rfl, rfl, .inr (s1 _ _ ha), atI_nat (j := 0) rfl, ca, _, rfl, .inr (s1 _ _ hca), fun f0 H2 n2 s2 h2 => ?_⟩
  have yl := paired_len hp
  refine ⟨_, _, rfl, ?_⟩
  refine ⟨_, rfl, b, rfl, ⟨_, SqL.of (s2 _ _ (s1 _ _ hb))⟩, for_list (K := K) (a := b) (xs := nvs ls) (fun i σ' H' => ∃ v4 v5 v6 v7 v8, σ' = [some (.ref a), some (.ref b), some (.ref l1), some (.ref f0), v4, v5, v6, v7, v8] ∧ Same H1 H' ∧ H' f0 = some (.lst (ivs (overF (allP sp 0 sts) cs (ls.take i))))) ?_ ?_ ?_ ?_⟩
  · exact ⟨_, _, _, _, _, rfl, s2, h2⟩
  · rintro i σ' H' _ ⟨_, _, _, _, _, rfl, s3, _⟩
    exact SqL.of (s3 _ _ (s1 _ _ hb))
  · rintro i y σ' H3 hy ⟨v4, v5, v6, v7, v8, rfl, s3, h3⟩
    obtain ⟨il, rfl⟩ := nvs_lt hy
    have kl := lb _ (List.getElem_mem il)
    have kl2 : ls[i] < ys.length := by omega
    obtain ⟨⟨ix, pf, ws⟩, he, t, b', ey, ht, hb'⟩ := paired_get (pieceA_st s3 hp) (List.getElem?_eq_getElem kl2)
    have em := ib _ (List.mem_of_getElem? he)
    have e0 : 0 ≤ pf := em.1
    have e1 : pf + (ws.length : Int) ≤ (cs.length : Int) := em.2
    have hb' : H3 b' = some (.tup (ivs ws)) := hb'
    obtain ⟨n, rfl⟩ := Int.eq_ofNat_of_zero_le e0
    have len := overF_len ib (ls.take i) cs rfl fun k hk => lb k (List.mem_of_mem_take hk)
    have hcl : n + ws.length ≤ (overF (allP sp 0 sts) cs (ls.take i)).length := by rw [len]; omega
    generalize hc : overF (allP sp 0 sts) cs (ls.take i) = c at h3 len hcl
    refine ⟨_, rfl, _, rfl, l1, _, _, _, rfl, rfl, .inl (s3 _ _ h1), atI_nat (List.getElem?_eq_getElem kl2), ?_⟩
    rw [ey]
    refine ⟨t, _, rfl, SqT.of ht, rfl, _, _, rfl, _, _, rfl, _, _, rfl, rfl, ?_⟩
    refine ⟨_, rfl, b', _, rfl, .inr hb', _, rfl, by rw [ivs_len]; omega, by rw [ivs_len]; omega, for_range (lo := 0) (fun j σ' H' => ∃ v8, σ' = [some (.ref a), some (.ref b), some (.ref l1), some (.ref f0), some (.int ((ls[i] : Nat) : Int)), some (.int ix), some (.int (n : Nat)), some (.ref b'), v8] ∧ Same H1 H' ∧ H' b' = some (.tup (ivs ws)) ∧ H' f0 = some (.lst (ivs (midF c n ws j)))) ?_ ?_ ?_⟩
    · refine ⟨_, rfl, s3, hb', ?_⟩
      rw [h3]
      unfold midF
      rw [List.take_zero, List.append_nil, Nat.add_zero, List.take_append_drop]
    · rintro j σ' H4 hj ⟨v8, rfl, s4, hb4, h4⟩
      rw [ivs_len, Int.toNat_natCast] at hj
      have hj : j < ws.length := hj
      have bf : b' ≠ f0 := fun e => by rw [e, h4] at hb4; cases hb4
      refine ⟨_, rfl, _, rfl, b', _, _, _, rfl, rfl, .inr hb4, at_of (Int.zero_add _) (ivs_get hj), ?_⟩
      refine ⟨_, rfl, _, rfl, _, rfl, _, _, rfl, rfl, f0, _, _, n + j, rfl, rfl, h4, ?_, ?_⟩
      · unfold ixN
        rw [if_pos (by omega), if_pos (by rw [ivs_len, midF_len (Nat.le_of_lt hj) hcl]; omega)]
        congr 1
        omega
      · refine ⟨_, rfl, same_mut s4 n2, by rw [upd_ne bf]; exact hb4, ?_⟩
        rw [upd_same, ivs_set, midF_set hj hcl]
    · rintro σ' H4 ⟨v8, rfl, s4, hb4, h4⟩
      rw [ivs_len, Int.toNat_natCast] at h4
      refine ⟨_, _, _, _, _, rfl, s4, ?_⟩
      have tk : ls.take (i + 1) = ls.take i ++ [ls[i]] := by rw [List.take_add_one, List.getElem?_eq_getElem il]; rfl
      rw [h4, tk, overF_snoc, hc]
      unfold pcAt
      rw [List.getD_eq_getElem?_getD, he]
      show some (HO.lst (ivs (midF c n ws ws.length))) = some (HO.lst (ivs (c.take (((n : Nat) : Int)).toNat ++ ws ++ c.drop ((((n : Nat) : Int)).toNat + ws.length))))
      unfold midF
      rw [List.take_length, Int.toNat_natCast]
  · rintro σ' H3 ⟨v4, v5, v6, v7, v8, rfl, s3, h3⟩
    rw [nvs_len, List.take_length] at h3
    exact ⟨_, rfl, f0, _, rfl, .inl h3, fun t H4 s4 h4 => k t H4 (s1.trans (s3.trans s4)) h4⟩
end
end Af

set_option Elab.async false
set_option linter.all false
set_option maxRecDepth 100000
set_option maxHeartbeats 4000000
namespace Af
open PySem L2
abbrev s_check_fall : Stmt := top 42
abbrev N_check_fall : List Str := ["plan", "fall"]
theorem sc_check_fall : FnScope N_check_fall ["plan", "fall"] (defScope s_check_fall) := ⟨rfl, rfl, rfl, by decide +kernel, rfl, by decide +kernel, by decide +kernel⟩

abbrev s_content_after : Stmt := top 41
abbrev N_content_after : List Str := ["plan", "fall"]
theorem sc_content_after : FnScope N_content_after ["plan", "fall"] (defScope s_content_after) := ⟨rfl, rfl, rfl, by decide +kernel, rfl, by decide +kernel, by decide +kernel⟩

theorem idx_natP {n p : Nat} (h : p < n) : idxB (n : Int) (.int ((p : Nat) : Int)) = true := by
  show (decide ((0 : Int) ≤ (p : Int)) && decide ((p : Int) < (n : Int))) = true
  rw [decide_eq_true (by omega), decide_eq_true (by omega)]
  rfl
/-- a fall of a plan, as things -/
structure FlV (C : Addr) (H : Hp) (x : V) (pl : Pl) (sl ql el b : Addr) (ls : List Nat) : Prop where
  pF : PlanF C H x pl sl ql el
  hb : H b = some (.lst (nvs ls))
  lb : ∀ p ∈ ls, p < (rkP pl).length
  lw : lawB (rkP pl) ls = true
  ll : ls.length ≤ 60
theorem FlV.same {C : Addr} {H H' : Hp} {x : V} {pl : Pl} {sl ql el b : Addr} {ls : List Nat} (f : FlV C H x pl sl ql el b ls) (s : Same H H') : FlV C H' x pl sl ql el b ls := ⟨f.pF.same s, s _ _ f.hb, f.lb, f.lw, f.ll⟩
def sp_check_fall (C : Addr) : Sp := fun vs H Q _ => ∃ (x : V) (pl : Pl) (sl ql el b : Addr) (ls : List Nat), vs = [x, .ref b] ∧ FlV C H x pl sl ql el b ls ∧ ∀ H', Same H H' → Q .non H'
def sp_content (C : Addr) : Sp := fun vs H Q _ => ∃ (x : V) (pl : Pl) (sl ql el b : Addr) (ls : List Nat), vs = [x, .ref b] ∧ FlV C H x pl sl ql el b ls ∧ ∀ a H', Same H H' → H' a = some (.tup (ivs (overF (allP pl.w 0 pl.sts) pl.cs ls))) → Q (.ref a) H'
section
variable {P : Program} {w : World} {K : PySem.W.Frag} {mg : Str → Option Value} {base : Heap}
theorem ok_check_fall {f C : Addr} {fd : FuncData} (F : Fun K "check_fall" "check_fall" s_check_fall f fd) (T : Txt mg) (c_is_fall : Cal P w K mg base 5 "is_fall" ["plan", "thing"] (sp_is_fall K C)) : FnOk P w K mg base CX0 6 f fd ["plan", "fall"] (sp_check_fall C) := by
  refine F.ok sc_check_fall (fun vs H Q E h => ?_) (fun cdv A outer s H vs Q E hr h => ?_)
  · obtain ⟨_, _, _, _, _, _, _, rfl, _⟩ := h
    rfl
  obtain ⟨x, pl, sl, ql, el, b, ls, rfl, ⟨pF, hb, lb, lw, ll⟩, k⟩ := h
  refine ⟨_, (pss_one (ps_if (pt_not (pt_val (pe_cal c_is_fall hr (pa_cons (pv 0) (pa_cons (pv 1) pa_nil)))))
      (pss_one ps_never)
      pss_nil)), ?_⟩
  have ob : Ob K H (.ref b) := ⟨th_lst hb (by rw [nvs_len]; omega) fun y hy => by
    obtain ⟨z, _, rfl⟩ := List.mem_map.mp hy
    exact th_int, fun a xs e h => by
    cases e
    rw [hb] at h
    cases h
    rw [nvs_len]
    omega⟩
  refine ⟨_, rfl, _, rfl, x, .ref b, pl, sl, ql, el, rfl, pF, ob, fun H1 s1 => ⟨_, rfl, ?_⟩⟩
  have e : fallV (rkP pl) H (.ref b) = true := by
    rw [fallV_at hb]
    have e1 : (nvs ls).all (idxB ((rkP pl).length)) = true := List.all_eq_true.mpr fun y hy => by
      obtain ⟨z, hz, rfl⟩ := List.mem_map.mp hy
      obtain ⟨p, hp, rfl⟩ := List.mem_map.mp hz
      exact idx_natP (lb p hp)
    have e2 : (nvs ls).map toN = ls := by
      unfold nvs ivs
      rw [List.map_map, List.map_map]
      conv => rhs; rw [← List.map_id ls]
      rfl
    rw [e1, e2, ← falls_same (rkP_up pl) lb, lw]
    rfl
  rw [e]
  exact iteF (k H1 s1)
theorem ok_content {f C : Addr} {fd : FuncData} (F : Fun K "content_after" "content_after" s_content_after f fd) (T : Txt mg) (c_check_fall : Cal P w K mg base 6 "check_fall" ["plan", "fall"] (sp_check_fall C)) (c_overwritten : Cal P w K mg base 3 "overwritten" ["plan", "fall"] (sp_over C)) : FnOk P w K mg base CX0 7 f fd ["plan", "fall"] (sp_content C) := by
  refine F.ok sc_content_after (fun vs H Q E h => ?_) (fun cdv A outer s H vs Q E hr h => ?_)
  · obtain ⟨_, _, _, _, _, _, _, rfl, _⟩ := h
    rfl
  obtain ⟨x, pl, sl, ql, el, b, ls, rfl, fl, k⟩ := h
  refine ⟨_, (pss_cons (ps_expr (pe_cal c_check_fall hr (pa_cons (pv 0) (pa_cons (pv 1) pa_nil))))
    (pss_one (ps_ret (pe_cal c_overwritten hr (pa_cons (pv 0) (pa_cons (pv 1) pa_nil)))))), ?_⟩
  refine ⟨_, rfl, _, rfl, x, pl, sl, ql, el, b, ls, rfl, fl, fun H1 s1 => ?_⟩
  have fl1 := fl.same s1
  exact ⟨_, rfl, _, rfl, x, pl, sl, ql, el, b, ls, rfl, fl1.pF, fl1.hb, fun p hp => by have := fl1.lb p hp; rwa [rkP_len] at this, fl1.ll, fun a H2 s2 h2 => k a H2 (s1.trans s2) h2⟩
end
end Af

set_option Elab.async false
set_option linter.all false
set_option maxRecDepth 100000
set_option maxHeartbeats 4000000
namespace Af
open PySem L2
abbrev s_Plan_with_step : Stmt := inClass (top 26) 7
abbrev N_Plan_with_step : List Str := ["self", "index", "step"]
theorem sc_Plan_with_step : FnScope N_Plan_with_step ["self", "index", "step"] (defScope s_Plan_with_step) := ⟨rfl, rfl, rfl, by decide +kernel, rfl, by decide +kernel, by decide +kernel⟩

abbrev s_Plan_without_step : Stmt := inClass (top 26) 8
abbrev N_Plan_without_step : List Str := ["self", "index"]
theorem sc_Plan_without_step : FnScope N_Plan_without_step ["self", "index"] (defScope s_Plan_without_step) := ⟨rfl, rfl, rfl, by decide +kernel, rfl, by decide +kernel, by decide +kernel⟩

theorem oneP_len (w : Int) (i j : Nat) : ∀ a : Stp, (oneP w i a).length = (oneP w j a).length
  | none => rfl
  | some (f, ws) => by
    show (List.map _ _).length = (List.map _ _).length
    rw [List.length_map, List.length_map]
theorem allP_len (w : Int) : ∀ (l : List Stp) (i j : Nat), (allP w i l).length = (allP w j l).length
  | [], _, _ => rfl
  | a :: l, i, j => by
    show (oneP w i a ++ allP w (i + 1) l).length = (oneP w j a ++ allP w (j + 1) l).length
    rw [List.length_append, List.length_append, oneP_len w i j, allP_len w l (i + 1) (j + 1)]
theorem OkP.with0 {pl : Pl} (o : OkP pl) (h : pl.sts.length ≤ 39) : OkP ⟨pl.cs, pl.w, none :: pl.sts⟩ := by
  refine ⟨o.c1, o.c24, o.cb, o.w1, o.w24, fun u hu => ?_, ?_, ?_⟩
  · rcases List.mem_cons.mp hu with rfl | hu
    · exact True.intro
    · exact o.st u hu
  · show pl.sts.length + 1 ≤ 40
    omega
  · show (allP pl.w 1 pl.sts).length ≤ 40
    rw [allP_len pl.w pl.sts 1 0]
    exact o.pc
theorem OkP.tail0 {cs : List Int} {w : Int} {sts : List Stp} (o : OkP ⟨cs, w, none :: sts⟩) : OkP ⟨cs, w, sts⟩ := by
  refine ⟨o.c1, o.c24, o.cb, o.w1, o.w24, fun u hu => o.st u (List.mem_cons_of_mem _ hu), ?_, ?_⟩
  · have : sts.length + 1 ≤ 40 := o.sl
    show sts.length ≤ 40
    omega
  · have : (allP w 1 sts).length ≤ 40 := o.pc
    rw [allP_len w sts 1 0] at this
    exact this
theorem cut_fr0 (xs : List V) : cutV xs (some 0) none = xs := by
  rw [show (0 : Int) = ((0 : Nat) : Int) from rfl, cut_fr, List.drop_zero]
theorem cut_fr1 (x : V) (xs : List V) : cutV (x :: xs) (some 1) none = xs := by
  rw [show (1 : Int) = ((1 : Nat) : Int) from rfl, cut_fr]
  rfl
theorem cut_to0 (xs : List V) : cutV xs none (some 0) = [] := by
  rw [show (0 : Int) = ((0 : Nat) : Int) from rfl, cut_to, List.take_zero]
def sp_wi (C : Addr) : Sp := fun vs H Q _ => ∃ (x : V) (pl : Pl) (sl ql el : Addr), vs = [x, .int 0, .non] ∧ PlanF C H x pl sl ql el ∧ pl.sts.length ≤ 39 ∧ ∀ y H', Same H H' → PlanN C H H' y ⟨pl.cs, pl.w, none :: pl.sts⟩ → Q y H'
def sp_wo (C : Addr) : Sp := fun vs H Q _ => ∃ (x : V) (cs : List Int) (w : Int) (sts : List Stp) (sl ql el : Addr), vs = [x, .int 0] ∧ PlanF C H x ⟨cs, w, none :: sts⟩ sl ql el ∧ ∀ y H', Same H H' → PlanN C H H' y ⟨cs, w, sts⟩ → Q y H'
section
variable {P : Program} {w : World} {K : PySem.W.Frag} {mg : Str → Option Value} {base : Heap}
theorem ok_wi {f C fI : Addr} {fd fdI : FuncData} (F : Fun K "with_step" "Plan.with_step" s_Plan_with_step f fd) (T : Txt mg) (TC : PlanC K mg C) (M_Plan : Mk K C fI)
    (c_is_index : Cal P w K mg base 2 "is_index" ["thing", "many"] (sp_is_index K)) (c_is_step : Cal P w K mg base 4 "is_step" ["cells", "thing"] (sp_is_step K))
    (G_Plan : FnOk P w K mg base CX0 6 fI fdI ["self", "base", "width", "steps"] (sp_initX C)) (b_Plan : Binds K fdI ["self", "base", "width", "steps"] []) : FnOk P w K mg base CX0 8 f fd ["self", "index", "step"] (sp_wi C) := by
  refine F.ok sc_Plan_with_step (fun vs H Q E h => ?_) (fun cdv A outer s H vs Q E hr h => ?_)
  · obtain ⟨_, _, _, _, _, rfl, _⟩ := h
    rfl
  obtain ⟨x, pl, sl, ql, el, rfl, px, h39, k⟩ := h
  refine ⟨_, (pss_cons (ps_if (pt_not (pt_val (pe_cal c_is_index hr (pa_cons (pv 1) (pa_cons (pe_op op_add (pe_callB call_len' (by rfl) T.len (by decide +kernel) (pa_cons (pe_fld (pv 0) rfl) pa_nil)) pe_int) pa_nil)))))
      (pss_one ps_never)
      pss_nil)
    (pss_cons (ps_if (pt_not (pt_val (pe_cal c_is_step hr (pa_cons (pe_callB call_len' (by rfl) T.len (by decide +kernel) (pa_cons (pe_fld (pv 0) rfl) pa_nil)) (pa_cons (pv 2) pa_nil)))))
      (pss_one ps_never)
      pss_nil)
    (pss_one (ps_ret (pe_make M_Plan G_Plan hr rfl TC.mgC b_Plan .nil pass0 (pa_cons (pe_fld (pv 0) rfl) (pa_cons (pe_fld (pv 0) rfl) (pa_cons (pe_op op_cat' (pe_op op_cat' (pe_slice sl_list' (pe_fld (pv 0) rfl) po_none (po_some (pv 1))) (pe_lst' (pa_cons (pv 2) pa_nil))) (pe_slice sl_list' (pe_fld (pv 0) rfl) (po_some (pv 1)) po_none)) pa_nil)))))))), ?_⟩
  obtain ⟨a, ca, xs, ys, rfl, ⟨⟨dx, fs, hx, hB, hW, hS, hP, hE, hN, hM⟩, h1, h2, h3⟩, h4, h5, h6⟩ := px.ex
  have xl := paired_len h5
  have ok' := px.ok.with0 h39
  refine ⟨_, rfl, _, rfl, a, C, dx, fs, _, rfl, hx, TC.cl, TC.nS, hS, sl, xs, rfl, .inl h1, _, _, rfl, rfl, _, _, "int", rfl, ⟨.int 0, by decide, fun _ _ _ e => by cases e⟩, ?_⟩
  refine ⟨_, rfl, ?_⟩
  have ei : idxB ((xs.length : Int) + 1) (.int 0) = true := by
    show (decide ((0 : Int) ≤ 0) && decide ((0 : Int) < (xs.length : Int) + 1)) = true
    rw [decide_eq_true (by omega), decide_eq_true (by omega)]
    rfl
  rw [ei]
  refine iteF ?_
  refine ⟨_, rfl, a, C, dx, fs, _, rfl, hx, TC.cl, TC.nB, hB, ca, _, rfl, .inr h4, _, rfl, _, .non, rfl, th_non, fun H1 s1 => ⟨_, rfl, ?_⟩⟩
  have e4 : stepB H ((ivs pl.cs).length : Nat) .non = true := rfl
  rw [e4]
  refine iteF ?_
  have hx1 := s1 _ _ hx
  refine ⟨_, rfl, a, C, dx, fs, _, rfl, hx1, TC.cl, TC.nB, hB, _, rfl, a, C, dx, fs, _, rfl, hx1, TC.cl, TC.nW, hW, ?_⟩
  refine ⟨_, rfl, a, C, dx, fs, _, rfl, hx1, TC.cl, TC.nS, hS, _, rfl, _, rfl, sl, xs, rfl, s1 _ _ h1, fun c1 H2 n2 s2 g2 => ?_⟩
  refine ⟨_, rfl, szr, fun c2 H3 n3 s3 g3 => ⟨c1, c2, _, _, rfl, rfl, s3 _ _ g2, g3, ?_, fun c3 H4 n4 s4 g4 => ?_⟩⟩
  · rw [cut_to0]
    exact sz (by decide)
  have S4 := s1.trans (s2.trans (s3.trans s4))
  refine ⟨_, rfl, a, C, dx, fs, _, rfl, S4 _ _ hx, TC.cl, TC.nS, hS, _, rfl, _, rfl, sl, xs, rfl, S4 _ _ h1, fun c4 H5 n5 s5 g5 => ?_⟩
  refine ⟨c3, c4, _, _, rfl, rfl, s5 _ _ g4, g5, ?_, fun c5 H6 n6 s6 g6 => ?_⟩
  · rw [cut_to0, cut_fr0]
    exact sz (by show 1 + xs.length ≤ 100000; omega)
  have S6 := S4.trans (s5.trans s6)
  rw [cut_to0, cut_fr0] at g6
  have stI : Paired (StepV H6) (([] ++ [V.non]) ++ xs) (none :: pl.sts) := steps_same S6 (.cons rfl h5)
  intro y dy hy hdy ndy
  have s0 : Same H6 (upd (upd H6 dy (.own y)) y (.ins C dy [])) := fun b o e => by
    rw [upd_ne (ne_of_none e hy), upd_ne (ne_of_none e hdy)]
    exact e
  exact made_outW (K := K) (pl := ⟨pl.cs, pl.w, none :: pl.sts⟩) rfl (S6.free hy) (S6.trans s0) upd_same (s0 _ _ (S6 _ _ h4)) (s0 _ _ g6) (steps_same s0 stI) ok' fun H' s' n => ⟨rfl, k _ H' s' n⟩
theorem ok_wo {f C fI : Addr} {fd fdI : FuncData} (F : Fun K "without_step" "Plan.without_step" s_Plan_without_step f fd) (T : Txt mg) (TC : PlanC K mg C) (M_Plan : Mk K C fI)
    (c_is_index : Cal P w K mg base 2 "is_index" ["thing", "many"] (sp_is_index K))
    (G_Plan : FnOk P w K mg base CX0 6 fI fdI ["self", "base", "width", "steps"] (sp_initX C)) (b_Plan : Binds K fdI ["self", "base", "width", "steps"] []) : FnOk P w K mg base CX0 8 f fd ["self", "index"] (sp_wo C) := by
  refine F.ok sc_Plan_without_step (fun vs H Q E h => ?_) (fun cdv A outer s H vs Q E hr h => ?_)
  · obtain ⟨_, _, _, _, _, _, _, rfl, _⟩ := h
    rfl
  obtain ⟨x, cs, w, sts, sl, ql, el, rfl, px, k⟩ := h
  refine ⟨_, (pss_cons (ps_if (pt_not (pt_val (pe_cal c_is_index hr (pa_cons (pv 1) (pa_cons (pe_callB call_len' (by rfl) T.len (by decide +kernel) (pa_cons (pe_fld (pv 0) rfl) pa_nil)) pa_nil)))))
      (pss_one ps_never)
      pss_nil)
    (pss_one (ps_ret (pe_make M_Plan G_Plan hr rfl TC.mgC b_Plan .nil pass0 (pa_cons (pe_fld (pv 0) rfl) (pa_cons (pe_fld (pv 0) rfl) (pa_cons (pe_op op_cat' (pe_slice sl_list' (pe_fld (pv 0) rfl) po_none (po_some (pv 1))) (pe_slice sl_list' (pe_fld (pv 0) rfl) (po_some (pe_op op_add (pv 1) pe_int)) po_none)) pa_nil))))))), ?_⟩
  obtain ⟨a, ca, xs, ys, rfl, ⟨⟨dx, fs, hx, hB, hW, hS, hP, hE, hN, hM⟩, h1, h2, h3⟩, h4, h5, h6⟩ := px.ex
  have xl := paired_len h5
  have ok' := px.ok.tail0
  have sl40 := px.ok.sl
  obtain ⟨x0, xt, rfl, h5t⟩ : ∃ x0 xt, xs = x0 :: xt ∧ Paired (StepV H) xt sts := by
    cases h5 with
    | cons r t => exact ⟨_, _, rfl, t⟩
  have xl : xt.length = sts.length := paired_len h5t
  have sl40 : sts.length + 1 ≤ 40 := sl40
  refine ⟨_, rfl, _, rfl, a, C, dx, fs, _, rfl, hx, TC.cl, TC.nS, hS, sl, _, rfl, .inl h1, _, _, "int", rfl, ⟨.int 0, by decide, fun _ _ _ e => by cases e⟩, ?_⟩
  refine ⟨_, rfl, ?_⟩
  have ei : idxB (((x0 :: xt).length : Nat) : Int) (.int 0) = true := by
    show (decide ((0 : Int) ≤ 0) && decide ((0 : Int) < ((xt.length + 1 : Nat) : Int))) = true
    rw [decide_eq_true (by omega), decide_eq_true (by omega)]
    rfl
  rw [ei]
  refine iteF ?_
  refine ⟨_, rfl, a, C, dx, fs, _, rfl, hx, TC.cl, TC.nB, hB, _, rfl, a, C, dx, fs, _, rfl, hx, TC.cl, TC.nW, hW, ?_⟩
  refine ⟨_, rfl, a, C, dx, fs, _, rfl, hx, TC.cl, TC.nS, hS, _, rfl, _, rfl, sl, _, rfl, h1, fun c1 H2 n2 s2 g2 => ?_⟩
  refine ⟨_, rfl, a, C, dx, fs, _, rfl, s2 _ _ hx, TC.cl, TC.nS, hS, _, rfl, _, _, rfl, rfl, _, rfl, sl, _, rfl, s2 _ _ h1, fun c4 H5 n5 s5 g5 => ?_⟩
  rw [cut_to0] at g2
  rw [show (0 : Int) + 1 = 1 from rfl, cut_fr1] at g5
  refine ⟨c1, c4, _, _, rfl, rfl, s5 _ _ g2, g5, ?_, fun c5 H6 n6 s6 g6 => ?_⟩
  · exact sz (by show 0 + xt.length ≤ 100000; omega)
  have S6 := s2.trans (s5.trans s6)
  have g6 : H6 c5 = some (.lst xt) := g6
  intro y dy hy hdy ndy
  have s0 : Same H6 (upd (upd H6 dy (.own y)) y (.ins C dy [])) := fun b o e => by
    rw [upd_ne (ne_of_none e hy), upd_ne (ne_of_none e hdy)]
    exact e
  exact made_outW (K := K) (pl := ⟨cs, w, sts⟩) rfl (S6.free hy) (S6.trans s0) upd_same (s0 _ _ (S6 _ _ h4)) (s0 _ _ g6) (steps_same s0 (steps_same S6 h5t)) ok' fun H' s' n => ⟨rfl, k _ H' s' n⟩
end
end Af

set_option Elab.async false
set_option linter.all false
set_option maxRecDepth 100000
set_option maxHeartbeats 4000000
namespace Af
open PySem PySem.Spec PyProof.Rows L2
/-! data with dicts within, their keys ints and texts; its repr -/
def keyD : L2.Key → PyData
  | .inl i => .int i
  | .inr x => .str x
mutual
inductive Dx (K : PySem.W.Frag) (H : Hp) : V → PyData → Prop
  | non : Dx K H .non .none
  | bl (b : Bool) : Dx K H (.bl b) (.bool b)
  | int (i : Int) : Dx K H (.int i) (.int i)
  | str (x : Str) : Dx K H (.str x) (.str x)
  | lst {a : Addr} {xs : List V} {ds : List PyData} : H a = some (.lst xs) → DxAll K H xs ds → Dx K H (.ref a) (.list ds)
  | tup {a : Addr} {xs : List V} {ds : List PyData} : H a = some (.tup xs) → DxAll K H xs ds → Dx K H (.ref a) (.tuple ds)
  | dic {a : Addr} {rows : List (L2.Key × V)} {kvs : List (PyData × PyData)} : H a = some (.dK rows) → DxKv K H rows kvs → Dx K H (.ref a) (.dict kvs)
inductive DxAll (K : PySem.W.Frag) (H : Hp) : List V → List PyData → Prop
  | nil : DxAll K H [] []
  | cons {v : V} {vs : List V} {d : PyData} {ds : List PyData} : Dx K H v d → DxAll K H vs ds → DxAll K H (v :: vs) (d :: ds)
inductive DxKv (K : PySem.W.Frag) (H : Hp) : List (L2.Key × V) → List (PyData × PyData) → Prop
  | nil : DxKv K H [] []
  | cons {k : L2.Key} {v : V} {rows : List (L2.Key × V)} {d : PyData} {kvs : List (PyData × PyData)} : Dx K H v d → DxKv K H rows kvs → DxKv K H ((k, v) :: rows) ((keyD k, d) :: kvs)
end
mutual
theorem Dx.of {K : PySem.W.Frag} {H : Hp} : ∀ {v : V} {d : PyData}, Dq K H v d → Dx K H v d
  | _, _, .non => .non
  | _, _, .bl b => .bl b
  | _, _, .int i => .int i
  | _, _, .str x => .str x
  | _, _, .lst e t => .lst e (DxAll.of t)
  | _, _, .tup e t => .tup e (DxAll.of t)
  | _, _, .dic e => .dic e .nil
theorem DxAll.of {K : PySem.W.Frag} {H : Hp} : ∀ {v : List V} {d : List PyData}, DqAll K H v d → DxAll K H v d
  | _, _, .nil => .nil
  | _, _, .cons h t => .cons (Dx.of h) (DxAll.of t)
end
mutual
theorem Dx.same {K : PySem.W.Frag} {H H' : Hp} (s : Same H H') : ∀ {v : V} {d : PyData}, Dx K H v d → Dx K H' v d
  | _, _, .non => .non
  | _, _, .bl b => .bl b
  | _, _, .int i => .int i
  | _, _, .str x => .str x
  | _, _, .lst e t => .lst (s _ _ e) (DxAll.same s t)
  | _, _, .tup e t => .tup (s _ _ e) (DxAll.same s t)
  | _, _, .dic e t => .dic (s _ _ e) (DxKv.same s t)
theorem DxAll.same {K : PySem.W.Frag} {H H' : Hp} (s : Same H H') : ∀ {v : List V} {d : List PyData}, DxAll K H v d → DxAll K H' v d
  | _, _, .nil => .nil
  | _, _, .cons h t => .cons (Dx.same s h) (DxAll.same s t)
theorem DxKv.same {K : PySem.W.Frag} {H H' : Hp} (s : Same H H') : ∀ {v : List (L2.Key × V)} {d : List (PyData × PyData)}, DxKv K H v d → DxKv K H' v d
  | _, _, .nil => .nil
  | _, _, .cons h t => .cons (Dx.same s h) (DxKv.same s t)
end
theorem DxAll.len {K : PySem.W.Frag} {H : Hp} : ∀ {v : List V} {d : List PyData}, DxAll K H v d → v.length = d.length
  | _, _, .nil => rfl
  | _, _, .cons _ t => by rw [List.length_cons, List.length_cons, t.len]
theorem DxKv.len {K : PySem.W.Frag} {H : Hp} : ∀ {v : List (L2.Key × V)} {d : List (PyData × PyData)}, DxKv K H v d → v.length = d.length
  | _, _, .nil => rfl
  | _, _, .cons _ t => by rw [List.length_cons, List.length_cons, t.len]
theorem DxAll.at {K : PySem.W.Frag} {H : Hp} : ∀ {xs : List V} {ds : List PyData}, DxAll K H xs ds → ∀ {i : Nat} {y : V}, xs[i]? = some y → ∃ d, ds[i]? = some d ∧ Dx K H y d
  | _, _, .nil, i, y, h => by simp at h
  | _, _, .cons r t, 0, y, h => by cases h; exact ⟨_, rfl, r⟩
  | _, _, .cons r t, i + 1, y, h => t.at (i := i) h
theorem DxAll.app {K : PySem.W.Frag} {H : Hp} : ∀ {xs ys : List V} {ds es : List PyData}, DxAll K H xs ds → DxAll K H ys es → DxAll K H (xs ++ ys) (ds ++ es)
  | _, _, _, _, .nil, h => h
  | _, _, _, _, .cons r t, h => .cons r (t.app h)
theorem depthKv_key (k : L2.Key) (d : PyData) (r : List (PyData × PyData)) : PyData.depthKv ((keyD k, d) :: r) = max d.depth (PyData.depthKv r) := by
  cases k <;> simp only [PyData.depthKv, keyD, PyData.depth, Nat.zero_max]
theorem kv_le_l {k v : Str} : k.length ≤ (k ++ ": " ++ v).length := by rw [strLen_append, strLen_append]; omega
theorem kv_le_r {k v : Str} : v.length ≤ (k ++ ": " ++ v).length := by rw [strLen_append, strLen_append]; omega
section
variable {X : Cx} {pins : List (Addr × Obj)} {σ : L2.St} {H : Hp} {s : Shared}
theorem flat_sees (I : Inv X pins σ H s) {u : Value} {d : PyData} {as : List Addr} (r : Reads s.heap u d as) (no : d.hasDict = false) (sh : d.showable = true) (sz : d.shown.length ≤ sizeLine) : ∃ as bs, Reads s.heap u d as ∧ ReadAtMost s.heap d.depth bs ∧ ReprK X.prog X.w bs s.heap d.depth u d.shown := by
  obtain ⟨bs, h1, h2⟩ := ReprK.of_reads (prog := X.prog) (w := X.w) (h₀ := s.heap) r sh (fun z => by rw [no] at z; cases z) sz
  exact ⟨_, bs, r, h1, h2⟩
theorem key_sees (I : Inv X pins σ H s) {k : L2.Key} {u : Value} (hk : L2.keyIs k u = true) (sh : (keyD k).showable = true) (sz : (keyD k).shown.length ≤ sizeLine) : ∃ as bs, Reads s.heap u (keyD k) as ∧ ReadAtMost s.heap (keyD k).depth bs ∧ ReprK X.prog X.w bs s.heap (keyD k).depth u (keyD k).shown := by
  rcases L2.keyIs_shape hk with ⟨i, t, rfl, rfl⟩ | ⟨x, t, rfl, rfl⟩
  · exact flat_sees I (Reads.int i t) rfl sh sz
  · exact flat_sees I (Reads.str x t) rfl sh sz
mutual
theorem Dx.sees (I : Inv X pins σ H s) : ∀ (d : PyData) (v : V) (u : Value), Dx X.K H v d → RelV v u → d.showable = true → d.shown.length ≤ sizeLine →
    ∃ as bs, Reads s.heap u d as ∧ ReadAtMost s.heap d.depth bs ∧ ReprK X.prog X.w bs s.heap d.depth u d.shown
  | .none, _, _, h, r, sh, sz => by
    cases h
    cases r
    exact flat_sees I Reads.none rfl sh sz
  | .bool b, _, _, h, r, sh, sz => by
    cases h
    cases r
    exact flat_sees I (Reads.bool b) rfl sh sz
  | .int i, _, _, h, r, sh, sz => by
    cases h
    obtain ⟨t, rfl⟩ := r
    exact flat_sees I (Reads.int i t) rfl sh sz
  | .str x, _, _, h, r, sh, sz => by
    cases h
    obtain ⟨t, rfl⟩ := r
    exact flat_sees I (Reads.str x t) rfl sh sz
  | .list ds, _, _, h, r, sh, sz => by
    cases h with
    | @lst a xs _ hs ha =>
      cases r
      obtain ⟨its, rv, ⟨o, n, ho, hc, _, hd⟩, _⟩ := I.list (SqL.of hs)
      have sz' : (listText (PyData.shownAll ds)).length ≤ sizeLine := by simpa only [PyData.shown] using sz
      obtain ⟨as, bs, hr, hb, hk⟩ := Dx.seesAll I ds _ its ha rv (by simpa [PyData.showable] using sh) fun t ht => Nat.le_trans (listText_mem_le ht) sz'
      have rd : Reads s.heap (.ref a) (.list ds) _ := .list ho hc hd hr
      have new : a ∉ bs := not_mem_of_deeper rd (by simp only [PyData.depth]; omega) hb
      refine ⟨_, a :: bs, rd, ReadAtMost.cons rd (by simp only [PyData.depth]; omega) hb, ?_⟩
      simp only [PyData.depth, PyData.shown]
      cases its with
      | nil =>
        cases hr
        simp only [PyData.shownAll, listText_nil]
        exact ReprK.listEmpty ho hc hd
      | cons x l => exact ReprK.list ho hc hd new (by simpa using hk.length_eq) fun i y e => hk.item i y (by simpa using e)
  | .tuple ds, _, _, h, r, sh, sz => by
    cases h with
    | @tup a xs _ hs ha =>
      cases r
      obtain ⟨its, rv, ⟨o, ho, hc, n, hd⟩, _⟩ := I.tuple (SqT.of hs)
      have sz' : (tupleText (PyData.shownAll ds)).length ≤ sizeLine := by simpa only [PyData.shown] using sz
      obtain ⟨as, bs, hr, hb, hk⟩ := Dx.seesAll I ds _ its ha rv (by simpa [PyData.showable] using sh) fun t ht => Nat.le_trans (tupleText_mem_le ht) sz'
      have rd : Reads s.heap (.ref a) (.tuple ds) _ := .tuple ho hc hd hr
      have new : a ∉ bs := not_mem_of_deeper rd (by simp only [PyData.depth]; omega) hb
      refine ⟨_, a :: bs, rd, ReadAtMost.cons rd (by simp only [PyData.depth]; omega) hb, ?_⟩
      simp only [PyData.depth, PyData.shown]
      exact ReprK.tuple ho hc hd new hk
  | .dict kvs, _, _, h, r, sh, sz => by
    cases h with
    | @dic a rows _ ha hr =>
      cases r
      obtain ⟨_, hne, vs, rv, o, es, ep, h1, h2, h3, _, h4, _⟩ := dk_of I.hok ha
      have sz' : (dictText (PyData.shownKv kvs)).length ≤ sizeLine := by simpa only [PyData.shown] using sz
      obtain ⟨as1, as2, bs, r1, r2, hb, k1, k2⟩ := Dx.seesKv I kvs rows vs es.toList hr rv h4 (by simpa [PyData.showable] using sh) fun t ht => Nat.le_trans (dictText_mem_le ht) sz'
      have rd : Reads s.heap (.ref a) (.dict kvs) _ := .dict h1 h2.1 h3 r1 r2
      have new : a ∉ bs := not_mem_of_deeper rd (by simp only [PyData.depth]; omega) hb
      refine ⟨_, a :: bs, rd, ReadAtMost.cons rd (by simp only [PyData.depth]; omega) hb, ?_⟩
      simp only [PyData.depth, PyData.shown, PyData.shownKv_eq]
      exact ReprK.dict h1 h2.1 h3 hne new (ReprEntriesK.of_two es.toList _ _ k1 k2)
theorem Dx.seesAll (I : Inv X pins σ H s) : ∀ (ds : List PyData) (vs : List V) (us : List Value), DxAll X.K H vs ds → Vals vs us → PyData.showableAll ds = true → (∀ t ∈ PyData.shownAll ds, t.length ≤ sizeLine) →
    ∃ as bs, ReadsAll s.heap us ds as ∧ ReadAtMost s.heap (PyData.depthAll ds) bs ∧ ReprAllK X.prog X.w bs s.heap (PyData.depthAll ds) us (PyData.shownAll ds)
  | [], _, _, h, r, _, _ => by
    cases h
    cases r
    refine ⟨_, [], ReadsAll.nil, ⟨fun b z => (by simp at z), ?_⟩⟩
    simp only [PyData.shownAll]
    exact .nil
  | d :: ds, _, _, h, r, sh, sz => by
    cases h with
    | cons h1 h2 =>
      cases r with
      | cons r1 r2 =>
        have sh' : d.showable = true ∧ PyData.showableAll ds = true := by simpa [PyData.showableAll] using sh
        obtain ⟨a1, b1, q1, m1, k1⟩ := Dx.sees I d _ _ h1 r1 sh'.1 (sz _ (by simp only [PyData.shownAll]; exact List.mem_cons_self))
        obtain ⟨a2, b2, q2, m2, k2⟩ := Dx.seesAll I ds _ _ h2 r2 sh'.2 fun t ht => sz t (by simp only [PyData.shownAll]; exact List.mem_cons_of_mem _ ht)
        refine ⟨_, b1 ++ b2, ReadsAll.cons q1 q2, fun b hb => ?_, ?_⟩
        · simp only [PyData.depthAll]
          rcases List.mem_append.mp hb with hb | hb
          · obtain ⟨d', a', r', y⟩ := m1 b hb
            exact ⟨d', a', r', by omega⟩
          · obtain ⟨d', a', r', y⟩ := m2 b hb
            exact ⟨d', a', r', by omega⟩
        · simp only [PyData.depthAll, PyData.shownAll]
          refine .cons ((k1.more fun b hb => List.mem_append.mpr (.inl hb)).level_le (by omega)) (k2.more_le (fun b hb => List.mem_append.mpr (.inr hb)) (by omega))
theorem Dx.seesKv (I : Inv X pins σ H s) : ∀ (kvs : List (PyData × PyData)) (rows : List (L2.Key × V)) (vs : List (L2.Key × Value)) (es : List DictEntry), DxKv X.K H rows kvs → KV rows vs → Pairs (mixKind X.prog X.w) es vs → PyData.showableKv kvs = true → (∀ t ∈ PyData.shownKv kvs, t.length ≤ sizeLine) →
    ∃ as1 as2 bs, ReadsAll s.heap (es.map (·.key)) (kvs.map (·.1)) as1 ∧ ReadsAll s.heap (es.map (·.val)) (kvs.map (·.2)) as2 ∧ ReadAtMost s.heap (PyData.depthKv kvs) bs ∧
      ReprAllK X.prog X.w bs s.heap (PyData.depthKv kvs) (es.map (·.key)) (PyData.shownAll (kvs.map (·.1))) ∧ ReprAllK X.prog X.w bs s.heap (PyData.depthKv kvs) (es.map (·.val)) (PyData.shownAll (kvs.map (·.2)))
  | [], _, _, _, h, r, p, _, _ => by
    cases h
    cases r
    cases p
    refine ⟨_, _, [], ReadsAll.nil, ReadsAll.nil, fun b z => (by simp at z), ?_, ?_⟩
    · simp only [List.map_nil, PyData.shownAll]
      exact .nil
    · simp only [List.map_nil, PyData.shownAll]
      exact .nil
  | (dk, d) :: kvs, _, _, _, h, r, p, sh, sz => by
    cases h with
    | @cons k v rows _ _ h1 h2 =>
      cases r with
      | @cons _ y _ ys r1 r2 =>
        cases p with
        | @cons e _ es _ p1 p2 p3 =>
          obtain ⟨yk, yv⟩ := y
          obtain ⟨e1, e2⟩ := r1
          have e1' : k = yk := e1
          subst e1'
          have e2' : RelV v e.val := by rw [p2]; exact e2
          have sh' : ((keyD k).showable = true ∧ d.showable = true) ∧ PyData.showableKv kvs = true := by simpa [PyData.showableKv] using sh
          have z0 := sz ((keyD k).shown ++ ": " ++ d.shown) (by simp only [PyData.shownKv]; exact List.mem_cons_self)
          obtain ⟨a0, b0, q0, m0, k0⟩ := key_sees I (k := k) (u := e.key) p1 sh'.1.1 (Nat.le_trans kv_le_l z0)
          obtain ⟨a1, b1, q1, m1, k1⟩ := Dx.sees I d _ _ h1 e2' sh'.1.2 (Nat.le_trans kv_le_r z0)
          obtain ⟨c1, c2, b2, q2, q3, m2, k2, k3⟩ := Dx.seesKv I kvs _ _ _ h2 r2 p3 sh'.2 fun t ht => sz t (by simp only [PyData.shownKv]; exact List.mem_cons_of_mem _ ht)
          refine ⟨_, _, b0 ++ (b1 ++ b2), ReadsAll.cons q0 q2, ReadsAll.cons q1 q3, fun b hb => ?_, ?_, ?_⟩
          · simp only [PyData.depthKv]
            rcases List.mem_append.mp hb with hb | hb
            · obtain ⟨d', a', r', y⟩ := m0 b hb
              exact ⟨d', a', r', by omega⟩
            · rcases List.mem_append.mp hb with hb | hb
              · obtain ⟨d', a', r', y⟩ := m1 b hb
                exact ⟨d', a', r', by omega⟩
              · obtain ⟨d', a', r', y⟩ := m2 b hb
                exact ⟨d', a', r', by omega⟩
          · simp only [PyData.depthKv, List.map_cons, PyData.shownAll]
            exact .cons ((k0.more fun b hb => List.mem_append.mpr (.inl hb)).level_le (by omega)) (k2.more_le (fun b hb => List.mem_append.mpr (.inr (List.mem_append.mpr (.inr hb)))) (by omega))
          · simp only [PyData.depthKv, List.map_cons, PyData.shownAll]
            exact .cons ((k1.more fun b hb => List.mem_append.mpr (.inr (List.mem_append.mpr (.inl hb)))).level_le (by omega)) (k3.more_le (fun b hb => List.mem_append.mpr (.inr (List.mem_append.mpr (.inr hb)))) (by omega))
end
/-- repr of data of any kind, dicts within -/
def rReprX (K : PySem.W.Frag) : List V → Hp → VK → Prop := fun xs H Q => ∃ (x : V) (d : PyData), xs = [x] ∧ Dx K H x d ∧ d.showable = true ∧ d.depth ≤ 60 ∧ d.shown.length ≤ sizeLine ∧ Q (.str d.shown) H
theorem call_reprX (hg : X.A.guards = some []) (hu : X.A.units + 64 < cLine) : CallR X (.builtin "repr") (rReprX X.K) := by
  intro pins s σ H xs us Q I r h
  obtain ⟨x, d, rfl, hd, sh, dp, sz, q⟩ := h
  cases hd with
  | int i => exact call_reprA hg hu pins s σ H _ us Q I r ⟨_, _, rfl, .int i, sh, dp, sz, q⟩
  | non => exact call_reprA hg hu pins s σ H _ us Q I r ⟨_, _, rfl, .non, sh, dp, sz, q⟩
  | bl b => exact call_reprA hg hu pins s σ H _ us Q I r ⟨_, _, rfl, .bl b, sh, dp, sz, q⟩
  | str z => exact call_reprA hg hu pins s σ H _ us Q I r ⟨_, _, rfl, .str z, sh, dp, sz, q⟩
  | @lst a xs ds hs hd =>
    have dp' : PyData.depthAll ds + 1 ≤ 60 := by simpa only [PyData.depth] using dp
    obtain ⟨u, rfl, ru⟩ := vals1 r
    cases (show u = Value.ref a from ru)
    obtain ⟨its, rv, ⟨o, n, ho, hc, _, hdd⟩, _⟩ := I.list (SqL.of hs)
    have sz' : (listText (PyData.shownAll ds)).length ≤ sizeLine := by simpa only [PyData.shown] using sz
    obtain ⟨as, bs, hr, hb, hk⟩ := Dx.seesAll I ds xs its hd rv (by simpa only [PyData.showable] using sh) fun t ht => Nat.le_trans (listText_mem_le ht) sz'
    have rd : Reads s.heap (.ref a) (.list ds) _ := .list ho hc hdd hr
    have new : a ∉ bs := not_mem_of_deeper rd (by simp only [PyData.depth]; omega) hb
    refine call_repr_slot (T := "list") (by omega) ⟨o, ho, hc⟩ PySem.F.slot_list_repr.toG ?_
    cases its with
    | nil =>
      cases hr
      have e0 : (PyData.list []).shown = ("[]" : Str) := by simp only [PyData.shown, PyData.shownAll, listText_nil]
      refine call_list_repr_empty ⟨o, ho, hc⟩ ho hdd ⟨_, _, rfl, .str (PyData.list []).shown, H, ?_, ⟨_, by rw [e0]⟩, q⟩
      exact I.kept (t' := _) fun _ _ y => y
    | cons y l =>
      refine call_list_reprK ho hc hdd new (by simpa using hk.length_eq) (fun i y e => hk.item i y (by simpa using e)) hg (fun b _ => Clear.nil b) (by show X.A.units + 1 + (PyData.depthAll ds + 1) < cLine; omega) (fun _ _ e => e) (fun h' u tk keep => ?_) sz'
      refine ⟨_, _, rfl, .str (PyData.list ds).shown, H, I.kept keep, ⟨u, ?_⟩, q⟩
      simp only [PyData.shown]
  | @tup a xs ds hs hd =>
    have dp' : PyData.depthAll ds + 1 ≤ 60 := by simpa only [PyData.depth] using dp
    obtain ⟨u, rfl, ru⟩ := vals1 r
    cases (show u = Value.ref a from ru)
    obtain ⟨its, rv, ⟨o, ho, hc, n, hdd⟩, _⟩ := I.tuple (SqT.of hs)
    have sz' : (tupleText (PyData.shownAll ds)).length ≤ sizeLine := by simpa only [PyData.shown] using sz
    obtain ⟨as, bs, hr, hb, hk⟩ := Dx.seesAll I ds xs its hd rv (by simpa only [PyData.showable] using sh) fun t ht => Nat.le_trans (tupleText_mem_le ht) sz'
    have rd : Reads s.heap (.ref a) (.tuple ds) _ := .tuple ho hc hdd hr
    have new : a ∉ bs := not_mem_of_deeper rd (by simp only [PyData.depth]; omega) hb
    refine call_repr_slot (T := "tuple") (by omega) ⟨o, ho, hc⟩ PySem.F.slot_tuple_repr (call_tuple_reprK ho hc hdd new hk hg (fun b _ => Clear.nil b) (by show X.A.units + 1 + (PyData.depthAll ds + 1) < cLine; omega) (fun _ _ e => e) (fun h' u tk keep => ?_) sz')
    refine ⟨_, _, rfl, .str (PyData.tuple ds).shown, H, I.kept keep, ⟨u, ?_⟩, q⟩
    simp only [PyData.shown]
  | @dic a rows kvs hs hd =>
    have dp' : PyData.depthKv kvs + 1 ≤ 60 := by simpa only [PyData.depth] using dp
    obtain ⟨u, rfl, ru⟩ := vals1 r
    cases (show u = Value.ref a from ru)
    obtain ⟨_, hne, vs, rv, o, es, ep, h1, h2, h3, _, h4, _⟩ := dk_of I.hok hs
    have sz' : (dictText (PyData.shownKv kvs)).length ≤ sizeLine := by simpa only [PyData.shown] using sz
    obtain ⟨as1, as2, bs, r1, r2, hb, k1, k2⟩ := Dx.seesKv I kvs rows vs es.toList hd rv h4 (by simpa [PyData.showable] using sh) fun t ht => Nat.le_trans (dictText_mem_le ht) sz'
    have rd : Reads s.heap (.ref a) (.dict kvs) _ := .dict h1 h2.1 h3 r1 r2
    have new : a ∉ bs := not_mem_of_deeper rd (by simp only [PyData.depth]; omega) hb
    have e1 := ReprEntriesK.of_two es.toList _ _ k1 k2
    rw [← PyData.shownKv_eq] at e1
    refine call_repr_slot (T := "dict") (by omega) ⟨o, h1, h2.1⟩ PySem.F.slot_dict_repr (call_dict_reprK h1 h2.1 h3 hne new e1 hg (fun b _ => Clear.nil b) (by show X.A.units + 1 + (PyData.depthKv kvs + 1) < cLine; omega) (fun _ _ e => e) (fun h' u tk keep => ?_) sz')
    refine ⟨_, _, rfl, .str (PyData.dict kvs).shown, H, I.kept keep, ⟨u, ?_⟩, q⟩
    simp only [PyData.shown]
end
end Af

set_option Elab.async false
set_option linter.all false
set_option maxRecDepth 100000
set_option maxHeartbeats 4000000
namespace Af
open PySem PySem.Spec PyProof.Rows L2
theorem _root_.L2.Room.u1 {k : Nat} {A : Around} (r : L2.Room k A) : A.units + 1 < cLine := by have := r.units; omega
/-! patterns: dicts of cells and ascending worths; patterns among data -/
section
variable {K : PySem.W.Frag} {H : Hp}
theorem dx_ty {x : V} {d : PyData} (h : Dx K H x d) : ∃ n, Ty K H x n := by
  cases h with
  | non => exact ⟨_, .non, by decide, fun _ _ _ e => by cases e⟩
  | bl b => exact ⟨_, .bl b, by decide, fun _ _ _ e => by cases e⟩
  | int i => exact ⟨_, .int i, by decide, fun _ _ _ e => by cases e⟩
  | str z => exact ⟨_, .str z, by decide, fun _ _ _ e => by cases e⟩
  | lst e t => exact ⟨_, .lst e, by decide, fun b o u z q => by cases z; rw [e] at q; cases q⟩
  | tup e t => exact ⟨_, .tup e, by decide, fun b o u z q => by cases z; rw [e] at q; cases q⟩
  | dic e t => exact ⟨_, .dK e, by decide, fun b o u z q => by cases z; rw [e] at q; cases q⟩
theorem dx_idx {x : V} {d : PyData} (h : Dx K H x d) (m : Int) : idxB m x = idxD m d := by
  cases h <;> rfl
theorem dx_all {m : Int} : ∀ {xs : List V} {ds : List PyData}, DxAll K H xs ds → xs.all (idxB m) = ds.all (idxD m)
  | _, _, .nil => rfl
  | _, _, .cons r t => by rw [List.all_cons, List.all_cons, dx_idx r, dx_all t]
theorem dx_empty : ∀ {xs : List V} {ds : List PyData}, DxAll K H xs ds → xs.isEmpty = ds.isEmpty
  | _, _, .nil => rfl
  | _, _, .cons _ _ => rfl
theorem dx_worths {x : V} {d : PyData} (h : Dx K H x d) : worthsB H x = worthsD d := by
  cases h with
  | lst e t => simp only [worthsB, e, worthsD]
  | tup e t => simp only [worthsB, e, worthsD]; rw [dx_empty t, dx_all t]
  | dic e t => simp only [worthsB, e, worthsD]
  | _ => rfl
theorem DxAll.mem : ∀ {xs : List V} {ds : List PyData}, DxAll K H xs ds → ∀ {y : V}, y ∈ xs → ∃ d ∈ ds, Dx K H y d
  | _, _, .nil, y, h => by cases h
  | _, _, .cons r t, y, h => by
    rcases List.mem_cons.mp h with rfl | h
    · exact ⟨_, List.mem_cons_self, r⟩
    · obtain ⟨d, h1, h2⟩ := t.mem h
      exact ⟨d, List.mem_cons_of_mem _ h1, h2⟩
/-- lists and tuples at the top are not long -/
def WdD (d : PyData) : Prop := ∀ ds, d = .tuple ds ∨ d = .list ds → ds.length ≤ 1000
theorem dx_th1 {x : V} {d : PyData} (h : Dx K H x d) (w : WdD d) : Th K H 1 x := by
  refine ⟨dx_ty h, fun a xs e z => ?_⟩
  subst e
  cases h with
  | @lst _ ys ds e t =>
    have l := w ds (.inr rfl)
    rcases z with z | z
    · rw [e] at z; cases z
    · rw [e] at z; cases z; exact ⟨by rw [t.len]; omega, fun y hy => by obtain ⟨d, _, q⟩ := t.mem hy; exact dx_ty q⟩
  | @tup _ ys ds e t =>
    have l := w ds (.inl rfl)
    rcases z with z | z
    · rw [e] at z; cases z; exact ⟨by rw [t.len]; omega, fun y hy => by obtain ⟨d, _, q⟩ := t.mem hy; exact dx_ty q⟩
    · rw [e] at z; cases z
  | dic e t => rcases z with z | z <;> (rw [e] at z; cases z)
end
/-! ascending worths -/
def ascB : List Int → Bool
  | a :: b :: r => decide (a < b) && ascB (b :: r)
  | _ => true
def stI (ws : List Int) (i : Nat) : Bool := decide (ws.getD i 0 < ws.getD (i + 1) 0)
theorem asc_range : ∀ ws : List Int, (List.range (ws.length - 1)).all (stI ws) = ascB ws
  | [] => rfl
  | [_] => rfl
  | a :: b :: r => by
    have ih := asc_range (b :: r)
    show (List.range (r.length + 1)).all (stI (a :: b :: r)) = (decide (a < b) && ascB (b :: r))
    rw [← ih, List.range_succ_eq_map, List.all_cons, List.all_map]
    rfl
theorem asc_iff : ∀ {ws : List Int}, ascB ws = true ↔ ws.Pairwise (· < ·)
  | [] => ⟨fun _ => .nil, fun _ => rfl⟩
  | [_] => ⟨fun _ => List.pairwise_singleton _ _, fun _ => rfl⟩
  | a :: b :: r => by
    have ih := asc_iff (ws := b :: r)
    show (decide (a < b) && ascB (b :: r)) = true ↔ _
    rw [Bool.and_eq_true, decide_eq_true_iff, ih]
    constructor
    · rintro ⟨h1, h2⟩
      refine List.pairwise_cons.mpr ⟨fun z hz => ?_, h2⟩
      rcases List.mem_cons.mp hz with rfl | hz
      · exact h1
      · have := (List.pairwise_cons.mp h2).1 z hz
        omega
    · intro h
      obtain ⟨h1, h2⟩ := List.pairwise_cons.mp h
      exact ⟨h1 b List.mem_cons_self, h2⟩
/-! patterns of any data -/
def intD : PyData → Int
  | .int i => i
  | _ => 0
def intsD : PyData → List Int
  | .tuple ds => ds.map intD
  | _ => []
def letD (d : PyData) : Bool := worthsD d && ascB (intsD d)
def patB (n : Int) : PyData → Bool
  | .dict kvs => kvs.all fun p => idxD n p.1 && letD p.2
  | _ => false
/-- a dict whose values are not long -/
def SzP (d : PyData) : Prop := ∀ kvs, d = .dict kvs → kvs.length ≤ 1000 ∧ (kvs.map (·.1)).Nodup ∧ ∀ p ∈ kvs, WdD p.2
section
variable {K : PySem.W.Frag} {H : Hp}
theorem idx_int {m : Int} {x : V} (h : idxB m x = true) : ∃ i, x = .int i ∧ 0 ≤ i ∧ i < m := by
  cases x with
  | int i =>
    have h : (decide (0 ≤ i) && decide (i < m)) = true := h
    rw [Bool.and_eq_true, decide_eq_true_iff, decide_eq_true_iff] at h
    exact ⟨i, rfl, h.1, h.2⟩
  | _ => cases h
theorem dx_int {m : Int} {x : V} {d : PyData} (q : Dx K H x d) (h : idxD m d = true) : x = .int (intD d) ∧ 0 ≤ intD d ∧ intD d < m := by
  rw [← dx_idx q] at h
  obtain ⟨i, rfl, a, b⟩ := idx_int h
  cases q
  exact ⟨rfl, a, b⟩
theorem dx_ints {m : Int} : ∀ {xs : List V} {ds : List PyData}, DxAll K H xs ds → ds.all (idxD m) = true → xs = ivs (ds.map intD) ∧ ∀ z ∈ ds.map intD, 0 ≤ z ∧ z < m
  | _, _, .nil, _ => ⟨rfl, fun z h => by cases h⟩
  | _, _, .cons r t, h => by
    rw [List.all_cons, Bool.and_eq_true] at h
    obtain ⟨e1, e2, e3⟩ := dx_int r h.1
    obtain ⟨a, b⟩ := dx_ints t h.2
    refine ⟨?_, fun z hz => ?_⟩
    · rw [e1, a]
      rfl
    · rcases List.mem_cons.mp hz with rfl | hz
      · exact ⟨e2, e3⟩
      · exact b z hz
/-- worths among data -/
theorem dx_let {x : V} {d : PyData} (q : Dx K H x d) (h : worthsD d = true) : ∃ a, x = .ref a ∧ H a = some (.tup (ivs (intsD d))) ∧ intsD d ≠ [] ∧ ∀ z ∈ intsD d, 0 ≤ z ∧ z < 8 := by
  cases q with
  | @tup a xs ds e t =>
    have h : (!ds.isEmpty && ds.all (idxD 8)) = true := h
    rw [Bool.and_eq_true] at h
    obtain ⟨e1, b⟩ := dx_ints t h.2
    refine ⟨a, rfl, by rw [e, e1]; rfl, fun z => ?_, b⟩
    cases ds with
    | nil => cases h.1
    | cons _ _ => cases z
  | _ => cases h
theorem dx_dict_or {x : V} {d : PyData} (h : Dx K H x d) : (∃ a rows kvs, x = .ref a ∧ H a = some (.dK rows) ∧ d = .dict kvs ∧ DxKv K H rows kvs) ∨ (∃ n, Ty K H x n ∧ isB n "dict" = false ∧ ∀ kvs, d ≠ .dict kvs) := by
  cases h with
  | non => exact .inr ⟨_, ⟨.non, by decide, fun _ _ _ e => by cases e⟩, by decide, fun _ e => by cases e⟩
  | bl b => exact .inr ⟨_, ⟨.bl b, by decide, fun _ _ _ e => by cases e⟩, by decide, fun _ e => by cases e⟩
  | int i => exact .inr ⟨_, ⟨.int i, by decide, fun _ _ _ e => by cases e⟩, by decide, fun _ e => by cases e⟩
  | str z => exact .inr ⟨_, ⟨.str z, by decide, fun _ _ _ e => by cases e⟩, by decide, fun _ e => by cases e⟩
  | lst e t => exact .inr ⟨_, ⟨.lst e, by decide, fun b o u z q => by cases z; rw [e] at q; cases q⟩, by decide, fun _ e => by cases e⟩
  | tup e t => exact .inr ⟨_, ⟨.tup e, by decide, fun b o u z q => by cases z; rw [e] at q; cases q⟩, by decide, fun _ e => by cases e⟩
  | dic e t => exact .inl ⟨_, _, _, rfl, e, rfl, t⟩
theorem ty_d {a : Addr} {rows : List (L2.Key × V)} (h : H a = some (.dK rows)) : Ty K H (.ref a) "dict" := ⟨.dK h, by decide, fun b o u e z => by cases e; rw [h] at z; cases z⟩
theorem isB_dd : isB "dict" "dict" = true := by decide
theorem DxKv.at : ∀ {rows : List (L2.Key × V)} {kvs : List (PyData × PyData)}, DxKv K H rows kvs → ∀ {i : Nat} {k : L2.Key} {v : V}, rows[i]? = some (k, v) → ∃ d, kvs[i]? = some (keyD k, d) ∧ Dx K H v d
  | _, _, .nil, i, k, v, h => by simp at h
  | _, _, .cons r t, 0, k, v, h => by cases h; exact ⟨_, rfl, r⟩
  | _, _, .cons r t, i + 1, k, v, h => t.at (i := i) h
theorem DxKv.keys : ∀ {rows : List (L2.Key × V)} {kvs : List (PyData × PyData)}, DxKv K H rows kvs → kvs.map (·.1) = (rows.map (·.1)).map keyD
  | _, _, .nil => rfl
  | _, _, .cons _ t => by rw [List.map_cons, List.map_cons, List.map_cons, t.keys]
theorem DxKv.nd {rows : List (L2.Key × V)} {kvs : List (PyData × PyData)} (h : DxKv K H rows kvs) (n : (kvs.map (·.1)).Nodup) : (rows.map (·.1)).Nodup := by
  rw [h.keys] at n
  exact (List.pairwise_map.mp n).imp fun {a b} z e => z (by rw [e])
theorem key_idx (k : L2.Key) (m : Int) : idxB m (kV k) = idxD m (keyD k) := by cases k <;> rfl
theorem key_ty (k : L2.Key) : ∃ n, Ty K H (kV k) n := by
  cases k with
  | inl i => exact ⟨_, .int i, by decide, fun _ _ _ e => by cases e⟩
  | inr x => exact ⟨_, .str x, by decide, fun _ _ _ e => by cases e⟩
theorem valV_at : ∀ {rows : List (L2.Key × V)} {i : Nat} {k : L2.Key} {v : V}, (rows.map (·.1)).Nodup → rows[i]? = some (k, v) → valV rows k = some v
  | [], i, k, v, _, h => by simp at h
  | p :: r, 0, k, v, _, h => by
    cases h
    exact valV_pos rfl
  | p :: r, i + 1, k, v, n, h => by
    rw [List.map_cons] at n
    obtain ⟨n1, n2⟩ := List.nodup_cons.mp n
    have hm : k ∈ r.map (·.1) := by
      have := List.mem_of_getElem? (l := r) (i := i) (by simpa using h)
      exact List.mem_map.mpr ⟨_, this, rfl⟩
    rw [valV_neg (fun e => n1 (by rw [e]; exact hm))]
    exact valV_at n2 (by simpa using h)
end
/-! locked while it is walked -/
theorem lock_same {H H' : Hp} {d : Addr} {u : HO} {od : Obj} (h : H d = some u) (s : Same (upd H d (.frz od u)) H') : Same H (upd H' d u) := fun a o e => by
  by_cases c : a = d
  · subst c
    rw [upd_same]
    rw [h] at e
    exact e
  · rw [upd_ne c]
    exact s a o (by rw [upd_ne c]; exact e)
theorem lock_at {H H' : Hp} {d : Addr} {u : HO} {od : Obj} (s : Same (upd H d (.frz od u)) H') : H' d = some (.frz od u) := s _ _ upd_same
theorem lock_get {H : Hp} {d a : Addr} {u o : HO} {od : Obj} (h : H d = some u) (e : H a = some o) (n : o ≠ u) : upd H d (.frz od u) a = some o := by
  rw [upd_ne (fun z => n (by rw [z, h] at e; exact (Option.some.inj e).symm))]
  exact e
/-- the heap without the locked dict -/
theorem lock_hd {H : Hp} {d : Addr} {x : HO} : Same (hd d H) (upd H d x) := fun a o e => by
  by_cases c : a = d
  · rw [c, show hd d H d = none from if_pos rfl] at e
    cases e
  · rw [hd_ne c] at e
    rw [upd_ne c]
    exact e
mutual
theorem Dx.fn {K : PySem.W.Frag} {H : Hp} : ∀ {v : V} {d : PyData}, Dx K H v d → ∀ {d' : PyData}, Dx K H v d' → d = d'
  | _, _, .non, _, h => by cases h; rfl
  | _, _, .bl b, _, h => by cases h; rfl
  | _, _, .int i, _, h => by cases h; rfl
  | _, _, .str x, _, h => by cases h; rfl
  | _, _, .lst e t, _, h => by
    cases h with
    | lst e' t' => rw [e] at e'; cases e'; rw [DxAll.fn t t']
    | tup e' t' => rw [e] at e'; cases e'
    | dic e' t' => rw [e] at e'; cases e'
  | _, _, .tup e t, _, h => by
    cases h with
    | lst e' t' => rw [e] at e'; cases e'
    | tup e' t' => rw [e] at e'; cases e'; rw [DxAll.fn t t']
    | dic e' t' => rw [e] at e'; cases e'
  | _, _, .dic e t, _, h => by
    cases h with
    | lst e' t' => rw [e] at e'; cases e'
    | tup e' t' => rw [e] at e'; cases e'
    | dic e' t' => rw [e] at e'; cases e'; rw [DxKv.fn t t']
theorem DxAll.fn {K : PySem.W.Frag} {H : Hp} : ∀ {v : List V} {d : List PyData}, DxAll K H v d → ∀ {d' : List PyData}, DxAll K H v d' → d = d'
  | _, _, .nil, _, h => by cases h; rfl
  | _, _, .cons r t, _, h => by
    cases h with
    | cons r' t' => rw [Dx.fn r r', DxAll.fn t t']
theorem DxKv.fn {K : PySem.W.Frag} {H : Hp} : ∀ {v : List (L2.Key × V)} {d : List (PyData × PyData)}, DxKv K H v d → ∀ {d' : List (PyData × PyData)}, DxKv K H v d' → d = d'
  | _, _, .nil, _, h => by cases h; rfl
  | _, _, .cons r t, _, h => by
    cases h with
    | cons r' t' => rw [Dx.fn r r', DxKv.fn t t']
end
/-- what is less deep than what stands at a is told without a -/
theorem dp_l {ds : List PyData} : (PyData.list ds).depth = PyData.depthAll ds + 1 := by simp only [PyData.depth]
theorem dp_t {ds : List PyData} : (PyData.tuple ds).depth = PyData.depthAll ds + 1 := by simp only [PyData.depth]
theorem dp_d {kvs : List (PyData × PyData)} : (PyData.dict kvs).depth = PyData.depthKv kvs + 1 := by simp only [PyData.depth]
mutual
theorem Dx.off {K : PySem.W.Frag} {H : Hp} {a : Addr} {D : PyData} (h : Dx K H (.ref a) D) : ∀ {v : V} {d : PyData}, Dx K H v d → d.depth < D.depth → Dx K (hd a H) v d
  | _, _, .non, _ => .non
  | _, _, .bl b, _ => .bl b
  | _, _, .int i, _ => .int i
  | _, _, .str x, _ => .str x
  | _, _, .lst (a := b) e t, l => by
    have ne : b ≠ a := fun z => by
      subst z
      rw [Dx.fn h (.lst e t)] at l
      omega
    exact .lst ((hd_ne ne).trans e) (DxAll.off h t (by rw [dp_l] at l; omega))
  | _, _, .tup (a := b) e t, l => by
    have ne : b ≠ a := fun z => by
      subst z
      rw [Dx.fn h (.tup e t)] at l
      omega
    exact .tup ((hd_ne ne).trans e) (DxAll.off h t (by rw [dp_t] at l; omega))
  | _, _, .dic (a := b) e t, l => by
    have ne : b ≠ a := fun z => by
      subst z
      rw [Dx.fn h (.dic e t)] at l
      omega
    exact .dic ((hd_ne ne).trans e) (DxKv.off h t (by rw [dp_d] at l; omega))
theorem DxAll.off {K : PySem.W.Frag} {H : Hp} {a : Addr} {D : PyData} (h : Dx K H (.ref a) D) : ∀ {v : List V} {d : List PyData}, DxAll K H v d → PyData.depthAll d < D.depth → DxAll K (hd a H) v d
  | _, _, .nil, _ => .nil
  | _, _, .cons r t, l => .cons (Dx.off h r (by simp only [PyData.depthAll] at l; omega)) (DxAll.off h t (by simp only [PyData.depthAll] at l; omega))
theorem DxKv.off {K : PySem.W.Frag} {H : Hp} {a : Addr} {D : PyData} (h : Dx K H (.ref a) D) : ∀ {v : List (L2.Key × V)} {d : List (PyData × PyData)}, DxKv K H v d → PyData.depthKv d < D.depth → DxKv K (hd a H) v d
  | _, _, .nil, _ => .nil
  | _, _, .cons r t, l => .cons (Dx.off h r (by simp only [PyData.depthKv] at l; omega)) (DxKv.off h t (by simp only [PyData.depthKv] at l; omega))
end
/-- the values of a dict, told while it is locked -/
theorem DxKv.lock {K : PySem.W.Frag} {H : Hp} {a : Addr} {rows : List (L2.Key × V)} {kvs : List (PyData × PyData)} {x : HO} (e : H a = some (.dK rows)) (t : DxKv K H rows kvs) : DxKv K (upd H a x) rows kvs :=
  DxKv.same lock_hd (DxKv.off (.dic e t) t (by rw [dp_d]; omega))
/-! patterns that are right -/
abbrev Ptn := List (Nat × List Int)
def RowV (H : Hp) (r : L2.Key × V) (p : Nat × List Int) : Prop := r.1 = .inl ((p.1 : Nat) : Int) ∧ ∃ t, r.2 = .ref t ∧ H t = some (.tup (ivs p.2))
structure PatV (H : Hp) (a : Addr) (ps : Ptn) : Prop where
  ex : ∃ rows, H a = some (.dK rows) ∧ Paired (RowV H) rows ps
theorem rows_kp {p : Addr} {H H' : Hp} {rows : List (L2.Key × V)} {ps : Ptn} (k : Kp p H H') (h : Paired (RowV H) rows ps) : Paired (RowV H') rows ps := L2.Paired.mapP h fun _ _ ⟨e, t, e2, z⟩ => ⟨e, t, e2, k.tup z⟩
theorem rows_same {H H' : Hp} {rows : List (L2.Key × V)} {ps : Ptn} (s : Same H H') (h : Paired (RowV H) rows ps) : Paired (RowV H') rows ps := rows_kp (p := 0) (Kp.same s) h
theorem PatV.kp {p a : Addr} {H H' : Hp} {ps : Ptn} (h : PatV H a ps) (k : Kp p H H') : PatV H' a ps := by
  obtain ⟨rows, h1, h2⟩ := h.ex
  exact ⟨rows, k _ _ (.inr fun l e => by cases e) h1, rows_kp k h2⟩
theorem PatV.same {a : Addr} {H H' : Hp} {ps : Ptn} (h : PatV H a ps) (s : Same H H') : PatV H' a ps := h.kp (p := 0) (Kp.same s)
structure OkPt (n : Nat) (ps : Ptn) : Prop where
  nd : (ps.map (·.1)).Nodup
  kb : ∀ p ∈ ps, p.1 < n
  ne : ∀ p ∈ ps, p.2 ≠ []
  asc : ∀ p ∈ ps, p.2.Pairwise (· < ·)
  rg : ∀ p ∈ ps, ∀ z ∈ p.2, 0 ≤ z ∧ z < 8
def patD (ps : Ptn) : PyData := .dict (ps.map fun p => (.int ((p.1 : Nat) : Int), .tuple (dvs p.2)))
theorem dx_pat {K : PySem.W.Frag} {H : Hp} {a : Addr} {ps : Ptn} (h : PatV H a ps) : Dx K H (.ref a) (patD ps) := by
  obtain ⟨rows, h1, h2⟩ := h.ex
  refine .dic h1 ?_
  clear h1 h
  induction h2 with
  | nil => exact .nil
  | @cons r p rs ps hr t ih =>
    obtain ⟨k, v⟩ := r
    obtain ⟨e1, t, e2, e3⟩ := hr
    have e1' : k = .inl ((p.1 : Nat) : Int) := e1
    have e2' : v = .ref t := e2
    subst e1' e2'
    exact .cons (k := .inl ((p.1 : Nat) : Int)) (Dx.of (.tup e3 (dq_ints p.2))) ih
theorem sub_lenI : ∀ {l1 l2 : List Int}, l1.Nodup → (∀ x ∈ l1, x ∈ l2) → l1.length ≤ l2.length
  | [], _, _, _ => Nat.zero_le _
  | x :: l1, l2, n, s => by
    obtain ⟨n1, n2⟩ := List.nodup_cons.mp n
    have h := sub_lenI (l2 := l2.erase x) n2 fun y hy => (List.mem_erase_of_ne (fun (e : y = x) => n1 (by rw [← e]; exact hy))).mpr (s y (List.mem_cons_of_mem _ hy))
    have hx := s x List.mem_cons_self
    rw [List.length_erase_of_mem hx] at h
    have := List.length_pos_of_mem hx
    rw [List.length_cons]
    omega
theorem asc_len {ws : List Int} (h : ws.Pairwise (· < ·)) (b : ∀ z ∈ ws, 0 ≤ z ∧ z < 8) : ws.length ≤ 8 := by
  have nd : ws.Nodup := h.imp fun {a b} z => by omega
  have : ws.length ≤ ([0, 1, 2, 3, 4, 5, 6, 7] : List Int).length := sub_lenI nd fun z hz => by
    have := b z hz
    simp only [List.mem_cons, List.not_mem_nil, or_false]
    omega
  exact this
theorem pat_sz {n : Nat} {ps : Ptn} (o : OkPt n ps) (hl : ps.length ≤ 1000) : SzP (patD ps) := fun kvs e => by
  cases e
  refine ⟨by rw [List.length_map]; exact hl, ?_, fun p hp => ?_⟩
  · rw [List.map_map]
    exact List.pairwise_map.mpr ((List.pairwise_map.mp o.nd).imp fun {a b} z e => z (by injection e; omega))
  · obtain ⟨q, hq, rfl⟩ := List.mem_map.mp hp
    intro ds e
    have := asc_len (o.asc q hq) (o.rg q hq)
    rcases e with e | e
    · cases e
      unfold dvs
      rw [List.length_map]
      omega
    · cases e
theorem pat_ok {n : Nat} {ps : Ptn} (o : OkPt n ps) : patB n (patD ps) = true := by
  show (ps.map fun p => (PyData.int ((p.1 : Nat) : Int), PyData.tuple (dvs p.2))).all _ = true
  rw [List.all_map, List.all_eq_true]
  intro p hp
  show (idxD n (.int ((p.1 : Nat) : Int)) && letD (.tuple (dvs p.2))) = true
  have kb := o.kb p hp
  have e1 : idxD (n : Int) (.int ((p.1 : Nat) : Int)) = true := by
    show (decide ((0 : Int) ≤ (p.1 : Int)) && decide ((p.1 : Int) < (n : Int))) = true
    rw [decide_eq_true (by omega), decide_eq_true (by omega)]
    rfl
  have rg := o.rg p hp
  have e2 : worthsD (.tuple (dvs p.2)) = true := by
    show (!(dvs p.2).isEmpty && (dvs p.2).all (idxD 8)) = true
    rw [Bool.and_eq_true, List.all_eq_true]
    refine ⟨?_, fun d hd => ?_⟩
    · have := o.ne p hp
      cases q : p.2 with
      | nil => exact absurd q this
      | cons _ _ => rfl
    · obtain ⟨z, hz, rfl⟩ := dvs_mem hd
      have := rg z hz
      show (decide (0 ≤ z) && decide (z < 8)) = true
      rw [decide_eq_true (by omega), decide_eq_true (by omega)]
      rfl
  have e3 : intsD (.tuple (dvs p.2)) = p.2 := by
    show (p.2.map PyData.int).map intD = p.2
    rw [List.map_map]
    exact List.map_id _
  unfold letD
  rw [e1, e2, e3, asc_iff.mpr (o.asc p hp)]
  rfl
/-- a content agrees with a pattern -/
def agB (ps : Ptn) (c : List Int) : Bool := ps.all fun p => p.2.contains (c.getD p.1 0)
/-! the texts of dicts -/
theorem Bd.dic {b n k : Nat} {kvs : List (PyData × PyData)} (h : ∀ p ∈ kvs, flatD p.1 = true ∧ Bd b n p.2) (hl : kvs.length ≤ k) : Bd (k * (b + 49) + 3) (n + 2) (.dict kvs) := by
  have tx : ((PyData.shownKv kvs).map (·.length)).sum ≤ (b + 47) * kvs.length ∧ (PyData.shownKv kvs).length = kvs.length ∧ PyData.showableKv kvs = true ∧ PyData.depthKv kvs ≤ n + 1 := by
    clear hl
    induction kvs with
    | nil => exact ⟨Nat.zero_le _, rfl, rfl, Nat.zero_le _⟩
    | cons p r ih =>
      obtain ⟨k, v⟩ := p
      obtain ⟨i1, i2, i3, i4⟩ := ih fun q hq => h q (List.mem_cons_of_mem _ hq)
      obtain ⟨f, hv⟩ := h (k, v) List.mem_cons_self
      obtain ⟨k1, k2, k3⟩ := flat_len f
      have v1 := hv.tx
      have v3 := hv.dp
      refine ⟨?_, ?_, ?_, ?_⟩
      · simp only [PyData.shownKv, List.map_cons, List.sum_cons, List.length_cons, Nat.mul_succ]
        have e : (k.shown ++ ": " ++ v.shown).length = k.shown.length + 2 + v.shown.length := by
          rw [strLen_append, strLen_append]
          rfl
        rw [e]
        dsimp only at k1 v1
        omega
      · simp only [PyData.shownKv, List.length_cons, i2]
      · simp only [PyData.showableKv, i3, Bool.and_true, Bool.and_eq_true]
        exact ⟨k2, hv.sh⟩
      · simp only [PyData.depthKv]
        dsimp only at v3 k3
        omega
  obtain ⟨t1, t2, t3, t4⟩ := tx
  have e : kvs.length * (b + 49) ≤ k * (b + 49) := Nat.mul_le_mul_right _ hl
  have e2 : kvs.length * (b + 49) = (b + 47) * kvs.length + 2 * kvs.length := by rw [Nat.mul_comm, ← Nat.add_mul]
  refine ⟨?_, ?_, ?_⟩
  · simp only [PyData.shown]
    have := dictText_len_le (PyData.shownKv kvs)
    rw [t2] at this
    omega
  · simp only [PyData.showable]
    exact t3
  · simp only [PyData.depth]
    omega
theorem bd_pat {n : Nat} {ps : Ptn} (o : OkPt n ps) (hn : n ≤ 24) (hl : ps.length ≤ 24) : Bd 31000 4 (patD ps) := by
  refine (Bd.dic (b := 1200) (n := 2) (k := 24) (fun p hp => ?_) (by rw [List.length_map]; exact hl)).mono (by decide) (by decide)
  obtain ⟨q, hq, rfl⟩ := List.mem_map.mp hp
  have kb := o.kb q hq
  exact ⟨flat_place ⟨by omega, by omega⟩, bd_cells (by have := asc_len (o.asc q hq) (o.rg q hq); omega) (o.rg q hq)⟩
theorem all_mapP {α : Type} (f : α → Bool) (l : List α) : (l.map f).all id = l.all f := by simp
theorem ivs_at {c : List Int} {i : Nat} (h : i < c.length) : (ivs c)[i]? = some (.int (c.getD i 0)) := by
  unfold ivs
  rw [List.getElem?_map, List.getElem?_eq_getElem h, List.getD_eq_getElem?_getD, List.getElem?_eq_getElem h]
  rfl
/-- what a pattern's rows hold while it is locked -/
theorem row_facts {H : Hp} {a : Addr} {rows : List (L2.Key × V)} {ps : Ptn} {od : Obj} {n : Nat} (ha : H a = some (.dK rows)) (hp : Paired (RowV H) rows ps) (o : OkPt n ps) : (rows.map (·.1)).Nodup ∧ ∀ (i : Nat) (k : L2.Key) (v : V), rows[i]? = some (k, v) → ∃ (p : Nat × List Int) (t : Addr), ps[i]? = some p ∧ k = .inl ((p.1 : Nat) : Int) ∧ v = .ref t ∧ upd H a (.frz od (.dK rows)) t = some (.tup (ivs p.2)) := by
  refine ⟨?_, fun i k v h => ?_⟩
  · have e : rows.map (·.1) = ps.map fun p => Sum.inl ((p.1 : Nat) : Int) := by
      clear o ha
      induction hp with
      | nil => rfl
      | cons r t ih => rw [List.map_cons, List.map_cons, ih, r.1]
    rw [e]
    exact List.pairwise_map.mpr ((List.pairwise_map.mp o.nd).imp fun {a b} z e => z (by injection e; omega))
  · obtain ⟨p, h1, e1, t, e2, h2⟩ := paired_get hp h
    exact ⟨p, t, h1, e1, e2, lock_get ha h2 (fun z => by cases z)⟩
/-! dicts that are written: their keys -/
theorem putK_keys {rows : List (L2.Key × V)} {ks : List Int} (h : rows.map (·.1) = ks.map Sum.inl) (z : Int) (v : V) : ∃ ks' : List Int, (putK rows (.inl z) v).map (·.1) = ks'.map Sum.inl ∧ (ks.Nodup → ks'.Nodup) ∧ (∀ x, x ∈ ks' ↔ x ∈ ks ∨ x = z) ∧ ks'.length ≤ ks.length + 1 := by
  unfold putK
  by_cases c : (rows.any fun kv => decide (kv.1 = .inl z)) = true
  · rw [if_pos c]
    have hz : z ∈ ks := by
      obtain ⟨p, hp, e⟩ := List.any_eq_true.mp c
      have e' := of_decide_eq_true e
      have m : (Sum.inl z : L2.Key) ∈ rows.map (·.1) := List.mem_map.mpr ⟨p, hp, e'⟩
      rw [h] at m
      obtain ⟨y, hy, e2⟩ := List.mem_map.mp m
      injection e2 with e2
      rw [← e2]
      exact hy
    refine ⟨ks, ?_, id, fun x => ⟨.inl, fun y => ?_⟩, Nat.le_succ _⟩
    · rw [← h, List.map_map]
      refine List.map_congr_left fun p _ => ?_
      show (if p.1 = .inl z then (p.1, v) else p).1 = p.1
      split <;> rfl
    · rcases y with y | rfl
      · exact y
      · exact hz
  · rw [if_neg c]
    have hz : z ∉ ks := fun hz => c (List.any_eq_true.mpr (by
      have m : (Sum.inl z : L2.Key) ∈ rows.map (·.1) := by rw [h]; exact List.mem_map.mpr ⟨z, hz, rfl⟩
      obtain ⟨p, hp, e⟩ := List.mem_map.mp m
      exact ⟨p, hp, decide_eq_true e⟩))
    refine ⟨ks ++ [z], ?_, fun n => ?_, fun x => ?_, by rw [List.length_append]; exact Nat.le_refl _⟩
    · rw [List.map_append, List.map_append, h]
      rfl
    · exact List.nodup_append.mpr ⟨n, by simp, fun x hx y hy e => by rw [List.mem_singleton.mp hy] at e; exact hz (e ▸ hx)⟩
    · rw [List.mem_append, List.mem_singleton]
theorem putK_snoc {rows : List (L2.Key × V)} {k : L2.Key} {v : V} (h : k ∉ rows.map (·.1)) : putK rows k v = rows ++ [(k, v)] := by
  unfold putK
  rw [if_neg]
  intro c
  obtain ⟨p, hp, e⟩ := List.any_eq_true.mp c
  exact h (List.mem_map.mpr ⟨p, hp, of_decide_eq_true e⟩)
/-- a dict of numbers, whatever they hold -/
def KeyV (H : Hp) (a : Addr) (ks : List Int) : Prop := ∃ rows : List (L2.Key × V), H a = some (.dK rows) ∧ rows.map (·.1) = ks.map Sum.inl
theorem KeyV.kp {p a : Addr} {H H' : Hp} {ks : List Int} (h : KeyV H a ks) (k : Kp p H H') : KeyV H' a ks := by
  obtain ⟨rows, h1, h2⟩ := h
  exact ⟨rows, k _ _ (.inr fun l e => by cases e) h1, h2⟩
theorem rows_upd {H : Hp} {a : Addr} {o u : HO} {rows : List (L2.Key × V)} {ps : Ptn} (e : H a = some u) (n : ∀ l, u ≠ .tup l) (h : Paired (RowV H) rows ps) : Paired (RowV (upd H a o)) rows ps := L2.Paired.mapP h fun _ _ ⟨e1, t, e2, z⟩ => ⟨e1, t, e2, by
  rw [upd_ne (fun q => by rw [q, e] at z; exact n _ (Option.some.inj z))]
  exact z⟩
theorem rows_keys {H : Hp} {rows : List (L2.Key × V)} {ps : Ptn} (h : Paired (RowV H) rows ps) : rows.map (·.1) = ps.map fun p => (Sum.inl ((p.1 : Nat) : Int) : L2.Key) := by
  induction h with
  | nil => rfl
  | cons r t ih => rw [List.map_cons, List.map_cons, ih, r.1]
end Af

set_option Elab.async false
set_option linter.all false
set_option maxRecDepth 100000
set_option maxHeartbeats 4000000
namespace Af
open PySem PySem.Spec PyProof.Rows L2
open Sem (wp)
/-! a display of a dict that begins with another one's entries: {**a, k: v, ..} -/
section
variable {prog : Program} {w : World} {K : Type} [DecidableEq K] {knd : KeyKind prog w K} {A : Around} {E : Value → Shared → Prop} {s : Shared}
theorem dictPut_eq (d : Addr) (h : Int) (key v : Value) : True := trivial
theorem wpAny_dictPut {d : Addr} {kvs : List (K × Value)} {k : K} {key v : Value} {Q : Unit → Shared → Prop} (hkey : knd.is k key = true) (hm : s.heap.DictOf knd d kvs)
    (hQ : ∀ h', h'.DictOf knd d (stored kvs k v) → Heap.SameBut d s.heap h' → Q () { s with heap := h' })
    (hsz : kvs.length ≤ sizeLine) :
    wpAny (model prog w) A (dictPut d (knd.hash k) key v) Q E s := by
  obtain ⟨o, es, ep, ho, hc, hd, hk, hp, hn⟩ := hm
  have hes : es.size ≤ sizeLine := by
    have e1 := hp.length
    have e2 : es.toList.length = es.size := by simp
    omega
  unfold dictPut
  refine wpAny_bind (wpAny_dictFind_of hkey ho hd hk ?_)
  have hidx : (es.findIdx? fun e => knd.is k e.key) = kvs.findIdx? fun kv => decide (kv.1 = k) := by
    rw [← hp.findIdx k]; obtain ⟨l⟩ := es; simp
  cases hi : es.findIdx? fun e => knd.is k e.key with
  | some i =>
    refine wpAny_updateDict ho hd (hQ _ ⟨_, _, ep, Heap.get?_update_self _ ho (Obj.isFreed_of_dict (Obj.data_mapDict hd _)),
      hc.mapDict _, Obj.data_mapDict hd _, hk.modify _ _, ?_, ?_⟩ (Heap.SameBut.update ..))
    · rw [stored, if_pos (any_of_findIdx_some (hidx ▸ hi))]
      have hl : (es.toList.findIdx? fun e => knd.is k e.key) = some i := by rw [← hi]; obtain ⟨l⟩ := es; simp
      have := hp.modify hn hl v
      obtain ⟨l⟩ := es
      simpa using this
    · rw [stored, if_pos (any_of_findIdx_some (hidx ▸ hi)), keys_map_store]; exact hn
  | none =>
    have hnot : k ∉ kvs.map (·.1) := not_mem_of_findIdx_none (hidx ▸ hi)
    have hany : ¬ (kvs.any fun kv => decide (kv.1 = k)) = true := by
      rw [List.any_eq_true]; rintro ⟨kv, hkv, he⟩
      exact hnot (List.mem_map.mpr ⟨kv, hkv, of_decide_eq_true he⟩)
    refine wpAny_updateDictKeys (hz := hes) ho hd (hQ _ ⟨_, _, ep + 1, Heap.get?_update_self _ ho (Obj.isFreed_of_dict (Obj.data_mapDictKeys hd _)),
      hc.mapDictKeys _, Obj.data_mapDictKeys hd _, hk.push hkey _, ?_, ?_⟩ (Heap.SameBut.update ..))
    · rw [stored, if_neg hany]
      have := hp.append hkey (knd.hash k) v
      obtain ⟨l⟩ := es
      simpa using this
    · rw [stored, if_neg hany, List.map_append, List.nodup_append]
      refine ⟨hn, by simp, ?_⟩
      intro a ha b hb
      simp only [List.map_cons, List.map_nil, List.mem_singleton] at hb
      subst hb
      exact fun e => hnot (e ▸ ha)
theorem wpAny_mergeMapping {d a : Addr} {kvs more : List (K × Value)} {Q : Unit → Shared → Prop} (hdo : d ≠ a) (hoS : (a == sysModules) = false)
    (hd : s.heap.DictOf knd d kvs) (ho : s.heap.DictOf knd a more)
    (hQ : ∀ h', h'.DictOf knd d (merged kvs more) → h'.DictOf knd a more → Heap.SameBut d s.heap h' → Q () { s with heap := h' })
    (hsz : kvs.length + more.length ≤ sizeLine) :
    wpAny (model prog w) A (mergeMapping d (.ref a) false) Q E s := by
  obtain ⟨od, esd, epd, hod, hcd, hdd, hkd, hpd, hnd⟩ := id hd
  obtain ⟨oo, eso, epo, hoo, hco, hdo', hko, hpo, hno⟩ := id ho
  have hlen : more.length = eso.size := by rw [← hpo.length]; simp
  unfold mergeMapping
  refine wpAny_bind (wpAny_isInstance ho.typeIs isSubtype_dict_dict ?_)
  simp only [if_true]
  refine wpAny_bind (wpAny_specialOf ho.typeIs F.slot_dict_iter.lookup (wpAny_bind (wpAny_pure ?_)))
  simp only [beq_self_eq_true]
  rw [if_neg (by rw [hoS]; exact Bool.false_ne_true)]
  have loop : wpAny (model prog w) A (do
      let l ← dictEntries a
      let epoch ← dictEpoch a
      forIn (List.range l.size) PUnit.unit fun i (_ : PUnit) => (do
          let l' ← dictEntries a
          match l'[i]? with
            | some e => do
              holding [e.key, e.val] (dictPut d e.hash e.key e.val)
              let ep' ← dictEpoch a
              if (ep' != epoch) = true then do
                  (unsupported "dict.changed-during-merge" : Sem PUnit)
                  pure (ForInStep.yield PUnit.unit)
                else pure (ForInStep.yield PUnit.unit)
            | _ => do
              (unsupported "dict.changed-during-merge" : Sem PUnit)
              pure (ForInStep.yield PUnit.unit) : Sem (ForInStep PUnit))
      pure ()) Q E s := by
    refine wpAny_bind (wpAny_dictEntries hoo hdo' ?_)
    refine wpAny_bind (wpAny_dictEpoch hoo hdo' ?_)
    refine wpAny_bind ?_
    rw [List.range_eq_range']
    refine wpAny_forIn_list _
      (fun rest _ s' => ∃ h' i, s' = { s with heap := h' } ∧ rest = List.range' i (eso.size - i) ∧ i ≤ eso.size ∧ h'.DictOf knd d (merged kvs (more.take i)) ∧ h'.get? a = some oo ∧ Heap.SameBut d s.heap h')
      _ ?_ ?_ _ _ ⟨s.heap, 0, rfl, by simp, Nat.zero_le _, by simpa [merged] using hd, hoo, Heap.SameBut.refl _ _⟩
    · rintro x rest b s' ⟨h', i, rfl, hr, hi, hd', hoo', hs'⟩
      have hlt : i < eso.size := by
        rcases Nat.lt_or_ge i eso.size with h | h
        · exact h
        · rw [Nat.sub_eq_zero_of_le h] at hr; simp at hr
      obtain ⟨rfl, hrest⟩ : x = i ∧ rest = List.range' (i + 1) (eso.size - (i + 1)) := by
        have e : eso.size - i = (eso.size - (i + 1)) + 1 := by omega
        rw [e, List.range'_succ] at hr
        injection hr with h1 h2
        exact ⟨h1, h2⟩
      refine wpAny_bind (wpAny_dictEntries hoo' hdo' ?_)
      rw [Array.getElem?_eq_getElem hlt]
      obtain ⟨kv, hkv⟩ : ∃ kv, more[x]? = some kv := ⟨more[x]'(by rw [hlen]; exact hlt), List.getElem?_eq_getElem _⟩
      obtain ⟨k, v⟩ := kv
      obtain ⟨hkey, hval⟩ := hpo.get? (e := eso[x]) (by simp [hlt]) hkv
      obtain ⟨k', hkey', hhash⟩ := hko eso[x] (Array.getElem_mem hlt)
      obtain rfl : k' = k := knd.inj _ _ _ hkey' hkey
      show wpAny _ _ (holding [eso[x].key, eso[x].val] (dictPut d eso[x].hash eso[x].key eso[x].val) >>= _) _ _ _
      rw [hhash, hval]
      have hmx : (merged kvs (more.take x)).length ≤ sizeLine := by
        have e1 := merged_length_le kvs (more.take x)
        have e2 : (more.take x).length ≤ more.length := by rw [List.length_take]; omega
        omega
      refine wpAny_bind (wpAny_holding (wpAny_dictPut hkey hd' (fun h'' hd'' hs'' => ?_) hmx))
      have hoo'' : h''.get? a = some oo := (hs''.2 a (Ne.symm hdo)).trans hoo'
      refine wpAny_bind (wpAny_dictEpoch hoo'' hdo' ?_)
      rw [if_neg (by simp)]
      exact wpAny_pure ⟨h'', x + 1, rfl, hrest, hlt, by rw [merged_take_succ kvs more x (k', v) hkv]; exact hd'', hoo'', hs'.trans hs''⟩
    · rintro b s' ⟨h', i, rfl, hr, hi, hd', hoo', hs'⟩
      have hin : i = eso.size := by
        rcases Nat.lt_or_ge i eso.size with h | h
        · have e : eso.size - i = (eso.size - (i + 1)) + 1 := by omega
          rw [e, List.range'_succ] at hr; exact nomatch hr
        · exact Nat.le_antisymm hi h
      refine wpAny_pure (hQ h' ?_ ⟨oo, eso, epo, hoo', hco, hdo', hko, hpo, hno⟩ hs')
      rw [hin, ← hlen, List.take_length] at hd'; exact hd'
  refine wpAny_bind (wpAny_dictEntries hod hdd ?_)
  split
  · refine wpAny_bind (wpAny_dictEntries hoo hdo' ?_)
    have h0 : (forIn eso PUnit.unit fun (e : DictEntry) (_ : PUnit) => (match e.key with
        | Value.ref a => do
          let q ← specialOf e.key (Str.ofString "__eq__")
          if (q != some (Value.builtin "object.__eq__")) = true then
              if (Array.filter (fun x => x.hash == e.hash) eso).size > 1 then do
                (unsupported "dict.merge-into-an-empty-dict:keys-of-equal-hash" : Sem PUnit)
                pure (ForInStep.yield PUnit.unit)
              else pure (ForInStep.yield PUnit.unit)
            else pure (ForInStep.yield PUnit.unit)
        | x => pure (ForInStep.yield PUnit.unit) : Sem (ForInStep PUnit))) = pure PUnit.unit := by
      rw [← Array.forIn_toList]
      refine forIn_yield_id _ fun e he c => ?_
      obtain ⟨k, hkey, _⟩ := hko e (Array.mem_toList_iff.mp he)
      have b := knd.byValue k _ hkey
      cases hk : e.key <;> first | rfl | (rw [hk] at b; cases b)
    exact wpAny_bind (wpAny_of_eq h0 loop)
  · exact loop
theorem forIn_gatherM (main : Option Addr) (f : (Option (Sem Value) × Sem Value) → (Option Addr × List (Sem Value × Sem Value)) → Sem (ForInStep (Option Addr × List (Sem Value × Sem Value))))
    (hf : ∀ (p : Sem Value × Sem Value) (run : List (Sem Value × Sem Value)), run.length + 1 < 17 → f (some p.1, p.2) (main, run) = pure (.yield (main, run ++ [p]))) :
    ∀ (items run : List (Sem Value × Sem Value)), run.length + items.length < 17 → forIn (items.map fun p => (some p.1, p.2)) (main, run) f = pure (main, run ++ items)
  | [], run, _ => by simp
  | p :: rest, run, h => by
    rw [List.map_cons, List.forIn_cons, hf p run (by simp at h; omega), pure_bind]
    have := forIn_gatherM main f hf rest (run ++ [p]) (by simp at h ⊢; omega)
    simpa using this
theorem wpAny_no {α : Type} {m : Sem α} {Q : α → Shared → Prop} {E' : Value → Shared → Prop} (h : wpAny (model prog w) A m Q (fun _ _ => False) s) : wpAny (model prog w) A m Q E' s := wpAny_mono h (fun _ _ x => x) fun _ _ x => x.elim
theorem wpAny_spread {m : Sem Value} {pairs : List (Sem Value × Sem Value)} {Q : Value → Shared → Prop} (h0 : pairs ≠ []) (hlen : pairs.length ≤ 15)
    (h : wpAny (model prog w) A m (fun v s1 => wpAny (model prog w) A (mergeMapping s.heap.objs.size v false) (fun _ s2 => wpAny (model prog w) A (subDict pairs) (fun sub s3 =>
      wpAny (model prog w) A (mergeMapping s.heap.objs.size (.ref sub) false) (fun _ s4 => Q (.ref s.heap.objs.size) s4) (fun _ _ => False) s3) E s2) (fun _ _ => False) s1) E
      { s with heap := s.heap.push { cls := .type "dict", data := .dict #[] } }) :
    wpAny (model prog w) A (dictDisplay ((none, m) :: pairs.map fun p => (some p.1, p.2))) Q E s := by
  unfold dictDisplay
  dsimp only
  rw [List.forIn_cons]
  simp only [List.isEmpty_nil, if_true, pure_bind]
  refine wpAny_bind (wpAny_bind (wpAny_bind (wpAny_alloc ?_)))
  refine wpAny_bind (wpAny_holding (wpAny_mono h (fun v s1 h1 => ?_) fun _ _ e => e))
  refine wpAny_bind (wpAny_onRaise (wpAny_tryCatch (wpAny_onRaise (wpAny_holding (wpAny_mono h1 (fun _ s2 h2 => ?_) fun _ _ x => x.elim)))))
  refine wpAny_pure ?_
  simp only []
  rw [forIn_gatherM (some s.heap.objs.size) _ (fun p run h => by
    have hne : ((run ++ [(p.1, p.2)]).length == 17) = false := by simp; omega
    simp only [hne, Bool.false_eq_true, if_false]) pairs [] (by simp; omega)]
  refine wpAny_pure ?_
  simp only [List.nil_append]
  have he : pairs.isEmpty = false := by
    cases pairs with
    | nil => exact absurd rfl h0
    | cons a b => rfl
  simp only [he, Bool.false_eq_true, if_false]
  refine wpAny_bind (wpAny_bind (wpAny_holding (wpAny_mono h2 (fun sub s3 h3 => ?_) fun _ _ e => e)))
  refine wpAny_bind (wpAny_onRaise (wpAny_holding (wpAny_mono h3 (fun _ s4 h4 => ?_) fun _ _ x => x.elim)))
  exact wpAny_pure (wpAny_pure h4)
end
/-- {**a, k: v, ..}: the new dict stands empty, then with a's entries, while the pairs are made -/
def tSpread (te : TE) (trs : List (TE × TE)) : TE := fun σ H Q => ∀ p, H p = none → te σ (upd H p (.dK [])) fun x H1 => ∃ a kvs, x = .ref a ∧ a ≠ p ∧ H1 a = some (.dK kvs) ∧ H1 p = some (.dK []) ∧ kvs.length ≤ 1000 ∧
  ∀ p2, H1 p2 = none → tPairs trs σ (upd (upd H1 p (.dK kvs)) p2 (.dK [])) fun ps H2 => H2 p = some (.dK kvs) ∧ H2 p2 = some (.dK []) ∧ ∃ kvs2 : List (Key × V), ps = kvs2.map (fun kv => (kV kv.1, kv.2)) ∧ kvs2.length ≤ 15 ∧
    Q (.ref p) (upd (upd H2 p2 (.dK (mergeK [] kvs2))) p (.dK (mergeK kvs (mergeK [] kvs2))))
theorem pe_spread {X : Cx} {pos : Pos} {e : Expr} {keys : List (Option Expr)} {values : List Expr} {te : TE} {trs : List (TE × TE)} (he : PE X e te) (h : PPs X pos keys values trs) (hall : keys.all (·.isSome) = true) (hl : keys.length = values.length) (h0 : keys ≠ [])
    (h15 : keys.length ≤ 15) : PE X (.Dict (none :: keys) (e :: values) pos) (tSpread te trs) := by
  refine ⟨fun pins s σ H Q I q => ?_⟩
  have hn := I.hok.fresh (Nat.le_refl s.heap.objs.size)
  have I1 := I.laid (a := s.heap.objs.size) (o := .dK []) (h' := s.heap.push { cls := .type "dict", data := .dict #[] }) (t' := s.toks) (fun _ _ q => Heap.get?_push_of_some _ q) (Nat.le_refl _) (dk_empty s.heap I.big)
  rw [arm_eval_Dict]
  refine wpAny_bind (wpAny_standAt ?_)
  have hz : (evalEachOpt (none :: keys) X.env).zip ((evalEach (e :: values) X.env).map fun v => do let x ← v; standAt pos; pure x) = (none, do let x ← eval e X.env; standAt pos; pure x) :: (pairTrees keys values X.env pos).map fun p => (some p.1, p.2) := by
    rw [← zip_pairTrees keys values X.env pos hall hl]
    rfl
  rw [hz]
  have hpl := pairTrees_length keys values X.env pos hall hl
  refine wpAny_spread (by intro z; rw [z] at hpl; exact h0 (List.length_eq_zero_iff.mp hpl.symm)) (by rw [hpl]; exact h15) ?_
  refine wpAny_bind (thn (he.run pins _ σ _ _ I1 (q _ hn)) fun v s1 ⟨x, H1, I2, rx, a, kvs, ex, nap, ha, hp, lk, q2⟩ => wpAny_bind (wpAny_standAt (wpAny_pure ?_)))
  subst ex
  cases rx
  obtain ⟨z, hd, vs, rel, dd⟩ := dk_of I2.hok ha
  obtain ⟨_, hd0, vs0, r0, dd0⟩ := dk_of I2.hok hp
  cases r0
  refine wpAny_mergeMapping (kvs := []) (more := vs) (fun e => nap e.symm) hd dd0 dd (fun h' dd' _ hs => ?_) (by rw [← rel.length, sizeLine_eq, List.length_nil]; omega)
  have hno : (vs.map (·.1)).Nodup := let ⟨_, _, _, _, _, _, _, _, hn⟩ := dd; hn
  rw [merged_nil_of_nodup vs hno] at dd'
  have he1 : ∃ q, h'.get? s.heap.objs.size = some q := let ⟨q, _, _, hq, _⟩ := dd'; ⟨q, hq⟩
  have I3 := d_write (t' := s1.toks) I2 (by rw [hp]; exact True.intro) hs he1 (dk_new z hd0 rel dd')
  have hn2 := I3.hok.fresh (Nat.le_refl h'.objs.size)
  have np2 : h'.objs.size ≠ s.heap.objs.size := fun e => by
    rw [e, upd_same] at hn2
    cases hn2
  rw [upd_ne np2] at hn2
  have I4 := I3.laid (a := h'.objs.size) (o := .dK []) (h' := h'.push { cls := .type "dict", data := .dict #[] }) (t' := s1.toks) (fun _ _ q => Heap.get?_push_of_some _ q) (Nat.le_refl _) (dk_empty h' I3.big)
  refine wpAny_subDict (knd := mixKind X.prog X.w) (by rw [hpl]; exact h15) (thn (h.run pins _ σ _ _ I4 (q2 _ hn2)) fun ws s2 ⟨ps, H2, I5, rel2, e1, e2, kvs2, ep, lk2, q3⟩ => ?_)
  subst ep
  obtain ⟨rs, c, rk⟩ := carries_of (P := X.prog) (w := X.w) rel2
  obtain ⟨z2, hd2, vs2, r2, dd2⟩ := dk_of I5.hok e2
  cases r2
  refine ⟨rs, c, dd2, fun h2 dd3 hs2 => ?_⟩
  have hz2 : (mergeK [] kvs2).length ≤ sizeLine := by
    have h1 := length_mergeK kvs2 []
    rw [List.length_nil] at h1
    rw [sizeLine_eq]; omega
  have he2 : ∃ q, h2.get? h'.objs.size = some q := let ⟨q, _, _, hq, _⟩ := dd3; ⟨q, hq⟩
  have I6 := d_write (t' := s2.toks + ws.length) I5 (by rw [e2]; exact True.intro) hs2 he2 (dk_new hz2 hd2 (rk.merge .nil) dd3)
  have e3 : (upd H2 h'.objs.size (.dK (mergeK [] kvs2))) s.heap.objs.size = some (.dK kvs) := by rw [upd_ne (Ne.symm np2)]; exact e1
  have e4 : (upd H2 h'.objs.size (.dK (mergeK [] kvs2))) h'.objs.size = some (.dK (mergeK [] kvs2)) := upd_same
  obtain ⟨z5, hd5, vs5, r5, dd5⟩ := dk_of I6.hok e3
  obtain ⟨z6, hd6, vs6, r6, dd6⟩ := dk_of I6.hok e4
  refine wpAny_mergeMapping (kvs := vs5) (more := vs6) (Ne.symm np2) hd6 dd5 dd6 (fun h3 dd7 _ hs3 => ?_) ?_
  · have hz3 : (mergeK kvs (mergeK [] kvs2)).length ≤ sizeLine := by
      have h1 := length_mergeK kvs2 []
      have h2 := length_mergeK (mergeK [] kvs2) kvs
      rw [List.length_nil] at h1
      rw [sizeLine_eq]; omega
    have he3 : ∃ q, h3.get? s.heap.objs.size = some q := let ⟨q, _, _, hq, _⟩ := dd7; ⟨q, hq⟩
    exact ⟨.ref s.heap.objs.size, _, d_write (t' := s2.toks + ws.length) I6 (by rw [e3]; exact True.intro) hs3 he3 (dk_new hz3 hd5 (r6.merge r5) dd7), rfl, q3⟩
  · rw [← r5.length, ← r6.length]
    have h1 := length_mergeK kvs2 []
    rw [List.length_nil] at h1
    rw [sizeLine_eq]; omega
end Af

set_option Elab.async false
set_option linter.all false
set_option maxRecDepth 100000
set_option maxHeartbeats 4000000
namespace Af
open PySem PySem.Spec PyProof.Rows L2
/-! d.update(e) of two dicts with keys of numbers and texts -/
def rUpdate : V → List V → Hp → VK → Prop := fun x xs H Q => ∃ (d e : Addr) (kvs more : List (L2.Key × V)), x = .ref d ∧ xs = [.ref e] ∧ d ≠ e ∧ H d = some (.dK kvs) ∧ H e = some (.dK more) ∧ kvs.length + more.length ≤ 1000 ∧ Q .non (upd H d (.dK (mergeK kvs more)))
theorem mt_update {X : Cx} : MtR X "dict.update" rUpdate := by
  intro pins s σ H x xs v us Q I rx rxs h
  obtain ⟨d, e, kvs, more, rfl, rfl, ne, hd, he, le, q⟩ := h
  cases rx
  obtain ⟨u, rfl, ru⟩ := rxs.one
  cases ru
  obtain ⟨z, lo, vs, rel, dd⟩ := dk_of I.hok hd
  obtain ⟨z2, lo2, vs2, rel2, dd2⟩ := dk_of I.hok he
  refine call_meetsIn PySem.F.slot_dict_update dd.typeIs PySem.F.entry_dict_update (PySem.F.args_dict_update_2 _ _) (meets_dict_update (mixKind X.prog X.w) d e ne lo2)
    ⟨vs, vs2, dd, dd2, by rw [← rel.length, ← rel2.length, sizeLine_eq]; omega, fun h' dd' _ hs => ?_⟩
  have hz : (mergeK kvs more).length ≤ sizeLine := by
    have h1 := length_mergeK more kvs
    rw [sizeLine_eq]; omega
  have he2 : ∃ q, h'.get? d = some q := let ⟨q, _, _, hq, _⟩ := dd'; ⟨q, hq⟩
  exact ⟨.non, _, d_write (t' := s.toks) I (by rw [hd]; exact True.intro) hs he2 (dk_new hz lo (rel2.merge rel) dd'), rfl, q⟩
end Af

set_option Elab.async false
set_option linter.all false
set_option maxRecDepth 100000
set_option maxHeartbeats 4000000
namespace Af
open PySem PySem.Spec PyProof.Rows PySem.Calls L2
/-! an own exception's __init__ whose first statement is super().__init__(..), over ValueError -/
/-- what the written part says of the class at C, of its __init__ at f, of the cell __class__ at cc, of the code object at cda -/
structure SupC (P : Program) (K : PySem.W.Frag) (mg : Str → Option Value) (C cc cda : Addr) : Prop where
  code : ∃ ccl cdd vs ccs file tf, K.lookup cda = some ⟨ccl, cdd, .fields vs, ccs⟩ ∧ vs[2]? = some (.str file tf) ∧ ((P.main.file : Str) == file) = true
  cell : ∃ cl cld csl, K.lookup cc = some ⟨cl, cld, .cell (some (.ref C)), csl⟩
  top : (P.main.scope.names.lookup ("super" : Str)).isSome = false
  sup : mg "super" = none
  opq : PySem.W.nsIn K cStatics "thirdparty.any" = some none
  init : PySem.W.ks_superIn K C C "__init__" = some (some (.builtin "ValueError.__init__"))
  ve : PySem.W.subIn K (.ref C) (.type "ValueError") = some true
theorem call_mw {X : Cx} {pins : List (Addr × Obj)} {σ : L2.St} {H : Hp} {s : Shared} {a C u : Addr} {us : List Value} {Q : Value → Shared → Prop} {E : Value → Shared → Prop} {A : Around} (T : OexC X.K C) (I : Inv X pins σ H s) (e : H a = some (exo a C none))
    (hu : s.heap.get? u = some (PySem.W.kxs_mw "ValueError.__init__" a)) (hl : us.length ≤ sizeLine) (h : ∀ s', Inv X pins σ H s' → Q .none s') : wpAny (model X.prog X.w) A (call (.ref u) us) Q E s := by
  obtain ⟨nm, q, N, bs, bm, sn, sub, ab, col, dd, k0, k1, k2, k3, k5, hC, hbm⟩ := T.cls
  obtain ⟨t1, ho⟩ := exo_at I.hok e
  obtain ⟨hp, g, d, t, os⟩ := s
  refine wpAny_call (codeAny_of_tree ?_)
  show wpAny _ A.in1 (callAny (.ref u) ⟨us, []⟩) _ _ _
  simp only [callAny]
  refine wpAny_bind (wpAny_load hu ?_)
  simp only [PySem.W.kxs_mw, show (Value.type "method-wrapper" == Value.type "method" || Value.type "method-wrapper" == Value.type "builtin_function_or_method" || Value.type "method-wrapper" == Value.type "method-wrapper") = true by decide, if_true]
  refine PySem.W.KFB.if_so (by decide) ?_
  refine wpAny_bind (PySem.W.check_bound_init F.excBase_ValueError.toExcCallFacts (I.kIn _ _ hC) ho rfl ?_)
  refine wpAny_bind (wpAny_pure (wpAny_pure ?_))
  refine ⟨plainId_quiet F.excBase_ValueError.init.plain _, codeAny_builtin F.excBase_ValueError.initEntry ?_⟩
  refine PySem.W.exc_init_tree (cls := .ref C) (t0 := t1) (dv := none) (c2 := .none) (c3 := .none) (b4 := .bool false) ho hl fun h' k hx _ => ?_
  have J := I.write (t' := t) (x := a) (e := a) (o := exo a C none) (by rw [e]; exact True.intro) (.inl rfl) k ⟨_, hx⟩ (exo_ok hx)
  have eu : upd H a (exo a C none) = H := by
    funext b
    by_cases hb : b = a
    · rw [hb, upd_same, e]
    · rw [upd_ne hb]
  rw [eu] at J
  exact h _ J
section
variable {P : Program} {w : World} {K : PySem.W.Frag} {mg : Str → Option Value} {base : Heap}
theorem fn_sup {CX : CXT} {k : Nat} {f C cc cda : Addr} {qual : Str} {params : Arguments} {rest : List Stmt} {e : Expr} {p0 p1 p2 p3 p4 : Pos} {scope : Scope} {dV kV doc pm ct oc : Value} {an od : Option Addr} {osl : Array (Option Value)} {N ps : List Str} {ar : Arg} {sp : Sp} {pl : Sem Bool}
    (T : OexC K C) (U : SupC P K mg C cc cda)
    (lk : K.lookup f = some ⟨oc, od, .func (PySem.W.fnX "__init__" qual params (.Expr (.Call (.Attribute (.Call (.Name "super" p0) [] [] p1) "__init__" p2) [e] [] p3) p4 :: rest) scope [("__class__", cc)] dV kV doc pm an (.ref cda) ct), osl⟩)
    (hcd : PySem.W.codeIn K (.ref cda) qual = true) (S : NdefX.NScope N (ar.arg :: ps) ["__class__"] scope) (hp : (params.posonlyargs ++ params.args).head? = some ar) (hks : scope.names.lookup ("super" : Str) = some .globalImplicit)
    (len : ∀ vs H Q E, sp vs H Q E → vs.length = ps.length + 1)
    (hc : ∀ env : Env, eval (.Call (.Attribute (.Call (.Name "super" p0) [] [] p1) "__init__" p2) [e] [] p3) env = (do
      let ov ← attributeBase (.Call (.Name "super" p0) [] [] p1) "__init__" env (eval (.Call (.Name "super" p0) [] [] p1) env)
      standAt p2.atName
      let (f, first) ← holding [ov] (getMethod ov "__init__" pl)
      callWith p3 f first (backTo p3 (starEach [e] env)) []))
    (hs : ∀ env : Env, swapsWith (.Call (.Attribute (.Call (.Name "super" p0) [] [] p1) "__init__" p2) [e] [] p3) none p4.line env = pure false) (he : ∀ env : Env, starEach [e] env = [(false, eval e env)])
    (hbody : ∀ (A : Around) (outer : List Env) (s : Shared) (H : Hp) (vs : List V) (Q : VK) (E : XK),
      Room k (NdefX.ncx CX P w K mg base N ⟨"__init__", qual, params, rest, scope, [("__class__", cc)], cda⟩ f A outer s H E).A → sp vs H Q E → ∃ (a : Addr) (ws : List V) (te : TE) (t : TS), vs = .ref a :: ws ∧ H a = some (exo a C none) ∧
      PE (NdefX.ncx CX P w K mg base N ⟨"__init__", qual, params, rest, scope, [("__class__", cc)], cda⟩ f A outer s H E) e te ∧
      PSs (NdefX.ncx CX P w K mg base N ⟨"__init__", qual, params, rest, scope, [("__class__", cc)], cda⟩ f A outer s H E) rest t ∧
      te (NdefX.startF N vs [none]) H fun x H1 => [x].length ≤ 1000 ∧ H1 a = some (exo a C none) ∧ t { nx := fun _ H' => Q .non H', rt := Q } (NdefX.startF N vs [none]) H1) :
    FnOk P w K mg base CX (k + 1) f (PySem.W.fnX "__init__" qual params (.Expr (.Call (.Attribute (.Call (.Name "super" p0) [] [] p1) "__init__" p2) [e] [] p3) p4 :: rest) scope [("__class__", cc)] dV kV doc pm an (.ref cda) ct) (ar.arg :: ps) sp := by
  refine ⟨len, fun A outer s H args us vs Q E hr e0 hb r hsp => ?_⟩
  have hl : vs.length = (ar.arg :: ps).length := len _ _ _ _ hsp
  have KX : K.In s.heap := e0.mod.kin.keeps fun b o e => (e0.bs b o e).1
  have lim : s.heap.NoLimit := e0.mod.nolimit.keeps fun b o e => (e0.bs b o e).1
  obtain ⟨cl, cld, csl, hcell⟩ := U.cell
  obtain ⟨ccl, cdd, cvs, ccs, file, tf, hcode, hvs, hfile⟩ := U.code
  have CA : NdefX.CellsAt [("__class__", cc)] ["__class__"] [none] s.heap H := by
    have hcc := e0.mod.kin _ _ hcell
    refine ⟨rfl, fun y c q => ?_, fun x y c q q' => ?_, fun i y q => ?_⟩
    · have : c = cc := by
        rw [List.lookup_cons] at q
        split at q
        · exact (Option.some.inj q).symm
        · cases q
      subst this
      exact ⟨(e0.bs _ _ hcc).2, _, _, (e0.bs _ _ hcc).1, rfl⟩
    · have key : ∀ z : Str, List.lookup z [(("__class__" : Str), cc)] = some c → z = "__class__" := fun z q => by
        rw [List.lookup_cons] at q
        split at q
        · rename_i h; simpa using h
        · cases q
      rw [key x q, key y q']
    · cases i with
      | zero =>
        have : y = "__class__" := (Option.some.inj q).symm
        subst this
        exact ⟨cc, by simp, fun v z => by cases z⟩
      | succ i => cases q
  refine PySem.ks_codeAny_call_defAt (fd := PySem.W.fnX "__init__" qual params _ scope [("__class__", cc)] dV kV doc pm an (.ref cda) ct) (binds := (ar.arg :: ps).zip us) hr.depth (KX _ _ lk) rfl lim (PySem.W.codeRec_of KX hcd) rfl hb S.nocell
    (fun ⟨n, _⟩ hy => S.par n (List.of_mem_zip hy).1) (fun h₀ hns kp => ?_) S.co S.gen S.kind
  obtain ⟨a, ws, te, t, rfl, ha, hte, ht, hq⟩ := hbody A outer s H vs Q E (hr.deeper _) hsp
  have I : Inv (NdefX.ncx CX P w K mg base N ⟨"__init__", qual, params, rest, scope, [("__class__", cc)], cda⟩ f A outer s H E) [] (NdefX.startF N (.ref a :: ws) [none]) H { s with heap := h₀, toks := s.toks + ((ar.arg :: ps).zip us).length } := NdefX.inv_startN (F := ⟨"__init__", qual, params, rest, scope, [("__class__", cc)], cda⟩) S hr.hd e0 hl r CA hns kp
  obtain ⟨nm, q, N0, bs, bm, sn, sub, ab, col, dd, k0, k1, k2, k3, k5, hC, hbm⟩ := T.cls
  have hcl : PySem.W.clsIn K C = some { name := nm, bases := bs, mro := .ref C :: bm, ns := N0, qualname := q, hasDict := true, slotNames := sn, subclasses := sub, abstract := ab, collection := col, hasDel := false } := by unfold PySem.W.clsIn; rw [hC] <;> rfl
  have hsub : PySem.W.mroIn K C (.ref C) = some true := by
    unfold PySem.W.mroIn
    rw [hcl]
    show (if (Value.ref C :: bm).isEmpty = true then none else some ((Value.ref C :: bm).contains (.ref C))) = some true
    rw [if_neg (by simp)]
    simp
  have K0 : K.In h₀ := KX.keeps kp
  obtain ⟨t1, hx⟩ := exo_at I.hok ha
  obtain ⟨mb, bl1, bl2⟩ := e0.mod.blt
  have hv : List.lookup ar.arg ((ar.arg :: ps).zip us).reverse = some (.ref a) := by
    cases r with
    | @cons _ u0 _ ur ra rw' =>
      obtain rfl : u0 = Value.ref a := ra
      have nd : (ar.arg :: ps).Nodup := by
        have q := S.nd.sublist (List.take_sublist ((ar.arg :: ps).length + [("__class__" : Str)].length) N)
        rw [S.pre] at q
        exact (List.nodup_append.mp q).1
      exact NdefX.zip_look (i := 0) nd rfl rfl
  have hxC : a ≠ C := fun z => by
    subst z
    rw [K0 _ _ hC] at hx
    cases hx
  refine ks_wpAt_execs_cons (ks_wpAt_Expr_any (ks_wpAt_MethodCall ?_ (hc _)) I.quiet (hs _))
  refine ks_wpAt_super_base hks (S.frk _ (by simp)) (by decide) rfl (kp _ _ (KX _ _ lk)) rfl hp rfl (kp _ _ (KX _ _ hcode)) rfl hvs hfile U.top ?_
  refine PySem.W.ks_loadName_global S.kind hks (loadGlobal_builtin (e0.mod.glob.keeps I.bk) U.sup (bl1.keeps I.bk) ((bl2 _ (by decide)).trans PyProof.Rows.Boot.«super») ⟨rfl, ?_⟩)
  refine wpAny_loadName_free S.kind (S.frk _ (by simp)) (show List.lookup _ [(("__class__" : Str), cc)] = some cc by simp) ⟨_, K0 _ _ hcell, rfl⟩ ?_
  refine wpAny_loadName_local S.kind (S.par _ (by simp)) hns hv ?_
  refine ks_wpAny_isType_cls (K0 _ _ hC) rfl ⟨rfl, ?_⟩
  refine ks_wpAny_call_super (K0 _ _ hC) rfl hx rfl (fun c e => by cases e) (PySem.W.looks_mroIn K0 hsub) (fun h1 so kk => ?_)
  have hf := U.init
  unfold PySem.W.ks_superIn at hf
  rw [hcl] at hf
  have K1 : K.In h1 := K0.keeps kk
  have J : PySem.W.InstAt h1 a ({ cls := .ref C, dict := none, data := .fields #[.ref t1, .none, .none, .none, .bool false, .none] } : Obj) C none := ⟨kk _ _ hx, rfl, rfl, trivial⟩
  refine PySem.W.kxs_getMethod PySem.W.kxs_ValueError so (PySem.W.looks_opaque K1 U.opq) (fun A Q E s k q => wpAny_bind ((PySem.W.looks_clsIn K1 hcl) A _ E s k (wpAny_pure q))) rfl K1 hf (J.type.andThen (PySem.W.looks_subIn K1 U.ve)) hxC (by decide) ?_
  have k2 : ∀ b o, h1.get? b = some o → (h1.push (PySem.W.kxs_mw "ValueError.__init__" a)).get? b = some o := fun b o e => Heap.get?_push_of_some _ e
  have I1 := I.kept (h' := h1) (t' := s.toks + ((ar.arg :: ps).zip us).length) kk
  have I2 := I1.kept (h' := h1.push (PySem.W.kxs_mw "ValueError.__init__" a)) (t' := s.toks + ((ar.arg :: ps).zip us).length + 1) k2
  have hu : (h1.push (PySem.W.kxs_mw "ValueError.__init__" a)).get? h1.objs.size = some (PySem.W.kxs_mw "ValueError.__init__" a) := Heap.get?_push_at rfl rfl
  have I3 : Inv (NdefX.ncx CX P w K mg base N ⟨"__init__", qual, params, rest, scope, [("__class__", cc)], cda⟩ f A outer s H E) [(h1.objs.size, PySem.W.kxs_mw "ValueError.__init__" a)] _ H _ := I2.pins_of fun p hp => by
    obtain rfl := List.mem_singleton.mp (show p ∈ [(h1.objs.size, PySem.W.kxs_mw "ValueError.__init__" a)] from hp)
    exact ⟨hu, I1.hok.fresh (Nat.le_refl _), Nat.ne_of_gt I1.lt, I1.nofs (Nat.le_refl _), fun v z => by cases z⟩
  have pae : PA (NdefX.ncx CX P w K mg base N ⟨"__init__", qual, params, rest, scope, [("__class__", cc)], cda⟩ f A outer s H E) [e] (tCons te tNil) := pa_cons hte pa_nil (by rw [he]; rfl)
  have run := pae.run p3 _ _ _ H (fun vs H1 => vs.length ≤ 1000 ∧ H1 a = some (exo a C none) ∧ t { nx := fun _ H' => Q .non H', rt := Q } (NdefX.startF N (.ref a :: ws) [none]) H1) I3 hq
  rw [he] at run
  refine PySem.W.kxs_callWith (i := "ValueError.__init__") (x := a) (by rw [he]; rfl) ?_
  rw [he]
  refine evalArgs_plain (wpAny_mono run (fun us1 s1 ⟨vs1, H1, I4, r1, l1, ea, q⟩ => ?_) fun _ _ z => z)
  refine ⟨(I4.pin _ (List.mem_singleton.mpr rfl)).1, ?_⟩
  refine call_mw (X := NdefX.ncx CX P w K mg base N ⟨"__init__", qual, params, rest, scope, [("__class__", cc)], cda⟩ f A outer s H E) T I4 ea (I4.pin _ (List.mem_singleton.mpr rfl)).1 (by show us1.length ≤ sizeLine; rw [← r1.length, sizeLine_eq]; omega) fun s2 I5 => ?_
  have I6 : Inv (NdefX.ncx CX P w K mg base N ⟨"__init__", qual, params, rest, scope, [("__class__", cc)], cda⟩ f A outer s H E) [] _ H1 s2 := I5.pins_of fun p hp => by cases hp
  refine wpAt_of_wpAny (wpAny_mono (ht.run [] _ _ H1 _ I6 q) (fun fl s' hs => ?_) fun e s' hs => hs)
  have fin : ∀ {σ' : L2.St} {H' : Hp} {v : V} {u : Value}, Inv (NdefX.ncx CX P w K mg base N ⟨"__init__", qual, params, rest, scope, [("__class__", cc)], cda⟩ f A outer s H E) [] σ' H' s' → L2.RelV v u → Q v H' → CE outer P w H s Q u s' :=
    fun {σ' H' v u} J rv q => ⟨v, H', J.os, J.bare, J.base, J.hok, rv, q⟩
  cases fl with
  | ret u =>
    obtain ⟨v, σ', H', J, rv, q⟩ := hs
    exact fin J rv q
  | next =>
    obtain ⟨σ', H', J, q⟩ := hs
    exact fin (v := V.non) (u := Value.none) J rfl q
  | brk =>
    obtain ⟨_, _, _, q⟩ := hs
    exact False.elim q
  | cont =>
    obtain ⟨_, _, _, q⟩ := hs
    exact False.elim q
end
end Af

set_option Elab.async false
set_option linter.all false
set_option maxRecDepth 100000
set_option maxHeartbeats 4000000
namespace Af
open PySem PySem.Spec PyProof.Rows PySem.Calls L2
/-- self.line = n of a ParseError that is being made -/
def sp_pe_init (C : Addr) : Sp := fun vs H Q _ => ∃ (a : Addr) (n : Int), vs = [.ref a, .int n] ∧ H a = some (exo a C none) ∧ 0 ≤ n ∧ n < 100000 ∧ ∀ dx, H dx = none → dx ≠ a → Q .non (upd (upd H dx (exd dx [("line", .int n)])) a (exo a C (some dx)))
theorem pe_raise {C : Addr} {n : Int} {H : Hp} {Q : XK} (n0 : 0 ≤ n) (n1 : n < 100000) (q : ∀ d H', Same H H' → H d = none → H' d = some (.xd [("line", .int n)]) → Q (.ref C) (some d) H') (a : Addr) (ha : H a = none) :
    sp_pe_init C (.ref a :: ([.int n] ++ [])) (upd H a (exo a C none)) (fun v H2 => v = .non ∧ ∃ (d : Addr) (fs : List (Str × V)), H2 a = some (exo a C (some d)) ∧ H2 d = some (exd d fs) ∧ H d = none ∧ Q (.ref C) (some d) (upd (del H2 a) d (.xd fs))) (fun _ _ _ => False) := by
  refine ⟨a, n, rfl, upd_same, n0, n1, fun dx hdx ne => ⟨rfl, dx, _, upd_same, (upd_ne ne).trans upd_same, ?_, ?_⟩⟩
  · rw [upd_ne ne] at hdx
    exact hdx
  · rw [upd_ne ne] at hdx
    refine q dx _ (fun b o e => ?_) hdx upd_same
    have ba : b ≠ a := ne_of_none e ha
    have bd : b ≠ dx := ne_of_none e hdx
    rw [upd_ne bd, del_ne ba, upd_ne ba, upd_ne bd, upd_ne ba]
    exact e
/-- the class ParseError, its __init__ told -/
structure PeC (P : Program) (w : World) (K : PySem.W.Frag) (mg : Str → Option Value) (base : Heap) (C : Addr) : Prop where
  T : OexC K C
  ex : ∃ (fI : Addr) (fd : FuncData), PySem.W.findIn K (.ref C) "__init__" = some (some (.ref fI)) ∧ PySem.W.typeIn K (.ref fI) = some (.type "function") ∧ FnOk P w K mg base CX0 1 fI fd ["self", "line"] (sp_pe_init C) ∧ Binds K fd ["self", "line"] []
  mgC : mg "ParseError" = some (.ref C)
theorem pmk_pe {X : Cx} {C : Addr} {j : Nat} {e : Expr} {es : List Expr} {ta : TA} {p pos : Pos} (c : PeC X.prog X.w X.K X.mg X.base C) (hr : Room j X.A) (hg : Gl X "ParseError") (ha : PA X (e :: es) ta) (hj : 2 ≤ j := by decide)
    (he : starEach (e :: es) X.env = (false, eval e X.env) :: starEach es X.env := by rfl) (hpl : (backTo pos (starEach es X.env)).any (·.1) = false := by rfl) : PMk X (.Call (.Name "ParseError" p) (e :: es) [] pos) (tMkO C (sp_pe_init C) [] ta) := by
  obtain ⟨fI, fd, iC, tI, F, b⟩ := c.ex
  exact pmk_oex c.T iC tI F (hr.mono hj) b .nil (fun _ _ _ _ _ _ _ h => h.elim) hg c.mgC ha (by decide) he hpl
end Af

set_option Elab.async false
set_option linter.all false
set_option maxRecDepth 100000
namespace Af
open PySem L2 TL
/-! numbers, lines and texts of plans -/
def numS (i : Int) : Str := (toString i : String)
def lineS (w : Str) (ns : List Int) : Str := Txt.join " " (w :: ns.map numS)
def stepS : Option (Int × List Int) → Str
  | none => "barrier"
  | some (f, ws) => lineS "write" (f :: ws)
def linesS (w : Int) (cs : List Int) (sts : List (Option (Int × List Int))) : List Str := lineS "plan" [w] :: lineS "base" cs :: sts.map stepS
def textS (w : Int) (cs : List Int) (sts : List (Option (Int × List Int))) : Str := Txt.join "\n" (linesS w cs sts)
theorem tl_numS (n : Nat) : tl (numS (n : Int)) = numL n := tl_num n
theorem tl_inj {a b : Str} (h : tl a = tl b) : a = b := ext_tl h
theorem tl_blank : tl (" " : Str) = [32] := by decide +kernel
theorem tl_break : tl ("\n" : Str) = [10] := by decide +kernel
theorem tl_joinT (y : Str) (ps : List Str) : tl (Txt.join y ps) = joinL (tl y) (ps.map tl) := by rw [join_eq, tl_join]
/-- the plan's line is made with a sign of + -/
theorem plan_line (w : Int) : ("plan " : Str) ++ numS w = lineS "plan" [w] := by
  refine tl_inj ?_
  unfold lineS
  rw [tl_append, tl_joinT, tl_blank]
  show tl ("plan " : Str) ++ tl (numS w) = tl ("plan" : Str) ++ ([32] ++ tl (numS w))
  rw [← List.append_assoc]
  congr 1
theorem num_free {i : Int} (h : 0 ≤ i) {s : Nat} (hs : s < 48 ∨ 57 < s) : s ∉ tl (numS i) := by
  obtain ⟨n, rfl⟩ := Int.eq_ofNat_of_zero_le h
  rw [tl_numS]
  exact numL_free hs
theorem joinL_mem {S : List Nat} {c : Nat} : ∀ {ps : List (List Nat)}, c ∈ joinL S ps → c ∈ S ∨ ∃ p ∈ ps, c ∈ p
  | [], h => by cases h
  | [p], h => .inr ⟨p, List.mem_cons_self, h⟩
  | p :: q :: r, h => by
    have h' : c ∈ p ++ (S ++ joinL S (q :: r)) := h
    rcases List.mem_append.mp h' with h | h
    · exact .inr ⟨p, List.mem_cons_self, h⟩
    · rcases List.mem_append.mp h with h | h
      · exact .inl h
      · rcases joinL_mem h with h | ⟨p', h1, h2⟩
        · exact .inl h
        · exact .inr ⟨p', List.mem_cons_of_mem _ h1, h2⟩
theorem line_split {w : Str} {ns : List Int} (hw : 32 ∉ tl w) (hn : ∀ z ∈ ns, 0 ≤ z) : Txt.split (lineS w ns) " " = w :: ns.map numS := by
  refine split_join (s := 32) (S := []) tl_blank (by decide +kernel) (by simp) fun p hp => ?_
  rcases List.mem_cons.mp hp with rfl | hp
  · exact hw
  · obtain ⟨z, hz, rfl⟩ := List.mem_map.mp hp
    exact num_free (hn z hz) (.inl (by decide))
theorem line_free {w : Str} {ns : List Int} (hw : 10 ∉ tl w) (hn : ∀ z ∈ ns, 0 ≤ z) : 10 ∉ tl (lineS w ns) := by
  unfold lineS
  rw [tl_joinT, tl_blank]
  intro h
  rcases joinL_mem h with h | ⟨p, hp, h2⟩
  · simp at h
  · obtain ⟨q, hq, rfl⟩ := List.mem_map.mp hp
    rcases List.mem_cons.mp hq with e | hq
    · rw [e] at h2
      exact hw h2
    · obtain ⟨z, hz, rfl⟩ := List.mem_map.mp hq
      exact num_free (hn z hz) (.inl (by decide)) h2
def StepG : Option (Int × List Int) → Prop
  | none => True
  | some (f, ws) => (0 ≤ f ∧ f < 100) ∧ ws.length ≤ 30 ∧ ∀ z ∈ ws, 0 ≤ z ∧ z < 100
structure TextG (w : Int) (cs : List Int) (sts : List (Option (Int × List Int))) : Prop where
  w0 : 0 ≤ w
  w1 : w < 100
  cl : cs.length ≤ 30
  cb : ∀ z ∈ cs, 0 ≤ z ∧ z < 100
  sl : sts.length ≤ 40
  st : ∀ x ∈ sts, StepG x
theorem step_free {x : Option (Int × List Int)} (h : StepG x) : 10 ∉ tl (stepS x) := by
  cases x with
  | none => decide +kernel
  | some fw =>
    obtain ⟨f, ws⟩ := fw
    obtain ⟨h1, _, h2⟩ := h
    refine line_free (by decide +kernel) fun z hz => ?_
    rcases List.mem_cons.mp hz with rfl | hz
    · exact h1.1
    · exact (h2 z hz).1
theorem text_split {w : Int} {cs : List Int} {sts : List (Option (Int × List Int))} (g : TextG w cs sts) : Txt.split (textS w cs sts) "\n" = linesS w cs sts := by
  refine split_join (s := 10) (S := []) tl_break (by decide +kernel) (by simp [linesS]) fun p hp => ?_
  unfold linesS at hp
  rcases List.mem_cons.mp hp with rfl | hp
  · exact line_free (by decide +kernel) fun z hz => by rw [List.mem_singleton.mp hz]; exact g.w0
  rcases List.mem_cons.mp hp with rfl | hp
  · exact line_free (by decide +kernel) fun z hz => (g.cb z hz).1
  · obtain ⟨x, hx, rfl⟩ := List.mem_map.mp hp
    exact step_free (g.st x hx)
/-! lengths -/
theorem num_len {i : Int} (h0 : 0 ≤ i) (h1 : i < 100) : (numS i).length ≤ 2 := by
  obtain ⟨n, rfl⟩ := Int.eq_ofNat_of_zero_le h0
  rw [len_tl, tl_numS]
  exact numL_len (k := 2) (by decide) (by omega)
theorem joinL_len {S : List Nat} {k : Nat} : ∀ {ps : List (List Nat)}, (∀ p ∈ ps, p.length + S.length ≤ k) → (joinL S ps).length ≤ k * ps.length
  | [], _ => Nat.zero_le _
  | [p], h => by
    have := h p List.mem_cons_self
    show p.length ≤ k * 1
    omega
  | p :: q :: r, h => by
    have h1 := h p List.mem_cons_self
    have h2 := joinL_len (S := S) (ps := q :: r) fun z hz => h z (List.mem_cons_of_mem _ hz)
    show (p ++ (S ++ joinL S (q :: r))).length ≤ k * (r.length + 1 + 1)
    rw [List.length_append, List.length_append]
    have e : k * (r.length + 1 + 1) = k * (r.length + 1) + k := Nat.mul_succ _ _
    have h2' : (joinL S (q :: r)).length ≤ k * (r.length + 1) := h2
    omega
theorem line_len {w : Str} {ns : List Int} (hw : w.length ≤ 7) (hl : ns.length ≤ 31) (hn : ∀ z ∈ ns, 0 ≤ z ∧ z < 100) : (lineS w ns).length ≤ 300 := by
  unfold lineS
  rw [len_tl, tl_joinT, tl_blank]
  refine Nat.le_trans (joinL_len (k := 8) fun p hp => ?_) ?_
  · obtain ⟨q, hq, rfl⟩ := List.mem_map.mp hp
    rw [← len_tl]
    rcases List.mem_cons.mp hq with rfl | hq
    · show q.length + 1 ≤ 8
      omega
    · obtain ⟨z, hz, rfl⟩ := List.mem_map.mp hq
      have := num_len (hn z hz).1 (hn z hz).2
      show (numS z).length + 1 ≤ 8
      omega
  · rw [List.length_map, List.length_cons, List.length_map]
    omega
theorem step_len {x : Option (Int × List Int)} (h : StepG x) : (stepS x).length ≤ 300 := by
  cases x with
  | none => decide +kernel
  | some fw =>
    obtain ⟨f, ws⟩ := fw
    obtain ⟨h1, hl, h2⟩ := h
    refine line_len (by decide +kernel) (by rw [List.length_cons]; omega) fun z hz => ?_
    rcases List.mem_cons.mp hz with rfl | hz
    · exact h1
    · exact h2 z hz
theorem lines_len {w : Int} {cs : List Int} {sts : List (Option (Int × List Int))} (g : TextG w cs sts) : ∀ p ∈ linesS w cs sts, p.length ≤ 300 := fun p hp => by
  unfold linesS at hp
  rcases List.mem_cons.mp hp with rfl | hp
  · exact line_len (by decide +kernel) (by simp) fun z hz => by rw [List.mem_singleton.mp hz]; exact ⟨g.w0, g.w1⟩
  rcases List.mem_cons.mp hp with rfl | hp
  · exact line_len (by decide +kernel) (by have := g.cl; omega) fun z hz => g.cb z hz
  · obtain ⟨x, hx, rfl⟩ := List.mem_map.mp hp
    exact step_len (g.st x hx)
theorem sum_leS {k : Nat} : ∀ {l : List Nat}, (∀ x ∈ l, x ≤ k) → l.sum ≤ k * l.length
  | [], _ => Nat.zero_le _
  | a :: l, h => by
    have h1 := h a List.mem_cons_self
    have h2 := sum_leS (l := l) fun x hx => h x (List.mem_cons_of_mem _ hx)
    rw [List.sum_cons, List.length_cons, Nat.mul_succ]
    omega
theorem sum_lens {k m : Nat} {ps : List Str} (h : ∀ p ∈ ps, p.length ≤ k) (hm : ps.length ≤ m) (hk : k * m ≤ 100000) (hl : m ≤ 10000) {y : Str} (hy : y.length ≤ 1) : (ps.map (·.length)).sum + ps.length * y.length ≤ 16777216 := by
  have h1 : (ps.map (·.length)).sum ≤ k * (ps.map (·.length)).length := sum_leS fun x hx => by
    obtain ⟨p, hp, rfl⟩ := List.mem_map.mp hx
    exact h p hp
  rw [List.length_map] at h1
  have h2 : k * ps.length ≤ k * m := Nat.mul_le_mul_left _ hm
  have h3 : ps.length * y.length ≤ ps.length * 1 := Nat.mul_le_mul_left _ hy
  omega
theorem text_len {w : Int} {cs : List Int} {sts : List (Option (Int × List Int))} (g : TextG w cs sts) : (textS w cs sts).length ≤ 15000 := by
  unfold textS
  rw [len_tl, tl_joinT, tl_break]
  refine Nat.le_trans (joinL_len (k := 301) fun p hp => ?_) ?_
  · obtain ⟨q, hq, rfl⟩ := List.mem_map.mp hp
    rw [← len_tl]
    have := lines_len g q hq
    show q.length + 1 ≤ 301
    omega
  · have := g.sl
    rw [List.length_map]
    unfold linesS
    rw [List.length_cons, List.length_cons, List.length_map]
    omega
/-! a number's signs -/
theorem num_signs {i : Int} (h0 : 0 ≤ i) (h1 : i < 100) : ∃ c r, tl (numS i) = c :: r ∧ r.length ≤ 1 ∧ (∀ x ∈ c :: r, 48 ≤ x ∧ x ≤ 57) ∧ (c = 48 → i = 0) := by
  obtain ⟨n, rfl⟩ := Int.eq_ofNat_of_zero_le h0
  rw [tl_numS]
  by_cases h : n < 10
  · refine ⟨48 + n, [], numL_lt h, Nat.zero_le _, fun x hx => ?_, fun e => by omega⟩
    rw [List.mem_singleton.mp hx]
    omega
  · have e := numL_step (n := n) (by omega)
    rw [numL_lt (by omega : n / 10 < 10)] at e
    refine ⟨48 + n / 10, [48 + n % 10], e, Nat.le_refl _, fun x hx => ?_, fun e => by omega⟩
    simp only [List.mem_cons, List.not_mem_nil, or_false] at hx
    rcases hx with rfl | rfl <;> omega
theorem num_zero {i : Int} (h : i = 0) : numS i = "0" := by
  subst h
  decide +kernel
theorem not_barrier {f : Int} {ws : List Int} : stepS (some (f, ws)) ≠ "barrier" := fun e => by
  have e1 := congrArg tl e
  have e2 : tl (stepS (some (f, ws))) = joinL [32] (tl ("write" : Str) :: (f :: ws).map fun z => tl (numS z)) := by
    show tl (Txt.join " " _) = _
    rw [tl_joinT, tl_blank, List.map_cons, List.map_map]
    rfl
  rw [e2] at e1
  have e3 : tl ("write" : Str) = [119, 114, 105, 116, 101] := by decide +kernel
  have e4 : tl ("barrier" : Str) = [98, 97, 114, 114, 105, 101, 114] := by decide +kernel
  rw [e3, e4] at e1
  have e5 : ∀ l, joinL [32] ([119, 114, 105, 116, 101] :: l) ≠ [98, 97, 114, 114, 105, 101, 114] := fun l => by
    cases l with
    | nil => decide
    | cons a l =>
      show [119, 114, 105, 116, 101] ++ _ ≠ _
      simp
  exact e5 _ e1
end Af

set_option Elab.async false
set_option linter.all false
set_option maxRecDepth 100000
set_option maxHeartbeats 4000000
namespace Af
open PySem L2
abbrev s_ParseError___init : Stmt := inClass (top 2) 0
theorem nsc_pe : NdefX.NScope ["self", "line", "__class__"] ["self", "line"] ["__class__"] (defScope s_ParseError___init) := NdefX.nscope_by (by decide +kernel)
theorem num_len5 {i : Int} (h0 : 0 ≤ i) (h1 : i < 100000) : (numS i).length ≤ 5 := by
  obtain ⟨n, rfl⟩ := Int.eq_ofNat_of_zero_le h0
  rw [TL.len_tl, tl_numS]
  exact TL.numL_len (k := 5) (by decide) (by omega)
section
variable {P : Program} {w : World} {K : PySem.W.Frag} {mg : Str → Option Value} {base : Heap}
theorem ok_pe_init {f C cc cda : Addr} {dV kV doc pm ct oc : Value} {an od : Option Addr} {osl : Array (Option Value)} (T : OexC K C) (U : SupC P K mg C cc cda) (no : PySem.W.findIn K (.ref C) "line" = some none)
    (lk : K.lookup f = some ⟨oc, od, .func (PySem.W.fnX "__init__" "ParseError.__init__" (defArgs s_ParseError___init) (defBody s_ParseError___init) (defScope s_ParseError___init) [("__class__", cc)] dV kV doc pm an (.ref cda) ct), osl⟩)
    (hcd : PySem.W.codeIn K (.ref cda) "ParseError.__init__" = true) :
    FnOk P w K mg base CX0 1 f (PySem.W.fnX "__init__" "ParseError.__init__" (defArgs s_ParseError___init) (defBody s_ParseError___init) (defScope s_ParseError___init) [("__class__", cc)] dV kV doc pm an (.ref cda) ct) ["self", "line"] (sp_pe_init C) := by
  refine fn_sup T U lk hcd nsc_pe rfl rfl (fun vs H Q E h => ?_) (fun _ => rfl) (fun _ => rfl) (fun _ => rfl) (fun A outer s H vs Q E hr h => ?_)
  · obtain ⟨_, _, rfl, _⟩ := h
    rfl
  obtain ⟨a, n, rfl, ha, n0, n1, k⟩ := h
  refine ⟨a, _, _, _, rfl, ha, (pe_joined (.cons pe_str (.cons (pe_fmt (pv 1)) (.cons pe_str .nil)))), (pss_one (ps_ost (pv 0) (pv 1))), ?_⟩
  have l3 := num_len5 n0 n1
  have e1 : ("line " : Str).length = 5 := by decide +kernel
  have e2 : (" is wrong or missing" : Str).length = 20 := by decide +kernel
  have e3 : (Str.empty ++ ("line " : Str) : Str).length = 5 := by decide +kernel
  have lg : n.natAbs.log2 < 1920 := by
    by_cases z : n.natAbs = 0
    · rw [z]; decide
    · exact (Nat.log2_lt z).mpr (Nat.lt_trans (show n.natAbs < 2 ^ 20 by omega) (Nat.pow_lt_pow_right (by decide) (by decide)))
  refine ⟨_, rfl, by rw [e3]; exact sz (by decide), _, rfl, .inr ⟨_, rfl, lg, _, rfl, ?_, _, rfl, ?_, by simp, ha, ?_⟩⟩
  · exact sz (Nat.le_trans (PySem.W.KT.len_app (A := 5) (B := 5) (by rw [e3]; decide) l3) (by decide))
  · exact sz (Nat.le_trans (PySem.W.KT.len_app (A := 10) (B := 20) (PySem.W.KT.len_app (A := 5) (B := 5) (by rw [e3]; decide) l3) (by rw [e2]; decide)) (by decide))
  · exact ⟨_, rfl, _, rfl, a, C, rfl, T, no, .inl ⟨ha, k⟩⟩
end
end Af

set_option Elab.async false
set_option linter.all false
set_option maxRecDepth 100000
namespace Af
open PySem L2 TL
/-! words, lines and texts of any kind -/
def digB (c : Nat) : Bool := decide (48 ≤ c) && decide (c ≤ 57)
/-- number_in -/
def numB (w : Str) : Int := match tl w with
  | [c] => if digB c = true then ((c - 48 : Nat) : Int) else -1
  | [c, d] => if (digB c && digB d && decide (c ≠ 48)) = true then (((c - 48) * 10 + (d - 48) : Nat) : Int) else -1
  | _ => -1
theorem dig_ex {c : Nat} (h : digB c = true) : ∃ e, e < 10 ∧ c = e + 48 := by
  unfold digB at h
  rw [Bool.and_eq_true] at h
  have := of_decide_eq_true h.1
  have := of_decide_eq_true h.2
  exact ⟨c - 48, by omega, by omega⟩
theorem numL1 : ∀ e, e < 10 → numL e = [e + 48] := by decide +kernel
theorem numL2 : ∀ e, e < 10 → ∀ g, g < 10 → e ≠ 0 → numL (e * 10 + g) = [e + 48, g + 48] := by decide +kernel
theorem int1 : ∀ e, e < 10 → PySem.intText? ⟨#[e + 48]⟩ = some (e : Int) := by decide +kernel
theorem int2 : ∀ e, e < 10 → ∀ g, g < 10 → PySem.intText? ⟨#[e + 48, g + 48]⟩ = some ((e * 10 + g : Nat) : Int) := by decide +kernel
theorem of_tl {w : Str} {l : List Nat} (h : tl w = l) : w = ⟨l.toArray⟩ := tl_inj (by rw [h])

inductive NumK (w : Str) : Prop
  | none (h : tl w = []) (e : numB w = -1)
  | long (h : 2 < (tl w).length) (e : numB w = -1)
  | sign (h : 0 < (tl w).length) (h' : (tl w).length ≤ 2) (a : (tl w).all digB = false) (e : numB w = -1)
  | lead (d : Nat) (h : tl w = [48, d]) (a : (tl w).all digB = true) (e : numB w = -1) (z : ∃ n, PySem.intText? w = some n ∧ 0 ≤ n ∧ n < 10 ∧ w ≠ numS n)
  | good (c : Nat) (r : List Nat) (h : tl w = c :: r) (h' : r.length ≤ 1) (a : (tl w).all digB = true) (z : ¬ (c = 48 ∧ r ≠ [])) (l : 0 ≤ numB w) (u : numB w < 100) (i : PySem.intText? w = some (numB w)) (s : w = numS (numB w))
theorem numK (w : Str) : NumK w := by
  cases h : tl w with
  | nil => exact .none h (by unfold numB; rw [h])
  | cons c r =>
    cases r with
    | nil =>
      by_cases d : digB c = true
      · obtain ⟨e, he, rfl⟩ := dig_ex d
        have nb : numB w = (e : Int) := by unfold numB; rw [h]; show (if digB (e + 48) = true then _ else _) = _; rw [if_pos d]; omega
        refine .good _ _ h (by simp) (by rw [h]; simp [d]) (by simp) (by omega) (by omega) ?_ ?_
        · rw [nb, of_tl h]; exact int1 e he
        · rw [nb]; exact tl_inj (by rw [h, tl_numS, numL1 e he])
      · have d' : digB c = false := by simpa using d
        exact .sign (by rw [h]; simp) (by rw [h]; simp) (by rw [h]; simp [d']) (by unfold numB; rw [h]; show (if digB c = true then _ else _) = _; rw [if_neg d])
    | cons d r =>
      cases r with
      | nil =>
        by_cases dc : digB c = true ∧ digB d = true
        · obtain ⟨e, he, rfl⟩ := dig_ex dc.1
          obtain ⟨g, hg, rfl⟩ := dig_ex dc.2
          have al : (tl w).all digB = true := by rw [h]; simp [dc.1, dc.2]
          have it : PySem.intText? w = some ((e * 10 + g : Nat) : Int) := by rw [of_tl h]; exact int2 e he g hg
          by_cases z : e = 0
          · subst z
            refine .lead _ h al (by unfold numB; rw [h]; simp) ⟨_, it, by omega, by omega, fun q => ?_⟩
            have := congrArg tl q
            rw [h, tl_numS, show 0 * 10 + g = g by omega, numL1 g hg] at this
            cases this
          · have nb : numB w = ((e * 10 + g : Nat) : Int) := by
              unfold numB
              rw [h]
              show (if (digB (e + 48) && digB (g + 48) && decide (e + 48 ≠ 48)) = true then _ else _) = _
              rw [if_pos (by rw [dc.1, dc.2, decide_eq_true (by omega)]; rfl)]
              congr 1
            refine .good _ _ h (by simp) al (fun q => z (by omega)) (by rw [nb]; omega) (by rw [nb]; omega) (by rw [nb]; exact it) ?_
            rw [nb]
            exact tl_inj (by rw [h, tl_numS, numL2 e he g hg z])
        · have al : (tl w).all digB = false := by
            rw [h]
            cases q : ([c, d] : List Nat).all digB with
            | false => rfl
            | true =>
              simp only [List.all_cons, List.all_nil, Bool.and_true, Bool.and_eq_true] at q
              exact absurd q dc
          refine .sign (by rw [h]; simp) (by rw [h]; simp) al ?_
          unfold numB
          rw [h]
          show (if (digB c && digB d && decide (c ≠ 48)) = true then _ else _) = _
          rw [if_neg]
          intro q
          rw [Bool.and_eq_true, Bool.and_eq_true] at q
          exact dc q.1
      | cons e r => exact .long (by rw [h]; simp) (by unfold numB; rw [h])
/-- the numbers behind a word -/
def numsL (wd : Str) : List Str → List Int
  | w0 :: r => if w0 = wd then r.map numB else []
  | [] => []
def numsB (wd line : Str) : List Int := numsL wd (Txt.split line " ")
theorem numB_bd (w : Str) : -1 ≤ numB w ∧ numB w < 100 := by
  cases numK w with
  | none _ e => omega
  | long _ e => omega
  | sign _ _ _ e => omega
  | lead _ _ _ e _ => omega
  | good _ _ _ _ _ _ l u _ _ => omega
/-- what a line says: a barrier, or numbers (none: not a step) -/
def lineD (line : Str) : Option (List Int) := if line = "barrier" then none else some (numsB "write" line)
def lnD : Option (List Int) → PyData
  | none => .none
  | some [] => .tuple []
  | some (f :: r) => .tuple [.int f, .tuple (dvs r)]
def okS (m : Int) (d : Option (List Int)) : Bool := stepQ m (lnD d)
def stOf : Option (List Int) → Option (Int × List Int)
  | some (f :: r) => some (f, r)
  | _ => none
def widthI (line : Str) : Int := match numsB "plan" line with
  | [z] => z
  | _ => -1
end Af

set_option Elab.async false
set_option linter.all false
set_option maxRecDepth 100000
set_option maxHeartbeats 4000000
namespace Af
open PySem L2
abbrev s_number_in : Stmt := top 38
abbrev N_number_in : List Str := ["word", "sign"]
theorem sc_number_in : FnScope N_number_in ["word"] (defScope s_number_in) := ⟨rfl, rfl, rfl, by decide +kernel, rfl, by decide +kernel, by decide +kernel⟩

abbrev s_numbers_behind : Stmt := top 37
abbrev N_numbers_behind : List Str := ["word", "line", "words", "other"]
theorem sc_numbers_behind : FnScope N_numbers_behind ["word", "line"] (defScope s_numbers_behind) := ⟨rfl, rfl, rfl, by decide +kernel, rfl, by decide +kernel, by decide +kernel⟩

abbrev s_width_in : Stmt := top 35
abbrev N_width_in : List Str := ["line", "numbers"]
theorem sc_width_in : FnScope N_width_in ["line"] (defScope s_width_in) := ⟨rfl, rfl, rfl, by decide +kernel, rfl, by decide +kernel, by decide +kernel⟩

abbrev s_step_in : Stmt := top 36
abbrev N_step_in : List Str := ["line", "numbers"]
theorem sc_step_in : FnScope N_step_in ["line"] (defScope s_step_in) := ⟨rfl, rfl, rfl, by decide +kernel, rfl, by decide +kernel, by decide +kernel⟩

theorem figs : TL.tl ("0123456789" : Str) = [48, 49, 50, 51, 52, 53, 54, 55, 56, 57] := by decide +kernel
theorem dec_figs (c : Nat) : decide (c ∈ ("0123456789" : Str).cps.toList) = digB c := by
  have e' : ("0123456789" : Str).cps.toList = [48, 49, 50, 51, 52, 53, 54, 55, 56, 57] := figs
  rw [e']
  unfold digB
  rw [← Bool.decide_and]
  refine decide_eq_decide.mpr ?_
  simp only [List.mem_cons, List.not_mem_nil, or_false]
  omega
def svs (ps : List Str) : List V := ps.map V.str
theorem svs_app (a b : List Str) : svs (a ++ b) = svs a ++ svs b := List.map_append
theorem svs_len (a : List Str) : (svs a).length = a.length := List.length_map _
theorem cut_from1 {v : V} {xs : List V} : cutV (v :: xs) (some 1) none = xs := by
  unfold cutV
  have e1 : HT.sIx (v :: xs).length 0 (some 1) = 1 := by
    unfold HT.sIx
    simp
  have e2 : HT.sIx (v :: xs).length (v :: xs).length none = (v :: xs).length := rfl
  rw [e1, e2]
  simp
theorem iteT' {b : Bool} {p q : Prop} (h : b = true) (x : p) : if b = true then p else q := by rw [if_pos h]; exact x
structure NumC (mg : Str → Option Value) : Prop where
  figs : ∃ t, mg "FIGURES" = some (.str "0123456789" t)
  most : ∃ t, mg "MOST_FIGURES" = some (.int 2 t)
def sp_number : Sp := fun vs H Q _ => ∃ (w : Str), vs = [.str w] ∧ w.length ≤ 100000 ∧ ∀ H', Same H H' → Q (.int (numB w)) H'
section
variable {P : Program} {w : World} {K : PySem.W.Frag} {mg : Str → Option Value} {base : Heap}
theorem ok_number_in {f : Addr} {fd : FuncData} (F : Fun K "number_in" "number_in" s_number_in f fd) (T : Txt mg) (NC : NumC mg) : FnOk P w K mg base CX0 1 f fd ["word"] sp_number := by
  obtain ⟨tk1, c_FIGURES⟩ := NC.figs
  obtain ⟨tk2, c_MOST_FIGURES⟩ := NC.most
  refine F.ok sc_number_in (fun vs H Q E h => ?_) (fun cdv A outer s H vs Q E hr h => ?_)
  · obtain ⟨_, rfl, _⟩ := h
    rfl
  obtain ⟨wd, rfl, lw, k⟩ := h
  have lz : wd.length ≤ sizeLine := sz (by omega)
  have ltl : wd.length = (TL.tl wd).length := TL.len_tl _
  refine ⟨_, (pss_cons (ps_cut (ps_if (PW.pt (pw_or (pt_not (pt_truth (pv 0) (by intro _; rfl))) (pw_or (pt_cmpR op_gt (pe_callB call_len_str (by rfl) T.len (by decide +kernel) (pa_cons (pv 0) pa_nil)) (pe_glob (v := .int 2) rfl c_MOST_FIGURES ⟨_, rfl⟩) (nomark _)) (pw_or1 (pt_not (pt_val (pe_callB (cr_all rfl) (by rfl) T.all (by decide +kernel) (pa_cons (pe_lc (own := [("sign", 1)]) (g := (gName 1)) (tt := tYes) rfl sc_number_in.nd (pi_str (pv 0)) (blkOk_by (own := [("sign", 1)]) (N := N_number_in) (sc := defScope s_number_in) (by decide +kernel)) (fun _ _ _ _ _ => pg_name (i := 1) sc_number_in.nd rfl (Or.inl rfl)) (fun _ _ _ _ _ => pts_nil) (fun _ _ _ _ _ => (pe_cmpR op_in_sign (pv 1) (pe_glob (v := .str "0123456789") rfl c_FIGURES ⟨_, rfl⟩) (by rfl)))) pa_nil))))))))
      (pss_one (ps_ret (pe_un un_neg pe_int)))
      pss_nil))
    (pss_cons (ps_cut (ps_if (PW.pt (pw_and (pt_cmpR op_eq (pe_ix ix_str (pv 0) pe_int (fun _ _ => rfl)) pe_str (nomark _)) (pw_and1 (pt_cmpR op_ne (pv 0) pe_str (nomark _)))))
      (pss_one (ps_ret (pe_un un_neg pe_int)))
      pss_nil))
    (pss_one (ps_ret (pe_callTy call_int_str (by rfl) T.int (by decide +kernel) (pa_cons (pv 0) pa_nil)))))), ?_⟩
  refine ⟨fun σ' H' => σ' = [some (.str wd), none] ∧ Same H H' ∧ ∃ c r, TL.tl wd = c :: r ∧ r.length ≤ 1 ∧ (TL.tl wd).all digB = true, ?_, ?_⟩
  · have kneg : ∀ H', Same H H' → numB wd = -1 → Q (.int (-1)) H' := fun H' s' e => by
      have := k H' s'
      rw [e] at this
      exact this
    cases htl : TL.tl wd with
    | nil =>
      rw [htl] at ltl
      have n0 : numB wd = -1 := by unfold numB; rw [htl]
      exact ⟨_, rfl, false, ⟨lz, by rw [ltl]; rfl⟩, iteT ⟨_, rfl, kneg H (Same.refl _) n0⟩⟩
    | cons c r =>
      have ln : wd.length = r.length + 1 := by rw [ltl, htl]; rfl
      refine ⟨_, rfl, true, ⟨lz, by rw [ln]; rfl⟩, ?_⟩
      refine iteF ⟨_, rfl, _, rfl, lz, _, _, rfl, rfl, _, rfl, ?_⟩
      refine ite2 (fun y => ?_) (fun y => ?_)
      · have := of_decide_eq_true y
        refine ⟨_, rfl, kneg H (Same.refl _) ?_⟩
        cases numK wd with
        | none _ e => exact e
        | long _ e => exact e
        | sign _ _ _ e => exact e
        | lead _ _ _ e _ => exact e
        | good c' r' h h' _ _ _ _ _ _ =>
          rw [h] at htl
          cases htl
          omega
      have rl : r.length ≤ 1 := by
        by_cases z : r.length ≤ 1
        · exact z
        · exact absurd (decide_eq_true (by rw [ln]; omega)) y
      refine ⟨_, rfl, _, rfl, fun D hD => lc_it (walk_str (z := wd)) (fun j H' => Same H H' ∧ H' D = some (.lst ((((TL.tl wd).take j).map digB).map .bl))) ?_ (fun _ _ _ _ => trivial) ?_ ?_⟩
      · exact ⟨same_new hD, upd_same⟩
      · rintro j x H1 H2 hj ⟨s2, h2⟩ ⟨rfl, d, hd, rfl⟩
        have e : (TL.tl wd)[j]? = some d := by
          have e : wd.cps.toList[j]? = some d := by rw [Array.getElem?_toList]; exact hd
          exact e
        refine ⟨rfl, _, rfl, d, _, rfl, rfl, _, h2, szl (by rw [List.length_map, List.length_map, List.length_take]; have : wd.cps.size = wd.length := rfl; omega), same_mut s2 hD, ?_⟩
        rw [upd_same, List.take_add_one, e, List.map_append, List.map_append, dec_figs]
        rfl
      · rintro H2 ⟨s2, h2⟩
        have zs : wd.cps.size = (TL.tl wd).length := ltl
        rw [zs, List.take_length] at h2
        refine ⟨D, (TL.tl wd).map digB, rfl, SqL.of h2, ?_⟩
        have e : ((TL.tl wd).map digB).all id = (TL.tl wd).all digB := by rw [List.all_map]; rfl
        rw [e, ← htl]
        cases al : (TL.tl wd).all digB with
        | true => exact ⟨_, rfl, iteF ⟨rfl, s2, c, r, htl, rl, rfl⟩⟩
        | false =>
          refine ⟨_, rfl, iteT ⟨_, rfl, kneg H2 s2 ?_⟩⟩
          cases numK wd with
          | none _ e => exact e
          | long _ e => exact e
          | sign _ _ _ e => exact e
          | lead _ _ _ e _ => exact e
          | good _ _ _ _ a _ _ _ _ _ => rw [a] at al; cases al
  rintro _ H2 ⟨rfl, s2, c, r, htl, hr', al⟩
  have ln : wd.length = r.length + 1 := by rw [ltl, htl]; rfl
  have at0 : atI wd.cps.toList 0 = some c := by
    have e : wd.cps.toList = c :: r := htl
    rw [e]
    exact atI_nat (j := 0) rfl
  have z48 : TL.tl ("0" : Str) = [48] := by decide +kernel
  refine ⟨fun σ' H' => σ' = [some (.str wd), none] ∧ Same H H' ∧ PySem.intText? wd = some (numB wd), ?_, ?_⟩
  · refine ⟨_, rfl, _, _, c, rfl, rfl, lz, at0, rfl, _, rfl, ite2 (fun y => ?_) (fun y => ?_)⟩
    · have e1 : (⟨#[c]⟩ : Str) = "0" := V.str.inj (of_decide_eq_true y)
      have e2 : c = 48 := by
        have := congrArg TL.tl e1
        rw [z48] at this
        exact (List.cons.inj this).1
      subst e2
      refine ⟨_, rfl, rfl, _, rfl, ?_⟩
      cases numK wd with
      | none h _ => rw [h] at htl; cases htl
      | long h _ => rw [htl] at h; simp at h; omega
      | sign _ _ a _ => rw [a] at al; cases al
      | lead d h _ e _ =>
        rw [decide_eq_false (fun z : V.str wd = V.str "0" => by
          have := congrArg TL.tl (V.str.inj z)
          rw [h, z48] at this
          cases this)]
        have kk := k H2 s2
        rw [e] at kk
        exact iteT ⟨_, rfl, kk⟩
      | good c' r' h h' _ z _ _ i s =>
        have hr0 : r = [] := by
          rw [h] at htl
          cases htl
          exact Classical.byContradiction fun q => z ⟨rfl, q⟩
        rw [decide_eq_true (show V.str wd = V.str "0" from congrArg V.str (TL.ext_tl (by rw [htl, z48, hr0])))]
        exact iteF ⟨rfl, s2, i⟩
    · refine iteF ⟨rfl, s2, ?_⟩
      cases numK wd with
      | none h _ => rw [h] at htl; cases htl
      | long h _ => rw [htl] at h; simp at h; omega
      | sign _ _ a _ => rw [a] at al; cases al
      | lead d h _ e _ =>
        rw [h] at htl
        cases htl
        exact absurd rfl y
      | good c' r' h h' _ z _ _ i s => exact i
  rintro _ H3 ⟨rfl, s3, it⟩
  exact ⟨_, rfl, _, _, rfl, it, by omega, k H3 s3⟩
theorem part_len {x y p : Str} (h : p ∈ Txt.split x y) : p.length ≤ x.length := by
  have sub : ∀ i j, (PySem.Builtin.Str.strSub x i j).length ≤ x.length := fun i j => by
    show (x.cps.extract i j).size ≤ x.cps.size
    rw [Array.size_extract]
    omega
  have pb : ∀ cuts w, p ∈ PySem.Builtin.Str.partsBetween x cuts w → p.length ≤ x.length := fun cuts w h => by
    unfold PySem.Builtin.Str.partsBetween at h
    obtain ⟨⟨i, j⟩, _, rfl⟩ := List.mem_map.mp h
    exact sub i j
  unfold Txt.split at h
  split at h
  · rw [List.mem_singleton.mp h]; exact Nat.le_refl _
  · split at h
    · rw [List.mem_singleton.mp h]; exact Nat.le_refl _
    · exact pb _ _ h
def sp_numbers : Sp := fun vs H Q _ => ∃ (wd line : Str), vs = [.str wd, .str line] ∧ line.length ≤ 50000 ∧ ∀ l H', Same H H' → H l = none → H' l = some (.lst (ivs (numsB wd line))) → Q (.ref l) H'
theorem ok_numbers_behind {f : Addr} {fd : FuncData} (F : Fun K "_numbers_behind" "_numbers_behind" s_numbers_behind f fd) (T : Txt mg) (c_number_in : Cal P w K mg base 1 "number_in" ["word"] sp_number) : FnOk P w K mg base CX0 2 f fd ["word", "line"] sp_numbers := by
  refine F.ok sc_numbers_behind (fun vs H Q E h => ?_) (fun cdv A outer s H vs Q E hr h => ?_)
  · obtain ⟨_, _, rfl, _⟩ := h
    rfl
  obtain ⟨wd, line, rfl, ll, k⟩ := h
  refine ⟨_, (pss_cons (ps_set (i := 2) sc_numbers_behind.nd rfl (Or.inl rfl) (pe_split (pv 1) pe_str))
    (pss_one (ps_ret (pe_ifExp (pt_cmpR op_eq (pe_ix ix_seq' (pv 2) pe_int (fun _ _ => rfl)) (pv 0) (nomark _)) (pe_lc (own := [("other", 3)]) (g := (gName 3)) (tt := tYes) rfl sc_numbers_behind.nd (pi_list (pe_slice sl_list' (pv 2) (po_some pe_int) po_none)) (blkOk_by (own := [("other", 3)]) (N := N_numbers_behind) (sc := defScope s_numbers_behind) (by decide +kernel)) (fun _ _ _ _ _ => pg_name (i := 3) sc_numbers_behind.nd rfl (Or.inl rfl)) (fun _ _ _ _ _ => pts_nil) (fun _ _ _ _ _ => (pe_cal c_number_in hr (pa_cons (pv 3) pa_nil)))) (pe_lst' pa_nil))))), ?_⟩
  refine ⟨_, rfl, ⟨_, rfl⟩, _, _, rfl, rfl, by decide +kernel, sz (by omega), fun p hp => ?_⟩
  have sp1 := PyProof.Rows.split_pos line " "
  have sp2 := PyProof.Rows.split_le line " "
  have pl : ∀ q ∈ Txt.split line " ", q.length ≤ line.length := fun q h => part_len h
  obtain ⟨ps, eps⟩ : ∃ ps, ps = Txt.split line " " := ⟨_, rfl⟩
  have nb : numsB wd line = numsL wd ps := by unfold numsB; rw [eps]
  rw [← eps] at sp1 sp2 pl ⊢
  cases ps with
  | nil => simp at sp1
  | cons w0 r =>
  have nb : numsB wd line = if w0 = wd then r.map numB else [] := nb
  have s1 : Same H (upd H p (.lst ((w0 :: r).map V.str))) := same_new hp
  have h1 : (upd H p (.lst ((w0 :: r).map V.str))) p = some (.lst ((w0 :: r).map V.str)) := upd_same
  generalize upd H p (.lst ((w0 :: r).map V.str)) = H1 at s1 h1
  refine ⟨_, rfl, p, _, _, .str w0, rfl, rfl, .inl h1, atI_nat (j := 0) rfl, _, rfl, rfl, _, rfl, ?_⟩
  refine ite2 (fun y => ?_) (fun y => ?_)
  · have ew : w0 = wd := V.str.inj (of_decide_eq_true y)
    rw [if_pos ew] at nb
    refine ⟨_, rfl, 1, rfl, p, _, rfl, h1, fun q H2 n2 s2 h2 => ?_⟩
    have h2' : H2 q = some (.lst (svs r)) := by
      rw [h2]
      congr 2
      exact cut_from1
    refine ⟨q, rfl, ⟨_, SqL.of h2'⟩, fun D hD => lc_list (K := K) (a := q) (xs := svs r) (fun i H' => Same H2 H' ∧ H' D = some (.lst (ivs ((r.take i).map numB)))) ?_ ?_ ?_ ?_⟩
    · exact ⟨same_new hD, upd_same⟩
    · rintro i H' _ ⟨s3, _⟩
      exact SqL.of (s3 _ _ h2')
    · rintro i y H' hx ⟨s3, h3⟩
      have il : i < r.length := by
        have := (List.getElem?_eq_some_iff.mp hx).1
        rw [svs_len] at this
        exact this
      have e : (svs r)[i]? = some (.str r[i]) := by
        unfold svs
        rw [List.getElem?_map, List.getElem?_eq_getElem il]
        rfl
      rw [e] at hx
      cases hx
      have hz := pl r[i] (List.mem_cons_of_mem _ (List.getElem_mem il))
      refine ⟨rfl, _, rfl, _, rfl, by omega, fun H4 s4 => ⟨_, s4 _ _ h3, szl (by rw [ivs_len, List.length_map, List.length_take]; rw [List.length_cons] at sp2; omega), same_mut (s3.trans s4) hD, ?_⟩⟩
      rw [upd_same, List.take_add_one, List.getElem?_eq_getElem il]
      unfold ivs
      rw [List.map_append, List.map_append]
      rfl
    · rintro H3 ⟨s3, h3⟩
      rw [svs_len, List.take_length, ← nb] at h3
      exact k D H3 (s1.trans (s2.trans s3)) (s1.free (s2.free hD)) h3
  · rw [if_neg (fun e => y (decide_eq_true (congrArg V.str e)))] at nb
    refine ⟨szr, fun D H2 nD s2 h2 => k D H2 (s1.trans s2) (s1.free nD) ?_⟩
    rw [nb]
    exact h2
end
end Af

set_option Elab.async false
set_option linter.all false
set_option maxRecDepth 100000
set_option maxHeartbeats 4000000
namespace Af
open PySem L2
def SdV (H : Hp) (v : V) : Option (List Int) → Prop
  | none => v = .non
  | some [] => ∃ a, v = .ref a ∧ H a = some (.tup [])
  | some (f :: r) => ∃ t b, v = .ref t ∧ H t = some (.tup [.int f, .ref b]) ∧ H b = some (.tup (ivs r))
theorem SdV.same {H H' : Hp} {v : V} {d : Option (List Int)} (h : SdV H v d) (s : Same H H') : SdV H' v d := by
  match d, h with
  | none, h => exact h
  | some [], ⟨a, e, ha⟩ => exact ⟨a, e, s _ _ ha⟩
  | some (f :: r), ⟨t, b, e, ht, hb⟩ => exact ⟨t, b, e, s _ _ ht, s _ _ hb⟩
theorem SdV.dq {K : PySem.W.Frag} {H : Hp} {v : V} {d : Option (List Int)} (h : SdV H v d) : Dq K H v (lnD d) := by
  match d, h with
  | none, h => rw [show v = .non from h]; exact .non
  | some [], ⟨a, e, ha⟩ => rw [e]; exact .tup ha .nil
  | some (f :: r), ⟨t, b, e, ht, hb⟩ => rw [e]; exact .tup ht (.cons (.int f) (.cons (.tup hb (dq_ints r)) .nil))
theorem SdV.th {K : PySem.W.Frag} {H : Hp} {v : V} {d : Option (List Int)} (h : SdV H v d) (l : ∀ ns, d = some ns → ns.length ≤ 100000) : Th K H 2 v := by
  match d, h with
  | none, h => rw [show v = .non from h]; exact th_non
  | some [], ⟨a, e, ha⟩ => rw [e]; exact th_tup ha (by show 0 ≤ 100000; decide) fun y hy => by cases hy
  | some (f :: r), ⟨t, b, e, ht, hb⟩ =>
    rw [e]
    refine th_tup ht (by show 2 ≤ 100000; decide) fun y hy => ?_
    have lr := l _ rfl
    rw [List.length_cons] at lr
    simp only [List.mem_cons, List.not_mem_nil, or_false] at hy
    rcases hy with rfl | rfl
    · exact th_int
    · exact th_ints hb (by omega)
theorem SdV.ok {H : Hp} {v : V} {d : Option (List Int)} {n : Nat} (h : SdV H v d) (o : okS n d = true) : StepV H v (stOf d) ∧ OkS n (stOf d) := by
  match d, h with
  | none, h => exact ⟨h, True.intro⟩
  | some [], _ => cases o
  | some (f :: r), ⟨t, b, e, ht, hb⟩ =>
    have o : (idxD (n : Nat) (.int f) && worthsD (.tuple (dvs r)) && addD (n : Nat) (lenD (.tuple (dvs r))) (.int f)) = true := o
    rw [Bool.and_eq_true, Bool.and_eq_true] at o
    obtain ⟨⟨o1, o2⟩, o3⟩ := o
    have o1 : (decide (0 ≤ f) && decide (f < (n : Nat))) = true := o1
    rw [Bool.and_eq_true] at o1
    have o2 : (!(dvs r).isEmpty && (dvs r).all (idxD 8)) = true := o2
    rw [Bool.and_eq_true] at o2
    have o3 := of_decide_eq_true (show decide (f + (((dvs r).length : Nat) : Int) ≤ (n : Nat)) = true from o3)
    have dl : (dvs r).length = r.length := List.length_map _
    rw [dl] at o3
    have bd : ∀ z ∈ r, 0 ≤ z ∧ z < 8 := fun z hz => by
      have q := List.all_eq_true.mp o2.2 (.int z) (List.mem_map_of_mem hz)
      have q : (decide (0 ≤ z) && decide (z < 8)) = true := q
      rw [Bool.and_eq_true] at q
      exact ⟨of_decide_eq_true q.1, of_decide_eq_true q.2⟩
    have ne : 1 ≤ r.length := by
      cases r with
      | nil => exact absurd o2.1 (by simp [dvs])
      | cons _ _ => simp
    exact ⟨⟨t, b, e, ht, hb⟩, of_decide_eq_true o1.1, (fun e => by rw [e] at ne; simp at ne), by omega, bd⟩
def sp_width_in : Sp := fun vs H Q _ => ∃ (line : Str), vs = [.str line] ∧ line.length ≤ 50000 ∧ ∀ H', Same H H' → Q (.int (widthI line)) H'
def sp_step_in : Sp := fun vs H Q _ => ∃ (line : Str), vs = [.str line] ∧ line.length ≤ 50000 ∧ ∀ v H', Same H H' → SdV H' v (lineD line) → Q v H'
theorem nums_len {wd line : Str} : (numsB wd line).length ≤ line.length + 2 := by
  have := PyProof.Rows.split_le line " "
  unfold numsB
  generalize Txt.split line " " = ps at this
  cases ps with
  | nil => exact Nat.zero_le _
  | cons w0 r =>
    rw [List.length_cons] at this
    show (if w0 = wd then r.map numB else []).length ≤ _
    split
    · rw [List.length_map]; omega
    · exact Nat.zero_le _
section
variable {P : Program} {w : World} {K : PySem.W.Frag} {mg : Str → Option Value} {base : Heap}
theorem ok_width_in {f : Addr} {fd : FuncData} (F : Fun K "_width_in" "_width_in" s_width_in f fd) (T : Txt mg) (c_numbers_behind : Cal P w K mg base 2 "_numbers_behind" ["word", "line"] sp_numbers) : FnOk P w K mg base CX0 3 f fd ["line"] sp_width_in := by
  refine F.ok sc_width_in (fun vs H Q E h => ?_) (fun cdv A outer s H vs Q E hr h => ?_)
  · obtain ⟨_, rfl, _⟩ := h
    rfl
  obtain ⟨line, rfl, ll, k⟩ := h
  refine ⟨_, (pss_cons (ps_set (i := 1) sc_width_in.nd rfl (Or.inl rfl) (pe_cal c_numbers_behind hr (pa_cons pe_str (pa_cons (pv 0) pa_nil))))
    (pss_one (ps_ret (pe_ifExp (pt_cmpR op_eq (pe_callB call_len' (by rfl) T.len (by decide +kernel) (pa_cons (pv 1) pa_nil)) pe_int (nomark _)) (pe_ix ix_seq' (pv 1) pe_int (fun _ _ => rfl)) (pe_un un_neg pe_int))))), ?_⟩
  refine ⟨_, rfl, _, _, rfl, ll, fun l H1 s1 n1 hl => ?_⟩
  have kk := k H1 s1
  unfold widthI at kk
  refine ⟨_, rfl, l, _, rfl, .inl hl, rfl, _, rfl, ?_⟩
  generalize numsB "plan" line = ns at hl kk
  match ns, hl, kk with
  | [], hl, kk => exact ite2 (fun y => by cases V.int.inj (of_decide_eq_true y)) fun _ => ⟨_, rfl, kk⟩
  | [z], hl, kk => exact iteT' (by rfl) ⟨_, rfl, l, _, _, .int z, rfl, rfl, .inl hl, atI_nat (j := 0) rfl, kk⟩
  | _ :: _ :: _, hl, kk => exact ite2 (fun y => by have := V.int.inj (of_decide_eq_true y); simp [ivs] at this; omega) fun _ => ⟨_, rfl, kk⟩
theorem ok_step_in {f : Addr} {fd : FuncData} (F : Fun K "_step_in" "_step_in" s_step_in f fd) (T : Txt mg) (c_numbers_behind : Cal P w K mg base 2 "_numbers_behind" ["word", "line"] sp_numbers) : FnOk P w K mg base CX0 3 f fd ["line"] sp_step_in := by
  refine F.ok sc_step_in (fun vs H Q E h => ?_) (fun cdv A outer s H vs Q E hr h => ?_)
  · obtain ⟨_, rfl, _⟩ := h
    rfl
  obtain ⟨line, rfl, ll, k⟩ := h
  refine ⟨_, (pss_cons (ps_if (pt_cmpR op_eq (pv 0) pe_str (nomark _))
      (pss_one (ps_ret pe_non))
      pss_nil)
    (pss_cons (ps_set (i := 1) sc_step_in.nd rfl (Or.inl rfl) (pe_cal c_numbers_behind hr (pa_cons pe_str (pa_cons (pv 0) pa_nil))))
    (pss_one (ps_ret (pe_ifExp (pt_truth (pv 1) (by intro _; rfl)) (pe_tup' (pa_cons (pe_ix ix_seq' (pv 1) pe_int (fun _ _ => rfl)) (pa_cons (pe_callTy call_tuple' (by rfl) T.tuple (by decide +kernel) (pa_cons (pe_slice sl_list' (pv 1) (po_some pe_int) po_none) pa_nil)) pa_nil))) (pe_tup' pa_nil)))))), ?_⟩
  refine ⟨_, rfl, rfl, _, rfl, ?_⟩
  unfold lineD at k
  by_cases eb : line = "barrier"
  · rw [if_pos eb] at k
    exact iteT' (decide_eq_true (congrArg V.str eb)) (k _ H (Same.refl _) rfl)
  rw [if_neg eb] at k
  refine ite2 (fun y => absurd (V.str.inj (of_decide_eq_true y)) eb) (fun _ => ?_)
  refine ⟨_, rfl, _, _, rfl, ll, fun l H1 s1 n1 hl => ?_⟩
  have lns := nums_len (wd := "write") (line := line)
  generalize numsB "write" line = ns at hl k lns
  cases ns with
  | nil =>
    refine ⟨_, rfl, false, .inl ⟨_, SqL.of hl, rfl⟩, iteF ⟨szr, fun t H2 n2 s2 h2 => k _ H2 (s1.trans s2) ⟨t, rfl, h2⟩⟩⟩
  | cons f ws =>
    refine ⟨_, rfl, true, .inl ⟨_, SqL.of hl, rfl⟩, iteT ?_⟩
    refine ⟨_, rfl, l, _, _, .int f, rfl, rfl, .inl hl, atI_nat (j := 0) rfl, _, rfl, 1, rfl, l, _, rfl, hl, fun q H2 n2 s2 h2 => ?_⟩
    refine ⟨q, _, rfl, .inl h2, fun b H3 s3 h3 => ⟨szr, fun t H4 n4 s4 h4 => ?_⟩⟩
    have h3' : H3 b = some (.tup (ivs ws)) := by
      rw [h3]
      congr 2
      exact cut_from1
    exact k _ H4 (s1.trans (s2.trans (s3.trans s4))) ⟨t, b, rfl, h4, s4 _ _ h3'⟩
end
end Af

set_option Elab.async false
set_option linter.all false
set_option maxRecDepth 100000
set_option maxHeartbeats 4000000
namespace Af
open PySem L2
abbrev s_steps_in : Stmt := top 34
abbrev N_steps_in : List Str := ["lines", "width", "cells", "steps", "at", "step"]
theorem sc_steps_in : FnScope N_steps_in ["lines", "width", "cells"] (defScope s_steps_in) := ⟨rfl, rfl, rfl, by decide +kernel, rfl, by decide +kernel, by decide +kernel⟩

abbrev s_parse_plan : Stmt := top 33
abbrev N_parse_plan : List Str := ["text", "lines", "width", "base"]
theorem sc_parse_plan : FnScope N_parse_plan ["text"] (defScope s_parse_plan) := ⟨rfl, rfl, rfl, by decide +kernel, rfl, by decide +kernel, by decide +kernel⟩

def sp_roomE : Sp := fun vs H Q _ => ∃ (wd : Int) (a : Addr) (xs : List V) (sts : List Stp), vs = [.int wd, .ref a] ∧ H a = some (.lst xs) ∧ Paired (StepV H) xs sts ∧ 0 < wd ∧ xs.length ≤ 100 ∧ (∀ x ∈ sts, OkS 24 x) ∧
  ∀ H', Same H H' → Q (.bl (decide (xs.length ≤ 40) && decide ((allP wd 0 sts).length ≤ 40))) H'
def readS (w : Int) (m : Nat) : List Stp → Nat → List Str → Nat ⊕ List Stp
  | acc, _, [] => .inr acc
  | acc, k, l :: r => if (okS m (lineD l) && (decide ((acc ++ [stOf (lineD l)]).length ≤ 40) && decide ((allP w 0 (acc ++ [stOf (lineD l)])).length ≤ 40))) = true then readS w m (acc ++ [stOf (lineD l)]) (k + 1) r else .inl k
def sp_steps_in (CP : Addr) : Sp := fun vs H Q E => ∃ (la : Addr) (w : Int) (m : Nat) (ls : List Str), vs = [.ref la, .int w, .int (m : Nat)] ∧ H la = some (.lst (svs ls)) ∧ 0 < w ∧ m ≤ 24 ∧ 2 ≤ ls.length ∧ ls.length ≤ 50002 ∧ (∀ l ∈ ls, l.length ≤ 50000) ∧
  match readS w m [] 2 (ls.drop 2) with
  | .inl k => ∀ d H', Same H H' → H d = none → H' d = some (.xd [("line", .int (k : Nat))]) → E (.ref CP) (some d) H'
  | .inr sts => ∀ l H' xs, Same H H' → H l = none → H' l = some (.lst xs) → Paired (StepV H') xs sts → Q (.ref l) H'
section
variable {P : Program} {w : World} {K : PySem.W.Frag} {mg : Str → Option Value} {base : Heap}
theorem ok_roomE {f : Addr} {fd : FuncData} (F : Fun K "is_room" "is_room" s_is_room f fd) (T : Txt mg) (C : Cst K mg) (c_pieces_of : Cal P w K mg base 2 "_pieces_of" ["width", "steps"] sp_piecesX) : FnOk P w K mg base CX0 3 f fd ["width", "steps"] sp_roomE := by
  obtain ⟨tk1, c_MOST_STEPS⟩ := C.steps
  obtain ⟨tk2, c_MOST_PIECES⟩ := C.pieces
  refine F.ok sc_is_room (fun vs H Q E h => ?_) (fun cdv A outer s H vs Q E hr h => ?_)
  · obtain ⟨_, _, _, _, rfl, _⟩ := h
    rfl
  obtain ⟨wd, a, xs, sts, rfl, ha, hst, w0, xl, ok, k⟩ := h
  refine ⟨_, (pss_one (ps_ret (pe_and (pe_cmpR op_le (pe_callB call_len' (by rfl) T.len (by decide +kernel) (pa_cons (pv 1) pa_nil)) (pe_glob (v := .int 40) rfl c_MOST_STEPS ⟨_, rfl⟩) (nomark _)) (pe_one (pe_cmpR op_le (pe_callB call_len' (by rfl) T.len (by decide +kernel) (pa_cons (pe_cal c_pieces_of hr (pa_cons (pv 0) (pa_cons (pv 1) pa_nil))) pa_nil)) (pe_glob (v := .int 40) rfl c_MOST_PIECES ⟨_, rfl⟩) (nomark _)))))), ?_⟩
  refine ⟨_, rfl, a, xs, rfl, .inl ha, _, _, rfl, rfl, _, rfl, ?_⟩
  have e0 : decide (((xs.length : Nat) : Int) ≤ 40) = decide (xs.length ≤ 40) := by
    by_cases z : xs.length ≤ 40
    · rw [decide_eq_true z, decide_eq_true (by omega)]
    · rw [decide_eq_false z, decide_eq_false (by omega)]
  rw [e0]
  cases e1 : decide (xs.length ≤ 40) with
  | false =>
    refine iteF ?_
    have z := k H (Same.refl H)
    rw [e1] at z
    exact z
  | true =>
    refine iteT ⟨_, rfl, _, rfl, wd, a, xs, sts, rfl, ha, hst, w0, xl, ok, fun l H1 ys s1 hl h1 p1 => ?_⟩
    have l1 : ys.length = (allP wd 0 sts).length := paired_len p1
    refine ⟨l, ys, rfl, .inl h1, _, _, rfl, rfl, ?_⟩
    have z := k H1 s1
    rw [e1, ← l1] at z
    have e2 : decide (((ys.length : Nat) : Int) ≤ 40) = (true && decide (ys.length ≤ 40)) := by
      by_cases z : ys.length ≤ 40
      · rw [decide_eq_true z, decide_eq_true (by omega)]
        rfl
      · rw [decide_eq_false z, decide_eq_false (by omega)]
        rfl
    show Q (V.bl (decide (((ys.length : Nat) : Int) ≤ 40))) H1
    rw [e2]
    exact z
theorem ok_steps_in {f CP : Addr} {fd : FuncData} (F : Fun K "_steps_in" "_steps_in" s_steps_in f fd) (T : Txt mg) (PC : ∀ base, PeC P w K mg base CP) (c_step_in : Cal P w K mg base 3 "_step_in" ["line"] sp_step_in)
    (c_is_step : Cal P w K mg base 4 "is_step" ["cells", "thing"] (sp_is_step K)) (c_is_room : Cal P w K mg base 3 "is_room" ["width", "steps"] sp_roomE) : FnOk P w K mg base (L2.CX P w) 5 f fd ["lines", "width", "cells"] (sp_steps_in CP) := by
  have PC := PC base
  refine F.okX sc_steps_in (fun vs H Q E h => ?_) (fun cdv A outer s H vs Q E hr h => ?_)
  · obtain ⟨_, _, _, _, rfl, _⟩ := h
    rfl
  obtain ⟨la, wd, n, ls, rfl, hla, w0, n24, l2, l5, lb, k⟩ := h
  refine ⟨_, (pss_cons (ps_set (i := 3) sc_steps_in.nd rfl (Or.inl rfl) (pe_lst' pa_nil))
    (pss_cons (ps_for (passes_of rfl) rfl (pi_range2 rfl T.range (pa_cons pe_int (pa_cons (pe_callB call_len' (by rfl) T.len (by decide +kernel) (pa_cons (pv 0) pa_nil)) pa_nil))) (pg_name (i := 4) sc_steps_in.nd rfl (Or.inl rfl))
      (pss_cons (ps_set (i := 5) sc_steps_in.nd rfl (Or.inl rfl) (pe_cal c_step_in hr (pa_cons (pe_ix ix_seq' (pv 0) (pv 4) (fun _ _ => rfl)) pa_nil)))
    (pss_cons (ps_cut (ps_if (PW.pt (pw_or (pt_not (pt_val (pe_cal c_is_step hr (pa_cons (pv 2) (pa_cons (pv 5) pa_nil))))) (pw_or1 (pt_not (pt_val (pe_cal c_is_room hr (pa_cons (pv 1) (pa_cons (pe_op op_cat' (pv 3) (pe_lst' (pa_cons (pv 5) pa_nil))) pa_nil))))))))
      (pss_one (ps_raise rfl (takes_of rfl rfl rfl rfl) (pmk_pe PC hr (by rfl) (pa_cons (pv 4) pa_nil))))
      pss_nil))
    (pss_one (ps_expr (pe_bm PySem.F.plainAttrs_list PySem.F.slot_list_append PySem.F.type_list_append mt_append (pv 3) (pa_cons (pv 5) pa_nil)))))))
    (pss_one (ps_ret (pv 3))))), ?_⟩
  have ll : (svs ls).length = ls.length := svs_len _
  refine ⟨szr, fun r H1 n1 s1 h1 => ?_⟩
  refine ⟨_, rfl, la, _, rfl, .inl (s1 _ _ hla), 2, _, rfl, ⟨by omega, by omega, by omega, by omega⟩, for_range (lo := 2) (fun i σ' H' => ∃ xs sts v4 v5, σ' = [some (.ref la), some (.int wd), some (.int (n : Nat)), some (.ref r), v4, v5] ∧ Same H H' ∧ H' r = some (.lst xs) ∧ Paired (StepV H') xs sts ∧ sts.length ≤ 40 ∧ (∀ x ∈ sts, OkS n x) ∧ readS wd n [] 2 (ls.drop 2) = readS wd n sts (2 + i) (ls.drop (2 + i))) ?_ ?_ ?_⟩
  · exact ⟨[], [], _, _, rfl, s1, h1, .nil, by simp, (fun _ h => by cases h), rfl⟩
  · rintro i σ' H2 hi ⟨xs, sts, v4, v5, rfl, s2, h2, hp, sl, so, inv⟩
    rw [ll] at hi
    have il : 2 + i < ls.length := by omega
    have dr : ls.drop (2 + i) = ls[2 + i] :: ls.drop (2 + i + 1) := List.drop_eq_getElem_cons il
    have gl : ls[2 + i]? = some ls[2 + i] := List.getElem?_eq_getElem il
    generalize ls[2 + i] = line at dr gl
    have ha : atI (svs ls) (2 + (i : Int)) = some (.str line) := by
      rw [show (2 : Int) + (i : Int) = ((2 + i : Nat) : Int) by omega]
      refine atI_nat ?_
      unfold svs
      rw [List.getElem?_map, gl]
      rfl
    have mem := List.mem_of_getElem? gl
    rw [dr] at inv
    have inv : readS wd n [] 2 (ls.drop 2) = if (okS n (lineD line) && (decide ((sts ++ [stOf (lineD line)]).length ≤ 40) && decide ((allP wd 0 (sts ++ [stOf (lineD line)])).length ≤ 40))) = true then readS wd n (sts ++ [stOf (lineD line)]) (2 + i + 1) (ls.drop (2 + i + 1)) else .inl (2 + i) := inv
    have xl := paired_len hp
    have kE : readS wd n [] 2 (ls.drop 2) = .inl (2 + i) → ∀ d H', Same H H' → H d = none → H' d = some (.xd [("line", .int (2 + (i : Int)))]) → E (.ref CP) (some d) H' := fun e d H' s' nd hd => by
      rw [e] at k
      refine k d H' s' nd ?_
      rw [hd]
      congr 4
    refine ⟨_, rfl, _, rfl, la, _, _, _, rfl, rfl, .inl (s2 _ _ hla), ha, line, rfl, lb line mem, fun v H3 s3 hv => ?_⟩
    have S3 := s2.trans s3
    have lnl : ∀ ns, lineD line = some ns → ns.length ≤ 100000 := fun ns e => by
      have q := nums_len (wd := "write") (line := line)
      have b := lb line mem
      unfold lineD at e
      split at e
      · cases e
      · cases e; omega
    refine ⟨fun σ' H' => σ' = [some (.ref la), some (.int wd), some (.int (n : Nat)), some (.ref r), some (.int (2 + (i : Int))), some v] ∧ Same H3 H' ∧ (okS n (lineD line) && (decide ((sts ++ [stOf (lineD line)]).length ≤ 40) && decide ((allP wd 0 (sts ++ [stOf (lineD line)])).length ≤ 40))) = true, ?_, ?_⟩
    · refine ⟨_, rfl, _, rfl, _, _, rfl, hv.th lnl, fun H4 s4 => ⟨_, rfl, ?_⟩⟩
      rw [dq_step (K := K) hv.dq, show stepQ (n : Nat) (lnD (lineD line)) = okS n (lineD line) from rfl]
      cases e1 : okS n (lineD line) with
      | false =>
        rw [e1] at inv
        exact iteT ⟨_, rfl, by simp, pe_raise (by omega) (by omega) fun d H' s' nd hd => kE inv d H' (S3.trans (s4.trans s')) ((S3.trans s4).free nd) hd⟩
      | true =>
        rw [e1] at inv
        obtain ⟨sv, sk⟩ := hv.ok e1
        refine iteF ⟨_, rfl, _, rfl, _, rfl, szr, fun o9 H5 n5 s5 h5 => ?_⟩
        have S5 := s3.trans (s4.trans s5)
        refine ⟨r, o9, xs, _, rfl, rfl, S5 _ _ h2, h5, sz (by show _ + 1 ≤ _; omega), fun o8 H6 n6 s6 h6 => ?_⟩
        have p6 : Paired (StepV H6) (xs ++ [v]) (sts ++ [stOf (lineD line)]) := paired_app (steps_same (S5.trans s6) hp) (.cons (sv.kp (p := 0) (Kp.same (s4.trans (s5.trans s6)))) .nil)
        refine ⟨wd, o8, xs ++ [v], sts ++ [stOf (lineD line)], rfl, h6, p6, w0, by rw [List.length_append]; show _ + 1 ≤ 100; omega, fun y hy => ?_, fun H7 s7 => ⟨_, rfl, ?_⟩⟩
        · rcases List.mem_append.mp hy with hy | hy
          · exact ok24 (so y hy) n24
          · rw [List.mem_singleton.mp hy]; exact ok24 sk n24
        have le : (xs ++ [v]).length = (sts ++ [stOf (lineD line)]).length := paired_len p6
        rw [le]
        cases e2 : (decide ((sts ++ [stOf (lineD line)]).length ≤ 40) && decide ((allP wd 0 (sts ++ [stOf (lineD line)])).length ≤ 40)) with
        | false =>
          rw [e2] at inv
          have S7 := S3.trans (s4.trans (s5.trans (s6.trans s7)))
          exact iteT ⟨_, rfl, by simp, pe_raise (by omega) (by omega) fun d H' s' nd hd => kE inv d H' (S7.trans s') (S7.free nd) hd⟩
        | true => exact iteF ⟨rfl, s4.trans (s5.trans (s6.trans s7)), rfl⟩
    rintro _ H4 ⟨rfl, s4, cond⟩
    rw [if_pos cond] at inv
    rw [Bool.and_eq_true, Bool.and_eq_true] at cond
    obtain ⟨c1, c2, c3⟩ := cond
    obtain ⟨sv, sk⟩ := hv.ok c1
    have h4 := s4 _ _ (s3 _ _ h2)
    refine ⟨_, rfl, .inl ⟨rfl, _, SqL.of h4⟩, _, rfl, r, xs, _, rfl, rfl, h4, szl (by omega), ?_⟩
    have kk := kp_upd (zs := xs ++ [v]) h4
    refine ⟨_, sts ++ [stOf (lineD line)], _, _, rfl, same_mut (S3.trans s4) n1, upd_same, ?_, of_decide_eq_true c2, fun y hy => ?_, inv⟩
    · exact paired_app (steps_kp kk (steps_same (s3.trans s4) hp)) (.cons ((sv.kp (p := r) (Kp.same s4)).kp kk) .nil)
    · rcases List.mem_append.mp hy with hy | hy
      · exact so y hy
      · rw [List.mem_singleton.mp hy]; exact sk
  · rintro σ' H2 ⟨xs, sts, v4, v5, rfl, s2, h2, hp, sl, so, inv⟩
    rw [ll, show List.drop (2 + ((ls.length : Int) - 2).toNat) ls = [] from List.drop_eq_nil_of_le (by omega)] at inv
    have inv : readS wd n [] 2 (ls.drop 2) = .inr sts := inv
    rw [inv] at k
    exact ⟨_, rfl, k r H2 xs s2 n1 h2 hp⟩
end
end Af

set_option Elab.async false
set_option linter.all false
set_option maxRecDepth 100000
namespace Af
open PySem PySem.Spec PyProof.Rows L2
/-! xs.count(True); isinstance of an error that is held, of whatever class -/
def rCntT (K : PySem.W.Frag) : V → List V → Hp → VK → Prop := fun x xs H Q => ∃ (p : Addr) (bs : List Bool), x = .ref p ∧ xs = [.bl true] ∧ SqL K H p (bs.map V.bl) ∧ Q (.int ((bs.count true : Nat) : Int)) H
theorem dp_bools {K : PySem.W.Frag} {H : Hp} : ∀ bs : List Bool, DpAll K H (bs.map V.bl) (bs.map PyData.bool)
  | [] => .nil
  | b :: bs => .cons (.bl b) (dp_bools bs)
theorem lay_bools : ∀ bs : List Bool, PyData.canLayAll0 (bs.map PyData.bool) = true
  | [] => rfl
  | b :: bs => by
    show (PyData.canLay0 (.bool b) && PyData.canLayAll0 (bs.map PyData.bool)) = true
    rw [lay_bools bs]
    rfl
theorem cnt_bools : ∀ bs : List Bool, (bs.map PyData.bool).countP (fun y => PyData.eqv y (.bool true)) = bs.count true
  | [] => rfl
  | b :: bs => by
    rw [List.map_cons, List.countP_cons, cnt_bools bs, List.count_cons]
    cases b <;> rfl
theorem mt_countT {X : Cx} (hu : X.A.units + 1 < cLine) : MtR X "list.count" (rCntT X.K) := by
  intro pins s σ H x xs v us Q I rx rxs h
  obtain ⟨p, bs, rfl, rfl, hs, q⟩ := h
  cases (show v = Value.ref p from rx)
  obtain ⟨u, rfl, ru⟩ := rxs.one
  cases (show u = Value.bool true from ru)
  obtain ⟨its, rv, pl, _⟩ := I.list hs
  obtain ⟨as, rs⟩ := Dp.readsAll I _ _ its (dp_bools bs) rv
  refine PySem.SeqAt.count_list_data (d := .bool true) (vs := its.toArray) pl.isList (by simpa using rs) (Reads.bool true) (PyData.plainAll_of_canLay0 _ (lay_bools bs)) rfl (by show X.A.units + 1 + min _ 0 < cLine; omega) ?_
  refine ⟨.int ((bs.map PyData.bool).countP (fun y => PyData.eqv y (.bool true)) : Nat), H, I.tok _, ⟨_, rfl⟩, ?_⟩
  rw [cnt_bools]
  exact q
def rIsHeldE (K : PySem.W.Frag) : List V → Hp → VK → Prop := fun xs H Q => ∃ D, L2.ExcC K D ∧ rIsHeld K D xs H Q
theorem call_isHeldE {X : Cx} : CallR X (.builtin "isinstance") (rIsHeldE X.K) := by
  intro pins s σ H xs us Q I r h
  obtain ⟨D, C, h⟩ := h
  exact call_isHeld C pins s σ H xs us Q I r h
/-- xs.index(True) of some bools -/
def rIdxT (K : PySem.W.Frag) : V → List V → Hp → VK → Prop := fun x xs H Q => ∃ (p : Addr) (bs : List Bool) (j : Nat), x = .ref p ∧ xs = [.bl true] ∧ SqL K H p (bs.map V.bl) ∧ bs.idxOf true = j ∧ j < bs.length ∧ Q (.int (j : Int)) H
end Af

set_option Elab.async false
set_option linter.all false
set_option maxRecDepth 100000
set_option maxHeartbeats 2000000
namespace Af
open PySem PySem.Spec PyProof.Rows L2
/-! a def that may raise, as others call it; data of any kind, as the program's questions see it -/
structure CalX (P : Program) (w : World) (K : PySem.W.Frag) (mg : Str → Option Value) (base : Heap) (k : Nat) (x : Str) (ps : List Str) (sp : Sp) : Prop where
  ex : ∃ (f : Addr) (fd : FuncData), FnOk P w K mg base (L2.CX P w) k f fd ps sp ∧ mg x = some (.ref f) ∧ PySem.W.keepIn K (.ref f) = true ∧ Binds K fd ps []
section
variable {X : Cx} {k j : Nat} {x : Str} {ps : List Str} {sp : Sp} {e : Expr} {es : List Expr} {t : TA} {p pos : Pos} {E : L2.St → XK}
theorem pe_calX (c : CalX X.prog X.w X.K X.mg X.base k x ps sp) (hr : Room j X.A) (out : ∀ σ, PassesAt (L2.CX X.prog X.w) X σ (E σ)) (ha : PA X (e :: es) t) (hkj : k ≤ j := by decide) (hg : Gl X x := by rfl) (hdb : (x == ("__debug__" : Str)) = false := by decide)
    (he : starEach (e :: es) X.env = (false, eval e X.env) :: starEach es X.env := by rfl) (hpl : (backTo pos (starEach es X.env)).any (·.1) = false := by rfl) :
    PE X (.Call (.Name x p) (e :: es) [] pos) (tCallS sp E t) := by
  obtain ⟨f, fd, G, m, kp, b⟩ := c.ex
  exact pe_callS G (hr.mono hkj) hg m kp b out ha hdb he hpl
/-- where what is raised leaves the def -/
theorem outE {E : XK} (h : Passes (L2.CX X.prog X.w) X E) : ∀ σ, PassesAt (L2.CX X.prog X.w) X σ ((fun _ => E) σ) := fun σ pins H s e s' I c => h pins σ H s e s' I c
def rIsHeldTE (K : PySem.W.Frag) : List V → Hp → VK → Prop := fun xs H Q => ∃ D, L2.ExcC K D ∧ rIsHeldT K D xs H Q
theorem call_isHeldTE : CallR X (.builtin "isinstance") (rIsHeldTE X.K) := by
  intro pins s σ H xs us Q I r h
  obtain ⟨D, C, h⟩ := h
  exact call_isHeldT C pins s σ H xs us Q I r h
end
section
variable {K : PySem.W.Frag} {H : Hp}
theorem worths_ints {m : Int} : ∀ {xs : List V} {ds : List PyData}, DxAll K H xs ds → ds.all (idxD m) = true → ∃ ws, xs = ivs ws ∧ ds = dvs ws ∧ ∀ z ∈ ws, 0 ≤ z ∧ z < m
  | _, _, .nil, _ => ⟨[], rfl, rfl, fun z hz => by cases hz⟩
  | _, _, .cons (d := d) h t, q => by
    rw [List.all_cons, Bool.and_eq_true] at q
    obtain ⟨ws, e1, e2, b⟩ := worths_ints t q.2
    cases h with
    | int i =>
      have q1 : (decide (0 ≤ i) && decide (i < m)) = true := q.1
      rw [Bool.and_eq_true] at q1
      refine ⟨i :: ws, by rw [e1]; rfl, by rw [e2]; rfl, fun z hz => ?_⟩
      rcases List.mem_cons.mp hz with rfl | hz
      · exact ⟨of_decide_eq_true q1.1, of_decide_eq_true q1.2⟩
      · exact b z hz
    | _ => cases q.1
/-- what passes for worths is a tuple of small numbers -/
theorem worths_of {x : V} {d : PyData} (h : Dx K H x d) (q : worthsD d = true) : ∃ a ws, x = .ref a ∧ H a = some (.tup (ivs ws)) ∧ d = .tuple (dvs ws) ∧ 1 ≤ ws.length ∧ ∀ z ∈ ws, 0 ≤ z ∧ z < 8 := by
  cases h with
  | tup e t =>
    have q : (!_ && _) = true := q
    rw [Bool.and_eq_true] at q
    obtain ⟨ws, e1, e2, b⟩ := worths_ints t q.2
    subst e1 e2
    refine ⟨_, ws, rfl, e, rfl, ?_, b⟩
    cases ws with
    | nil => exact absurd q.1 (by simp [dvs])
    | cons z r => exact Nat.succ_le_succ (Nat.zero_le _)
  | _ => cases q
end
end Af

set_option Elab.async false
set_option linter.all false
set_option maxRecDepth 100000
set_option maxHeartbeats 4000000
namespace Af
open PySem L2
def baseOk (cs : List Int) : Bool := !cs.isEmpty && cs.all (fun z => decide (0 ≤ z) && decide (z < 8)) && decide (cs.length ≤ 24)
def widthOk (w : Int) : Bool := decide (1 ≤ w) && decide (w ≤ 24)
/-- what a text says: the line that is wrong, or a plan -/
def readT (t : Str) : Nat ⊕ Pl :=
  let ls := Txt.split t "\n"
  let w := widthI (ls.headD "")
  if widthOk w = false then .inl 0 else if ls.length = 1 then .inl 1 else
    let cs := numsB "base" ((ls.drop 1).headD "")
    if baseOk cs = false then .inl 1 else match readS w cs.length [] 2 (ls.drop 2) with
      | .inl k => .inl k
      | .inr sts => .inr ⟨cs, w, sts⟩
def sp_parse (C CP : Addr) : Sp := fun vs H Q E => ∃ (t : Str), vs = [.str t] ∧ t.length ≤ 50000 ∧
  match readT t with
  | .inl k => ∀ d H', Same H H' → H d = none → H' d = some (.xd [("line", .int (k : Nat))]) → E (.ref CP) (some d) H'
  | .inr pl => ∀ y H', Same H H' → PlanN C H H' y pl → Q y H'
def sp_parseX (K : PySem.W.Frag) (CP : Addr) : Sp := fun vs H Q E => ∃ (x : V) (n : String), vs = [x] ∧ Ty K H x n ∧ isB n "str" = false ∧
  ∀ d H', Same H H' → H d = none → H' d = some (.xd [("line", .int 0)]) → E (.ref CP) (some d) H'
theorem width_eq {w : Int} : widthB (.int w) = widthOk w := by
  unfold widthB widthOk
  first | rfl | simp
theorem content_eq {K : PySem.W.Frag} {H : Hp} {b : Addr} {cs : List Int} (h : H b = some (.tup (ivs cs))) : contentB H (.ref b) = baseOk cs := by
  rw [dq_content (K := K) (.tup h (dq_ints cs))]
  show ((!(dvs cs).isEmpty && (dvs cs).all (idxD 8)) && decide ((dvs cs).length ≤ 24)) = _
  unfold baseOk dvs
  rw [List.all_map, List.length_map, List.isEmpty_map]
  rfl
theorem base_ok {cs : List Int} (h : baseOk cs = true) : 1 ≤ cs.length ∧ cs.length ≤ 24 ∧ ∀ z ∈ cs, 0 ≤ z ∧ z < 8 := by
  unfold baseOk at h
  rw [Bool.and_eq_true, Bool.and_eq_true] at h
  obtain ⟨⟨h1, h2⟩, h3⟩ := h
  refine ⟨?_, of_decide_eq_true h3, fun z hz => ?_⟩
  · cases cs with
    | nil => cases h1
    | cons _ _ => simp
  · have q := List.all_eq_true.mp h2 z hz
    rw [Bool.and_eq_true] at q
    exact ⟨of_decide_eq_true q.1, of_decide_eq_true q.2⟩
theorem width_ok' {w : Int} (h : widthOk w = true) : 1 ≤ w ∧ w ≤ 24 := by
  unfold widthOk at h
  rw [Bool.and_eq_true] at h
  exact ⟨of_decide_eq_true h.1, of_decide_eq_true h.2⟩
theorem okS_ok {n : Nat} {d : Option (List Int)} (o : okS n d = true) : OkS n (stOf d) := by
  match d, o with
  | none, _ => exact True.intro
  | some [], o => cases o
  | some (f :: r), o => exact (SdV.ok (d := some (f :: r)) (n := n) (H := fun b => if b = 0 then some (.tup [.int f, .ref 1]) else some (.tup (ivs r))) (v := .ref 0) ⟨0, 1, rfl, rfl, rfl⟩ o).2
theorem readS_ok {w : Int} {n : Nat} : ∀ (ls : List Str) (acc : List Stp) (k : Nat) (sts : List Stp), readS w n acc k ls = .inr sts → acc.length ≤ 40 → (∀ x ∈ acc, OkS n x) → (allP w 0 acc).length ≤ 40 → sts.length ≤ 40 ∧ (∀ x ∈ sts, OkS n x) ∧ (allP w 0 sts).length ≤ 40
  | [], acc, k, sts, h, a, b, c => by
    cases h
    exact ⟨a, b, c⟩
  | l :: r, acc, k, sts, h, a, b, c => by
    unfold readS at h
    split at h
    · rename_i q
      rw [Bool.and_eq_true, Bool.and_eq_true] at q
      refine readS_ok r _ _ sts h (of_decide_eq_true q.2.1) (fun x hx => ?_) (of_decide_eq_true q.2.2)
      rcases List.mem_append.mp hx with hx | hx
      · exact b x hx
      · rw [List.mem_singleton.mp hx]; exact okS_ok q.1
    · cases h
section
variable {P : Program} {w : World} {K : PySem.W.Frag} {mg : Str → Option Value} {base : Heap}
theorem ok_parse {f C CP fI : Addr} {fd fdI : FuncData} (F : Fun K "parse_plan" "parse_plan" s_parse_plan f fd) (T : Txt mg) (t_str : mg "str" = none) (PC : ∀ base, PeC P w K mg base CP) (TC : PlanC K mg C) (M_Plan : Mk K C fI)
    (G_Plan : FnOk P w K mg base CX0 6 fI fdI ["self", "base", "width", "steps"] (sp_initX C)) (b_Plan : Binds K fdI ["self", "base", "width", "steps"] [])
    (c_width_in : Cal P w K mg base 3 "_width_in" ["line"] sp_width_in) (c_is_width : Cal P w K mg base 2 "is_width" ["thing"] (sp_is_width K)) (c_is_content : Cal P w K mg base 4 "is_content" ["thing"] (sp_is_content K))
    (c_numbers_behind : Cal P w K mg base 2 "_numbers_behind" ["word", "line"] sp_numbers) (c_steps_in : CalX P w K mg base 5 "_steps_in" ["lines", "width", "cells"] (sp_steps_in CP)) : FnOk P w K mg base (L2.CX P w) 8 f fd ["text"] (sp_parse C CP) := by
  have PC := PC base
  refine F.okX sc_parse_plan (fun vs H Q E h => ?_) (fun cdv A outer s H vs Q E hr h => ?_)
  · obtain ⟨_, rfl, _⟩ := h
    rfl
  obtain ⟨t, rfl, lt, k⟩ := h
  refine ⟨_, (pss_cons (ps_if (pt_not (pt_val (pe_callB call_isi' (by rfl) T.isinstance (by decide +kernel) (pa_cons (pv 0) (pa_cons (pe_bltn (v := .ty "str") (by rfl) t_str (by decide +kernel) rfl) pa_nil)))))
      (pss_one (ps_raise rfl (takes_of rfl rfl rfl rfl) (pmk_pe PC hr (by rfl) (pa_cons pe_int pa_nil))))
      pss_nil)
    (pss_cons (ps_set (i := 1) sc_parse_plan.nd rfl (Or.inl rfl) (pe_split (pv 0) pe_str))
    (pss_cons (ps_set (i := 2) sc_parse_plan.nd rfl (Or.inl rfl) (pe_cal c_width_in hr (pa_cons (pe_ix ix_seq' (pv 1) pe_int (fun _ _ => rfl)) pa_nil)))
    (pss_cons (ps_if (pt_not (pt_val (pe_cal c_is_width hr (pa_cons (pv 2) pa_nil))))
      (pss_one (ps_raise rfl (takes_of rfl rfl rfl rfl) (pmk_pe PC hr (by rfl) (pa_cons pe_int pa_nil))))
      pss_nil)
    (pss_cons (ps_if (pt_cmpR op_eq (pe_callB call_len' (by rfl) T.len (by decide +kernel) (pa_cons (pv 1) pa_nil)) pe_int (nomark _))
      (pss_one (ps_raise rfl (takes_of rfl rfl rfl rfl) (pmk_pe PC hr (by rfl) (pa_cons pe_int pa_nil))))
      pss_nil)
    (pss_cons (ps_set (i := 3) sc_parse_plan.nd rfl (Or.inl rfl) (pe_callTy call_tuple' (by rfl) T.tuple (by decide +kernel) (pa_cons (pe_cal c_numbers_behind hr (pa_cons pe_str (pa_cons (pe_ix ix_seq' (pv 1) pe_int (fun _ _ => rfl)) pa_nil))) pa_nil)))
    (pss_cons (ps_if (pt_not (pt_val (pe_cal c_is_content hr (pa_cons (pv 3) pa_nil))))
      (pss_one (ps_raise rfl (takes_of rfl rfl rfl rfl) (pmk_pe PC hr (by rfl) (pa_cons pe_int pa_nil))))
      pss_nil)
    (pss_one (ps_ret (pe_make M_Plan G_Plan (hr.mono (by decide)) rfl TC.mgC b_Plan .nil pass0 (pa_cons (pv 3) (pa_cons (pv 2) (pa_cons (pe_calX c_steps_in hr (outE (passes_call (takes_of rfl rfl rfl rfl) (fun _ _ _ _ h => h))) (pa_cons (pv 1) (pa_cons (pv 2) (pa_cons (pe_callB call_len' (by rfl) T.len (by decide +kernel) (pa_cons (pv 3) pa_nil)) pa_nil)))) pa_nil))))))))))))), ?_⟩
  have lsp := PyProof.Rows.split_pos t "\n"
  have lsl := PyProof.Rows.split_le t "\n"
  have lb : ∀ l ∈ Txt.split t "\n", l.length ≤ 50000 := fun l h => Nat.le_trans (part_len h) lt
  refine ⟨_, rfl, _, "str", "str", rfl, ⟨.str _, by decide, fun _ _ _ e => by cases e⟩, by decide, _, rfl, iteF ?_⟩
  refine ⟨_, rfl, ⟨_, rfl⟩, _, _, rfl, rfl, by decide +kernel, sz (by omega), fun p hp => ?_⟩
  unfold readT at k
  generalize Txt.split t "\n" = ls at lsp lsl lb k ⊢
  cases ls with
  | nil => simp at lsp
  | cons l0 rest =>
  have s1 : Same H (upd H p (.lst (svs (l0 :: rest)))) := same_new hp
  have h1 : (upd H p (.lst (svs (l0 :: rest)))) p = some (.lst (svs (l0 :: rest))) := upd_same
  show gName 1 _ _ (upd H p (.lst (svs (l0 :: rest)))) _
  generalize upd H p (.lst (svs (l0 :: rest))) = H1 at s1 h1
  have k : match (if widthOk (widthI l0) = false then (.inl 0 : Nat ⊕ Pl) else if (l0 :: rest).length = 1 then .inl 1 else if baseOk (numsB "base" (rest.headD "")) = false then .inl 1 else match readS (widthI l0) (numsB "base" (rest.headD "")).length [] 2 (rest.drop 1) with
      | .inl k => .inl k
      | .inr sts => .inr ⟨numsB "base" (rest.headD ""), widthI l0, sts⟩) with
    | .inl k => ∀ d H', Same H H' → H d = none → H' d = some (.xd [("line", .int (k : Nat))]) → E (.ref CP) (some d) H'
    | .inr pl => ∀ y H', Same H H' → PlanN C H H' y pl → Q y H' := by cases rest <;> exact k
  refine ⟨_, rfl, p, _, _, .str l0, rfl, rfl, .inl h1, atI_nat (j := 0) rfl, l0, rfl, lb l0 (by simp), fun H2 s2 => ?_⟩
  have h2 := s2 _ _ h1
  refine ⟨_, rfl, _, "int", rfl, ⟨.int _, by decide, fun _ _ _ e => by cases e⟩, ?_⟩
  rw [width_eq]
  cases ew : widthOk (widthI l0) with
  | false =>
    rw [if_pos ew] at k
    exact ⟨_, rfl, iteT ⟨by simp, pe_raise (by omega) (by omega) fun d H' s' nd hd => k d H' (s1.trans (s2.trans s')) ((s1.trans s2).free nd) hd⟩⟩
  | true =>
  rw [if_neg (by rw [ew]; decide)] at k
  refine ⟨_, rfl, iteF ?_⟩
  refine ⟨_, rfl, p, _, rfl, .inl h2, rfl, _, rfl, ?_⟩
  cases rest with
  | nil =>
    rw [if_pos (show ([l0] : List Str).length = 1 from rfl)] at k
    exact iteT' (by rfl) ⟨by simp, pe_raise (by omega) (by omega) fun d H' s' nd hd => k d H' (s1.trans (s2.trans s')) ((s1.trans s2).free nd) hd⟩
  | cons l1 rest =>
  rw [if_neg (by simp)] at k
  have k : match (if baseOk (numsB "base" l1) = false then (.inl 1 : Nat ⊕ Pl) else match readS (widthI l0) (numsB "base" l1).length [] 2 rest with
      | .inl k => .inl k
      | .inr sts => .inr ⟨numsB "base" l1, widthI l0, sts⟩) with
    | .inl k => ∀ d H', Same H H' → H d = none → H' d = some (.xd [("line", .int (k : Nat))]) → E (.ref CP) (some d) H'
    | .inr pl => ∀ y H', Same H H' → PlanN C H H' y pl → Q y H' := k
  refine ite2 (fun y => by have := V.int.inj (of_decide_eq_true y); rw [svs_len] at this; simp at this; omega) (fun _ => ?_)
  have lns := nums_len (wd := "base") (line := l1)
  have lb1 := lb l1 (by simp)
  refine ⟨_, rfl, p, _, _, .str l1, rfl, rfl, .inl h2, atI_nat (j := 1) rfl, _, _, rfl, lb1, fun l H3 s3 n3 h3 => ⟨l, _, rfl, .inl h3, fun b H4 s4 h4 => ?_⟩⟩
  generalize numsB "base" l1 = cs at k h3 h4 lns
  have S4 := s2.trans (s3.trans s4)
  refine ⟨_, rfl, _, rfl, th_ints h4 (by omega), fun H5 s5 => ⟨_, rfl, ?_⟩⟩
  rw [content_eq (K := K) h4]
  have h5 := s5 _ _ h4
  have S5 := S4.trans s5
  cases eb : baseOk cs with
  | false =>
    rw [if_pos eb] at k
    exact iteT ⟨by simp, pe_raise (by omega) (by omega) fun d H' s' nd hd => k d H' (s1.trans (S5.trans s')) ((s1.trans S5).free nd) hd⟩
  | true =>
  rw [if_neg (by rw [eb]; decide)] at k
  refine iteF ?_
  obtain ⟨c1, c24, cb⟩ := base_ok eb
  obtain ⟨w1, w24⟩ := width_ok' ew
  refine ⟨_, rfl, _, rfl, _, rfl, _, rfl, _, rfl, b, _, rfl, .inr h5, p, widthI l0, cs.length, l0 :: l1 :: rest, by rw [ivs_len], S5 _ _ h1, by omega, c24, by simp, by omega, lb, ?_⟩
  show match readS (widthI l0) cs.length [] 2 rest with
    | .inl k => _
    | .inr sts => _
  cases er : readS (widthI l0) cs.length [] 2 rest with
  | inl kk =>
    rw [er] at k
    exact fun d H' s' nd hd => k d H' (s1.trans (S5.trans s')) ((s1.trans S5).free nd) hd
  | inr sts =>
    rw [er] at k
    obtain ⟨r1, r2, r3⟩ := readS_ok _ _ _ _ er (by simp) (fun _ h => by cases h) (by show 0 ≤ 40; decide)
    have ok : OkP ⟨cs, widthI l0, sts⟩ := ⟨c1, c24, cb, w1, w24, r2, r1, r3⟩
    refine fun r H6 xs s6 n6 h6 hp6 => ?_
    refine fun y dy hy hdy ndy => ?_
    have s0 : Same H6 (upd (upd H6 dy (.own y)) y (.ins C dy [])) := fun b o e => by
      rw [upd_ne (ne_of_none e hy), upd_ne (ne_of_none e hdy)]
      exact e
    have S6 := s1.trans (S5.trans s6)
    exact made_outW (K := K) (pl := ⟨cs, widthI l0, sts⟩) rfl (S6.free hy) (S6.trans s0) upd_same (s0 _ _ (s6 _ _ h5)) (s0 _ _ h6) (steps_same s0 hp6) ok fun H' s' n => ⟨rfl, k _ H' s' n⟩
theorem ok_parseX {f CP : Addr} {fd : FuncData} (F : Fun K "parse_plan" "parse_plan" s_parse_plan f fd) (T : Txt mg) (t_str : mg "str" = none) (PC : ∀ base, PeC P w K mg base CP) {C fI : Addr} {fdI : FuncData} (TC : PlanC K mg C) (M_Plan : Mk K C fI)
    (G_Plan : FnOk P w K mg base CX0 6 fI fdI ["self", "base", "width", "steps"] (sp_initX C)) (b_Plan : Binds K fdI ["self", "base", "width", "steps"] [])
    (c_width_in : Cal P w K mg base 3 "_width_in" ["line"] sp_width_in) (c_is_width : Cal P w K mg base 2 "is_width" ["thing"] (sp_is_width K)) (c_is_content : Cal P w K mg base 4 "is_content" ["thing"] (sp_is_content K))
    (c_numbers_behind : Cal P w K mg base 2 "_numbers_behind" ["word", "line"] sp_numbers) (c_steps_in : CalX P w K mg base 5 "_steps_in" ["lines", "width", "cells"] (sp_steps_in CP)) : FnOk P w K mg base (L2.CX P w) 8 f fd ["text"] (sp_parseX K CP) := by
  have PC := PC base
  refine F.okX sc_parse_plan (fun vs H Q E h => ?_) (fun cdv A outer s H vs Q E hr h => ?_)
  · obtain ⟨_, _, rfl, _⟩ := h
    rfl
  obtain ⟨x, n, rfl, ty, ns, k⟩ := h
  refine ⟨_, (pss_cons (ps_if (pt_not (pt_val (pe_callB call_isi' (by rfl) T.isinstance (by decide +kernel) (pa_cons (pv 0) (pa_cons (pe_bltn (v := .ty "str") (by rfl) t_str (by decide +kernel) rfl) pa_nil)))))
      (pss_one (ps_raise rfl (takes_of rfl rfl rfl rfl) (pmk_pe PC hr (by rfl) (pa_cons pe_int pa_nil))))
      pss_nil)
    (pss_cons (ps_set (i := 1) sc_parse_plan.nd rfl (Or.inl rfl) (pe_split (pv 0) pe_str))
    (pss_cons (ps_set (i := 2) sc_parse_plan.nd rfl (Or.inl rfl) (pe_cal c_width_in hr (pa_cons (pe_ix ix_seq' (pv 1) pe_int (fun _ _ => rfl)) pa_nil)))
    (pss_cons (ps_if (pt_not (pt_val (pe_cal c_is_width hr (pa_cons (pv 2) pa_nil))))
      (pss_one (ps_raise rfl (takes_of rfl rfl rfl rfl) (pmk_pe PC hr (by rfl) (pa_cons pe_int pa_nil))))
      pss_nil)
    (pss_cons (ps_if (pt_cmpR op_eq (pe_callB call_len' (by rfl) T.len (by decide +kernel) (pa_cons (pv 1) pa_nil)) pe_int (nomark _))
      (pss_one (ps_raise rfl (takes_of rfl rfl rfl rfl) (pmk_pe PC hr (by rfl) (pa_cons pe_int pa_nil))))
      pss_nil)
    (pss_cons (ps_set (i := 3) sc_parse_plan.nd rfl (Or.inl rfl) (pe_callTy call_tuple' (by rfl) T.tuple (by decide +kernel) (pa_cons (pe_cal c_numbers_behind hr (pa_cons pe_str (pa_cons (pe_ix ix_seq' (pv 1) pe_int (fun _ _ => rfl)) pa_nil))) pa_nil)))
    (pss_cons (ps_if (pt_not (pt_val (pe_cal c_is_content hr (pa_cons (pv 3) pa_nil))))
      (pss_one (ps_raise rfl (takes_of rfl rfl rfl rfl) (pmk_pe PC hr (by rfl) (pa_cons pe_int pa_nil))))
      pss_nil)
    (pss_one (ps_ret (pe_make M_Plan G_Plan (hr.mono (by decide)) rfl TC.mgC b_Plan .nil pass0 (pa_cons (pv 3) (pa_cons (pv 2) (pa_cons (pe_calX c_steps_in hr (outE (passes_call (takes_of rfl rfl rfl rfl) (fun _ _ _ _ h => h))) (pa_cons (pv 1) (pa_cons (pv 2) (pa_cons (pe_callB call_len' (by rfl) T.len (by decide +kernel) (pa_cons (pv 3) pa_nil)) pa_nil)))) pa_nil))))))))))))), ?_⟩
  refine ⟨_, rfl, _, n, "str", rfl, ty, by decide, _, rfl, ?_⟩
  rw [ns]
  exact iteT ⟨by simp, pe_raise (by omega) (by omega) fun d H' s' nd hd => k d H' s' nd hd⟩
end
end Af

set_option Elab.async false
set_option linter.all false
set_option maxRecDepth 100000
set_option maxHeartbeats 4000000
namespace Af
open PySem L2
abbrev s_l_figures : Stmt := top 60
abbrev N_l_figures : List Str := ["_law_word", "_law_under", "_law_found", "_law_sign"]
theorem sc_l_figures : FnScope N_l_figures ["_law_word", "_law_under"] (defScope s_l_figures) := ⟨rfl, rfl, rfl, by decide +kernel, rfl, by decide +kernel, by decide +kernel⟩

abbrev s_l_row_of : Stmt := top 61
abbrev N_l_row_of : List Str := ["_law_line_here", "_law_many", "_law_words", "_law_first", "_law_worths_here", "_law_word"]
theorem sc_l_row_of : FnScope N_l_row_of ["_law_line_here", "_law_many"] (defScope s_l_row_of) := ⟨rfl, rfl, rfl, by decide +kernel, rfl, by decide +kernel, by decide +kernel⟩

theorem num_log {i : Int} (h0 : 0 ≤ i) (h1 : i < 100) : i.natAbs.log2 < 1920 := Nat.lt_of_le_of_lt (Nat.log2_le_self _) (by omega)
def figV (u : Int) (w : Str) : V := if 0 ≤ numB w ∧ numB w < u then .int (numB w) else .non
def sp_figures : Sp := fun vs H Q _ => ∃ (w : Str) (u : Int), vs = [.str w, .int u] ∧ w.length ≤ 100000 ∧ ∀ H', Same H H' → Q (figV u w) H'
section
variable {P : Program} {w : World} {K : PySem.W.Frag} {mg : Str → Option Value} {base : Heap}
theorem ok_figures {f : Addr} {fd : FuncData} (F : Fun K "_law_figures" "_law_figures" s_l_figures f fd) (T : Txt mg) (t_str : mg "str" = none) : FnOk P w K mg base CX0 1 f fd ["_law_word", "_law_under"] sp_figures := by
  refine F.ok sc_l_figures (fun vs H Q E h => ?_) (fun cdv A outer s H vs Q E hr h => ?_)
  · obtain ⟨_, _, rfl, _⟩ := h
    rfl
  obtain ⟨wd, u, rfl, lw, k⟩ := h
  have lz : wd.length ≤ sizeLine := sz (by omega)
  have ltl : wd.length = (TL.tl wd).length := TL.len_tl _
  refine ⟨_, (pss_cons (ps_cut (ps_if (PW.pt (pw_or (pt_cmpR op_notIn_seq (pe_callB call_len_str (by rfl) T.len (by decide +kernel) (pa_cons (pv 0) pa_nil)) (pe_tup' (pa_cons pe_int (pa_cons pe_int pa_nil))) (by rfl)) (pw_or1 (pt_not (pt_val (pe_callB (cr_all rfl) (by rfl) T.all (by decide +kernel) (pa_cons (pe_lc (own := [("_law_sign", 3)]) (g := (gName 3)) (tt := tYes) rfl sc_l_figures.nd (pi_str (pv 0)) (blkOk_by (own := [("_law_sign", 3)]) (N := N_l_figures) (sc := defScope s_l_figures) (by decide +kernel)) (fun _ _ _ _ _ => pg_name (i := 3) sc_l_figures.nd rfl (Or.inl rfl)) (fun _ _ _ _ _ => pts_nil) (fun _ _ _ _ _ => (pe_cmpR op_in_sign (pv 3) pe_str (by rfl)))) pa_nil)))))))
      (pss_one (ps_ret pe_non))
      pss_nil))
    (pss_cons (ps_set (i := 2) sc_l_figures.nd rfl (Or.inl rfl) (pe_callTy call_int_str (by rfl) T.int (by decide +kernel) (pa_cons (pv 0) pa_nil)))
    (pss_one (ps_ret (pe_ifExp (PW.pt (pw_and (pt_cmpR op_eq (pe_callTy call_str_int (by rfl) t_str (by decide +kernel) (pa_cons (pv 2) pa_nil)) (pv 0) (nomark _)) (pw_and1 (pt_cmpR op_lt (pv 2) (pv 1) (nomark _))))) (pv 2) pe_non))))), ?_⟩
  have knon : (numB wd = -1 ∨ ¬ (0 ≤ numB wd ∧ numB wd < u)) → ∀ H', Same H H' → Q .non H' := fun e H' s' => by
    have := k H' s'
    unfold figV at this
    rw [if_neg (by rcases e with e | e <;> omega)] at this
    exact this
  refine ⟨fun σ' H' => σ' = [some (.str wd), some (.int u), none, none] ∧ Same H H' ∧ 1 ≤ wd.length ∧ wd.length ≤ 2 ∧ (TL.tl wd).all digB = true, ?_, ?_⟩
  · refine ⟨_, rfl, _, rfl, lz, szr, fun tp H1 n1 s1 h1 => ⟨tp, _, rfl, .inr (SqT.of h1), rfl, by decide, _, rfl, ?_⟩⟩
    show if (!inV (V.int (wd.length : Nat)) [.int 1, .int 2]) = true then _ else _
    have ei : inV (V.int (wd.length : Nat)) [.int 1, .int 2] = decide (wd.length = 1 ∨ wd.length = 2) := by
      show (eqV (.int 1) (.int (wd.length : Nat)) || (eqV (.int 2) (.int (wd.length : Nat)) || false)) = _
      show (((1 : Int) == (wd.length : Nat)) || (((2 : Int) == (wd.length : Nat)) || false)) = _
      rw [Bool.or_false]
      by_cases a : wd.length = 1
      · rw [a]; rfl
      · by_cases b : wd.length = 2
        · rw [b]; rfl
        · rw [decide_eq_false (by omega), show ((1 : Int) == (wd.length : Nat)) = false by simp; omega, show ((2 : Int) == (wd.length : Nat)) = false by simp; omega]
          rfl
    rw [ei]
    by_cases l12 : wd.length = 1 ∨ wd.length = 2
    · rw [decide_eq_true l12]
      refine iteF ⟨_, rfl, _, rfl, fun D hD => lc_it (walk_str (z := wd)) (fun j H' => Same H H' ∧ H' D = some (.lst ((((TL.tl wd).take j).map digB).map .bl))) ?_ (fun _ _ _ _ => trivial) ?_ ?_⟩
      · exact ⟨s1.trans (same_new hD), upd_same⟩
      · rintro j x H2 H3 hj ⟨s2, h2⟩ ⟨rfl, d, hd, rfl⟩
        have e : (TL.tl wd)[j]? = some d := by
          have e : wd.cps.toList[j]? = some d := by rw [Array.getElem?_toList]; exact hd
          exact e
        refine ⟨rfl, _, rfl, d, _, rfl, rfl, _, h2, szl (by rw [List.length_map, List.length_map, List.length_take]; have : wd.cps.size = wd.length := rfl; omega), same_mut s2 (s1.free hD), ?_⟩
        rw [upd_same, List.take_add_one, e, List.map_append, List.map_append, dec_figs]
        rfl
      · rintro H2 ⟨s2, h2⟩
        have zs : wd.cps.size = (TL.tl wd).length := ltl
        rw [zs, List.take_length] at h2
        refine ⟨D, (TL.tl wd).map digB, rfl, SqL.of h2, ?_⟩
        rw [show ((TL.tl wd).map digB).all id = (TL.tl wd).all digB by rw [List.all_map]; rfl]
        cases al : (TL.tl wd).all digB with
        | true => exact ⟨_, rfl, iteF ⟨rfl, s2, by omega, by omega, rfl⟩⟩
        | false =>
          refine ⟨_, rfl, iteT (knon (.inl ?_) H2 s2)⟩
          cases numK wd with
          | none _ e => exact e
          | long _ e => exact e
          | sign _ _ _ e => exact e
          | lead _ _ _ e _ => exact e
          | good _ _ _ _ a _ _ _ _ _ => rw [a] at al; cases al
    · rw [decide_eq_false l12]
      refine iteT (knon (.inl ?_) H1 s1)
      cases numK wd with
      | none _ e => exact e
      | long _ e => exact e
      | sign _ _ _ e => exact e
      | lead _ _ _ e _ => exact e
      | good c r h h' _ _ _ _ _ _ => rw [ltl, h, List.length_cons] at l12; omega
  rintro _ H2 ⟨rfl, s2, l1, l2, al⟩
  cases numK wd with
  | none h _ => rw [ltl, h] at l1; simp at l1
  | long h _ => omega
  | sign _ _ a _ => rw [a] at al; cases al
  | lead d h _ e z =>
    obtain ⟨n, it, n0, n1, ne⟩ := z
    refine ⟨_, rfl, _, _, rfl, it, by omega, ?_⟩
    refine ⟨_, rfl, _, rfl, num_log n0 (by omega), _, rfl, rfl, _, rfl, ?_⟩
    rw [show decide (V.str (Str.ofString (toString n)) = V.str wd) = false from decide_eq_false fun z => ne (V.str.inj z).symm]
    exact iteF (knon (.inl e) H2 s2)
  | good c r h h' _ _ n0 n1 it se =>
    refine ⟨_, rfl, _, _, rfl, it, by omega, ?_⟩
    refine ⟨_, rfl, _, rfl, num_log n0 n1, _, rfl, rfl, _, rfl, ?_⟩
    rw [show decide (V.str (Str.ofString (toString (numB wd))) = V.str wd) = true from decide_eq_true (congrArg V.str se.symm)]
    refine iteT ⟨_, rfl, _, rfl, _, _, rfl, rfl, _, rfl, ?_⟩
    by_cases c : numB wd < u
    · rw [decide_eq_true c]
      have := k H2 s2
      unfold figV at this
      rw [if_pos ⟨n0, c⟩] at this
      exact iteT ⟨_, rfl, this⟩
    · rw [decide_eq_false c]
      exact iteF (knon (.inr (by omega)) H2 s2)
theorem okS_one {n : Nat} {z : Int} : okS n (some [z]) = false := by
  show (idxD (n : Nat) (.int z) && false && _) = false
  rw [Bool.and_false]
  rfl
theorem okS_idx {n : Nat} {z : Int} {r : List Int} (c : ¬ (0 ≤ z ∧ z < ((n : Nat) : Int))) : okS n (some (z :: r)) = false := by
  show ((decide (0 ≤ z) && decide (z < (n : Nat))) && _ && _) = false
  rw [← Bool.decide_and, decide_eq_false c]
  rfl
theorem okS_eq {n : Nat} {z : Int} {r : List Int} (c : 0 ≤ z ∧ z < ((n : Nat) : Int)) (ne : r ≠ []) : okS n (some (z :: r)) = (r.all (fun y => decide (0 ≤ y) && decide (y < 8)) && decide (z + (r.length : Nat) ≤ (n : Nat))) := by
  show ((decide (0 ≤ z) && decide (z < (n : Nat))) && (!(dvs r).isEmpty && (dvs r).all (idxD 8)) && decide (z + (((dvs r).length : Nat) : Int) ≤ (n : Nat))) = _
  rw [← Bool.decide_and, decide_eq_true c]
  unfold dvs
  rw [List.all_map, List.length_map, List.isEmpty_map]
  cases r with
  | nil => exact absurd rfl ne
  | cons _ _ => rfl
theorem cut_from2 {v u : V} {xs : List V} : cutV (v :: u :: xs) (some 2) none = xs := by
  unfold cutV
  have e1 : HT.sIx (v :: u :: xs).length 0 (some 2) = 2 := by
    unfold HT.sIx
    simp
  have e2 : HT.sIx (v :: u :: xs).length (v :: u :: xs).length none = (v :: u :: xs).length := rfl
  rw [e1, e2]
  simp
def fvs (r : List Str) : List V := r.map (figV 8)
theorem fvs_no (r : List Str) : inV .non (fvs r) = !(r.map numB).all (fun y => decide (0 ≤ y) && decide (y < 8)) := by
  induction r with
  | nil => rfl
  | cons w r ih =>
    show (eqV (figV 8 w) .non || inV .non (fvs r)) = _
    rw [ih, List.map_cons, List.all_cons, Bool.not_and]
    congr 1
    unfold figV
    by_cases c : 0 ≤ numB w ∧ numB w < 8
    · rw [if_pos c, decide_eq_true c.1, decide_eq_true c.2]
      rfl
    · rw [if_neg c, ← Bool.decide_and, decide_eq_false c]
      rfl
theorem fvs_ok {r : List Str} (h : (r.map numB).all (fun y => decide (0 ≤ y) && decide (y < 8)) = true) : fvs r = ivs (r.map numB) := by
  induction r with
  | nil => rfl
  | cons w r ih =>
    rw [List.map_cons, List.all_cons, Bool.and_eq_true, Bool.and_eq_true] at h
    show figV 8 w :: fvs r = .int (numB w) :: ivs (r.map numB)
    rw [ih h.2]
    unfold figV
    rw [if_pos ⟨of_decide_eq_true h.1.1, of_decide_eq_true h.1.2⟩]
theorem fvs_flat (r : List Str) : (fvs r).all flatV = true := List.all_eq_true.mpr fun x hx => by
  obtain ⟨w, _, rfl⟩ := List.mem_map.mp hx
  unfold figV
  split <;> rfl
def sp_row_of : Sp := fun vs H Q _ => ∃ (line : Str) (n : Nat), vs = [.str line, .int (n : Nat)] ∧ n ≤ 24 ∧ line.length ≤ 50000 ∧
  ∀ l H' xs, Same H H' → H l = none → H' l = some (.lst xs) → (if okS n (lineD line) = true then ∃ v, xs = [v] ∧ StepV H' v (stOf (lineD line)) else xs = []) → Q (.ref l) H'
theorem ok_row_of {f : Addr} {fd : FuncData} (F : Fun K "_law_row_of" "_law_row_of" s_l_row_of f fd) (T : Txt mg) (c_l_figures : Cal P w K mg base 1 "_law_figures" ["_law_word", "_law_under"] sp_figures) : FnOk P w K mg base CX0 2 f fd ["_law_line_here", "_law_many"] sp_row_of := by
  refine F.ok sc_l_row_of (fun vs H Q E h => ?_) (fun cdv A outer s H vs Q E hr h => ?_)
  · obtain ⟨_, _, rfl, _⟩ := h
    rfl
  obtain ⟨line, n, rfl, n24, ll, k⟩ := h
  refine ⟨_, (pss_cons (ps_if (pt_cmpR op_eq (pv 0) pe_str (nomark _))
      (pss_one (ps_ret (pe_lst' (pa_cons pe_non pa_nil))))
      pss_nil)
    (pss_cons (ps_set (i := 2) sc_l_row_of.nd rfl (Or.inl rfl) (pe_split (pv 0) pe_str))
    (pss_cons (ps_cut (ps_if (PW.pt (pw_or (pt_cmpR op_ne (pe_ix ix_seq' (pv 2) pe_int (fun _ _ => rfl)) pe_str (nomark _)) (pw_or (pt_cmpR op_lt (pe_callB call_len' (by rfl) T.len (by decide +kernel) (pa_cons (pv 2) pa_nil)) pe_int (nomark _)) (pw_or1 (pt_cmpR op_isN (pe_cal c_l_figures hr (pa_cons (pe_ix ix_seq' (pv 2) pe_int (fun _ _ => rfl)) (pa_cons (pv 1) pa_nil))) pe_non (nomark _))))))
      (pss_one (ps_ret (pe_lst' pa_nil)))
      pss_nil))
    (pss_cons (ps_par (i := 3) (j := 4) rfl sc_l_row_of.nd rfl rfl (by decide) rfl rfl (pa_cons (pe_callTy call_int_str (by rfl) T.int (by decide +kernel) (pa_cons (pe_ix ix_seq' (pv 2) pe_int (fun _ _ => rfl)) pa_nil)) (pa_cons (pe_lc (own := [("_law_word", 5)]) (g := (gName 5)) (tt := tYes) rfl sc_l_row_of.nd (pi_list (pe_slice sl_list' (pv 2) (po_some pe_int) po_none)) (blkOk_by (own := [("_law_word", 5)]) (N := N_l_row_of) (sc := defScope s_l_row_of) (by decide +kernel)) (fun _ _ _ _ _ => pg_name (i := 5) sc_l_row_of.nd rfl (Or.inl rfl)) (fun _ _ _ _ _ => pts_nil) (fun _ _ _ _ _ => (pe_cal c_l_figures hr (pa_cons (pv 5) (pa_cons pe_int pa_nil))))) pa_nil)) (by rfl))
    (pss_cons (ps_cut (ps_if (PW.pt (pw_or (pt_cmpR op_in_seq pe_non (pv 4) (by rfl)) (pw_or1 (pt_cmpR op_gt (pe_op op_add (pv 3) (pe_callB call_len' (by rfl) T.len (by decide +kernel) (pa_cons (pv 4) pa_nil))) (pv 1) (nomark _)))))
      (pss_one (ps_ret (pe_lst' pa_nil)))
      pss_nil))
    (pss_one (ps_ret (pe_lst' (pa_cons (pe_tup' (pa_cons (pv 3) (pa_cons (pe_callTy call_tuple' (by rfl) T.tuple (by decide +kernel) (pa_cons (pv 4) pa_nil)) pa_nil))) pa_nil))))))))), ?_⟩
  have kno : okS n (lineD line) = false → ∀ l H', Same H H' → H l = none → H' l = some (.lst []) → Q (.ref l) H' := fun e l H' s' nl hl => k l H' [] s' nl hl (by rw [e]; exact (if_neg Bool.false_ne_true).mpr rfl)
  by_cases eb : line = "barrier"
  · refine ⟨_, rfl, rfl, _, rfl, iteT' (decide_eq_true (congrArg V.str eb)) ⟨szr, fun l H1 n1 s1 h1 => k l H1 _ s1 n1 h1 ?_⟩⟩
    rw [show lineD line = none by unfold lineD; rw [if_pos eb]]
    exact (if_pos rfl).mpr ⟨_, rfl, rfl⟩
  have eD : lineD line = some (numsL "write" (Txt.split line " ")) := by unfold lineD numsB; rw [if_neg eb]
  refine ⟨_, rfl, rfl, _, rfl, ite2 (fun y => absurd (V.str.inj (of_decide_eq_true y)) eb) (fun _ => ?_)⟩
  refine ⟨_, rfl, ⟨_, rfl⟩, _, _, rfl, rfl, by decide +kernel, sz (by omega), fun p hp => ?_⟩
  have sp1 := PyProof.Rows.split_pos line " "
  have sp2 := PyProof.Rows.split_le line " "
  have pl : ∀ q ∈ Txt.split line " ", q.length ≤ line.length := fun q h => part_len h
  rw [eD] at kno k
  generalize Txt.split line " " = ps at sp1 sp2 pl kno k
  have s1 : Same H (upd H p (.lst (svs ps))) := same_new hp
  have h1 : (upd H p (.lst (svs ps))) p = some (.lst (svs ps)) := upd_same
  show gName 2 _ _ (upd H p (.lst (svs ps))) _
  generalize upd H p (.lst (svs ps)) = H1 at s1 h1
  cases ps with
  | nil => simp at sp1
  | cons w0 r =>
  refine ⟨fun σ' H' => σ' = [some (.str line), some (.int (n : Nat)), some (.ref p), none, none, none] ∧ Same H1 H' ∧ ∃ w1 r2, r = w1 :: r2 ∧ r2 ≠ [] ∧ w0 = "write" ∧ 0 ≤ numB w1 ∧ numB w1 < (n : Nat), ?_, ?_⟩
  · refine ⟨_, rfl, p, _, _, .str w0, rfl, rfl, .inl h1, atI_nat (j := 0) rfl, rfl, _, rfl, ?_⟩
    by_cases ew : w0 = "write"
    · rw [show decide (V.str w0 = V.str "write") = true from decide_eq_true (congrArg V.str ew)]
      refine iteF ⟨_, rfl, p, _, rfl, .inl h1, _, _, rfl, rfl, _, rfl, ?_⟩
      refine ite2 (fun y => ?_) (fun y => ?_)
      · have := of_decide_eq_true y
        refine ⟨szr, fun l H2 n2 s2 h2 => kno ?_ l H2 (s1.trans s2) (s1.free n2) h2⟩
        show okS n (some (if w0 = "write" then r.map numB else [])) = false
        rw [if_pos ew]
        rw [svs_len, List.length_cons] at this
        match r, this with
        | [], _ => rfl
        | [w1], _ => exact okS_one
        | _ :: _ :: _, q => simp at q; omega
      · have q : ¬ ((svs (w0 :: r)).length < 3) := fun z => y (decide_eq_true (by omega))
        rw [svs_len, List.length_cons] at q
        match r, q with
        | [], q => simp at q
        | [_], q => simp at q
        | w1 :: w2 :: r2, q =>
          have l1 := pl w1 (by simp)
          refine ⟨_, rfl, p, _, _, .str w1, rfl, rfl, .inl h1, atI_nat (j := 1) rfl, _, rfl, _, _, rfl, by omega, fun H2 s2 => ⟨rfl, _, rfl, ?_⟩⟩
          unfold figV
          by_cases c : 0 ≤ numB w1 ∧ numB w1 < ((n : Nat) : Int)
          · rw [if_pos c]
            exact iteF ⟨rfl, s2, w1, w2 :: r2, rfl, by simp, ew, c.1, c.2⟩
          · rw [if_neg c]
            refine iteT ⟨szr, fun l H3 n3 s3 h3 => kno ?_ l H3 (s1.trans (s2.trans s3)) (s1.free (s2.free n3)) h3⟩
            show okS n (some (if w0 = "write" then (w1 :: w2 :: r2).map numB else [])) = false
            rw [if_pos ew]
            exact okS_idx c
    · rw [show decide (V.str w0 = V.str "write") = false from decide_eq_false fun z => ew (V.str.inj z)]
      refine iteT ⟨szr, fun l H2 n2 s2 h2 => kno ?_ l H2 (s1.trans s2) (s1.free n2) h2⟩
      show okS n (some (if w0 = "write" then r.map numB else [])) = false
      rw [if_neg ew]
      rfl
  rintro _ H2 ⟨rfl, s2, w1, r2, rfl, r2n, ew, f0, f1⟩
  have eN : numsL "write" (w0 :: w1 :: r2) = numB w1 :: r2.map numB := by
    show (if w0 = "write" then (w1 :: r2).map numB else []) = _
    rw [if_pos ew]
    rfl
  rw [eN] at kno k
  have it : PySem.intText? w1 = some (numB w1) := by
    cases numK w1 with
    | none _ e => omega
    | long _ e => omega
    | sign _ _ _ e => omega
    | lead _ _ _ e _ => omega
    | good _ _ _ _ _ _ _ _ i _ => exact i
  have w1l : w1.length ≤ 640 := by
    cases numK w1 with
    | none _ e => omega
    | long _ e => omega
    | sign _ _ _ e => omega
    | lead _ _ _ e _ => omega
    | good _ _ h h' _ _ _ _ _ _ => rw [TL.len_tl, h, List.length_cons]; omega
  have h2 := s2 _ _ h1
  refine ⟨_, rfl, p, _, _, .str w1, rfl, rfl, .inl h2, atI_nat (j := 1) rfl, _, _, rfl, it, w1l, ?_⟩
  refine ⟨_, rfl, 2, rfl, p, _, rfl, h2, fun q H3 n3 s3 h3 => ?_⟩
  have h3' : H3 q = some (.lst (svs r2)) := by
    rw [h3]
    congr 2
    exact cut_from2
  have S3 := s1.trans (s2.trans s3)
  refine ⟨q, rfl, ⟨_, SqL.of h3'⟩, fun D hD => lc_list (K := K) (a := q) (xs := svs r2) (fun i H' => Same H3 H' ∧ H' D = some (.lst (fvs (r2.take i)))) ?_ ?_ ?_ ?_⟩
  · exact ⟨same_new hD, upd_same⟩
  · rintro i H' _ ⟨s4, _⟩
    exact SqL.of (s4 _ _ h3')
  · rintro i y H' hx ⟨s4, h4⟩
    have il : i < r2.length := by
      have := (List.getElem?_eq_some_iff.mp hx).1
      rw [svs_len] at this
      exact this
    have e : (svs r2)[i]? = some (.str r2[i]) := by
      unfold svs
      rw [List.getElem?_map, List.getElem?_eq_getElem il]
      rfl
    rw [e] at hx
    cases hx
    have hz := pl r2[i] (List.mem_cons_of_mem _ (List.mem_cons_of_mem _ (List.getElem_mem il)))
    have fl : (fvs (r2.take i)).length = (r2.take i).length := List.length_map _
    refine ⟨rfl, _, rfl, _, _, rfl, by omega, fun H5 s5 => ⟨_, s5 _ _ h4, szl (by rw [fl, List.length_take]; simp only [List.length_cons] at sp2; omega), same_mut (s4.trans s5) hD, ?_⟩⟩
    rw [upd_same, List.take_add_one, List.getElem?_eq_getElem il]
    unfold fvs
    rw [List.map_append]
    rfl
  · rintro H4 ⟨s4, h4⟩
    rw [svs_len, List.take_length] at h4
    have S4 := S3.trans s4
    have fl : (fvs r2).length = r2.length := List.length_map _
    refine ⟨_, _, rfl, fun σ' H' => σ' = [some (.str line), some (.int (n : Nat)), some (.ref p), some (.int (numB w1)), some (.ref D), none] ∧ Same H4 H' ∧ okS n (some (numB w1 :: r2.map numB)) = true, ?_, ?_⟩
    · refine ⟨_, rfl, D, _, rfl, .inl (SqL.of h4), rfl, fvs_flat r2, _, rfl, ?_⟩
      have oe := okS_eq (n := n) (z := numB w1) (r := r2.map numB) ⟨f0, f1⟩ (by simpa using r2n)
      show if inV .non (fvs r2) = true then _ else _
      rw [fvs_no]
      cases al : (r2.map numB).all (fun y => decide (0 ≤ y) && decide (y < 8)) with
      | false =>
        rw [al] at oe
        exact iteT ⟨szr, fun l H5 n5 s5 h5 => kno oe l H5 (S4.trans s5) (S4.free n5) h5⟩
      | true =>
        rw [al, List.length_map] at oe
        refine iteF ⟨_, rfl, _, rfl, D, _, rfl, .inl h4, _, _, rfl, rfl, _, rfl, _, _, rfl, rfl, _, rfl, ?_⟩
        rw [fl]
        by_cases c : numB w1 + (r2.length : Nat) ≤ ((n : Nat) : Int)
        · rw [decide_eq_true c] at oe
          rw [decide_eq_false (by omega)]
          exact iteF ⟨rfl, Same.refl _, oe⟩
        · rw [decide_eq_false c] at oe
          rw [decide_eq_true (by omega)]
          exact iteT ⟨szr, fun l H5 n5 s5 h5 => kno oe l H5 (S4.trans s5) (S4.free n5) h5⟩
    rintro _ H5 ⟨rfl, s5, ok⟩
    have oe := okS_eq (n := n) (z := numB w1) (r := r2.map numB) ⟨f0, f1⟩ (by simpa using r2n)
    rw [ok] at oe
    have al := (Bool.and_eq_true_iff.mp oe.symm).1
    have h5 := s5 _ _ h4
    rw [fvs_ok al] at h5
    refine ⟨_, rfl, _, rfl, D, _, rfl, .inl h5, fun b H6 s6 h6 => ⟨szr, fun tp H7 n7 s7 h7 => ⟨szr, fun l H8 n8 s8 h8 => ?_⟩⟩⟩
    have S7 := S4.trans (s5.trans (s6.trans s7))
    refine k l H8 _ (S7.trans s8) (S7.free n8) h8 ?_
    rw [ok]
    exact (if_pos rfl).mpr ⟨_, rfl, tp, b, rfl, s8 _ _ h7, s8 _ _ (s7 _ _ h6)⟩
end
end Af

set_option Elab.async false
set_option linter.all false
set_option maxRecDepth 100000
set_option maxHeartbeats 4000000
namespace Af
open PySem L2
abbrev s_l_read : Stmt := top 62
abbrev N_l_read : List Str := ["_law_thing", "_law_lines", "_law_words", "_law_span_here", "_law_cells_here", "_law_steps_here", "_law_k", "_law_row", "_law_word"]
theorem sc_l_read : FnScope N_l_read ["_law_thing"] (defScope s_l_read) := ⟨rfl, rfl, rfl, by decide +kernel, rfl, by decide +kernel, by decide +kernel⟩

structure PlanT (H : Hp) (v : V) (pl : Pl) : Prop where
  ex : ∃ (a ca sa : Addr) (xs : List V), v = .ref a ∧ H a = some (.tup [.ref ca, .int pl.w, .ref sa]) ∧ H ca = some (.tup (ivs pl.cs)) ∧ H sa = some (.lst xs) ∧ Paired (StepV H) xs pl.sts
def sp_read (K : PySem.W.Frag) : Sp := fun vs H Q _ => (∃ (t : Str), vs = [.str t] ∧ t.length ≤ 50000 ∧
  match readT t with
  | .inl k => ∀ H', Same H H' → Q (.int (k : Nat)) H'
  | .inr pl => ∀ v H', Same H H' → PlanT H' v pl → OkP pl → Q v H') ∨
  (∃ (x : V) (n : String), vs = [x] ∧ Ty K H x n ∧ isB n "str" = false ∧ ∀ H', Same H H' → Q (.int 0) H')
def widthL (ps : List Str) : Int := match numsL "plan" ps with
  | [z] => z
  | _ => -1
theorem widthL_no : ∀ {ps : List Str}, (¬ ∃ w1 : Str, ps = [("plan" : Str), w1]) → widthL ps = -1
  | [], _ => rfl
  | w0 :: r, h => by
    show (match (if w0 = "plan" then r.map numB else []) with
      | [z] => z
      | _ => -1) = -1
    by_cases e : w0 = "plan"
    · rw [if_pos e]
      match r, h with
      | [], _ => rfl
      | [w1], h => exact absurd ⟨w1, by rw [e]⟩ h
      | _ :: _ :: _, _ => rfl
    · rw [if_neg e]
theorem numB_int {w : Str} (h : 0 ≤ numB w) : PySem.intText? w = some (numB w) ∧ w.length ≤ 640 := by
  cases numK w with
  | none _ e => omega
  | long _ e => omega
  | sign _ _ _ e => omega
  | lead _ _ _ e _ => omega
  | good _ _ h h' _ _ _ _ i _ => exact ⟨i, by rw [TL.len_tl, h, List.length_cons]; omega⟩
theorem baseOk_eq {cs : List Int} : baseOk cs = (!cs.isEmpty && cs.all (fun z => decide (0 ≤ z) && decide (z < 8)) && decide (cs.length ≤ 24)) := rfl
theorem fig_in {w : Str} : inV (figV 25 w) [.non, .int 0] = !widthOk (numB w) := by
  unfold figV widthOk
  by_cases c : 0 ≤ numB w ∧ numB w < 25
  · rw [if_pos c]
    show (eqV .non (.int (numB w)) || (((0 : Int) == numB w) || false)) = _
    by_cases z : numB w = 0
    · rw [z]; rfl
    · rw [show ((0 : Int) == numB w) = false by simp; omega, decide_eq_true (by omega), decide_eq_true (by omega)]
      rfl
  · rw [if_neg c]
    show true = _
    by_cases a : 1 ≤ numB w
    · rw [decide_eq_false (show ¬ numB w ≤ 24 by omega), Bool.and_false]; rfl
    · rw [decide_eq_false a]; rfl
section
variable {P : Program} {w : World} {K : PySem.W.Frag} {mg : Str → Option Value} {base : Heap}
theorem ok_read {f : Addr} {fd : FuncData} (F : Fun K "_law_read" "_law_read" s_l_read f fd) (T : Txt mg) (t_str : mg "str" = none) (c_l_figures : Cal P w K mg base 1 "_law_figures" ["_law_word", "_law_under"] sp_figures)
    (c_l_row_of : Cal P w K mg base 2 "_law_row_of" ["_law_line_here", "_law_many"] sp_row_of) (c_l_parts : Cal P w K mg base 2 "_law_parts" ["_law_plan_here"] sp_partsX) : FnOk P w K mg base CX0 3 f fd ["_law_thing"] (sp_read K) := by
  refine F.ok sc_l_read (fun vs H Q E h => ?_) (fun cdv A outer s H vs Q E hr h => ?_)
  · rcases h with ⟨_, rfl, _⟩ | ⟨_, _, rfl, _⟩ <;> rfl
  refine ⟨_, (pss_cons (ps_if (pt_not (pt_val (pe_callB call_isi' (by rfl) T.isinstance (by decide +kernel) (pa_cons (pv 0) (pa_cons (pe_bltn (v := .ty "str") (by rfl) t_str (by decide +kernel) rfl) pa_nil)))))
      (pss_one (ps_ret pe_int))
      pss_nil)
    (pss_cons (ps_set (i := 1) sc_l_read.nd rfl (Or.inl rfl) (pe_split (pv 0) pe_str))
    (pss_cons (ps_set (i := 2) sc_l_read.nd rfl (Or.inl rfl) (pe_split (pe_ix ix_seq' (pv 1) pe_int (fun _ _ => rfl)) pe_str))
    (pss_cons (ps_cut (ps_if (PW.pt (pw_or (pt_cmpR op_ne (pe_callB call_len' (by rfl) T.len (by decide +kernel) (pa_cons (pv 2) pa_nil)) pe_int (nomark _)) (pw_or (pt_cmpR op_ne (pe_ix ix_seq' (pv 2) pe_int (fun _ _ => rfl)) pe_str (nomark _)) (pw_or1 (pt_cmpR op_in_seq (pe_cal c_l_figures hr (pa_cons (pe_ix ix_seq' (pv 2) pe_int (fun _ _ => rfl)) (pa_cons pe_int pa_nil))) (pe_tup' (pa_cons pe_non (pa_cons pe_int pa_nil))) (by rfl))))))
      (pss_one (ps_ret pe_int))
      pss_nil))
    (pss_cons (ps_if (pt_cmpR op_eq (pe_callB call_len' (by rfl) T.len (by decide +kernel) (pa_cons (pv 1) pa_nil)) pe_int (nomark _))
      (pss_one (ps_ret pe_int))
      pss_nil)
    (pss_cons (ps_par (i := 3) (j := 2) rfl sc_l_read.nd rfl rfl (by decide) rfl rfl (pa_cons (pe_callTy call_int_str (by rfl) T.int (by decide +kernel) (pa_cons (pe_ix ix_seq' (pv 2) pe_int (fun _ _ => rfl)) pa_nil)) (pa_cons (pe_split (pe_ix ix_seq' (pv 1) pe_int (fun _ _ => rfl)) pe_str) pa_nil)) (by rfl))
    (pss_cons (ps_set (i := 4) sc_l_read.nd rfl (Or.inl rfl) (pe_callTy call_tuple' (by rfl) T.tuple (by decide +kernel) (pa_cons (pe_lc (own := [("_law_word", 8)]) (g := (gName 8)) (tt := tYes) rfl sc_l_read.nd (pi_list (pe_slice sl_list' (pv 2) (po_some pe_int) po_none)) (blkOk_by (own := [("_law_word", 8)]) (N := N_l_read) (sc := defScope s_l_read) (by decide +kernel)) (fun _ _ _ _ _ => pg_name (i := 8) sc_l_read.nd rfl (Or.inl rfl)) (fun _ _ _ _ _ => pts_nil) (fun _ _ _ _ _ => (pe_cal c_l_figures hr (pa_cons (pv 8) (pa_cons pe_int pa_nil))))) pa_nil)))
    (pss_cons (ps_cut (ps_if (PW.pt (pw_or (pt_cmpR op_ne (pe_ix ix_seq' (pv 2) pe_int (fun _ _ => rfl)) pe_str (nomark _)) (pw_or (pt_cmpR op_in_seq pe_non (pv 4) (by rfl)) (pw_or1 (pt_not (pt_chain op_le op_le pe_int (pe_callB call_len' (by rfl) T.len (by decide +kernel) (pa_cons (pv 4) pa_nil)) pe_int))))))
      (pss_one (ps_ret pe_int))
      pss_nil))
    (pss_cons (ps_set (i := 5) sc_l_read.nd rfl (Or.inl rfl) (pe_lst' pa_nil))
    (pss_cons (ps_for PassesOwn.never rfl (pi_range2 rfl T.range (pa_cons pe_int (pa_cons (pe_callB call_len' (by rfl) T.len (by decide +kernel) (pa_cons (pv 1) pa_nil)) pa_nil))) (pg_name (i := 6) sc_l_read.nd rfl (Or.inl rfl))
      (pss_cons (ps_set (i := 7) sc_l_read.nd rfl (Or.inl rfl) (pe_cal c_l_row_of hr (pa_cons (pe_ix ix_seq' (pv 1) (pv 6) (fun _ _ => rfl)) (pa_cons (pe_callB call_len' (by rfl) T.len (by decide +kernel) (pa_cons (pv 4) pa_nil)) pa_nil))))
    (pss_cons (ps_set (i := 5) sc_l_read.nd rfl (Or.inl rfl) (pe_op op_cat' (pv 5) (pv 7)))
    (pss_one (ps_if (PW.pt (pw_or (pt_cmpR (op_eqD hr.units) (pv 7) (pe_lst' pa_nil) (nomark _)) (pw_or (pt_cmpR op_gt (pe_callB call_len' (by rfl) T.len (by decide +kernel) (pa_cons (pv 5) pa_nil)) pe_int (nomark _)) (pw_or1 (pt_cmpR op_gt (pe_callB call_len' (by rfl) T.len (by decide +kernel) (pa_cons (pe_cal c_l_parts hr (pa_cons (pe_tup' (pa_cons (pv 4) (pa_cons (pv 3) (pa_cons (pv 5) pa_nil)))) pa_nil)) pa_nil)) pe_int (nomark _))))))
      (pss_one (ps_ret (pv 6)))
      pss_nil)))))
    (pss_one (ps_ret (pe_tup' (pa_cons (pv 4) (pa_cons (pv 3) (pa_cons (pv 5) pa_nil)))))))))))))))), ?_⟩
  rcases h with ⟨t, rfl, lt, k⟩ | ⟨x, n, rfl, ty, ns, k⟩
  · have lsp := PyProof.Rows.split_pos t "\n"
    have lsl := PyProof.Rows.split_le t "\n"
    have lb : ∀ l ∈ Txt.split t "\n", l.length ≤ 50000 := fun l h => Nat.le_trans (part_len h) lt
    refine ⟨_, rfl, _, "str", "str", rfl, ⟨.str _, by decide, fun _ _ _ e => by cases e⟩, by decide, _, rfl, iteF ?_⟩
    refine ⟨_, rfl, ⟨_, rfl⟩, _, _, rfl, rfl, by decide +kernel, sz (by omega), fun p hp => ?_⟩
    unfold readT at k
    generalize Txt.split t "\n" = ls at lsp lsl lb k ⊢
    cases ls with
    | nil => simp at lsp
    | cons l0 rest =>
    have s1 : Same H (upd H p (.lst (svs (l0 :: rest)))) := same_new hp
    have h1 : (upd H p (.lst (svs (l0 :: rest)))) p = some (.lst (svs (l0 :: rest))) := upd_same
    show gName 1 _ _ (upd H p (.lst (svs (l0 :: rest)))) _
    generalize upd H p (.lst (svs (l0 :: rest))) = H1 at s1 h1
    have k : match (if widthOk (widthI l0) = false then (.inl 0 : Nat ⊕ Pl) else if (l0 :: rest).length = 1 then .inl 1 else if baseOk (numsB "base" (rest.headD "")) = false then .inl 1 else match readS (widthI l0) (numsB "base" (rest.headD "")).length [] 2 (rest.drop 1) with
        | .inl k => .inl k
        | .inr sts => .inr ⟨numsB "base" (rest.headD ""), widthI l0, sts⟩) with
      | .inl k => ∀ H', Same H H' → Q (.int (k : Nat)) H'
      | .inr pl => ∀ v H', Same H H' → PlanT H' v pl → OkP pl → Q v H' := by cases rest <;> exact k
    have ll0 := lb l0 (by simp)
    refine ⟨_, rfl, p, _, _, .str l0, rfl, rfl, .inl h1, atI_nat (j := 0) rfl, ⟨_, rfl⟩, _, _, rfl, rfl, by decide +kernel, sz (by omega), fun q hq => ?_⟩
    have pp := PyProof.Rows.split_pos l0 " "
    have plen : ∀ x ∈ Txt.split l0 " ", x.length ≤ l0.length := fun x h => part_len h
    have ew : widthI l0 = widthL (Txt.split l0 " ") := rfl
    generalize Txt.split l0 " " = ps at pp plen ew ⊢
    have s2 : Same H1 (upd H1 q (.lst (svs ps))) := same_new hq
    have h2 : (upd H1 q (.lst (svs ps))) q = some (.lst (svs ps)) := upd_same
    show gName 2 _ _ (upd H1 q (.lst (svs ps))) _
    generalize upd H1 q (.lst (svs ps)) = H2 at s2 h2
    have S2 := s1.trans s2
    have kw : widthOk (widthI l0) = false → ∀ H', Same H H' → Q (.int 0) H' := fun e => by
      rw [if_pos e] at k
      exact k
    refine ⟨fun σ' H' => σ' = [some (.str t), some (.ref p), some (.ref q), none, none, none, none, none, none] ∧ Same H2 H' ∧ widthOk (widthI l0) = true ∧ ∃ w0 w1, ps = [w0, w1] ∧ widthI l0 = numB w1, ?_, ?_⟩
    · refine ⟨_, rfl, q, _, rfl, .inl h2, rfl, _, rfl, ?_⟩
      by_cases e2 : ps.length = 2
      · rw [show decide (V.int ((svs ps).length : Nat) = V.int 2) = true from decide_eq_true (by rw [svs_len, e2]; rfl)]
        match ps, e2, plen, ew, h2 with
        | [w0, w1], _, plen, ew, h2 =>
        refine iteF ⟨_, rfl, q, _, _, .str w0, rfl, rfl, .inl h2, atI_nat (j := 0) rfl, rfl, _, rfl, ?_⟩
        by_cases e0 : w0 = "plan"
        · rw [show decide (V.str w0 = V.str "plan") = true from decide_eq_true (congrArg V.str e0)]
          subst e0
          have l1 := plen w1 (by simp)
          have ew : widthI l0 = numB w1 := ew
          refine iteF ⟨_, rfl, q, _, _, .str w1, rfl, rfl, .inl h2, atI_nat (j := 1) rfl, _, _, rfl, by omega, fun H3 s3 => ⟨szr, fun tp H4 n4 s4 h4 => ⟨tp, _, rfl, .inr (SqT.of h4), ?_, by decide, _, rfl, ?_⟩⟩⟩
          · unfold figV
            split <;> rfl
          show if inV (figV 25 w1) [.non, .int 0] = true then _ else _
          rw [fig_in, ← ew]
          cases okw : widthOk (widthI l0) with
          | false => exact iteT (kw okw H4 (S2.trans (s3.trans s4)))
          | true => exact iteF ⟨rfl, s3.trans s4, rfl, _, _, rfl, ew⟩
        · rw [show decide (V.str w0 = V.str "plan") = false from decide_eq_false fun z => e0 (V.str.inj z)]
          refine iteT (kw ?_ H2 S2)
          rw [ew, widthL_no (fun ⟨w, z⟩ => by cases z; exact e0 rfl)]
          rfl
      · rw [show decide (V.int ((svs ps).length : Nat) = V.int 2) = false from decide_eq_false fun z => e2 (by have := V.int.inj z; rw [svs_len] at this; omega)]
        refine iteT (kw ?_ H2 S2)
        rw [ew, widthL_no (fun ⟨w, z⟩ => e2 (by rw [z]; rfl))]
        rfl
    rintro _ H3 ⟨rfl, s3, okw, w0, w1, rfl, ew'⟩
    rw [if_neg (by rw [okw]; decide)] at k
    obtain ⟨wd1, wd24⟩ := width_ok' okw
    have h1' := s3 _ _ (s2 _ _ h1)
    have h2' := s3 _ _ h2
    have S3 := S2.trans s3
    obtain ⟨it, w1l⟩ := numB_int (w := w1) (by omega)
    refine ⟨_, rfl, p, _, rfl, .inl h1', rfl, _, rfl, ?_⟩
    cases rest with
    | nil =>
      rw [if_pos (show ([l0] : List Str).length = 1 from rfl)] at k
      exact iteT' (by rfl) (k H3 S3)
    | cons l1 rest =>
    rw [if_neg (by simp)] at k
    have k : match (if baseOk (numsB "base" l1) = false then (.inl 1 : Nat ⊕ Pl) else match readS (widthI l0) (numsB "base" l1).length [] 2 rest with
        | .inl k => .inl k
        | .inr sts => .inr ⟨numsB "base" l1, widthI l0, sts⟩) with
      | .inl k => ∀ H', Same H H' → Q (.int (k : Nat)) H'
      | .inr pl => ∀ v H', Same H H' → PlanT H' v pl → OkP pl → Q v H' := k
    refine ite2 (fun y => by have := V.int.inj (of_decide_eq_true y); rw [svs_len] at this; simp at this; omega) (fun _ => ?_)
    have lb1 := lb l1 (by simp)
    refine ⟨_, rfl, q, _, _, .str w1, rfl, rfl, .inl h2', atI_nat (j := 1) rfl, _, _, rfl, it, w1l, _, rfl, p, _, _, .str l1, rfl, rfl, .inl h1', atI_nat (j := 1) rfl, ⟨_, rfl⟩, _, _, rfl, rfl, by decide +kernel, sz (by omega), fun q1 hq1 => ⟨_, _, rfl, ?_⟩⟩
    have pp1 := PyProof.Rows.split_pos l1 " "
    have ple1 := PyProof.Rows.split_le l1 " "
    have plen1 : ∀ x ∈ Txt.split l1 " ", x.length ≤ l1.length := fun x h => part_len h
    have eb : numsB "base" l1 = numsL "base" (Txt.split l1 " ") := rfl
    generalize Txt.split l1 " " = ps1 at pp1 ple1 plen1 eb ⊢
    have s4 : Same H3 (upd H3 q1 (.lst (svs ps1))) := same_new hq1
    have h4 : (upd H3 q1 (.lst (svs ps1))) q1 = some (.lst (svs ps1)) := upd_same
    show tSeq _ _ _ _ (upd H3 q1 (.lst (svs ps1)))
    generalize upd H3 q1 (.lst (svs ps1)) = H4 at s4 h4
    cases ps1 with
    | nil => simp at pp1
    | cons v0 r =>
    refine ⟨_, rfl, 1, rfl, q1, _, rfl, h4, fun q2 H5 n5 s5 h5 => ?_⟩
    have h5' : H5 q2 = some (.lst (svs r)) := by
      rw [h5]
      congr 2
      exact cut_from1
    have S5 := S3.trans (s4.trans s5)
    refine ⟨q2, rfl, ⟨_, SqL.of h5'⟩, fun D hD => lc_list (K := K) (a := q2) (xs := svs r) (fun i H' => Same H5 H' ∧ H' D = some (.lst (fvs (r.take i)))) ?_ ?_ ?_ ?_⟩
    · exact ⟨same_new hD, upd_same⟩
    · rintro i H' _ ⟨s6, _⟩
      exact SqL.of (s6 _ _ h5')
    · rintro i y H' hx ⟨s6, h6⟩
      have il : i < r.length := by
        have := (List.getElem?_eq_some_iff.mp hx).1
        rw [svs_len] at this
        exact this
      have e : (svs r)[i]? = some (.str r[i]) := by
        unfold svs
        rw [List.getElem?_map, List.getElem?_eq_getElem il]
        rfl
      rw [e] at hx
      cases hx
      have hz := plen1 r[i] (List.mem_cons_of_mem _ (List.getElem_mem il))
      have fl : (fvs (r.take i)).length = (r.take i).length := List.length_map _
      refine ⟨rfl, _, rfl, _, _, rfl, by omega, fun H7 s7 => ⟨_, s7 _ _ h6, szl (by rw [fl, List.length_take]; simp only [List.length_cons] at ple1; omega), same_mut (s6.trans s7) hD, ?_⟩⟩
      rw [upd_same, List.take_add_one, List.getElem?_eq_getElem il]
      unfold fvs
      rw [List.map_append]
      rfl
    rintro H6 ⟨s6, h6⟩
    rw [svs_len, List.take_length] at h6
    have fl : (fvs r).length = r.length := List.length_map _
    refine ⟨D, _, rfl, .inl h6, fun b H7 s7 h7 => ?_⟩
    have S7 := S5.trans (s6.trans s7)
    have kb : baseOk (numsB "base" l1) = false → ∀ H', Same H H' → Q (.int 1) H' := fun e => by
      rw [if_pos e] at k
      exact k
    refine ⟨fun σ' H' => σ' = [some (.str t), some (.ref p), some (.ref q1), some (.int (numB w1)), some (.ref b), none, none, none, none] ∧ Same H7 H' ∧ baseOk (numsB "base" l1) = true ∧ fvs r = ivs (numsB "base" l1), ?_, ?_⟩
    · have h4' := s7 _ _ (s6 _ _ (s5 _ _ h4))
      refine ⟨_, rfl, q1, _, _, .str v0, rfl, rfl, .inl h4', atI_nat (j := 0) rfl, rfl, _, rfl, ?_⟩
      by_cases e0 : v0 = "base"
      · rw [show decide (V.str v0 = V.str "base") = true from decide_eq_true (congrArg V.str e0)]
        have eb : numsB "base" l1 = r.map numB := by rw [eb]; show (if v0 = "base" then _ else _) = _; rw [if_pos e0]
        rw [eb] at kb ⊢
        refine iteF ⟨_, rfl, b, _, rfl, .inr (SqT.of h7), rfl, fvs_flat r, _, rfl, ?_⟩
        show if inV .non (fvs r) = true then _ else _
        rw [fvs_no]
        rw [baseOk_eq] at kb ⊢
        cases al : (r.map numB).all (fun y => decide (0 ≤ y) && decide (y < 8)) with
        | false => exact iteT (kb (by rw [al, Bool.and_false]; rfl) H7 S7)
        | true =>
          refine iteF ⟨_, rfl, b, _, rfl, .inr h7, _, _, rfl, rfl, _, rfl, ?_⟩
          rw [al, Bool.and_true] at kb
          rw [Bool.and_true, fl]
          have il : (r.map numB).isEmpty = r.isEmpty := List.isEmpty_map
          by_cases g1 : 1 ≤ r.length
          · have ie : r.isEmpty = false := by cases r with
              | nil => simp at g1
              | cons _ _ => rfl
            rw [decide_eq_true (show (1 : Int) ≤ (r.length : Nat) by omega)]
            refine iteT ⟨_, _, rfl, rfl, _, rfl, ?_⟩
            by_cases g2 : r.length ≤ 24
            · rw [decide_eq_true (show ((r.length : Nat) : Int) ≤ 24 by omega)]
              exact iteF ⟨rfl, Same.refl _, by rw [il, ie, List.length_map, decide_eq_true g2]; rfl, fvs_ok al⟩
            · rw [decide_eq_false (show ¬ ((r.length : Nat) : Int) ≤ 24 by omega)]
              exact iteT (kb (by rw [List.length_map, decide_eq_false g2, Bool.and_false]) H7 S7)
          · have ie : r.isEmpty = true := by cases r with
              | nil => rfl
              | cons _ _ => simp at g1
            rw [decide_eq_false (show ¬ (1 : Int) ≤ (r.length : Nat) by omega)]
            exact iteF ⟨_, rfl, iteT (kb (by rw [il, ie]; rfl) H7 S7)⟩
      · rw [show decide (V.str v0 = V.str "base") = false from decide_eq_false fun z => e0 (V.str.inj z)]
        have eb : numsB "base" l1 = [] := by rw [eb]; show (if v0 = "base" then _ else _) = _; rw [if_neg e0]
        rw [eb] at kb
        exact iteT (kb rfl H7 S7)
    rintro _ H8 ⟨rfl, s8, okb, efv⟩
    rw [if_neg (by rw [okb]; decide)] at k
    obtain ⟨c1, c24, cb⟩ := base_ok okb
    rw [efv] at h7
    have S8 := S7.trans s8
    have hb8 := s8 _ _ h7
    have hp8 : H8 p = some (.lst (svs (l0 :: l1 :: rest))) := s8 _ _ (s7 _ _ (s6 _ _ (s5 _ _ (s4 _ _ h1'))))
    clear h6 h5' h5 h4 h2' h2 hD hq1 hq hp s4 s5 s6 s7 s8 S7 S5 S3 S2 s3 s2 kb efv
    generalize numsB "base" l1 = cs at *
    rw [← ew'] 
    generalize widthI l0 = wd at *
    refine ⟨szr, fun sl0 H9 n9 s9 h9 => ?_⟩
    have ll : (svs (l0 :: l1 :: rest)).length = rest.length + 2 := by rw [svs_len]; rfl
    refine ⟨_, rfl, p, _, rfl, .inl (s9 _ _ hp8), 2, _, rfl, ⟨by omega, by omega, by simp only [List.length_cons] at lsl; omega, by simp only [List.length_cons] at lsl; omega⟩, for_range (lo := 2) (fun i σ' H' => ∃ sl xs sts v6 v7, σ' = [some (.str t), some (.ref p), some (.ref q1), some (.int wd), some (.ref b), some (.ref sl), v6, v7, none] ∧ Same H8 H' ∧ H' sl = some (.lst xs) ∧ Paired (StepV H') xs sts ∧ sts.length ≤ 40 ∧ (∀ x ∈ sts, OkS cs.length x) ∧ (allP wd 0 sts).length ≤ 40 ∧ readS wd cs.length [] 2 rest = readS wd cs.length sts (2 + i) (rest.drop i)) ?_ ?_ ?_⟩
    · exact ⟨sl0, [], [], _, _, rfl, s9, h9, .nil, by simp, (fun _ h => by cases h), by show 0 ≤ 40; decide, rfl⟩
    · rintro i σ' G hi ⟨sl, xs, sts, v6, v7, rfl, sG, hsl, hpS, sl40, sok, sp40, inv⟩
      rw [ll] at hi
      have il : i < rest.length := by omega
      have dr : rest.drop i = rest[i] :: rest.drop (i + 1) := List.drop_eq_getElem_cons il
      have gl : rest[i]? = some rest[i] := List.getElem?_eq_getElem il
      generalize rest[i] = line at dr gl
      have ha : atI (svs (l0 :: l1 :: rest)) (2 + (i : Int)) = some (.str line) := by
        rw [show (2 : Int) + (i : Int) = ((i + 2 : Nat) : Int) by omega]
        refine atI_nat ?_
        show ((rest.map V.str))[i]? = _
        rw [List.getElem?_map, gl]
        rfl
      have mem := List.mem_of_getElem? gl
      have lbl := lb line (by simp [mem])
      rw [dr] at inv
      have inv : readS wd cs.length [] 2 rest = if (okS cs.length (lineD line) && (decide ((sts ++ [stOf (lineD line)]).length ≤ 40) && decide ((allP wd 0 (sts ++ [stOf (lineD line)])).length ≤ 40))) = true then readS wd cs.length (sts ++ [stOf (lineD line)]) (2 + i + 1) (rest.drop (i + 1)) else .inl (2 + i) := inv
      have xl := paired_len hpS
      have kE : readS wd cs.length [] 2 rest = .inl (2 + i) → ∀ H', Same H H' → Q (.int (2 + (i : Int))) H' := fun e H' s' => by
        rw [e] at k
        exact k H' s'
      refine ⟨_, rfl, _, rfl, p, _, _, _, rfl, rfl, .inl (sG _ _ hp8), ha, _, rfl, b, _, rfl, .inr (sG _ _ hb8), line, cs.length, by rw [ivs_len], c24, lbl, fun lr G1 xr t1 nr hr1 hrow => ?_⟩
      have t1l := t1 _ _ hsl
      have xrl : xr.length ≤ 1 := by
        cases e1 : okS cs.length (lineD line) with
        | true =>
          obtain ⟨v, e, _⟩ := (if_pos e1).mp hrow
          rw [e]
          exact Nat.le_refl _
        | false => rw [(if_neg (by rw [e1]; decide)).mp hrow]; exact Nat.zero_le _
      refine ⟨_, rfl, _, rfl, sl, lr, xs, xr, rfl, rfl, t1l, hr1, sz (by omega), fun o G2 n2 t2 h2o => ?_⟩
      have hr2 := t2 _ _ hr1
      have T2 := t1.trans t2
      refine ⟨_, rfl, szr, fun e0 G3 n3 t3 h3e => ?_⟩
      have T3 := T2.trans t3
      have S3 := S8.trans (sG.trans T3)
      cases e1 : okS cs.length (lineD line) with
      | false =>
        rw [e1] at inv hrow
        have ex : xr = [] := (if_neg Bool.false_ne_true).mp hrow
        subst ex
        refine ⟨.list [], .list [], .lst (SqL.of (t3 _ _ hr2)) .nil, .lst (SqL.of h3e) .nil, sh_steps [], sh_steps [], _, rfl, ?_⟩
        exact iteT' (eqv_nil []) ⟨_, rfl, kE inv G3 S3⟩
      | true =>
        rw [e1] at inv hrow
        obtain ⟨v, rfl, hv⟩ := (if_pos rfl).mp hrow
        have sk := okS_ok e1
        have pv1 : Paired (StepV G1) [v] [stOf (lineD line)] := .cons hv .nil
        refine ⟨.list (stepsD [stOf (lineD line)]), .list [], .lst (SqL.of (t3 _ _ hr2)) (dp_steps (steps_same (t2.trans t3) pv1)), .lst (SqL.of h3e) .nil, sh_steps _, sh_steps [], _, rfl, ?_⟩
        rw [show PyData.eqv (.list (stepsD [stOf (lineD line)])) (.list []) = false from rfl]
        have p3 : Paired (StepV G3) (xs ++ [v]) (sts ++ [stOf (lineD line)]) := paired_app (steps_same T3 hpS) (steps_same (t2.trans t3) pv1)
        have le : (xs ++ [v]).length = (sts ++ [stOf (lineD line)]).length := paired_len p3
        have ho3 := t3 _ _ h2o
        refine iteF ⟨_, rfl, o, _, rfl, .inl ho3, _, _, rfl, rfl, _, rfl, ?_⟩
        rw [le]
        by_cases g1 : (sts ++ [stOf (lineD line)]).length ≤ 40
        · rw [decide_eq_false (show ¬ (40 : Int) < ((sts ++ [stOf (lineD line)]).length : Nat) by omega)]
          rw [decide_eq_true g1] at inv
          have sok' : ∀ x ∈ sts ++ [stOf (lineD line)], OkS cs.length x := fun y hy => by
            rcases List.mem_append.mp hy with hy | hy
            · exact sok y hy
            · rw [List.mem_singleton.mp hy]; exact sk
          refine iteF ⟨_, rfl, _, rfl, _, rfl, szr, fun tp G4 n4 t4 h4t => ?_⟩
          refine ⟨tp, b, o, wd, xs ++ [v], sts ++ [stOf (lineD line)], rfl, h4t, t4 _ _ ho3, steps_same t4 p3, by omega, by rw [le]; omega, fun f ws hm => ?_, fun l6 G5 ys t5 n6 h6 hp6 => ⟨l6, ys, rfl, .inl h6, _, _, rfl, rfl, _, rfl, ?_⟩⟩
          · obtain ⟨o1, _, o3, _⟩ := sok' _ hm
            omega
          have T5 := T3.trans (t4.trans t5)
          have yl : ys.length = (allP wd 0 (sts ++ [stOf (lineD line)])).length := paired_len hp6
          rw [yl]
          by_cases g2 : (allP wd 0 (sts ++ [stOf (lineD line)])).length ≤ 40
          · rw [decide_eq_false (show ¬ (40 : Int) < ((allP wd 0 (sts ++ [stOf (lineD line)])).length : Nat) by omega)]
            rw [decide_eq_true g2] at inv
            exact iteF ⟨o, _, _, _, _, rfl, sG.trans T5, t5 _ _ (t4 _ _ ho3), steps_same (t4.trans t5) p3, g1, sok', g2, inv⟩
          · rw [decide_eq_true (show (40 : Int) < ((allP wd 0 (sts ++ [stOf (lineD line)])).length : Nat) by omega)]
            rw [decide_eq_false g2] at inv
            exact iteT ⟨_, rfl, kE inv G5 (S8.trans (sG.trans T5))⟩
        · rw [decide_eq_true (show (40 : Int) < ((sts ++ [stOf (lineD line)]).length : Nat) by omega)]
          rw [decide_eq_false g1] at inv
          exact iteT ⟨_, rfl, kE inv G3 S3⟩
    · rintro σ' G ⟨sl, xs, sts, v6, v7, rfl, sG, hsl, hpS, sl40, sok, sp40, inv⟩
      rw [ll, show List.drop (((rest.length + 2 : Nat) : Int) - 2).toNat rest = [] from List.drop_eq_nil_of_le (by omega)] at inv
      have inv : readS wd cs.length [] 2 rest = .inr sts := inv
      rw [inv] at k
      refine ⟨_, rfl, _, rfl, _, rfl, szr, fun a G1 n1 t1 h1a => ?_⟩
      exact k _ G1 ((S8.trans sG).trans t1) ⟨a, b, sl, xs, rfl, h1a, t1 _ _ (sG _ _ hb8), t1 _ _ hsl, steps_same t1 hpS⟩ ⟨c1, c24, cb, wd1, wd24, sok, sl40, sp40⟩
  · refine ⟨_, rfl, _, n, "str", rfl, ty, by decide, _, rfl, ?_⟩
    rw [ns]
    exact iteT (k H (Same.refl _))
end
end Af

set_option Elab.async false
set_option linter.all false
set_option maxRecDepth 100000
set_option maxHeartbeats 4000000
namespace Af
open PySem PySem.Spec PyProof.Rows PySem.Calls L2
/-! an error that is held and has fields: isinstance, e.f -/
theorem held_atD {X : Cx} {pins : List (Addr × Obj)} {σ : L2.St} {H : Hp} {s : Shared} {a D dd : Addr} {fs : List (Str × V)} (I : Inv X pins σ H s) (h : H a = some (HeldE (.ref D) (some dd) a)) (hd : H dd = some (.xd fs)) :
    ∃ (oe od : Obj) (mA : Str → Option Value), PySem.W.InstAt s.heap a oe D (some od) ∧ (∀ n, PySem.W.lookIn n od = some (mA n)) ∧ ∀ f, RelO (fs.lookup f) (mA f) := by
  obtain ⟨⟨oe, vs, e, ⟨c1, c2⟩, dv⟩, _⟩ := (show ObjOk X.prog X.w H s.heap a (HeldE (.ref D) (some dd) a) from I.hok a _ h)
  have hx : ObjOk X.prog X.w H s.heap dd (.xd fs) := I.hok dd _ hd
  obtain ⟨mA, hns, hr⟩ := hx
  obtain ⟨od, ho, hl⟩ := lookIn_ns hns
  refine ⟨oe, od, mA, ⟨e, c1, ?_, ?_⟩, ?_, hr⟩
  · unfold PySem.W.notCls
    rw [dv]
  · rw [c2]
    exact ho
  · exact hl
/-- isinstance(e, c) of an error that is held, with fields -/
def rIsHeldD (K : PySem.W.Frag) (D : Addr) : List V → Hp → VK → Prop := fun xs H Q => ∃ (a dd : Addr) (fs : List (Str × V)) (c : V) (cv : Value) (b : Bool), xs = [.ref a, c] ∧ H a = some (HeldE (.ref D) (some dd) a) ∧ H dd = some (.xd fs) ∧ ClsV c cv ∧ PySem.W.kitOne K (.ref D) cv = some b ∧ Q (.bl b) H
theorem call_isHeldD {X : Cx} {D : Addr} (C : L2.ExcC X.K D) : CallR X (.builtin "isinstance") (rIsHeldD X.K D) := by
  intro pins s σ H xs us Q I r h
  obtain ⟨a, dd, fs, c, cv, b, rfl, ha, hd, k, e, q⟩ := h
  obtain ⟨u1, u2, rfl, r1, r2⟩ := vals2 r
  cases (show u1 = Value.ref a from r1)
  have e2 := k.eq r2
  subst e2
  obtain ⟨oe, od, mA, J, _⟩ := held_atD I ha hd
  exact PySem.W.kia_one (PySem.W.kitx_exc (by obtain ⟨cd, hc, _⟩ := PySem.W.any_some C.hd; rw [hc]; rfl) C.hg C.hk C.hs C.ha C.hn C.ht C.hm) I.kIn J e (fun y => nomatch y) fun tk => ⟨.bl b, H, I.tok tk, rfl, q⟩
/-- e.f of an error that is held -/
def tHf (C : Addr) (f : Str) (te : TE) : TE := fun σ H Q => te σ H fun x H1 => ∃ (a dd : Addr) (fs : List (Str × V)) (v : V), x = .ref a ∧ H1 a = some (HeldE (.ref C) (some dd) a) ∧ H1 dd = some (.xd fs) ∧ fs.lookup f = some v ∧ Q v H1
theorem pe_hf {X : Cx} {C : Addr} {e : Expr} {te : TE} {pos : Pos} {n : Str} (T : XfC X.K C) (hno : PySem.W.findIn X.K (.ref C) n = some none) (he : PE X e te) (hb : attributeBase e n X.env (eval e X.env) = eval e X.env := by rfl) : PE X (.Attribute e n pos) (tHf C n te) := by
  refine ⟨fun pins s σ H Q I h => ?_⟩
  refine attr_of hb (thn (he.run pins s σ H _ I h) fun u s1 hh => ?_)
  obtain ⟨x, H1, I1, rx, a, dd, fs, v, rfl, ha, hd, l, q⟩ := hh
  obtain rfl : u = Value.ref a := rx
  obtain ⟨oe, od, mA, J, hl, hr⟩ := held_atD I1 ha hd
  obtain ⟨u, hu, ru⟩ := RelO.some_of (v := v) (o := mA n) (by rw [← l]; exact hr n)
  exact HandSPX.exc_get I1.kIn J T.ga T.gg T.exC (PySem.W.findObj_own T.hdC hno rfl (by rw [hl, hu])) (handed_of ru) ⟨v, H1, I1.tok _, ru, q⟩
end Af

set_option Elab.async false
set_option linter.all false
set_option maxRecDepth 100000
set_option maxHeartbeats 4000000
namespace Af
open PySem L2
abbrev s_l_parsed : Stmt := top 63
abbrev N_l_parsed : List Str := ["_law_thing", "_law_caught", "_law_found", "e"]
theorem sc_l_parsed : FnScope N_l_parsed ["_law_thing"] (defScope s_l_parsed) := ⟨rfl, rfl, rfl, by decide +kernel, rfl, by decide +kernel, by decide +kernel⟩

/-- what parse_plan gives, held: a plan, or the line -/
def sp_parsed (K : PySem.W.Frag) (C : Addr) : Sp := fun vs H Q _ => (∃ (t : Str), vs = [.str t] ∧ t.length ≤ 50000 ∧
  match readT t with
  | .inl k => ∀ H', Same H H' → Q (.int (k : Nat)) H'
  | .inr pl => ∀ y H', Same H H' → PlanN C H H' y pl → Q y H') ∨
  (∃ (x : V) (n : String), vs = [x] ∧ Ty K H x n ∧ isB n "str" = false ∧ ∀ H', Same H H' → Q (.int 0) H')
def sp_parse2 (K : PySem.W.Frag) (C CP : Addr) : Sp := fun vs H Q E => sp_parse C CP vs H Q E ∨ sp_parseX K CP vs H Q E
def tb_l_parsed (K : PySem.W.Frag) (C CP : Addr) (W : WX) : TS := tAsg (tCallS (sp_parse2 K C CP) (WE W) (tCons (tVar 0) tNil)) (gName 2)
def ts_l_parsed (_ : Addr) (_ : Value) (_ : Option Addr) : TS := tAsg (tVar 3) (gName 1)
/-- the classes FallError and ParseError -/
structure ErrP (K : PySem.W.Frag) (mg : Str → Option Value) (CF CP : Addr) : Prop where
  gF : mg "FallError" = some (.ref CF)
  gP : mg "ParseError" = some (.ref CP)
  c : L2.ExcC K CP
  x : XfC K CP
  no : PySem.W.findIn K (.ref CP) "line" = some none
  ex : PySem.W.exmOne K (.ref CP) (.ref CF) = some true
  own : PySem.W.kitOne K (.ref CP) (.ref CP) = some true
  val : PySem.W.kitOne K (.ref CP) (.type "ValueError") = some true
section
variable {P : Program} {w : World} {K : PySem.W.Frag} {mg : Str → Option Value} {base : Heap}
theorem ok_parsed {f C CF CP : Addr} {fd : FuncData} (F : Fun K "_law_parsed" "_law_parsed" s_l_parsed f fd) (T : Txt mg) (t_ValueError : mg "ValueError" = none) (X : ErrP K mg CF CP)
    (c_parse_plan : CalX P w K mg base 8 "parse_plan" ["text"] (sp_parse2 K C CP)) : FnOk P w K mg base CX0 9 f fd ["_law_thing"] (sp_parsed K C) := by
  have g_FallError := X.gF
  refine F.ok sc_l_parsed (fun vs H Q E h => ?_) (fun cdv A outer s H vs Q E hr h => ?_)
  · rcases h with ⟨_, rfl, _⟩ | ⟨_, _, rfl, _⟩ <;> rfl
  refine ⟨_, (pss_cons (ps_set (i := 1) sc_l_parsed.nd rfl (Or.inl rfl) pe_non)
    (pss_cons (ps_set (i := 2) sc_l_parsed.nd rfl (Or.inl rfl) pe_non)
    (pss_cons (ps_try_hold (i := 3) (tb := tb_l_parsed K C CP) (ts := ts_l_parsed) (Wout := fun _ _ _ _ => False) rfl rfl sc_l_parsed.nd rfl rfl rfl ⟨rfl, by decide, .inl g_FallError⟩ takes0
      (fun W pn xe tk _ => (pss_one (ps_set (i := 2) sc_l_parsed.nd rfl (Or.inl rfl) (pe_calX c_parse_plan hr (fun σ => passAt tk σ) (pa_cons (pv 0) pa_nil)))))
      (fun a oe cls d pn hz hf => (pss_one (ps_set (i := 1) sc_l_parsed.nd rfl (Or.inl rfl) (pv 3)))))
    (pss_cons (ps_if (pt_cmpR op_isN (pv 1) pe_non (nomark _))
      (pss_one (ps_ret (pv 2)))
      pss_nil)
    (pss_one (ps_ret (pe_ifExp (PW.pt (pw_and (pt_val (pe_callB (call_isHeldD X.c) (by rfl) T.isinstance (by decide +kernel) (pa_cons (pv 1) (pa_cons (pe_glob (v := .ref CP) rfl X.gP rfl) pa_nil)))) (pw_and1 (pt_val (pe_callB (call_isHeldD X.c) (by rfl) T.isinstance (by decide +kernel) (pa_cons (pv 1) (pa_cons (pe_bltn (v := .ty "ValueError") (by rfl) t_ValueError (by decide +kernel) rfl) pa_nil))))))) (pe_hf X.x X.no (pv 1)) (pe_un un_neg pe_int)))))))), ?_⟩
  rcases h with ⟨t, rfl, lt, k⟩ | ⟨x, n, rfl, ty, ns, k⟩
  · refine ⟨_, rfl, .inl ⟨t, rfl, lt, ?_⟩⟩
    cases er : readT t with
    | inl n =>
      rw [er] at k
      refine fun d H' s' nd hd => ?_
      refine ⟨true, X.ex, fun _ b na => ⟨_, rfl, ?_⟩, fun y => by cases y⟩
      have sb : Same H' (upd H' b (HeldE (.ref CP) (some d) b)) := same_new na
      have hb : (upd H' b (HeldE (.ref CP) (some d) b)) b = some (HeldE (.ref CP) (some d) b) := upd_same
      have hd' := sb _ _ hd
      exact ⟨_, rfl, rfl, _, rfl, iteF ⟨_, rfl, b, d, _, _, _, true, rfl, hb, hd', .own CP, X.own, _, rfl, iteT ⟨_, rfl, b, d, _, _, _, true, rfl, hb, hd', .ty "ValueError", X.val, _, rfl, iteT ⟨_, rfl, b, d, _, _, rfl, hb, hd', rfl, k _ (s'.trans sb)⟩⟩⟩⟩
    | inr pl =>
      rw [er] at k
      exact fun y H' s' hn => ⟨_, rfl, rfl, _, rfl, iteT ⟨_, rfl, k y H' s' hn⟩⟩
  · refine ⟨_, rfl, .inr ⟨x, n, rfl, ty, ns, fun d H' s' nd hd => ?_⟩⟩
    refine ⟨true, X.ex, fun _ b na => ⟨_, rfl, ?_⟩, fun y => by cases y⟩
    have sb : Same H' (upd H' b (HeldE (.ref CP) (some d) b)) := same_new na
    have hb : (upd H' b (HeldE (.ref CP) (some d) b)) b = some (HeldE (.ref CP) (some d) b) := upd_same
    have hd' := sb _ _ hd
    exact ⟨_, rfl, rfl, _, rfl, iteF ⟨_, rfl, b, d, _, _, _, true, rfl, hb, hd', .own CP, X.own, _, rfl, iteT ⟨_, rfl, b, d, _, _, _, true, rfl, hb, hd', .ty "ValueError", X.val, _, rfl, iteT ⟨_, rfl, b, d, _, _, rfl, hb, hd', rfl, k _ (s'.trans sb)⟩⟩⟩⟩
end
end Af

set_option Elab.async false
set_option linter.all false
set_option maxRecDepth 100000
set_option maxHeartbeats 4000000
namespace Af
open PySem L2
abbrev s_l_read_right : Stmt := top 64
abbrev N_l_read_right : List Str := ["_law_thing", "_law_due", "_law_found", "_law_seen"]
theorem sc_l_read_right : FnScope N_l_read_right ["_law_thing"] (defScope s_l_read_right) := ⟨rfl, rfl, rfl, by decide +kernel, rfl, by decide +kernel, by decide +kernel⟩

theorem PlanF.x {C sl ql el : Addr} {H : Hp} {x : V} {pl : Pl} (f : PlanF C H x pl sl ql el) : ∃ a ca dx fs xs ys, x = .ref a ∧ PlanX C a ca sl ql el H pl xs ys ∧ H ca = some (.tup (ivs pl.cs)) ∧ Paired (StepV H) xs pl.sts ∧ Paired (PieceA H) ys (allP pl.w 0 pl.sts) ∧ H a = some (.ins C dx fs) := by
  obtain ⟨a, ca, xs, ys, rfl, pX, h6, h7, h8⟩ := f.ex
  obtain ⟨⟨dx, fs, h1, _⟩, _⟩ := id pX
  exact ⟨a, ca, dx, fs, xs, ys, rfl, pX, h6, h7, h8, h1⟩
theorem first_own {K : PySem.W.Frag} {C : Addr} : PySem.W.notFirst K C (.ref C) = true := by
  unfold PySem.W.notFirst
  simp
section
variable {K : PySem.W.Frag} {mg : Str → Option Value} {C p : Addr} {H : Hp} {x y : V} {pl pl' : Pl} {n : String} {Q : VK}
theorem eq_ins (T : PlanC K mg C) (hx : PlanI p C H x pl) (hy : PlanI p C H y pl') (q : Q (.bl (samePl pl pl')) H) : rOwnEq K C (sp_eq K C) x y H Q := by
  obtain ⟨a, dx, _, _, fs, _, rfl, h1, _⟩ := hx.ex
  obtain ⟨b, dy, _, _, gs, _, rfl, g1, _⟩ := hy.ex
  exact ⟨a, dx, fs, _, rfl, h1, T.ty g1, first_own, p, _, _, pl, rfl, hx, .inl ⟨pl', hy, _, rfl, q⟩⟩
theorem ne_ins (T : PlanC K mg C) (hx : PlanI p C H x pl) (hy : PlanI p C H y pl') (q : Q (.bl (!samePl pl pl')) H) : rOwnNe K C (sp_eq K C) x y H Q := by
  obtain ⟨a, dx, _, _, fs, _, rfl, h1, _⟩ := hx.ex
  obtain ⟨b, dy, _, _, gs, _, rfl, g1, _⟩ := hy.ex
  exact ⟨a, dx, fs, _, rfl, h1, T.ty g1, first_own, p, _, _, pl, rfl, hx, .inl ⟨pl', hy, _, rfl, q⟩⟩
end
def threeD (pl : Pl) : List PyData := [.tuple (dvs pl.cs), .int pl.w, .list (stepsD pl.sts)]
theorem bd_three {pl : Pl} (o : OkP pl) : PyData.showableAll (threeD pl) = true ∧ PyData.depthAll (threeD pl) ≤ 60 ∧ (PyData.list (threeD pl)).shown.length ≤ sizeLine := by
  have b := Bd.lst (b := 160083) (n := 7) (k := 3) (ds := threeD pl) (fun d hd => by
    have sl := o.sl
    simp only [threeD, List.mem_cons, List.not_mem_nil, or_false] at hd
    rcases hd with rfl | rfl | rfl
    · exact (bd_cells (by have := o.c24; omega) o.cb).mono (by decide) (by decide)
    · exact (Bd.flat (flat_place ⟨by have := o.w1; omega, by have := o.w24; omega⟩)).mono (by decide) (by decide)
    · exact Bd.lst (b := 4000) (n := 6) (k := 40) (bd_steps o.st o.c24) (by rw [len_stepsD]; exact o.sl)) (Nat.le_refl 3)
  refine ⟨by simpa only [PyData.showable] using b.sh, ?_, Nat.le_trans b.tx (by decide)⟩
  have := b.dp
  simp only [PyData.depth] at this
  omega

def sp_rr (K : PySem.W.Frag) : Sp := fun vs H Q _ => (∃ (t : Str), vs = [.str t] ∧ t.length ≤ 50000 ∧ (∀ c ∈ TL.tl t, c < 16 ^ 8) ∧ ∀ H', Same H H' → Q (.bl true) H') ∨
  (∃ (x : V) (n : String) (d : PyData), vs = [x] ∧ Ty K H x n ∧ isB n "str" = false ∧ Dx K H x d ∧ d.showable = true ∧ d.depth ≤ 60 ∧ d.shown.length ≤ sizeLine ∧ ∀ H', Same H H' → Q (.bl true) H')
theorem shown_t {t : Str} (l : t.length ≤ 50000) (h : ∀ c ∈ TL.tl t, c < 16 ^ 8) : (PyData.str t).shown.length ≤ sizeLine := by
  rw [PyData.shown_str]
  exact Nat.le_trans (PySem.StrLaws.reprText_len t h) (by rw [sizeLine_eq]; omega)
theorem readS_lt {w : Int} {n : Nat} : ∀ (ls : List Str) (acc : List Stp) (k m : Nat), readS w n acc k ls = .inl m → m < k + ls.length
  | [], _, _, _, h => by cases h
  | l :: r, acc, k, m, h => by
    unfold readS at h
    rw [List.length_cons]
    split at h
    · have := readS_lt r _ _ _ h
      omega
    · cases h
      omega
theorem readT_lt {t : Str} {n : Nat} (l : t.length ≤ 50000) (h : readT t = .inl n) : n < 100000 := by
  have ls := PyProof.Rows.split_le t "\n"
  unfold readT at h
  generalize Txt.split t "\n" = xs at ls h
  simp only at h
  split at h
  · cases h; omega
  · split at h
    · cases h; omega
    · split at h
      · cases h; omega
      · split at h
        · rename_i k e
          have := readS_lt _ _ _ _ e
          rw [List.length_drop] at this
          cases h
          omega
        · cases h
theorem int_sh {n : Nat} (h : n < 100000) : (PyData.int (n : Nat)).showable = true ∧ (PyData.int (n : Nat)).depth ≤ 60 ∧ (PyData.int (n : Nat)).shown.length ≤ sizeLine := by
  refine ⟨?_, Nat.zero_le 60, ?_⟩
  · show decide (((n : Nat) : Int).natAbs.log2 < 1920) = true
    refine decide_eq_true ?_
    by_cases z : ((n : Nat) : Int).natAbs = 0
    · rw [z]; decide
    · exact (Nat.log2_lt z).mpr (Nat.lt_trans (show ((n : Nat) : Int).natAbs < 2 ^ 20 by omega) (Nat.pow_lt_pow_right (by decide) (by decide)))
  · exact sz (Nat.le_trans (show (numS (n : Nat)).length ≤ 5 from num_len5 (by omega) (by omega)) (by decide))
section
variable {P : Program} {w : World} {K : PySem.W.Frag} {mg : Str → Option Value} {base : Heap}
theorem ok_read_right {f C fE : Addr} {fd fdE : FuncData} (F : Fun K "_law_read_right" "_law_read_right" s_l_read_right f fd) (T : Txt mg) (t_repr : mg "repr" = none) (TC : PlanC K mg C) (O : OwnEqC K C fE)
    (G_eq : FnOk P w K mg base CX0 1 fE fdE ["self", "other"] (sp_eq K C)) (b_eq : Binds K fdE ["self", "other"] [])
    (P_base : PropC P w K mg base C "base" (sp_p_base C)) (P_width : PropC P w K mg base C "width" (sp_p_width C)) (P_steps : PropC P w K mg base C "steps" (sp_p_steps C))
    (c_l_read : Cal P w K mg base 3 "_law_read" ["_law_thing"] (sp_read K)) (c_l_parsed : Cal P w K mg base 9 "_law_parsed" ["_law_thing"] (sp_parsed K C)) (c_l_plan_of : Cal P w K mg base 8 "_law_plan_of" ["_law_plan_here"] (sp_plan_of C)) :
    FnG P w K mg base 10 f fd ["_law_thing"] (sp_rr K) := by
  have c_Plan := TC.mgC
  refine okG F sc_l_read_right (fun vs H Q E h => ?_) (fun cdv A outer s H vs Q E hr hg h => ?_)
  · rcases h with ⟨_, rfl, _⟩ | ⟨_, _, _, rfl, _⟩ <;> rfl
  refine ⟨_, (pss_cons (ps_par3 (i := 1) (j := 2) (l := 3) rfl sc_l_read_right.nd rfl rfl rfl (by decide) (by decide) (by decide) rfl rfl rfl (pa_cons (pe_cal c_l_read hr (pa_cons (pv 0) pa_nil)) (pa_cons (pe_cal c_l_parsed hr (pa_cons (pv 0) pa_nil)) (pa_cons (pe_callB (call_reprX hg hr.units) (by rfl) t_repr (by decide +kernel) (pa_cons (pv 0) pa_nil)) pa_nil))) (by rfl))
    (pss_cons (ps_if (pt_val (pe_callB call_isi' (by rfl) T.isinstance (by decide +kernel) (pa_cons (pv 1) (pa_cons (pe_bltn (v := .ty "int") (by rfl) T.int (by decide +kernel) rfl) pa_nil))))
      (pss_one (ps_ret (pe_and (pe_cmpR op_eq (pe_callB (call_reprX hg hr.units) (by rfl) t_repr (by decide +kernel) (pa_cons (pv 2) pa_nil)) (pe_callB (call_reprX hg hr.units) (by rfl) t_repr (by decide +kernel) (pa_cons (pv 1) pa_nil)) (nomark _)) (pe_one (pe_cmpR op_eq (pe_callB (call_reprX hg hr.units) (by rfl) t_repr (by decide +kernel) (pa_cons (pv 0) pa_nil)) (pv 3) (nomark _))))))
      pss_nil)
    (pss_cons (ps_cut (ps_if (PW.pt (pw_or (pt_not (pt_val (pe_callB call_isi (by rfl) T.isinstance (by decide +kernel) (pa_cons (pv 2) (pa_cons (pe_glob (v := .ref C) rfl c_Plan rfl) pa_nil))))) (pw_or1 (pt_cmpR (op_ownNe O G_eq b_eq hr) (pv 2) (pe_cal c_l_plan_of hr (pa_cons (pv 1) pa_nil)) (nomark _)))))
      (pss_one (ps_ret pe_bl))
      pss_nil))
    (pss_one (ps_ret (pe_cmpR op_eq (pe_callB (call_reprL hg hr.units) (by rfl) t_repr (by decide +kernel) (pa_cons (pe_lst' (pa_cons (pe_propC TC.cl P_base hr (pv 2)) (pa_cons (pe_propC TC.cl P_width hr (pv 2)) (pa_cons (pe_propC TC.cl P_steps hr (pv 2)) pa_nil)))) pa_nil)) (pe_callB (call_reprL hg hr.units) (by rfl) t_repr (by decide +kernel) (pa_cons (pe_lst' (pa_cons (pe_ix ix_seq' (pv 1) pe_int (fun _ _ => rfl)) (pa_cons (pe_ix ix_seq' (pv 1) pe_int (fun _ _ => rfl)) (pa_cons (pe_ix ix_seq' (pv 1) pe_int (fun _ _ => rfl)) pa_nil)))) pa_nil)) (nomark _))))))), ?_⟩
  have end1 : ∀ (x : V) (d : PyData) (n : Nat) (G : Hp), n < 100000 → Dx K G x d → d.showable = true → d.depth ≤ 60 → d.shown.length ≤ sizeLine → Q (.bl true) G →
      tRet (tAndV (tOp rEq (tCB (rReprX K) (tCons (tVar 2) tNil)) (tCB (rReprX K) (tCons (tVar 1) tNil))) (tOp rEq (tCB (rReprX K) (tCons (tVar 0) tNil)) (tVar 3))) { nx := fun _ _ => False, rt := Q } [some x, some (.int (n : Nat)), some (.int (n : Nat)), some (.str d.shown)] G := fun x d n G n5 dx sh dp sl q => by
    obtain ⟨i1, i2, i3⟩ := int_sh n5
    refine ⟨_, rfl, _, _, rfl, .int _, i1, i2, i3, _, rfl, _, _, rfl, .int _, i1, i2, i3, rfl, ?_⟩
    rw [show decide (V.str (PyData.int (n : Nat)).shown = V.str (PyData.int (n : Nat)).shown) = true from decide_eq_true rfl]
    refine ⟨_, rfl, iteT ⟨_, rfl, x, d, rfl, dx, sh, dp, sl, _, rfl, rfl, ?_⟩⟩
    rw [show decide (V.str d.shown = V.str d.shown) = true from decide_eq_true rfl]
    exact q
  have ti : ∀ (n : Nat) (G : Hp), Ty K G (.int (n : Nat)) "int" := fun n G => ⟨.int _, by decide, fun _ _ _ e => by cases e⟩
  rcases h with ⟨t, rfl, lt, ch, k⟩ | ⟨x, n, d, rfl, ty, ns, dx, sh, dp, sl, k⟩
  · have sl := shown_t lt ch
    refine ⟨_, rfl, .inl ⟨t, rfl, lt, ?_⟩⟩
    cases er : readT t with
    | inl n =>
      have n5 := readT_lt lt er
      refine fun H1 s1 => ⟨_, rfl, .inl ⟨t, rfl, lt, ?_⟩⟩
      rw [er]
      refine fun H2 s2 => ⟨_, rfl, .str t, .str t, rfl, .str t, rfl, Nat.zero_le 60, sl, _, _, _, rfl, ?_⟩
      refine ⟨_, rfl, _, "int", "int", rfl, ti n H2, by decide, _, rfl, ?_⟩
      rw [show isB "int" "int" = true by decide]
      exact iteT (end1 (.str t) (.str t) n H2 n5 (.str t) rfl (Nat.zero_le 60) sl (k H2 (s1.trans s2)))
    | inr pl =>
      refine fun v H1 s1 pt ok => ⟨_, rfl, .inl ⟨t, rfl, lt, ?_⟩⟩
      rw [er]
      refine fun y H2 s2 hn => ⟨_, rfl, .str t, .str t, rfl, .str t, rfl, Nat.zero_le 60, sl, _, _, _, rfl, ?_⟩
      obtain ⟨a, ca, sa, xs, rfl, p1, p2, p4, p5⟩ := pt.ex
      have f1 := s2 _ _ p1
      have f2 := s2 _ _ p2
      have f4 := s2 _ _ p4
      have f5 := steps_same s2 p5
      have hy := hn.w (p := ca) p2
      have tt : Ty K H2 (.ref a) "tuple" := ⟨.tup f1, by decide, fun b o u z q => by cases z; rw [f1] at q; cases q⟩
      refine ⟨_, rfl, .ref a, "tuple", "int", rfl, tt, by decide, _, rfl, ?_⟩
      rw [show isB "tuple" "int" = false by decide]
      refine iteF ?_
      obtain ⟨sl0, ql0, el0, xF, _, _, _⟩ := hy.ex
      obtain ⟨a0, ca0, dx0, fs0, xs0, ys0, ey0, pX0, hca0, hst0, _, hx0⟩ := xF.x
      refine ⟨fun σ' H' => σ' = [some (.str t), some (.ref a), some y, some (.str (PyData.str t).shown)] ∧ Same H2 H', ?_, ?_⟩
      · subst ey0
        refine ⟨_, rfl, .ref a0, .ref C, _, _, true, rfl, .own C, TC.ty hx0, TC.is1, ?_⟩
        refine ⟨_, rfl, iteF ?_⟩
        refine ⟨_, rfl, _, rfl, ca, .ref a, pl, rfl, ⟨a, ca, sa, xs, rfl, f1, f2, (fun z => by rw [z, f2] at f4; cases f4), f4, f5⟩, ok, fun y2 H5 s5 n5 => ?_⟩
        refine ne_ins TC (hy.same s5).i (n5.w (p := ca) f2).i ?_
        rw [same_refl]
        exact ⟨_, rfl, iteF ⟨rfl, s5⟩⟩
      rintro _ H6 ⟨rfl, s6⟩
      obtain ⟨sl, ql, el, xF, _, _, _⟩ := (hy.same s6).ex
      obtain ⟨a2, ca2, dx2, fs2, xs2, ys2, ey, pX2, hca2, hst2, hps2, hx2⟩ := xF.x
      obtain ⟨b1, b2, b3⟩ := bd_three ok
      refine ⟨_, rfl, a2, dx2, fs2, ey, hx2, a2, ca2, sl, ql, el, pl, xs2, ys2, rfl, pX2, ?_⟩
      refine ⟨_, rfl, a2, dx2, fs2, ey, hx2, a2, ca2, sl, ql, el, pl, xs2, ys2, rfl, pX2, ?_⟩
      refine ⟨_, rfl, a2, dx2, fs2, ey, hx2, a2, ca2, sl, ql, el, pl, xs2, ys2, rfl, pX2, fun l1 H7 s7 n7 h7 => ⟨szr, fun l2 H8 n8 s8 h8 => ?_⟩⟩
      have S8 := s7.trans s8
      refine ⟨l2, _, threeD pl, rfl, h8, .cons (.tup (S8 _ _ hca2) (dq_ints _)) (.cons (.int _) (.cons (.lst (s8 _ _ h7) (dq_stepsV (steps_same S8 hst2))) .nil)), b1, b2, b3, ?_⟩
      have T8 := s6.trans S8
      have g1 := T8 _ _ f1
      refine ⟨_, rfl, a, _, _, _, rfl, rfl, .inr g1, atI_nat (j := 0) rfl, _, rfl, a, _, _, _, rfl, rfl, .inr g1, atI_nat (j := 1) rfl, _, rfl, a, _, _, _, rfl, rfl, .inr g1, atI_nat (j := 2) rfl, szr, fun l3 H9 n9 s9 h9 => ?_⟩
      have T9 := T8.trans s9
      refine ⟨l3, _, threeD pl, rfl, h9, .cons (.tup (T9 _ _ f2) (dq_ints _)) (.cons (.int _) (.cons (.lst (T9 _ _ f4) (dq_stepsV (steps_same T9 f5))) .nil)), b1, b2, b3, rfl, ?_⟩
      rw [show decide (V.str (PyData.list (threeD pl)).shown = V.str (PyData.list (threeD pl)).shown) = true from decide_eq_true rfl]
      exact k H9 (s1.trans (s2.trans T9))
  · refine ⟨_, rfl, .inr ⟨x, n, rfl, ty, ns, fun H1 s1 => ⟨_, rfl, .inr ⟨x, n, rfl, ty.same s1, ns, fun H2 s2 => ?_⟩⟩⟩⟩
    have dx2 := Dx.same (s1.trans s2) dx
    refine ⟨_, rfl, x, d, rfl, dx2, sh, dp, sl, _, _, _, rfl, ?_⟩
    refine ⟨_, rfl, _, "int", "int", rfl, ti 0 H2, by decide, _, rfl, ?_⟩
    rw [show isB "int" "int" = true by decide]
    exact iteT (end1 x d 0 H2 (by decide) dx2 sh dp sl (k H2 (s1.trans s2)))
end
end Af

set_option Elab.async false
set_option linter.all false
set_option maxRecDepth 100000
set_option maxHeartbeats 4000000
namespace Af
open PySem L2
abbrev s_line_of : Stmt := top 32
abbrev N_line_of : List Str := ["word", "numbers", "number"]
theorem sc_line_of : FnScope N_line_of ["word", "numbers"] (defScope s_line_of) := ⟨rfl, rfl, rfl, by decide +kernel, rfl, by decide +kernel, by decide +kernel⟩

abbrev s_format_plan : Stmt := top 31
abbrev N_format_plan : List Str := ["plan", "lines", "step", "first", "worths"]
theorem sc_format_plan : FnScope N_format_plan ["plan"] (defScope s_format_plan) := ⟨rfl, rfl, rfl, by decide +kernel, rfl, by decide +kernel, by decide +kernel⟩

abbrev s_l_text : Stmt := top 59
abbrev N_l_text : List Str := ["_law_plan_here", "_law_lines", "_law_step_here", "_law_one"]
theorem sc_l_text : FnScope N_l_text ["_law_plan_here"] (defScope s_l_text) := ⟨rfl, rfl, rfl, by decide +kernel, rfl, by decide +kernel, by decide +kernel⟩

structure Nums (ns : List Int) : Prop where
  len : ns.length ≤ 31
  bd : ∀ z ∈ ns, 0 ≤ z ∧ z < 100
theorem nums_lens {w : Str} {ns : List Int} (hw : w.length ≤ 7) (nm : Nums ns) : ((w :: ns.map numS).map (·.length)).sum + (w :: ns.map numS).length * (" " : Str).length ≤ 16777216 := by
  refine sum_lens (k := 7) (m := 32) (fun p hp => ?_) ?_ (by decide) (by decide) (by decide +kernel)
  · rcases List.mem_cons.mp hp with rfl | hp
    · exact hw
    · obtain ⟨z, hz, rfl⟩ := List.mem_map.mp hp
      have := num_len (nm.bd z hz).1 (nm.bd z hz).2
      omega
  · have := nm.len
    rw [List.length_cons, List.length_map]
    omega
theorem plan_fmt (w : Int) : ((Str.empty ++ ("plan " : Str)) ++ numS w : Str) = lineS "plan" [w] := by
  rw [← plan_line]
  refine TL.ext_tl ?_
  rw [TL.tl_append, TL.tl_append, TL.tl_append]
  rfl
theorem textG_of {pl : Pl} (o : OkP pl) : TextG pl.w pl.cs pl.sts := by
  have h1 := o.w1
  have h2 := o.w24
  have h3 := o.c24
  have h4 := o.sl
  refine ⟨by omega, by omega, by omega, fun z hz => ?_, h4, fun x hx => ?_⟩
  · have := o.cb z hz
    omega
  · have q := o.st x hx
    cases x with
    | none => exact True.intro
    | some fw =>
      obtain ⟨f, ws⟩ := fw
      obtain ⟨q1, _, q3, q4⟩ := q
      refine ⟨⟨q1, by omega⟩, by omega, fun z hz => ?_⟩
      have := q4 z hz
      omega
theorem nums_cs {pl : Pl} (g : TextG pl.w pl.cs pl.sts) : Nums pl.cs := ⟨by have := g.cl; omega, g.cb⟩
theorem nums_st {f : Int} {ws : List Int} (g : StepG (some (f, ws))) : Nums (f :: ws) := ⟨by have := g.2.1; rw [List.length_cons]; omega, fun z hz => by
  rcases List.mem_cons.mp hz with rfl | hz
  · exact g.1
  · exact g.2.2 z hz⟩
def sp_line : Sp := fun vs H Q _ => ∃ (wd : Str) (b : Addr) (ns : List Int), vs = [.str wd, .ref b] ∧ H b = some (.tup (ivs ns)) ∧ wd.length ≤ 7 ∧ Nums ns ∧ ∀ H', Same H H' → Q (.str (lineS wd ns)) H'
def sp_format (C : Addr) : Sp := fun vs H Q _ => ∃ (x : V) (pl : Pl) (sl ql el : Addr), vs = [x] ∧ PlanF C H x pl sl ql el ∧ ∀ H', Same H H' → Q (.str (textS pl.w pl.cs pl.sts)) H'
def sp_ltext : Sp := fun vs H Q _ => ∃ (a ca sa : Addr) (pl : Pl) (xs : List V), vs = [.ref a] ∧ H a = some (.tup [.ref ca, .int pl.w, .ref sa]) ∧ H ca = some (.tup (ivs pl.cs)) ∧ H sa = some (.lst xs) ∧ Paired (StepV H) xs pl.sts ∧ OkP pl ∧ ∀ H', Same H H' → Q (.str (textS pl.w pl.cs pl.sts)) H'
section
variable {P : Program} {w : World} {K : PySem.W.Frag} {mg : Str → Option Value} {base : Heap}
theorem ok_line_of {f : Addr} {fd : FuncData} (F : Fun K "_line_of" "_line_of" s_line_of f fd) (T : Txt mg) (t_str : mg "str" = none) : FnOk P w K mg base CX0 1 f fd ["word", "numbers"] sp_line := by
  refine F.ok sc_line_of (fun vs H Q E h => ?_) (fun cdv A outer s H vs Q E hr h => ?_)
  · obtain ⟨_, _, _, rfl, _⟩ := h
    rfl
  obtain ⟨wd, b, ns, rfl, hb, hw, nm, k⟩ := h
  have nl := nm.len
  refine ⟨_, (pss_one (ps_ret (pe_join pe_str (pe_op op_cat' (pe_lst' (pa_cons (pv 0) pa_nil)) (pe_lc (own := [("number", 2)]) (g := (gName 2)) (tt := tYes) rfl sc_line_of.nd (pi_tup (pv 1)) (blkOk_by (own := [("number", 2)]) (N := N_line_of) (sc := defScope s_line_of) (by decide +kernel)) (fun _ _ _ _ _ => pg_name (i := 2) sc_line_of.nd rfl (Or.inl rfl)) (fun _ _ _ _ _ => pts_nil) (fun _ _ _ _ _ => (pe_callTy call_str_int (by rfl) t_str (by decide +kernel) (pa_cons (pv 2) pa_nil)))))))), ?_⟩
  refine ⟨⟨_, rfl⟩, _, rfl, szr, fun l1 H1 n1 s1 h1 => ?_⟩
  refine ⟨_, rfl, b, rfl, ⟨_, SqT.of (s1 _ _ hb)⟩, fun D hD => lc_tup (K := K) (a := b) (xs := ivs ns) (fun i H' => Same H1 H' ∧ H' D = some (.lst (svs ((ns.map numS).take i)))) ?_ ?_ ?_ ?_⟩
  · exact ⟨same_new hD, upd_same⟩
  · rintro i H' _ ⟨s2, _⟩
    exact SqT.of (s2 _ _ (s1 _ _ hb))
  · rintro i y H' hx ⟨s2, h2⟩
    have il : i < ns.length := by rw [← ivs_len]; exact (List.getElem?_eq_some_iff.mp hx).1
    rw [ivs_get il] at hx
    cases hx
    have hz := nm.bd _ (List.getElem_mem il)
    refine ⟨rfl, _, rfl, _, rfl, num_log hz.1 hz.2, _, h2, szl (by rw [svs_len, List.length_take, List.length_map]; omega), same_mut s2 hD, ?_⟩
    rw [upd_same, List.take_add_one, List.getElem?_map, List.getElem?_eq_getElem il, svs_app]
    rfl
  · rintro H2 ⟨s2, h2⟩
    rw [ivs_len, List.take_of_length_le (by rw [List.length_map]; omega)] at h2
    refine ⟨l1, D, _, _, rfl, rfl, s2 _ _ h1, h2, sz (by rw [svs_len, List.length_map]; show 1 + _ ≤ _; omega), fun l2 H3 n3 s3 h3 => ?_⟩
    exact ⟨_, l2, wd :: ns.map numS, rfl, rfl, .inl (SqL.of h3), nums_lens hw nm, k H3 (s1.trans (s2.trans s3))⟩
theorem ok_format {f C : Addr} {fd : FuncData} (F : Fun K "format_plan" "format_plan" s_format_plan f fd) (T : Txt mg) (TC : PlanC K mg C)
    (P_base : PropC P w K mg base C "base" (sp_p_base C)) (P_width : PropC P w K mg base C "width" (sp_p_width C)) (P_steps : PropC P w K mg base C "steps" (sp_p_steps C))
    (c_line_of : Cal P w K mg base 1 "_line_of" ["word", "numbers"] sp_line) : FnOk P w K mg base CX0 3 f fd ["plan"] (sp_format C) := by
  refine F.ok sc_format_plan (fun vs H Q E h => ?_) (fun cdv A outer s H vs Q E hr h => ?_)
  · obtain ⟨_, _, _, _, _, rfl, _⟩ := h
    rfl
  obtain ⟨x, pl, sl, ql, el, rfl, px, k⟩ := h
  obtain ⟨a, ca, dx, fs, xs, ys, rfl, pX, hca, hst, _, hx⟩ := px.x
  have g := textG_of px.ok
  have osl := px.ok.sl
  have xl := paired_len hst
  obtain ⟨⟨dx', fs', e, rr⟩, _⟩ := id pX
  rw [hx] at e
  cases e
  have pS : ∀ H3, Same H H3 → PlanX C a ca sl ql el H3 pl xs ys := fun H3 s3 => ⟨⟨dx, fs, s3 _ _ hx, rr⟩, s3 _ _ pX.steps, s3 _ _ pX.pieces, s3 _ _ pX.eps⟩
  refine ⟨_, (pss_cons (ps_set (i := 1) sc_format_plan.nd rfl (Or.inl rfl) (pe_lst' (pa_cons (pe_joined (.cons pe_str (.cons (pe_fmt (pe_propC TC.cl P_width hr (pv 0))) .nil))) (pa_cons (pe_cal c_line_of hr (pa_cons pe_str (pa_cons (pe_propC TC.cl P_base hr (pv 0)) pa_nil))) pa_nil))))
    (pss_cons (ps_for PassesOwn.never rfl (pi_list (pe_propC TC.cl P_steps hr (pv 0))) (pg_name (i := 2) sc_format_plan.nd rfl (Or.inl rfl))
      (pss_one (ps_if (pt_cmpR op_isN (pv 2) pe_non (nomark _))
      (pss_one (ps_expr (pe_bm PySem.F.plainAttrs_list PySem.F.slot_list_append PySem.F.type_list_append mt_append (pv 1) (pa_cons pe_str pa_nil))))
      (pss_cons (ps_asg (pv 2) (pg_tup rfl (pgs_cons (pg_name (i := 3) sc_format_plan.nd rfl (Or.inl rfl)) (pgs_cons (pg_name (i := 4) sc_format_plan.nd rfl (Or.inl rfl)) pgs_nil))))
    (pss_one (ps_expr (pe_bm PySem.F.plainAttrs_list PySem.F.slot_list_append PySem.F.type_list_append mt_append (pv 1) (pa_cons (pe_cal c_line_of hr (pa_cons pe_str (pa_cons (pe_tup' (pa_cons (pv 3) (StX.pa_star (pv 4) pa_nil))) pa_nil))) pa_nil))))))))
    (pss_one (ps_ret (pe_join pe_str (pv 1)))))), ?_⟩
  refine ⟨_, rfl, by decide, _, rfl, a, dx, fs, rfl, hx, a, ca, sl, ql, el, pl, xs, ys, rfl, pX, .inr ⟨_, rfl, num_log g.w0 g.w1, _, rfl, ?_, ?_⟩⟩
  · show (((Str.empty ++ ("plan " : Str)) ++ numS pl.w : Str)).length ≤ _
    rw [plan_fmt]
    exact sz (Nat.le_trans (line_len (by decide +kernel) (by simp) fun z hz => by rw [List.mem_singleton.mp hz]; exact ⟨g.w0, g.w1⟩) (by decide))
  refine ⟨_, rfl, a, dx, fs, rfl, hx, a, ca, sl, ql, el, pl, xs, ys, rfl, pX, _, ca, pl.cs, rfl, hca, by decide +kernel, nums_cs g, fun H1 s1 => ⟨szr, fun r H2 n2 s2 h2 => ?_⟩⟩
  have h2' : H2 r = some (.lst (svs (lineS "plan" [pl.w] :: lineS "base" pl.cs :: (pl.sts.take 0).map stepS))) := by
    rw [h2, ← plan_fmt]
    rfl
  have S2 := s1.trans s2
  refine ⟨_, rfl, a, dx, fs, rfl, S2 _ _ hx, a, ca, sl, ql, el, pl, xs, ys, rfl, pS _ S2, fun l1 H3 s3 n3 h3 => ?_⟩
  have S3 := S2.trans s3
  have nr := s1.free n2
  have rl : l1 ≠ r := fun z => by
    rw [z, h2] at n3
    cases n3
  refine ⟨l1, rfl, ⟨_, SqL.of h3⟩, for_list (K := K) (a := l1) (xs := xs) (fun i σ' H' => ∃ v2 v3 v4, σ' = [some (.ref a), some (.ref r), v2, v3, v4] ∧ Same H H' ∧ H' l1 = some (.lst xs) ∧ H' r = some (.lst (svs (lineS "plan" [pl.w] :: lineS "base" pl.cs :: (pl.sts.take i).map stepS)))) ?_ ?_ ?_ ?_⟩
  · exact ⟨_, _, _, rfl, S3, h3, s3 _ _ h2'⟩
  · rintro i σ' H' _ ⟨v2, v3, v4, rfl, _, h, _⟩
    exact SqL.of h
  · rintro i u σ' H' hu ⟨v2, v3, v4, rfl, s4, hl, hr'⟩
    have il : i < xs.length := (List.getElem?_eq_some_iff.mp hu).1
    obtain ⟨st, hs1, hs2⟩ := paired_get (steps_same s4 hst) hu
    have tk : (pl.sts.take (i + 1)).map stepS = (pl.sts.take i).map stepS ++ [stepS st] := by rw [List.take_add_one, hs1, List.map_append]; rfl
    have gst := g.st st (List.mem_of_getElem? hs1)
    have done : ∀ (H5 : Hp) (v2 v3 v4), Same H' H5 → ∃ w2 w3 w4, [some (V.ref a), some (V.ref r), v2, v3, v4] = [some (V.ref a), some (V.ref r), w2, w3, w4] ∧ Same H (upd H5 r (.lst (svs (lineS "plan" [pl.w] :: lineS "base" pl.cs :: (pl.sts.take i).map stepS) ++ [V.str (stepS st)]))) ∧ (upd H5 r (.lst (svs (lineS "plan" [pl.w] :: lineS "base" pl.cs :: (pl.sts.take i).map stepS) ++ [V.str (stepS st)]))) l1 = some (.lst xs) ∧ (upd H5 r (.lst (svs (lineS "plan" [pl.w] :: lineS "base" pl.cs :: (pl.sts.take i).map stepS) ++ [V.str (stepS st)]))) r = some (.lst (svs (lineS "plan" [pl.w] :: lineS "base" pl.cs :: (pl.sts.take (i + 1)).map stepS))) := fun H5 v2 v3 v4 s5 => by
      refine ⟨_, _, _, rfl, same_mut (s4.trans s5) nr, ?_, ?_⟩
      · rw [upd_ne rl]
        exact s5 _ _ hl
      · rw [upd_same, tk, ← List.cons_append, ← List.cons_append, svs_app]
        rfl
    have len : (svs (lineS "plan" [pl.w] :: lineS "base" pl.cs :: (pl.sts.take i).map stepS)).length < sizeLine := szl (by rw [svs_len, List.length_cons, List.length_cons, List.length_map, List.length_take]; omega)
    refine ⟨_, rfl, rfl, _, rfl, ?_⟩
    cases st with
    | none =>
      have e : u = V.non := hs2
      subst e
      refine iteT ⟨_, rfl, .inl ⟨rfl, _, SqL.of hr'⟩, r, _, _, rfl, rfl, hr', len, ?_⟩
      exact done _ _ _ _ (Same.refl _)
    | some fw =>
      obtain ⟨f, ws⟩ := fw
      obtain ⟨t, b, rfl, ht, hb⟩ := hs2
      refine iteF ⟨_, rfl, t, _, rfl, SqT.of ht, rfl, _, _, rfl, _, _, rfl, rfl, ?_⟩
      refine ⟨_, rfl, .inl ⟨rfl, _, SqL.of hr'⟩, _, rfl, _, rfl, b, _, rfl, .inl (SqT.of hb), sz (by have := gst.2.1; simp [ivs]; omega), fun t2 H5 n5 s5 h5 => ?_⟩
      have h5' : H5 t2 = some (.tup (ivs (f :: ws))) := by
        rw [h5]
        simp [ivs]
      exact ⟨_, t2, f :: ws, rfl, h5', by decide +kernel, nums_st gst, fun H6 s6 => ⟨r, _, _, rfl, rfl, s6 _ _ (s5 _ _ hr'), len, done _ _ _ _ (s5.trans s6)⟩⟩
  · rintro σ' H4 ⟨v2, v3, v4, rfl, s4, hl, hr'⟩
    rw [xl, List.take_length] at hr'
    refine ⟨⟨_, rfl⟩, _, rfl, _, r, linesS pl.w pl.cs pl.sts, rfl, rfl, .inl (SqL.of hr'), ?_, k H4 s4⟩
    exact sum_lens (k := 300) (m := 42) (lines_len g) (by show (pl.sts.map stepS).length + 1 + 1 ≤ 42; rw [List.length_map]; omega) (by decide) (by decide) (by decide +kernel)
end
end Af

set_option Elab.async false
set_option linter.all false
set_option maxRecDepth 100000
namespace Af
open PySem L2 TL
/-! texts that were changed a little: how many breaks they can have -/
def cutN (c : Nat) : List Nat → List (List Nat)
  | [] => [[]]
  | x :: r => if x = c then [] :: cutN c r else match cutN c r with
    | p :: ps => (x :: p) :: ps
    | [] => [[x]]
theorem cut_ne (c : Nat) : ∀ l, ∃ p ps, cutN c l = p :: ps
  | [] => ⟨_, _, rfl⟩
  | x :: r => by
    unfold cutN
    by_cases h : x = c
    · exact ⟨_, _, if_pos h⟩
    · obtain ⟨p, ps, e⟩ := cut_ne c r
      rw [if_neg h, e]
      exact ⟨_, _, rfl⟩
theorem cut_hit {c x : Nat} {r : List Nat} (h : x = c) : cutN c (x :: r) = [] :: cutN c r := by
  show (if x = c then _ else _) = _
  rw [if_pos h]
theorem cut_miss {c x : Nat} {r p : List Nat} {ps : List (List Nat)} (h : x ≠ c) (e : cutN c r = p :: ps) : cutN c (x :: r) = (x :: p) :: ps := by
  show (if x = c then _ else _) = _
  rw [if_neg h, e]
theorem join_cut (c : Nat) : ∀ l, joinL [c] (cutN c l) = l
  | [] => rfl
  | x :: r => by
    obtain ⟨p, ps, e⟩ := cut_ne c r
    have ih := join_cut c r
    by_cases h : x = c
    · rw [cut_hit h, e]
      show [] ++ ([c] ++ joinL [c] (p :: ps)) = _
      rw [← e, ih, h]
      rfl
    · rw [cut_miss h e]
      rw [e] at ih
      cases ps with
      | nil =>
        show x :: p = x :: r
        rw [← ih]
        rfl
      | cons q qs =>
        show x :: p ++ ([c] ++ joinL [c] (q :: qs)) = x :: r
        rw [← ih]
        rfl
theorem cut_free (c : Nat) : ∀ (l : List Nat), ∀ p ∈ cutN c l, c ∉ p
  | [], p, h => by
    rw [List.mem_singleton.mp h]
    simp
  | x :: r, p, h => by
    obtain ⟨q, qs, e⟩ := cut_ne c r
    have ih := cut_free c r
    by_cases hx : x = c
    · rw [cut_hit hx] at h
      rcases List.mem_cons.mp h with rfl | h
      · simp
      · exact ih p h
    · rw [cut_miss hx e] at h
      rw [e] at ih
      rcases List.mem_cons.mp h with rfl | h
      · intro m
        rcases List.mem_cons.mp m with m | m
        · exact hx m.symm
        · exact ih q List.mem_cons_self m
      · exact ih p (List.mem_cons_of_mem _ h)
theorem spl_cutN (c : Nat) : ∀ (l acc : List Nat) (p : List Nat) (ps : List (List Nat)), cutN c l = p :: ps → TL.spl [c] 0 acc l = (acc ++ p) :: ps
  | [], acc, p, ps, e => by
    cases e
    rw [TL.spl_nil, List.append_nil]
  | x :: r, acc, p, ps, e => by
    obtain ⟨q, qs, e'⟩ := cut_ne c r
    by_cases h : x = c
    · subst h
      rw [cut_hit rfl] at e
      cases e
      rw [TL.spl_hit (by simp [pre])]
      show acc :: TL.spl [x] 0 [] r = _
      rw [spl_cutN x r [] q qs e', e', List.append_nil]
      rfl
    · rw [cut_miss h e'] at e
      cases e
      rw [TL.spl_miss (pre_of_head _ _ h), spl_cutN c r _ q _ e', List.append_assoc]
      rfl
theorem split_cut {t y : Str} {c : Nat} (hy : tl y = [c]) (hc : c < 256) : (Txt.split t y).map tl = cutN c (tl t) := by
  have ek : y.cps.all (· < 256) = true := by
    have : y.cps.toList = [c] := hy
    rw [← Array.all_toList, this]
    simp [hc]
  rw [split_spl t y (by rw [hy]; simp) (kind_ok ek), hy]
  obtain ⟨p, ps, e⟩ := cut_ne c (tl t)
  rw [spl_cutN c _ [] p ps e, e]
  rfl
theorem cut_join {c : Nat} {ps : List (List Nat)} (h : ps ≠ []) (hp : ∀ p ∈ ps, c ∉ p) : cutN c (joinL [c] ps) = ps := by
  have e1 := TL.spl_join (s := c) (S := []) h hp
  obtain ⟨p, qs, e⟩ := cut_ne c (joinL [c] ps)
  rw [spl_cutN c _ [] p qs e] at e1
  rw [e, ← e1]
  rfl
/-! the measures -/
def bareB (p : List Nat) : Bool := decide (32 ∉ p)
def nlC (l : List Nat) : Nat := l.count 10
def bareC (l : List Nat) : Nat := (cutN 10 l).countP bareB
/-- no word has more breaks than that -/
def Wd (k : Nat) (l : List Nat) : Prop := ∀ p ∈ cutN 32 l, p.count 10 ≤ k
def adjL : List (List Nat) → Nat
  | p :: q :: r => (if (bareB p && bareB q) = true then 1 else 0) + adjL (q :: r)
  | _ => 0
theorem adjL_cons (p q : List Nat) (r : List (List Nat)) : adjL (p :: q :: r) = (if (bareB p && bareB q) = true then 1 else 0) + adjL (q :: r) := rfl
theorem adjL_le (p : List Nat) (r : List (List Nat)) : adjL r ≤ adjL (p :: r) := by
  cases r with
  | nil => exact Nat.zero_le _
  | cons q r => rw [adjL_cons]; omega
theorem bare_nil : bareB [] = true := by decide
theorem words_adj : ∀ (l w : List Nat) (ws : List (List Nat)) (q : List Nat) (qs : List (List Nat)), cutN 32 l = w :: ws → cutN 10 l = q :: qs →
    (1 ≤ w.count 10 → bareB q = true) ∧ (2 ≤ w.count 10 → ∃ q1 qr, qs = q1 :: qr ∧ bareB q1 = true) ∧ ∀ p ∈ w :: ws, p.count 10 ≤ adjL qs + 2
  | [], w, ws, q, qs, e1, e2 => by
    cases e1
    cases e2
    refine ⟨fun h => ?_, fun h => ?_, fun p hp => ?_⟩
    · exact bare_nil
    · simp at h
    · rw [List.mem_singleton.mp hp]
      exact Nat.zero_le _
  | x :: r, w, ws, q, qs, e1, e2 => by
    obtain ⟨w', ws', f1⟩ := cut_ne 32 r
    obtain ⟨q', qs', f2⟩ := cut_ne 10 r
    obtain ⟨i1, i2, i3⟩ := words_adj r w' ws' q' qs' f1 f2
    by_cases h10 : x = 10
    · subst h10
      rw [cut_hit rfl, f2] at e2
      rw [cut_miss (by decide) f1] at e1
      cases e1
      cases e2
      have c1 : (10 :: w').count 10 = w'.count 10 + 1 := by rw [List.count_cons_self]
      refine ⟨fun _ => bare_nil, fun h => ⟨q', qs', rfl, i1 (by omega)⟩, fun p hp => ?_⟩
      rcases List.mem_cons.mp hp with rfl | hp
      · rw [c1]
        by_cases k2 : 2 ≤ w'.count 10
        · obtain ⟨q1, qr, rfl, b1⟩ := i2 k2
          have b0 := i1 (by omega)
          have h3 := i3 w' List.mem_cons_self
          rw [adjL_cons, b0, b1]
          show _ ≤ (1 + adjL (q1 :: qr)) + 2
          omega
        · omega
      · have h3 := i3 p (List.mem_cons_of_mem _ hp)
        have := adjL_le q' qs'
        omega
    · by_cases h32 : x = 32
      · subst h32
        rw [cut_hit rfl, f1] at e1
        rw [cut_miss (by decide) f2] at e2
        cases e1
        cases e2
        refine ⟨fun h => by simp at h, fun h => by simp at h, fun p hp => ?_⟩
        rcases List.mem_cons.mp hp with rfl | hp
        · exact Nat.zero_le _
        · exact i3 p hp
      · rw [cut_miss h32 f1] at e1
        rw [cut_miss h10 f2] at e2
        cases e1
        cases e2
        have c1 : (x :: w').count 10 = w'.count 10 := by rw [List.count_cons_of_ne (by simpa using h10)]
        rw [c1]
        refine ⟨fun h => ?_, i2, fun p hp => ?_⟩
        · have := i1 h
          unfold bareB at this ⊢
          rw [decide_eq_true_iff] at this ⊢
          intro m
          rcases List.mem_cons.mp m with m | m
          · exact h32 m.symm
          · exact this m
        · rcases List.mem_cons.mp hp with rfl | hp
          · rw [c1]; exact i3 w' List.mem_cons_self
          · exact i3 p (List.mem_cons_of_mem _ hp)
theorem wd_adj (l : List Nat) : ∃ q qs, cutN 10 l = q :: qs ∧ Wd (adjL qs + 2) l := by
  obtain ⟨w, ws, f1⟩ := cut_ne 32 l
  obtain ⟨q, qs, f2⟩ := cut_ne 10 l
  refine ⟨q, qs, f2, fun p hp => ?_⟩
  rw [f1] at hp
  exact (words_adj l w ws q qs f1 f2).2.2 p hp
theorem words_bare : ∀ (l w : List Nat) (ws : List (List Nat)) (q : List Nat) (qs : List (List Nat)), cutN 32 l = w :: ws → cutN 10 l = q :: qs →
    (1 ≤ w.count 10 → bareB q = true) ∧ ∀ p ∈ w :: ws, p.count 10 ≤ qs.countP bareB + 1
  | [], w, ws, q, qs, e1, e2 => by
    cases e1
    cases e2
    refine ⟨fun h => bare_nil, fun p hp => ?_⟩
    rw [List.mem_singleton.mp hp]
    exact Nat.zero_le _
  | x :: r, w, ws, q, qs, e1, e2 => by
    obtain ⟨w', ws', f1⟩ := cut_ne 32 r
    obtain ⟨q', qs', f2⟩ := cut_ne 10 r
    obtain ⟨i1, i3⟩ := words_bare r w' ws' q' qs' f1 f2
    by_cases h10 : x = 10
    · subst h10
      rw [cut_hit rfl, f2] at e2
      rw [cut_miss (by decide) f1] at e1
      cases e1
      cases e2
      have c1 : (10 :: w').count 10 = w'.count 10 + 1 := by rw [List.count_cons_self]
      have cc : (q' :: qs').countP bareB = qs'.countP bareB + (if bareB q' = true then 1 else 0) := by rw [List.countP_cons]
      refine ⟨fun _ => bare_nil, fun p hp => ?_⟩
      rw [cc]
      rcases List.mem_cons.mp hp with rfl | hp
      · rw [c1]
        by_cases k2 : 1 ≤ w'.count 10
        · have h3 := i3 w' List.mem_cons_self
          rw [if_pos (i1 k2)]
          omega
        · omega
      · have h3 := i3 p (List.mem_cons_of_mem _ hp)
        omega
    · by_cases h32 : x = 32
      · subst h32
        rw [cut_hit rfl, f1] at e1
        rw [cut_miss (by decide) f2] at e2
        cases e1
        cases e2
        refine ⟨fun h => by simp at h, fun p hp => ?_⟩
        rcases List.mem_cons.mp hp with rfl | hp
        · exact Nat.zero_le _
        · exact i3 p hp
      · rw [cut_miss h32 f1] at e1
        rw [cut_miss h10 f2] at e2
        cases e1
        cases e2
        have c1 : (x :: w').count 10 = w'.count 10 := by rw [List.count_cons_of_ne (by simpa using h10)]
        refine ⟨fun h => ?_, fun p hp => ?_⟩
        · rw [c1] at h
          have := i1 h
          unfold bareB at this ⊢
          rw [decide_eq_true_iff] at this ⊢
          intro m
          rcases List.mem_cons.mp m with m | m
          · exact h32 m.symm
          · exact this m
        · rcases List.mem_cons.mp hp with rfl | hp
          · rw [c1]; exact i3 w' List.mem_cons_self
          · exact i3 p (List.mem_cons_of_mem _ hp)
theorem wd_bare (l : List Nat) : Wd (bareC l + 1) l := by
  obtain ⟨w, ws, f1⟩ := cut_ne 32 l
  obtain ⟨q, qs, f2⟩ := cut_ne 10 l
  intro p hp
  rw [f1] at hp
  have h := (words_bare l w ws q qs f1 f2).2 p hp
  unfold bareC
  rw [f2, List.countP_cons]
  omega
/-! breaks -/
theorem nl_join : ∀ (ps : List (List Nat)), (joinL [32] ps).count 10 = (ps.map (fun p => p.count 10)).sum
  | [] => rfl
  | [p] => by
    show p.count 10 = (List.map _ [p]).sum
    simp
  | p :: q :: r => by
    show (p ++ ([32] ++ joinL [32] (q :: r))).count 10 = _
    rw [List.count_append, List.count_append, nl_join (q :: r), List.map_cons (l := q :: r), List.sum_cons]
    have : ([32] : List Nat).count 10 = 0 := by decide
    omega
theorem mem_le_sum : ∀ {l : List Nat} {x : Nat}, x ∈ l → x ≤ l.sum
  | a :: l, x, h => by
    rw [List.sum_cons]
    rcases List.mem_cons.mp h with rfl | h
    · omega
    · have := mem_le_sum h
      omega
theorem wd_nl (l : List Nat) : Wd (nlC l) l := by
  intro p hp
  have e := nl_join (cutN 32 l)
  rw [join_cut] at e
  unfold nlC
  rw [e]
  exact mem_le_sum (List.mem_map.mpr ⟨p, hp, rfl⟩)
theorem nl_lines : ∀ (ps : List (List Nat)), ps ≠ [] → (∀ p ∈ ps, 10 ∉ p) → (joinL [10] ps).count 10 + 1 = ps.length
  | [], h, _ => absurd rfl h
  | [p], _, hp => by
    show p.count 10 + 1 = 1
    rw [List.count_eq_zero.mpr (hp p (List.mem_singleton.mpr rfl))]
  | p :: q :: r, _, hp => by
    show (p ++ ([10] ++ joinL [10] (q :: r))).count 10 + 1 = _
    have ih := nl_lines (q :: r) (by simp) fun z hz => hp z (List.mem_cons_of_mem _ hz)
    rw [List.count_append, List.count_append, List.count_eq_zero.mpr (hp p List.mem_cons_self), List.length_cons, ← ih]
    have : ([10] : List Nat).count 10 = 1 := by decide
    omega
theorem nl_cut (l : List Nat) : nlC l + 1 = (cutN 10 l).length := by
  have := nl_lines (cutN 10 l) (by obtain ⟨p, ps, e⟩ := cut_ne 10 l; rw [e]; simp) (cut_free 10 l)
  rw [join_cut] at this
  exact this
/-! bare lines of texts put together -/
def zr : List Nat → Nat × Bool
  | [] => (0, true)
  | x :: r => if x = 10 then ((zr r).1 + (if (zr r).2 = true then 1 else 0), true) else if x = 32 then ((zr r).1, false) else zr r
theorem zr_cons (x : Nat) (r : List Nat) : zr (x :: r) = if x = 10 then ((zr r).1 + (if (zr r).2 = true then 1 else 0), true) else if x = 32 then ((zr r).1, false) else zr r := rfl
theorem zr_cut : ∀ (l q : List Nat) (qs : List (List Nat)), cutN 10 l = q :: qs → zr l = (qs.countP bareB, bareB q)
  | [], q, qs, e => by
    cases e
    rfl
  | x :: r, q, qs, e => by
    obtain ⟨q', qs', f⟩ := cut_ne 10 r
    have ih := zr_cut r q' qs' f
    unfold zr
    rw [ih]
    by_cases h10 : x = 10
    · rw [cut_hit h10, f] at e
      cases e
      rw [if_pos h10, List.countP_cons]
      rfl
    · rw [cut_miss h10 f] at e
      cases e
      rw [if_neg h10]
      by_cases h32 : x = 32
      · rw [if_pos h32]
        have : bareB (x :: q') = false := by unfold bareB; rw [h32]; simp
        rw [this]
      · rw [if_neg h32]
        have : bareB (x :: q') = bareB q' := by
          unfold bareB
          refine decide_eq_decide.mpr ?_
          rw [List.mem_cons]
          exact ⟨fun h m => h (.inr m), fun h m => m.elim (fun z => h32 z.symm) h⟩
        rw [this]
theorem bareC_zr (l : List Nat) : bareC l = (zr l).1 + (if (zr l).2 = true then 1 else 0) := by
  obtain ⟨q, qs, f⟩ := cut_ne 10 l
  rw [zr_cut l q qs f]
  unfold bareC
  rw [f, List.countP_cons]
theorem zr_app (b : List Nat) : ∀ a, ((zr (a ++ b)).2 = (zr a).2 ∧ (zr (a ++ b)).1 ≤ (zr a).1 + bareC b ∧ (zr a).1 + bareC b ≤ (zr (a ++ b)).1 + 1) ∨
    ((zr a).1 = 0 ∧ (zr (a ++ b)).1 = (zr b).1 ∧ (zr (a ++ b)).2 = ((zr a).2 && (zr b).2))
  | [] => .inr ⟨rfl, rfl, rfl⟩
  | x :: a => by
    have ih := zr_app b a
    have eb := bareC_zr b
    rw [List.cons_append, zr_cons, zr_cons]
    by_cases h10 : x = 10
    · rw [if_pos h10, if_pos h10]
      refine .inl ⟨rfl, ?_⟩
      rcases ih with ⟨e1, e2, e3⟩ | ⟨e1, e2, e3⟩
      · rw [e1]
        show _ ≤ _ + _ ∧ _
        constructor
        · show (zr (a ++ b)).1 + _ ≤ (zr a).1 + _ + bareC b
          omega
        · show (zr a).1 + _ + bareC b ≤ (zr (a ++ b)).1 + _ + 1
          omega
      · rw [e1, e2, e3, eb]
        cases (zr a).2 <;> cases (zr b).2 <;> simp <;> omega
    · rw [if_neg h10, if_neg h10]
      by_cases h32 : x = 32
      · rw [if_pos h32, if_pos h32]
        rcases ih with ⟨e1, e2, e3⟩ | ⟨e1, e2, e3⟩
        · exact .inl ⟨rfl, e2, e3⟩
        · exact .inr ⟨e1, e2, rfl⟩
      · rw [if_neg h32, if_neg h32]
        exact ih
theorem bare_app (a b : List Nat) : bareC (a ++ b) ≤ bareC a + bareC b ∧ bareC a + bareC b ≤ bareC (a ++ b) + 1 := by
  have e1 := bareC_zr a
  have e2 := bareC_zr b
  have e3 := bareC_zr (a ++ b)
  rcases zr_app b a with ⟨h1, h2, h3⟩ | ⟨h1, h2, h3⟩
  · rw [h1] at e3
    omega
  · rw [e1, e2, e3, h1, h2, h3]
    cases (zr a).2 <;> cases (zr b).2 <;> simp <;> omega
theorem bare_cons (x : Nat) (b : List Nat) : bareC b ≤ bareC (x :: b) + 1 := by
  rw [bareC_zr, bareC_zr, zr_cons]
  by_cases h10 : x = 10
  · rw [if_pos h10]
    show _ ≤ (_ + _) + 1 + 1
    omega
  · rw [if_neg h10]
    by_cases h32 : x = 32
    · rw [if_pos h32]
      show _ ≤ (zr b).1 + 0 + 1
      split <;> omega
    · rw [if_neg h32]
      omega
end Af

set_option Elab.async false
set_option linter.all false
set_option maxRecDepth 100000
namespace Af
open PySem L2 TL
/-! one change -/
theorem nl_app (a b : List Nat) : nlC (a ++ b) = nlC a + nlC b := List.count_append
theorem nl_take_drop (l : List Nat) (n : Nat) : nlC (l.take n) + nlC (l.drop n) = nlC l := by rw [← nl_app, List.take_append_drop]
theorem nl_drop1 (l : List Nat) (n : Nat) : nlC (l.drop (n + 1)) ≤ nlC (l.drop n) := by
  rw [← List.drop_drop]
  exact (List.drop_sublist 1 _).count_le 10
theorem nl_short {p : List Nat} (h : p.length ≤ 1) : nlC p ≤ 1 := Nat.le_trans List.count_le_length h
theorem bare_short {p : List Nat} (h : p.length ≤ 1) : bareC p ≤ 2 := by
  match p, h with
  | [], _ => decide
  | [x], _ =>
    rw [bareC_zr, zr_cons]
    by_cases h10 : x = 10
    · rw [if_pos h10]; decide
    · rw [if_neg h10]
      by_cases h32 : x = 32
      · rw [if_pos h32]; decide
      · rw [if_neg h32]; decide
/-- a sign put in, taken out or exchanged -/
theorem sign_nl {l p : List Nat} {n d : Nat} (hp : p.length ≤ 1) (hd : d ≤ 1) : nlC (l.take n ++ p ++ l.drop (n + d)) ≤ nlC l + 1 := by
  rw [nl_app, nl_app]
  have h1 := nl_take_drop l n
  have h2 := nl_short hp
  have h3 : nlC (l.drop (n + d)) ≤ nlC (l.drop n) := by
    rcases Nat.le_one_iff_eq_zero_or_eq_one.mp hd with rfl | rfl
    · exact Nat.le_refl _
    · exact nl_drop1 l n
  omega
theorem sign_bare {l p : List Nat} {n d : Nat} (hp : p.length ≤ 1) (hd : d ≤ 1) : bareC (l.take n ++ p ++ l.drop (n + d)) ≤ bareC l + 4 := by
  have h1 := (bare_app (l.take n ++ p) (l.drop (n + d))).1
  have h2 := (bare_app (l.take n) p).1
  have h3 := bare_short hp
  have h4 := (bare_app (l.take n) (l.drop n)).2
  rw [List.take_append_drop] at h4
  have h5 : bareC (l.drop (n + d)) ≤ bareC (l.drop n) + 1 := by
    rcases Nat.le_one_iff_eq_zero_or_eq_one.mp hd with rfl | rfl
    · exact Nat.le_succ _
    · by_cases hn : n < l.length
      · rw [List.drop_eq_getElem_cons hn]
        exact bare_cons _ _
      · rw [List.drop_of_length_le (by omega), List.drop_of_length_le (by omega)]
        exact Nat.le_succ _
  omega
/-! rows taken out, put in, exchanged -/
inductive Rows (α : Type) (rs : List α) : List α → Prop
  | pop (i : Nat) (h : i < rs.length) : Rows α rs (rs.eraseIdx i)
  | ins (i j : Nat) (x : α) (h : i < rs.length) (e : rs[j]? = some x) : Rows α rs (rs.take i ++ x :: rs.drop i)
  | swap (i j : Nat) (x y : α) (hi : rs[i]? = some x) (hj : rs[j]? = some y) : Rows α rs ((rs.set i y).set j x)
theorem erase_map {α β : Type} (f : α → β) : ∀ (l : List α) (i : Nat), (l.eraseIdx i).map f = (l.map f).eraseIdx i
  | [], _ => rfl
  | a :: l, 0 => rfl
  | a :: l, i + 1 => by
    show f a :: (l.eraseIdx i).map f = f a :: (l.map f).eraseIdx i
    rw [erase_map f l i]
theorem Rows.map {α β : Type} (f : α → β) {rs rs' : List α} (h : Rows α rs rs') : Rows β (rs.map f) (rs'.map f) := by
  cases h with
  | pop i h =>
    have e : (rs.eraseIdx i).map f = (rs.map f).eraseIdx i := erase_map f rs i
    rw [e]
    exact .pop i (by rw [List.length_map]; exact h)
  | ins i j x h e =>
    have q : (rs.take i ++ x :: rs.drop i).map f = (rs.map f).take i ++ f x :: (rs.map f).drop i := by rw [List.map_append, List.map_cons, List.map_take, List.map_drop]
    rw [q]
    exact .ins i j (f x) (by rw [List.length_map]; exact h) (by rw [List.getElem?_map, e]; rfl)
  | swap i j x y hi hj =>
    have q : ((rs.set i y).set j x).map f = ((rs.map f).set i (f y)).set j (f x) := by rw [List.map_set, List.map_set]
    rw [q]
    exact .swap i j (f x) (f y) (by rw [List.getElem?_map, hi]; rfl) (by rw [List.getElem?_map, hj]; rfl)
theorem Rows.mem {α : Type} {rs rs' : List α} (h : Rows α rs rs') : ∀ x ∈ rs', x ∈ rs := by
  intro z hz
  cases h with
  | pop i h => exact List.mem_of_mem_eraseIdx hz
  | ins i j x h e =>
    rcases List.mem_append.mp hz with hz | hz
    · exact List.mem_of_mem_take hz
    · rcases List.mem_cons.mp hz with rfl | hz
      · exact List.mem_of_getElem? e
      · exact List.mem_of_mem_drop hz
  | swap i j x y hi hj =>
    rcases List.mem_or_eq_of_mem_set hz with hz | rfl
    · rcases List.mem_or_eq_of_mem_set hz with hz | rfl
      · exact hz
      · exact List.mem_of_getElem? hj
    · exact List.mem_of_getElem? hi
theorem Rows.len {α : Type} {rs rs' : List α} (h : Rows α rs rs') : rs'.length ≤ rs.length + 1 := by
  cases h with
  | pop i h => rw [List.length_eraseIdx]; split <;> omega
  | ins i j x h e => rw [List.length_append, List.length_cons, List.length_take, List.length_drop]; omega
  | swap i j x y hi hj => rw [List.length_set, List.length_set]; omega
theorem sum_set : ∀ {l : List Nat} {i x y : Nat}, l[i]? = some y → (l.set i x).sum + y = l.sum + x
  | a :: l, 0, x, y, h => by
    cases h
    rw [List.set_cons_zero, List.sum_cons, List.sum_cons]
    omega
  | a :: l, i + 1, x, y, h => by
    have := sum_set (l := l) (x := x) (i := i) (y := y) h
    rw [List.set_cons_succ, List.sum_cons, List.sum_cons]
    omega
theorem sum_erase : ∀ (l : List Nat) (i : Nat), (l.eraseIdx i).sum ≤ l.sum
  | [], _ => Nat.le_refl _
  | a :: l, 0 => by
    rw [List.eraseIdx_cons_zero, List.sum_cons]
    omega
  | a :: l, i + 1 => by
    have := sum_erase l i
    rw [List.eraseIdx_cons_succ, List.sum_cons, List.sum_cons]
    omega
/-- what weighs so much, weighs no more than one row more -/
theorem Rows.sum {rs rs' : List Nat} {k : Nat} (h : Rows Nat rs rs') (hk : ∀ x ∈ rs, x ≤ k) : rs'.sum ≤ rs.sum + k := by
  cases h with
  | pop i h => exact Nat.le_trans (sum_erase rs i) (Nat.le_add_right _ _)
  | ins i j x h e =>
    have q : (rs.take i ++ x :: rs.drop i).sum = rs.sum + x := by
      rw [List.sum_append, List.sum_cons]
      have : (rs.take i).sum + (rs.drop i).sum = rs.sum := by rw [← List.sum_append, List.take_append_drop]
      omega
    have := hk x (List.mem_of_getElem? e)
    omega
  | swap i j x y hi hj =>
    have h1 := sum_set (x := y) hi
    have il : j < rs.length := (List.getElem?_eq_some_iff.mp hj).1
    have e2 : (rs.set i y)[j]? = some y := by
      by_cases z : i = j
      · subst z
        rw [List.getElem?_set_self il]
      · rw [List.getElem?_set_ne z, hj]
    have h2 := sum_set (x := x) e2
    omega
theorem countP_sum (p : List Nat → Bool) : ∀ rs : List (List Nat), rs.countP p = (rs.map fun r => if p r = true then 1 else 0).sum
  | [] => rfl
  | r :: rs => by
    rw [List.countP_cons, countP_sum p rs, List.map_cons, List.sum_cons]
    omega
theorem joinL_nil (S : List Nat) : joinL S [] = [] := rfl
/-- words exchanged: no more breaks than one word more -/
theorem word_nl {l : List Nat} {rs' : List (List Nat)} {k : Nat} (h : Rows _ (cutN 32 l) rs') (w : Wd k l) : nlC (joinL [32] rs') ≤ nlC l + k := by
  unfold nlC
  rw [nl_join]
  have e : l.count 10 = ((cutN 32 l).map fun p => p.count 10).sum := by rw [← nl_join, join_cut]
  rw [e]
  refine (h.map fun p => p.count 10).sum fun x hx => ?_
  obtain ⟨p, hp, rfl⟩ := List.mem_map.mp hx
  exact w p hp
theorem word_wd {l : List Nat} {rs' : List (List Nat)} {k : Nat} (h : Rows _ (cutN 32 l) rs') (w : Wd k l) : Wd k (joinL [32] rs') := by
  by_cases z : rs' = []
  · subst z
    intro p hp
    have : p = [] := List.mem_singleton.mp hp
    subst this
    exact Nat.zero_le _
  · intro p hp
    rw [cut_join z fun q hq => cut_free 32 l q (h.mem q hq)] at hp
    exact w p (h.mem p hp)
theorem line_nl {l : List Nat} {rs' : List (List Nat)} (h : Rows _ (cutN 10 l) rs') : nlC (joinL [10] rs') ≤ nlC l + 1 := by
  by_cases z : rs' = []
  · subst z
    exact Nat.zero_le _
  · have e1 := nl_lines rs' z fun q hq => cut_free 10 l q (h.mem q hq)
    have e2 := nl_cut l
    have := h.len
    unfold nlC at e2 ⊢
    omega
theorem line_bare {l : List Nat} {rs' : List (List Nat)} (h : Rows _ (cutN 10 l) rs') : bareC (joinL [10] rs') ≤ bareC l + 4 := by
  by_cases z : rs' = []
  · subst z
    have : bareC (joinL [10] []) = 1 := by decide
    omega
  · unfold bareC
    rw [cut_join z fun q hq => cut_free 10 l q (h.mem q hq), countP_sum, countP_sum]
    refine Nat.le_trans ((h.map _).sum (k := 1) fun x hx => ?_) (by omega)
    obtain ⟨p, hp, rfl⟩ := List.mem_map.mp hx
    split <;> omega
/-- one change of a text -/
inductive Bent (l : List Nat) : List Nat → Prop
  | sign (n d : Nat) (p : List Nat) (hp : p.length ≤ 1) (hd : d ≤ 1) : Bent l (l.take n ++ p ++ l.drop (n + d))
  | word (rs' : List (List Nat)) (h : Rows _ (cutN 32 l) rs') : Bent l (joinL [32] rs')
  | line (rs' : List (List Nat)) (h : Rows _ (cutN 10 l) rs') : Bent l (joinL [10] rs')
/-- how many breaks a text may have that is changed so many times more -/
def Bud : Nat → List Nat → Prop
  | 0, l => nlC l ≤ 40
  | 1, l => nlC l ≤ 39 ∧ ∃ k, Wd k l ∧ nlC l + k ≤ 40
  | 2, l => nlC l ≤ 19 ∧ ∃ k, Wd k l ∧ nlC l + 2 * k ≤ 40
  | 3, l => nlC l ≤ 15 ∧ bareC l ≤ 7 ∧ ∃ k, Wd k l ∧ nlC l + k ≤ 17 ∧ k ≤ 9
  | _, _ => False
theorem bud_down : ∀ {n : Nat} {l : List Nat}, Bud (n + 1) l → Bud n l
  | 0, l, h => by
    have : nlC l ≤ 39 := h.1
    show nlC l ≤ 40
    omega
  | 1, l, ⟨h1, k, h2, h3⟩ => ⟨by omega, k, h2, by omega⟩
  | 2, l, ⟨h1, hb, k, h2, h3, h4⟩ => ⟨by omega, k, h2, by omega⟩
  | n + 3, l, h => h.elim
theorem bud_bent : ∀ {n : Nat} {l l' : List Nat}, Bud (n + 1) l → Bent l l' → Bud n l' := by
  intro n l l' h b
  -- what every change keeps
  have other : (nlC l' ≤ nlC l + 1 ∧ bareC l' ≤ bareC l + 4) ∨ ∀ k, Wd k l → nlC l' ≤ nlC l + k ∧ Wd k l' := by
    cases b with
    | sign n d p hp hd => exact .inl ⟨sign_nl hp hd, sign_bare hp hd⟩
    | word rs' h => exact .inr fun k w => ⟨word_nl h w, word_wd h w⟩
    | line rs' h => exact .inl ⟨line_nl h, line_bare h⟩
  match n, h with
  | 0, h =>
    obtain ⟨h1, k, h2, h3⟩ := h
    rcases other with ⟨o1, _⟩ | o
    · show nlC l' ≤ 40
      omega
    · have := (o k h2).1
      show nlC l' ≤ 40
      omega
  | 1, h =>
    obtain ⟨h1, k, h2, h3⟩ := h
    rcases other with ⟨o1, _⟩ | o
    · exact ⟨by omega, _, wd_nl l', by omega⟩
    · obtain ⟨o1, o2⟩ := o k h2
      exact ⟨by omega, k, o2, by omega⟩
  | 2, h =>
    obtain ⟨h1, hb, k, h2, h3, h4⟩ := h
    rcases other with ⟨o1, o2⟩ | o
    · exact ⟨by omega, _, wd_bare l', by omega⟩
    · obtain ⟨o1, o2⟩ := o k h2
      exact ⟨by omega, k, o2, by omega⟩
  | n + 3, h => exact h.elim
theorem bud_le {n m : Nat} {l : List Nat} (h : Bud n l) (u : m ≤ n) : Bud m l := by
  induction n with
  | zero => rw [Nat.le_zero.mp u]; exact h
  | succ n ih =>
    rcases Nat.lt_or_ge m (n + 1) with z | z
    · exact ih (bud_down h) (by omega)
    · rw [show m = n + 1 by omega]; exact h
end Af

set_option Elab.async false
set_option linter.all false
set_option maxRecDepth 100000
namespace Af
open PySem L2 TL
/-! the text of a drawn plan, before it is changed -/
theorem split_nl (t : Str) : (Txt.split t "\n").map tl = cutN 10 (tl t) := split_cut tl_break (by decide)
theorem split_bl (t : Str) : (Txt.split t " ").map tl = cutN 32 (tl t) := split_cut tl_blank (by decide)
theorem lineS_blank (wd : Str) (z : Int) (ns : List Int) : bareB (tl (lineS wd (z :: ns))) = false := by
  unfold bareB lineS
  rw [tl_joinT, tl_blank]
  refine decide_eq_false fun h => h ?_
  show 32 ∈ tl wd ++ ([32] ++ joinL [32] (tl (numS z) :: (ns.map numS).map tl))
  exact List.mem_append.mpr (.inr (List.mem_append.mpr (.inl (List.mem_singleton.mpr rfl))))
theorem bare_step : ∀ st : Stp, bareB (tl (stepS st)) = st.isNone
  | none => by decide +kernel
  | some (f, ws) => lineS_blank "write" f ws
theorem bare_steps (sts : List Stp) : ((sts.map stepS).map tl).countP bareB = bars sts := by
  rw [List.map_map, List.countP_map]
  unfold bars
  exact congrArg (fun p => List.countP p sts) (funext bare_step)
theorem adj_steps : ∀ (p : List Nat) (sts : List Stp), adjL (p :: (sts.map stepS).map tl) = adjA (bareB p) sts
  | p, [] => rfl
  | p, x :: sts => by
    rw [List.map_cons, List.map_cons, adjL_cons, adj_steps _ sts, bare_step x]
    rfl
theorem text_cut {w : Int} {cs : List Int} {sts : List Stp} (g : TextG w cs sts) : cutN 10 (tl (textS w cs sts)) = (linesS w cs sts).map tl := by
  rw [← split_nl, text_split g]
theorem text_bud {w : Int} {cs : List Int} {sts : List Stp} (g : TextG w cs sts) (c1 : 1 ≤ cs.length) (d : DB 7 sts) : Bud 3 (tl (textS w cs sts)) := by
  have e := text_cut g
  obtain ⟨z, cs', rfl⟩ : ∃ z cs', cs = z :: cs' := by
    cases cs with
    | nil => simp at c1
    | cons z r => exact ⟨z, r, rfl⟩
  have hs := d.s
  have hb := d.b
  have ha := adj_bars false sts
  have b1 : bareB (tl (lineS "plan" [w])) = false := lineS_blank _ _ _
  have b2 : bareB (tl (lineS "base" (z :: cs'))) = false := lineS_blank _ _ _
  have n1 := nl_cut (tl (textS w (z :: cs') sts))
  rw [e] at n1
  have l1 : ((linesS w (z :: cs') sts).map tl).length = sts.length + 2 := by
    rw [List.length_map]
    unfold linesS
    rw [List.length_cons, List.length_cons, List.length_map]
  have c2 : bareC (tl (textS w (z :: cs') sts)) = bars sts := by
    unfold bareC
    rw [e]
    unfold linesS
    rw [List.map_cons, List.map_cons, List.countP_cons, List.countP_cons, bare_steps, b1, b2]
    rfl
  obtain ⟨q, qs, e2, wd⟩ := wd_adj (tl (textS w (z :: cs') sts))
  have e3 : q :: qs = tl (lineS "plan" [w]) :: tl (lineS "base" (z :: cs')) :: (sts.map stepS).map tl := by rw [← e2, e]; rfl
  have e4 : qs = tl (lineS "base" (z :: cs')) :: (sts.map stepS).map tl := (List.cons.inj e3).2
  rw [e4, adj_steps, b2] at wd
  exact ⟨by omega, by omega, _, wd, by omega, by omega⟩
/-! a text that is read is the text of its plan -/
theorem str_join {t : Str} {y : Str} {c : Nat} (hy : tl y = [c]) (hc : c < 256) : Txt.join y (Txt.split t y) = t := by
  refine tl_inj ?_
  rw [tl_joinT, split_cut hy hc, hy, join_cut]
theorem num_back {w : Str} (h : 0 ≤ numB w) : w = numS (numB w) := by
  cases numK w with
  | none _ e => omega
  | long _ e => omega
  | sign _ _ _ e => omega
  | lead _ _ _ e _ => omega
  | good _ _ _ _ _ _ _ _ _ s => exact s
theorem nums_back : ∀ {r : List Str}, (∀ z ∈ r.map numB, 0 ≤ z) → (r.map numB).map numS = r
  | [], _ => rfl
  | x :: r, h => by
    rw [List.map_cons, List.map_cons, nums_back fun z hz => h z (by rw [List.map_cons]; exact List.mem_cons_of_mem _ hz), ← num_back (h _ (by rw [List.map_cons]; exact List.mem_cons_self))]
theorem line_back {wd line : Str} (h : numsB wd line ≠ []) (p : ∀ z ∈ numsB wd line, 0 ≤ z) : line = lineS wd (numsB wd line) := by
  have j := str_join (t := line) tl_blank (by decide)
  unfold lineS
  unfold numsB at h p ⊢
  cases e : Txt.split line " " with
  | nil =>
    rw [e] at h
    exact absurd rfl h
  | cons w0 r =>
    rw [e] at h p j
    have q : numsL wd (w0 :: r) = if w0 = wd then r.map numB else [] := rfl
    rw [q] at h p ⊢
    by_cases z : w0 = wd
    · rw [if_pos z] at p ⊢
      rw [nums_back p, ← z, j]
    · rw [if_neg z] at h
      exact absurd rfl h
theorem width_back {l : Str} (h : widthOk (widthI l) = true) : l = lineS "plan" [widthI l] := by
  obtain ⟨w1, _⟩ := width_ok' h
  have e : numsB "plan" l = [widthI l] := by
    unfold widthI at w1 ⊢
    split at w1
    · rename_i z e
      exact e
    · omega
  have b := line_back (wd := "plan") (line := l) (by rw [e]; simp) fun z hz => by
    rw [e] at hz
    rw [List.mem_singleton.mp hz]
    omega
  rw [e] at b
  exact b
theorem base_back {l : Str} (h : baseOk (numsB "base" l) = true) : l = lineS "base" (numsB "base" l) := by
  obtain ⟨c1, _, cb⟩ := base_ok h
  exact line_back (fun z => by rw [z] at c1; simp at c1) fun z hz => (cb z hz).1
theorem step_back {n : Nat} {l : Str} (h : okS n (lineD l) = true) : l = stepS (stOf (lineD l)) := by
  have o := okS_ok h
  unfold lineD at h o ⊢
  by_cases e : l = "barrier"
  · rw [if_pos e]
    exact e
  · rw [if_neg e] at h o ⊢
    have b := line_back (wd := "write") (line := l)
    cases en : numsB "write" l with
    | nil =>
      rw [en] at h
      cases h
    | cons f r =>
      rw [en] at o b
      obtain ⟨o1, _, _, o4⟩ := o
      exact b (by simp) fun z hz => by
        rcases List.mem_cons.mp hz with rfl | hz
        · exact o1
        · exact (o4 z hz).1
theorem readS_back {w : Int} {n : Nat} : ∀ (ls : List Str) (acc : List Stp) (k : Nat) (sts : List Stp), readS w n acc k ls = .inr sts → acc.map stepS ++ ls = sts.map stepS
  | [], acc, k, sts, h => by
    cases h
    rw [List.append_nil]
  | l :: r, acc, k, sts, h => by
    unfold readS at h
    split at h
    · rename_i q
      rw [Bool.and_eq_true] at q
      have ih := readS_back r _ _ sts h
      rw [← ih, List.map_append, List.append_assoc]
      have e := step_back q.1
      show _ ++ l :: r = _ ++ ([stepS (stOf (lineD l))] ++ r)
      rw [← e]
      rfl
    · cases h
/-- the text of the plan that is read -/
theorem read_back {t : Str} {pl : Pl} (h : readT t = .inr pl) : textS pl.w pl.cs pl.sts = t ∧ pl.sts.length + 1 = nlC (tl t) := by
  have j := str_join (t := t) tl_break (by decide)
  have nl := nl_cut (tl t)
  rw [← split_nl, List.length_map] at nl
  unfold readT at h
  generalize Txt.split t "\n" = ls at h j nl
  have k : ls = linesS pl.w pl.cs pl.sts := by
    cases ls with
    | nil =>
      have : nlC (tl t) + 1 = 0 := nl
      omega
    | cons l0 rest =>
      have h : (if widthOk (widthI l0) = false then (.inl 0 : Nat ⊕ Pl) else if (l0 :: rest).length = 1 then .inl 1 else if baseOk (numsB "base" (rest.headD "")) = false then .inl 1 else match readS (widthI l0) (numsB "base" (rest.headD "")).length [] 2 (rest.drop 1) with
        | .inl k => .inl k
        | .inr sts => .inr ⟨numsB "base" (rest.headD ""), widthI l0, sts⟩) = .inr pl := by cases rest <;> exact h
      by_cases ew : widthOk (widthI l0) = true
      · rw [if_neg (by rw [ew]; decide)] at h
        cases rest with
        | nil =>
          rw [if_pos (by rfl)] at h
          cases h
        | cons l1 rest =>
          rw [if_neg (by simp)] at h
          have h : (if baseOk (numsB "base" l1) = false then (.inl 1 : Nat ⊕ Pl) else match readS (widthI l0) (numsB "base" l1).length [] 2 rest with
            | .inl k => .inl k
            | .inr sts => .inr ⟨numsB "base" l1, widthI l0, sts⟩) = .inr pl := h
          by_cases eb : baseOk (numsB "base" l1) = true
          · rw [if_neg (by rw [eb]; decide)] at h
            cases er : readS (widthI l0) (numsB "base" l1).length [] 2 rest with
            | inl kk =>
              rw [er] at h
              cases h
            | inr sts =>
              rw [er] at h
              cases h
              have e3 := readS_back _ _ _ _ er
              show l0 :: l1 :: rest = lineS "plan" [widthI l0] :: lineS "base" (numsB "base" l1) :: sts.map stepS
              rw [← width_back ew, ← base_back eb, ← e3]
              rfl
          · rw [if_pos (by simpa using eb)] at h
            cases h
      · rw [if_pos (by simpa using ew)] at h
        cases h
  refine ⟨?_, ?_⟩
  · unfold textS
    rw [← k, j]
  · rw [k] at nl
    unfold linesS at nl
    rw [List.length_cons, List.length_cons, List.length_map] at nl
    omega
theorem read_short {t : Str} {pl : Pl} (h : readT t = .inr pl) (b : Bud 0 (tl t)) : pl.sts.length ≤ 39 := by
  have := (read_back h).2
  have b : nlC (tl t) ≤ 40 := b
  omega
end Af

set_option Elab.async false
set_option linter.all false
set_option maxRecDepth 100000
namespace Af
open PySem PySem.Spec PyProof.Rows L2
/-! text * number; texts of no more than n signs -/
def rMulS : R2 := fun x y H Q => ∃ (z : Str) (n : Int), x = .str z ∧ y = .int n ∧ z.length ≤ 1600 ∧ 0 ≤ n ∧ n ≤ 10000 ∧ Q (.str (Txt.mul z n)) H
theorem op_mulS {X : Cx} : OpR X (binaryOp .Mult) rMulS := by
  intro pins s σ H x y v u Q I rx ry h
  obtain ⟨z, n, rfl, rfl, hz, h0, h1, q⟩ := h
  obtain ⟨t, rfl⟩ := rx
  obtain ⟨t', rfl⟩ := ry
  exact PySem.SB.mul (mulOk_of 1600 10000 hz (by omega) (by omega) (by decide) (by decide)) fun t' k => ⟨.str (Txt.mul z n), H, I.tok _, ⟨_, rfl⟩, q⟩
structure TxL (n : Nat) (t : Str) : Prop where
  len : t.length ≤ n
  chr : ∀ c ∈ TL.tl t, c < 16 ^ 8
theorem TxL.app {n m : Nat} {a b : Str} (h : TxL n a) (g : TxL m b) : TxL (n + m) (a ++ b) := by
  refine ⟨PySem.W.KT.len_app h.len g.len, fun c hc => ?_⟩
  have e : TL.tl (a ++ b) = TL.tl a ++ TL.tl b := by
    show (a.cps ++ b.cps).toList = a.cps.toList ++ b.cps.toList
    simp
  rw [e] at hc
  exact (List.mem_append.mp hc).elim (h.chr c) (g.chr c)
theorem reps_mem (x : Array Nat) : ∀ (k : Nat) (acc : Array Nat) (c : Nat), c ∈ ((List.replicate k x).foldl (· ++ ·) acc).toList → c ∈ acc.toList ∨ c ∈ x.toList
  | 0, acc, c, h => .inl h
  | k + 1, acc, c, h => by
    rw [List.replicate_succ, List.foldl_cons] at h
    rcases reps_mem x k _ c h with h | h
    · rw [Array.toList_append] at h
      exact List.mem_append.mp h
    · exact .inr h
theorem TxL.mul {n : Nat} {a : Str} (h : TxL n a) {k : Int} (k0 : 0 ≤ k) : TxL (n * k.toNat) (Txt.mul a k) := by
  refine ⟨?_, fun c hc => ?_⟩
  · have e := len_mul a k
    rw [if_neg (by simpa using k0)] at e
    have e2 : (Txt.mul a k).length = a.length * k.toNat := by
      have : ((a.length * k.toNat : Nat) : Int) = (a.length : Int) * k := by rw [Int.natCast_mul, Int.toNat_of_nonneg k0]
      omega
    rw [e2]
    exact Nat.mul_le_mul_right _ h.len
  · unfold Txt.mul at hc
    split at hc
    · cases hc
    · split at hc
      · exact h.chr c hc
      · rcases reps_mem _ _ _ c hc with z | z
        · cases z
        · exact h.chr c z
theorem TxL.mono {n m : Nat} {a : Str} (h : TxL n a) (l : n ≤ m) : TxL m a := ⟨Nat.le_trans h.len l, h.chr⟩
def txB (n : Nat) (t : Str) : Bool := decide (t.length ≤ n) && (TL.tl t).all fun c => decide (c < 16 ^ 8)
theorem TxL.by {n : Nat} {t : Str} (h : txB n t = true) : TxL n t := by
  unfold txB at h
  rw [Bool.and_eq_true] at h
  exact ⟨of_decide_eq_true h.1, fun c hc => of_decide_eq_true (List.all_eq_true.mp h.2 c hc)⟩
end Af

set_option Elab.async false
set_option linter.all false
set_option maxRecDepth 100000
set_option maxHeartbeats 4000000
namespace Af
open PySem L2
abbrev s_l_bent : Stmt := top 65
abbrev N_l_bent : List Str := ["_law_pen_here", "_law_text_here", "_law_road", "_law_signs", "_law_spot", "_law_put", "_law_mark", "_law_rows", "_law_other", "_law_turn"]
theorem sc_l_bent : FnScope N_l_bent ["_law_pen_here", "_law_text_here"] (defScope s_l_bent) := ⟨rfl, rfl, rfl, by decide +kernel, rfl, by decide +kernel, by decide +kernel⟩

section
variable {P : Program} {w : World} {K : PySem.W.Frag} {mg : Str → Option Value} {base : Heap}
theorem ok_ltext {f : Addr} {fd : FuncData} (F : Fun K "_law_text" "_law_text" s_l_text f fd) (T : Txt mg) (t_str : mg "str" = none) : FnOk P w K mg base CX0 1 f fd ["_law_plan_here"] sp_ltext := by
  refine F.ok sc_l_text (fun vs H Q E h => ?_) (fun cdv A outer s H vs Q E hr h => ?_)
  · obtain ⟨_, _, _, _, _, rfl, _⟩ := h
    rfl
  obtain ⟨a, ca, sa, pl, xs, rfl, ha, hca, hsa, hst, ok, k⟩ := h
  have g := textG_of ok
  have osl := ok.sl
  have o24 := ok.c24
  have xl := paired_len hst
  refine ⟨_, (pss_cons (ps_set (i := 1) sc_l_text.nd rfl (Or.inl rfl) (pe_lst' (pa_cons (pe_op op_add_str pe_str (pe_callTy call_str_int (by rfl) t_str (by decide +kernel) (pa_cons (pe_ix ix_seq' (pv 0) pe_int (fun _ _ => rfl)) pa_nil))) (pa_cons (pe_join pe_str (pe_op op_cat' (pe_lst' (pa_cons pe_str pa_nil)) (pe_lc (own := [("_law_one", 3)]) (g := (gName 3)) (tt := tYes) rfl sc_l_text.nd (pi_tup (pe_ix ix_seq' (pv 0) pe_int (fun _ _ => rfl))) (blkOk_by (own := [("_law_one", 3)]) (N := N_l_text) (sc := defScope s_l_text) (by decide +kernel)) (fun _ _ _ _ _ => pg_name (i := 3) sc_l_text.nd rfl (Or.inl rfl)) (fun _ _ _ _ _ => pts_nil) (fun _ _ _ _ _ => (pe_callTy call_str_int (by rfl) t_str (by decide +kernel) (pa_cons (pv 3) pa_nil)))))) pa_nil))))
    (pss_cons (ps_for PassesOwn.never rfl (pi_list (pe_ix ix_seq' (pv 0) pe_int (fun _ _ => rfl))) (pg_name (i := 2) sc_l_text.nd rfl (Or.inl rfl))
      (pss_one (ps_if (pt_cmpR op_isN (pv 2) pe_non (nomark _))
      (pss_one (ps_expr (pe_bm PySem.F.plainAttrs_list PySem.F.slot_list_append PySem.F.type_list_append mt_append (pv 1) (pa_cons pe_str pa_nil))))
      (pss_one (ps_expr (pe_bm PySem.F.plainAttrs_list PySem.F.slot_list_append PySem.F.type_list_append mt_append (pv 1) (pa_cons (pe_join pe_str (pe_op op_cat' (pe_lst' (pa_cons pe_str (pa_cons (pe_callTy call_str_int (by rfl) t_str (by decide +kernel) (pa_cons (pe_ix ix_seq' (pv 2) pe_int (fun _ _ => rfl)) pa_nil)) pa_nil))) (pe_lc (own := [("_law_one", 3)]) (g := (gName 3)) (tt := tYes) rfl sc_l_text.nd (pi_tup (pe_ix ix_seq' (pv 2) pe_int (fun _ _ => rfl))) (blkOk_by (own := [("_law_one", 3)]) (N := N_l_text) (sc := defScope s_l_text) (by decide +kernel)) (fun _ _ _ _ _ => pg_name (i := 3) sc_l_text.nd rfl (Or.inl rfl)) (fun _ _ _ _ _ => pts_nil) (fun _ _ _ _ _ => (pe_callTy call_str_int (by rfl) t_str (by decide +kernel) (pa_cons (pv 3) pa_nil)))))) pa_nil)))))))
    (pss_one (ps_ret (pe_join pe_str (pv 1)))))), ?_⟩
  refine ⟨_, rfl, a, _, _, _, rfl, rfl, .inr ha, atI_nat (j := 1) rfl, _, rfl, num_log g.w0 g.w1, _, _, rfl, rfl, ?_, ?_⟩
  · have := num_len g.w0 g.w1
    have e : ("plan " : Str).length = 5 := by decide +kernel
    rw [e]
    exact sz (by show 5 + (numS pl.w).length ≤ _; omega)
  refine ⟨⟨_, rfl⟩, szr, fun l1 H1 n1 s1 h1 => ?_⟩
  refine ⟨_, rfl, a, _, _, _, rfl, rfl, .inr (s1 _ _ ha), atI_nat (j := 0) rfl, ca, rfl, ⟨_, SqT.of (s1 _ _ hca)⟩, fun D hD => lc_tup (K := K) (a := ca) (xs := ivs pl.cs) (fun i H' => Same H1 H' ∧ H' D = some (.lst (svs ((pl.cs.map numS).take i)))) ?_ ?_ ?_ ?_⟩
  · exact ⟨same_new hD, upd_same⟩
  · rintro i H' _ ⟨s2, _⟩
    exact SqT.of (s2 _ _ (s1 _ _ hca))
  · rintro i y H' hx ⟨s2, h2⟩
    have il : i < pl.cs.length := by rw [← ivs_len]; exact (List.getElem?_eq_some_iff.mp hx).1
    rw [ivs_get il] at hx
    cases hx
    have hz := g.cb _ (List.getElem_mem il)
    refine ⟨rfl, _, rfl, _, rfl, num_log hz.1 hz.2, _, h2, szl (by rw [svs_len, List.length_take, List.length_map]; omega), same_mut s2 hD, ?_⟩
    rw [upd_same, List.take_add_one, List.getElem?_map, List.getElem?_eq_getElem il, svs_app]
    rfl
  rintro H2 ⟨s2, h2⟩
  rw [ivs_len, List.take_of_length_le (by rw [List.length_map]; omega)] at h2
  refine ⟨l1, D, _, _, rfl, rfl, s2 _ _ h1, h2, sz (by rw [svs_len, List.length_map]; show 1 + _ ≤ _; omega), fun l2 H3 n3 s3 h3 => ?_⟩
  refine ⟨_, l2, "base" :: pl.cs.map numS, rfl, rfl, .inl (SqL.of h3), nums_lens (by decide +kernel) (nums_cs g), szr, fun r H4 n4 s4 h4 => ?_⟩
  have h4' : H4 r = some (.lst (svs (lineS "plan" [pl.w] :: lineS "base" pl.cs :: (pl.sts.take 0).map stepS))) := by
    rw [h4, ← plan_line]
    rfl
  have S3 := s1.trans (s2.trans s3)
  have S4 := S3.trans s4
  have nr := S3.free n4
  have rsa : sa ≠ r := (nofree hsa nr).symm
  refine ⟨_, rfl, a, _, _, _, rfl, rfl, .inr (S4 _ _ ha), atI_nat (j := 2) rfl, sa, rfl, ⟨_, SqL.of (S4 _ _ hsa)⟩, for_list (K := K) (a := sa) (xs := xs) (fun i σ' H' => ∃ v2 v3, σ' = [some (.ref a), some (.ref r), v2, v3] ∧ Same H H' ∧ H' r = some (.lst (svs (lineS "plan" [pl.w] :: lineS "base" pl.cs :: (pl.sts.take i).map stepS)))) ?_ ?_ ?_ ?_⟩
  · exact ⟨_, _, rfl, S4, h4'⟩
  · rintro i σ' H' _ ⟨v2, v3, rfl, s5, _⟩
    exact SqL.of (s5 _ _ hsa)
  · rintro i u σ' H' hu ⟨v2, v3, rfl, s5, hr'⟩
    have il : i < xs.length := (List.getElem?_eq_some_iff.mp hu).1
    obtain ⟨st, hs1, hs2⟩ := paired_get (steps_same s5 hst) hu
    have tk : (pl.sts.take (i + 1)).map stepS = (pl.sts.take i).map stepS ++ [stepS st] := by rw [List.take_add_one, hs1, List.map_append]; rfl
    have gst := g.st st (List.mem_of_getElem? hs1)
    have done : ∀ (H6 : Hp) (v2 v3), Same H' H6 → ∃ w2 w3, [some (V.ref a), some (V.ref r), v2, v3] = [some (V.ref a), some (V.ref r), w2, w3] ∧ Same H (upd H6 r (.lst (svs (lineS "plan" [pl.w] :: lineS "base" pl.cs :: (pl.sts.take i).map stepS) ++ [V.str (stepS st)]))) ∧ (upd H6 r (.lst (svs (lineS "plan" [pl.w] :: lineS "base" pl.cs :: (pl.sts.take i).map stepS) ++ [V.str (stepS st)]))) r = some (.lst (svs (lineS "plan" [pl.w] :: lineS "base" pl.cs :: (pl.sts.take (i + 1)).map stepS))) := fun H6 v2 v3 s6 => by
      refine ⟨_, _, rfl, same_mut (s5.trans s6) nr, ?_⟩
      rw [upd_same, tk, ← List.cons_append, ← List.cons_append, svs_app]
      rfl
    have len : (svs (lineS "plan" [pl.w] :: lineS "base" pl.cs :: (pl.sts.take i).map stepS)).length < sizeLine := szl (by rw [svs_len, List.length_cons, List.length_cons, List.length_map, List.length_take]; omega)
    refine ⟨_, rfl, rfl, _, rfl, ?_⟩
    cases st with
    | none =>
      have e : u = V.non := hs2
      subst e
      refine iteT ⟨_, rfl, .inl ⟨rfl, _, SqL.of hr'⟩, r, _, _, rfl, rfl, hr', len, ?_⟩
      exact done _ _ _ (Same.refl _)
    | some fw =>
      obtain ⟨f, ws⟩ := fw
      obtain ⟨t, b, rfl, ht, hb⟩ := hs2
      have wl := gst.2.1
      refine iteF ⟨_, rfl, .inl ⟨rfl, _, SqL.of hr'⟩, ⟨_, rfl⟩, _, rfl, t, _, _, _, rfl, rfl, .inr ht, atI_nat (j := 0) rfl, _, rfl, num_log gst.1.1 gst.1.2, szr, fun l3 H6 n6 s6 h6 => ?_⟩
      refine ⟨_, rfl, t, _, _, _, rfl, rfl, .inr (s6 _ _ ht), atI_nat (j := 1) rfl, b, rfl, ⟨_, SqT.of (s6 _ _ hb)⟩, fun D2 hD2 => lc_tup (K := K) (a := b) (xs := ivs ws) (fun i H' => Same H6 H' ∧ H' D2 = some (.lst (svs ((ws.map numS).take i)))) ?_ ?_ ?_ ?_⟩
      · exact ⟨same_new hD2, upd_same⟩
      · rintro i H' _ ⟨s7, _⟩
        exact SqT.of (s7 _ _ (s6 _ _ hb))
      · rintro i y H' hx ⟨s7, h7⟩
        have il : i < ws.length := by rw [← ivs_len]; exact (List.getElem?_eq_some_iff.mp hx).1
        rw [ivs_get il] at hx
        cases hx
        have hz := gst.2.2 _ (List.getElem_mem il)
        refine ⟨rfl, _, rfl, _, rfl, num_log hz.1 hz.2, _, h7, szl (by rw [svs_len, List.length_take, List.length_map]; omega), same_mut s7 hD2, ?_⟩
        rw [upd_same, List.take_add_one, List.getElem?_map, List.getElem?_eq_getElem il, svs_app]
        rfl
      rintro H7 ⟨s7, h7⟩
      rw [ivs_len, List.take_of_length_le (by rw [List.length_map]; omega)] at h7
      refine ⟨l3, D2, _, _, rfl, rfl, s7 _ _ h6, h7, sz (by rw [svs_len, List.length_map]; show 2 + _ ≤ _; omega), fun l4 H8 n8 s8 h8 => ?_⟩
      exact ⟨_, l4, "write" :: (f :: ws).map numS, rfl, rfl, .inl (SqL.of h8), nums_lens (by decide +kernel) (nums_st gst), r, _, _, rfl, rfl, s8 _ _ (s7 _ _ (s6 _ _ hr')), len, done _ _ _ (s6.trans (s7.trans s8))⟩
  · rintro σ' H5 ⟨v2, v3, rfl, s5, hr'⟩
    rw [xl, List.take_length] at hr'
    refine ⟨⟨_, rfl⟩, _, rfl, _, r, linesS pl.w pl.cs pl.sts, rfl, rfl, .inl (SqL.of hr'), ?_, k H5 s5⟩
    exact sum_lens (k := 300) (m := 42) (lines_len g) (by show (pl.sts.map stepS).length + 1 + 1 ≤ 42; rw [List.length_map]; omega) (by decide) (by decide) (by decide +kernel)
end

theorem mem_joinL {S : List Nat} {c : Nat} : ∀ {ps : List (List Nat)} {p : List Nat}, p ∈ ps → c ∈ p → c ∈ TL.joinL S ps
  | [q], p, h, m => by
    rw [List.mem_singleton.mp h] at m
    exact m
  | q :: q' :: r, p, h, m => by
    show c ∈ q ++ (S ++ TL.joinL S (q' :: r))
    rcases List.mem_cons.mp h with rfl | h
    · exact List.mem_append.mpr (.inl m)
    · exact List.mem_append.mpr (.inr (List.mem_append.mpr (.inr (mem_joinL h m))))
theorem cut_mem {c x : Nat} {l p : List Nat} (h : p ∈ cutN c l) (m : x ∈ p) : x ∈ l := by
  have := mem_joinL (S := [c]) h m
  rw [join_cut] at this
  exact this
theorem joinL_lens {c : Nat} : ∀ {ps : List (List Nat)}, (TL.joinL [c] ps).length ≤ (ps.map fun p => p.length + 1).sum
  | [] => Nat.zero_le _
  | [p] => by
    show p.length ≤ (p.length + 1) + 0
    omega
  | p :: q :: r => by
    have ih := joinL_lens (c := c) (ps := q :: r)
    show (p ++ ([c] ++ TL.joinL [c] (q :: r))).length ≤ (p.length + 1) + ((q :: r).map fun p => p.length + 1).sum
    rw [List.length_append, List.length_append]
    show p.length + (1 + _) ≤ _
    omega
theorem joinL_lens1 {c : Nat} : ∀ {ps : List (List Nat)}, ps ≠ [] → (ps.map fun p => p.length + 1).sum = (TL.joinL [c] ps).length + 1
  | [], h => absurd rfl h
  | [p], _ => rfl
  | p :: q :: r, _ => by
    have ih := joinL_lens1 (c := c) (ps := q :: r) (by simp)
    show (p.length + 1) + ((q :: r).map fun p => p.length + 1).sum = (p ++ ([c] ++ TL.joinL [c] (q :: r))).length + 1
    rw [ih, List.length_append, List.length_append]
    show _ = p.length + (1 + _) + 1
    omega
theorem cut_len {c : Nat} {l p : List Nat} (h : p ∈ cutN c l) : p.length ≤ l.length := by
  have e := joinL_lens1 (c := c) (ps := cutN c l) (by obtain ⟨p, ps, e⟩ := cut_ne c l; rw [e]; simp)
  rw [join_cut] at e
  have := mem_le_sum (List.mem_map.mpr ⟨p, h, rfl⟩ : p.length + 1 ∈ (cutN c l).map fun p => p.length + 1)
  omega
theorem bent_rows {t t' : Str} {c n : Nat} {rs' : List (List Nat)} (h : TxL n t) (e : TL.tl t' = TL.joinL [c] rs') (r : Rows _ (cutN c (TL.tl t)) rs') (hc : c < 256) : TxL (2 * n + 1) t' := by
  have hl := h.len
  rw [TL.len_tl] at hl
  refine ⟨?_, fun x hx => ?_⟩
  · rw [TL.len_tl, e]
    have e1 := joinL_lens1 (c := c) (ps := cutN c (TL.tl t)) (by obtain ⟨p, ps, e⟩ := cut_ne c (TL.tl t); rw [e]; simp)
    rw [join_cut] at e1
    have e2 := (r.map fun p => p.length + 1).sum (k := (TL.tl t).length + 1) fun x hx => by
      obtain ⟨p, hp, rfl⟩ := List.mem_map.mp hx
      have := cut_len hp
      omega
    by_cases z : rs' = []
    · subst z
      exact Nat.zero_le _
    · have e3 := joinL_lens1 (c := c) z
      omega
  · rw [e] at hx
    rcases joinL_mem hx with hx | ⟨p, hp, hx⟩
    · rw [List.mem_singleton.mp hx]
      exact Nat.lt_of_lt_of_le hc (by decide)
    · exact h.chr x (cut_mem (r.mem p hp) hx)
theorem tl_cut_to (z : Str) (n : Nat) : TL.tl (cutS z none (some (n : Int))) = (TL.tl z).take n := by
  unfold cutS
  rw [TL.tl_mk, HT.sIx_none, List.drop_zero, Nat.sub_zero, show HT.sIx z.length z.length (some (n : Int)) = min n z.length from HT.sIx_nat _ _ n]
  show (TL.tl z).take (min n z.length) = _
  rw [TL.len_tl]
  by_cases h : n ≤ (TL.tl z).length
  · rw [Nat.min_eq_left h]
  · rw [Nat.min_eq_right (by omega), List.take_length, List.take_of_length_le (by omega)]
theorem tl_cut_fr (z : Str) (n : Nat) : TL.tl (cutS z (some (n : Int)) none) = (TL.tl z).drop n := by
  unfold cutS
  rw [TL.tl_mk, show HT.sIx z.length 0 (some (n : Int)) = min n z.length from HT.sIx_nat _ _ n, HT.sIx_none]
  show ((TL.tl z).drop (min n z.length)).take (z.length - min n z.length) = _
  rw [TL.len_tl]
  by_cases h : n ≤ (TL.tl z).length
  · rw [Nat.min_eq_left h, List.take_of_length_le (by rw [List.length_drop]; exact Nat.le_refl _)]
  · rw [Nat.min_eq_right (by omega), Nat.sub_self, List.take_zero, List.drop_of_length_le (by omega)]
theorem at2 {x y : V} {d : Int} (h0 : 0 ≤ d) (h1 : d < 2) : ∃ v, atI [x, y] d = some v ∧ (v = x ∨ v = y) := by
  have : d = 0 ∨ d = 1 := by omega
  rcases this with rfl | rfl
  · exact ⟨x, rfl, .inl rfl⟩
  · exact ⟨y, rfl, .inr rfl⟩
theorem rows_sum {y : Str} (hy : y.length = 1) : ∀ {ps : List Str}, (ps.map (·.length)).sum + ps.length * y.length = ((ps.map TL.tl).map fun p => p.length + 1).sum
  | [] => by rw [hy]; rfl
  | p :: ps => by
    have ih := rows_sum hy (ps := ps)
    rw [hy, Nat.mul_one] at ih ⊢
    have e1 : ((p :: ps).map (·.length)).sum = p.length + (ps.map (·.length)).sum := by rw [List.map_cons, List.sum_cons]
    have e2 : (((p :: ps).map TL.tl).map fun p => p.length + 1).sum = ((TL.tl p).length + 1) + ((ps.map TL.tl).map fun p => p.length + 1).sum := by rw [List.map_cons, List.map_cons, List.sum_cons]
    rw [e1, e2, ← ih, ← TL.len_tl, List.length_cons]
    omega
theorem ixn {n m i : Nat} (e : n = m) (h : i < m) : ixN n (i : Int) = some i := by
  subst e
  unfold ixN
  rw [if_pos (by omega), if_pos (by omega)]
  rfl
def signsT : Str := "0123456789 \n-baersitwpln"
theorem signs_chr : ∀ c ∈ TL.tl signsT, c < 16 ^ 8 := by decide +kernel
theorem signs_len : signsT.length = 24 := by decide +kernel
def sp_bent : Sp := fun vs H Q _ => ∃ (q : Pn) (m : Nat) (t : Str) (n : Nat), vs = [.ref q.p, .str t] ∧ Pen q m H ∧ m + 10 < 1000000000000 ∧ TxL n t ∧ n ≤ 20000 ∧
  ∀ t' H', Go q (m + 10) H H' → Bent (TL.tl t) (TL.tl t') → TxL (2 * n + 1) t' → Q (.str t') H'
section
variable {P : Program} {w : World} {K : PySem.W.Frag} {mg : Str → Option Value} {base : Heap}
theorem ok_bent {f : Addr} {fd : FuncData} (F : Fun K "_law_bent" "_law_bent" s_l_bent f fd) (T : Txt mg) (c_l_draw : Cal P w K mg base 2 "_law_draw" ["_law_pen_here", "_law_under"] sp_draw) : FnOk P w K mg base CX0 3 f fd ["_law_pen_here", "_law_text_here"] sp_bent := by
  refine F.ok sc_l_bent (fun vs H Q E h => ?_) (fun cdv A outer s H vs Q E hr h => ?_)
  · obtain ⟨_, _, _, _, rfl, _⟩ := h
    rfl
  obtain ⟨q, m, t, n, rfl, hP, hm, tx, n2, k⟩ := h
  have lt := tx.len
  have ltl : t.length = (TL.tl t).length := TL.len_tl _
  refine ⟨_, (pss_cons (ps_set (i := 2) sc_l_bent.nd rfl (Or.inl rfl) (pe_cal c_l_draw hr (pa_cons (pv 0) (pa_cons pe_int pa_nil))))
    (pss_cons (ps_if (pt_cmpR op_lt (pv 2) pe_int (nomark _))
      (pss_cons (ps_set (i := 3) sc_l_bent.nd rfl (Or.inl rfl) pe_str)
    (pss_cons (ps_set (i := 4) sc_l_bent.nd rfl (Or.inl rfl) (pe_cal c_l_draw hr (pa_cons (pv 0) (pa_cons (pe_op op_add (pe_callB call_len_str (by rfl) T.len (by decide +kernel) (pa_cons (pv 1) pa_nil)) pe_int) pa_nil))))
    (pss_cons (ps_set (i := 5) sc_l_bent.nd rfl (Or.inl rfl) (pe_ix ix_seq' (pe_lst' (pa_cons (pe_ix ix_str (pv 3) (pe_cal c_l_draw hr (pa_cons (pv 0) (pa_cons (pe_callB call_len_str (by rfl) T.len (by decide +kernel) (pa_cons (pv 3) pa_nil)) pa_nil))) (fun _ _ => rfl)) (pa_cons pe_str pa_nil))) (pe_cal c_l_draw hr (pa_cons (pv 0) (pa_cons pe_int pa_nil))) (fun _ _ => rfl)))
    (pss_one (ps_ret (pe_op op_add_str (pe_op op_add_str (pe_slice sl_str (pv 1) po_none (po_some (pv 4))) (pv 5)) (pe_slice sl_str (pv 1) (po_some (pe_op op_add (pv 4) (pe_cal c_l_draw hr (pa_cons (pv 0) (pa_cons pe_int pa_nil))))) po_none)))))))
      pss_nil)
    (pss_cons (ps_set (i := 6) sc_l_bent.nd rfl (Or.inl rfl) (pe_ix ix_seq' (pe_lst' (pa_cons pe_str (pa_cons pe_str pa_nil))) (pe_op op_sub (pv 2) pe_int) (fun _ _ => rfl)))
    (pss_cons (ps_set (i := 7) sc_l_bent.nd rfl (Or.inl rfl) (pe_split (pv 1) (pv 6)))
    (pss_cons (ps_set (i := 4) sc_l_bent.nd rfl (Or.inl rfl) (pe_cal c_l_draw hr (pa_cons (pv 0) (pa_cons (pe_callB call_len' (by rfl) T.len (by decide +kernel) (pa_cons (pv 7) pa_nil)) pa_nil))))
    (pss_cons (ps_set (i := 8) sc_l_bent.nd rfl (Or.inl rfl) (pe_cal c_l_draw hr (pa_cons (pv 0) (pa_cons (pe_callB call_len' (by rfl) T.len (by decide +kernel) (pa_cons (pv 7) pa_nil)) pa_nil))))
    (pss_cons (ps_set (i := 9) sc_l_bent.nd rfl (Or.inl rfl) (pe_cal c_l_draw hr (pa_cons (pv 0) (pa_cons pe_int pa_nil))))
    (pss_cons (ps_cut (ps_if (pt_cmpR op_eq (pv 9) pe_int (nomark _))
      (pss_one (ps_expr (pe_bm PySem.F.plainAttrs_list PySem.F.slot_list_pop PySem.F.type_list_pop mt_popAt (pv 7) (pa_cons (pv 4) pa_nil))))
      (pss_one (ps_if (pt_cmpR op_eq (pv 9) pe_int (nomark _))
      (pss_one (ps_expr (pe_bm PySem.F.plainAttrs_list PySem.F.slot_list_insert PySem.F.type_list_insert mt_insert (pv 7) (pa_cons (pv 4) (pa_cons (pe_ix ix_seq' (pv 7) (pv 8) (fun _ _ => rfl)) pa_nil)))))
      (pss_one (ps_asg (pe_tup' (pa_cons (pe_ix ix_seq' (pv 7) (pv 8) (fun _ _ => rfl)) (pa_cons (pe_ix ix_seq' (pv 7) (pv 4) (fun _ _ => rfl)) pa_nil))) (pg_tup rfl (pgs_cons (pg_sub (pv 7) (pv 4) set_list) (pgs_cons (pg_sub (pv 7) (pv 8) set_list) pgs_nil)))))))))
    (pss_one (ps_ret (pe_join (pv 6) (pv 7)))))))))))), ?_⟩
  refine ⟨_, rfl, q, m, 4, rfl, by decide, by decide, hP, by omega, fun d H1 d0 d1 g1 => ?_⟩
  refine ⟨_, rfl, _, _, rfl, rfl, _, rfl, ite2 (fun y => ?_) (fun y => ?_)⟩
  · -- a sign
    refine ⟨_, rfl, _, rfl, t, rfl, sz (by omega), _, _, rfl, rfl, q, m + 1, _, rfl, by omega, by omega, g1.pen, by omega, fun sp H2 sp0 sp1 g2 => ?_⟩
    obtain ⟨i, rfl⟩ := Int.eq_ofNat_of_zero_le sp0
    have sl24 := signs_len
    refine ⟨_, rfl, _, rfl, _, rfl, signsT, rfl, sz (by omega), q, m + 2, _, rfl, by omega, by omega, g2.pen, by omega, fun j H3 j0 j1 g3 => ?_⟩
    obtain ⟨j, rfl⟩ := Int.eq_ofNat_of_zero_le j0
    have jl : j < (TL.tl signsT).length := by rw [← TL.len_tl]; omega
    refine ⟨signsT, _, (TL.tl signsT)[j], rfl, rfl, sz (by omega), atI_nat (List.getElem?_eq_getElem jl), ?_⟩
    refine ⟨szr, fun l1 H4 n4 s4 h4 => ?_⟩
    have nl := g3.pen.free n4
    refine ⟨_, rfl, q, m + 3, 2, rfl, by decide, by decide, g3.pen.same s4, by omega, fun e H5 e0 e1 g5 => ?_⟩
    obtain ⟨v, hv, hv2⟩ := at2 (x := .str ⟨#[(TL.tl signsT)[j]]⟩) (y := .str "") e0 e1
    obtain ⟨p, rfl, pl, pc⟩ : ∃ p : Str, v = .str p ∧ (TL.tl p).length ≤ 1 ∧ ∀ c ∈ TL.tl p, c < 16 ^ 8 := by
      rcases hv2 with rfl | rfl
      · refine ⟨_, rfl, Nat.le_refl 1, fun c hc => ?_⟩
        rw [List.mem_singleton.mp hc]
        exact signs_chr _ (List.getElem_mem jl)
      · exact ⟨_, rfl, Nat.zero_le 1, fun c hc => by cases hc⟩
    refine ⟨l1, _, _, _, rfl, rfl, .inl (g5.kp.lst nl.1 h4), hv, ?_⟩
    have c1 : (cutS t none (some (i : Int))).length ≤ t.length := cutS_length _ _ _
    have ppl : p.length ≤ 1 := by rw [TL.len_tl]; exact pl
    refine ⟨_, rfl, _, rfl, _, rfl, t, rfl, sz (by omega), _, rfl, _, _, rfl, rfl, sz (by omega), ?_⟩
    have g6 := (((g1.trans (g2.trans g3)).same s4).trans g5)
    refine ⟨_, rfl, _, rfl, _, rfl, q, m + 4, 2, rfl, by decide, by decide, g5.pen, by omega, fun e2 H6 f0 f1 g7 => ?_⟩
    obtain ⟨dd, rfl⟩ := Int.eq_ofNat_of_zero_le f0
    have c2 : (cutS t (some ((i : Int) + (dd : Int))) none).length ≤ t.length := cutS_length _ _ _
    have c3 : (cutS t none (some (i : Int)) ++ p : Str).length ≤ t.length + 1 := PySem.W.KT.len_app c1 ppl
    have e : TL.tl ((cutS t none (some (i : Int)) ++ p) ++ cutS t (some ((i : Int) + (dd : Int))) none) = (TL.tl t).take i ++ TL.tl p ++ (TL.tl t).drop (i + dd) := by
      rw [TL.tl_append, TL.tl_append, tl_cut_to, show (i : Int) + (dd : Int) = ((i + dd : Nat) : Int) from rfl, tl_cut_fr]
    refine ⟨_, _, rfl, rfl, _, rfl, t, rfl, sz (by omega), _, _, rfl, rfl, sz (by omega), k _ H6 ((g6.trans g7).mono (by omega)) ?_ ⟨?_, fun c hc => ?_⟩⟩
    · rw [e]
      exact .sign i dd _ pl (by omega)
    · rw [TL.len_tl, e, List.length_append, List.length_append, List.length_take, List.length_drop]
      omega
    · rw [e] at hc
      rcases List.mem_append.mp hc with hc | hc
      · rcases List.mem_append.mp hc with hc | hc
        · exact tx.chr c (List.mem_of_mem_take hc)
        · exact pc c hc
      · exact tx.chr c (List.mem_of_mem_drop hc)
  · -- words or lines
    have d2 : 2 ≤ d := by
      have : ¬ d < 2 := fun z => y (decide_eq_true z)
      omega
    refine ⟨szr, fun l1 H2 n2' s2 h2 => ?_⟩
    have g2 := g1.same s2
    obtain ⟨v, hv, hv2⟩ := at2 (x := .str " ") (y := .str "\n") (d := d - 2) (by omega) (by omega)
    obtain ⟨y, c, rfl, hy, hc, yl, bt⟩ : ∃ (y : Str) (c : Nat), v = .str y ∧ TL.tl y = [c] ∧ c < 256 ∧ (y.length == 0) = false ∧ ∀ rs', Rows _ (cutN c (TL.tl t)) rs' → Bent (TL.tl t) (TL.joinL [c] rs') := by
      rcases hv2 with rfl | rfl
      · exact ⟨_, 32, rfl, tl_blank, by decide, by decide +kernel, fun rs' h => .word rs' h⟩
      · exact ⟨_, 10, rfl, tl_break, by decide, by decide +kernel, fun rs' h => .line rs' h⟩
    refine ⟨_, rfl, _, _, rfl, rfl, l1, _, _, _, rfl, rfl, .inl h2, hv, ?_⟩
    have sp := PyProof.Rows.split_pos t y
    have sl := PyProof.Rows.split_le t y
    have sc := split_cut (t := t) hy hc
    refine ⟨_, rfl, ⟨_, rfl⟩, _, rfl, _, _, rfl, rfl, yl, sz (by omega), fun p hp => ?_⟩
    generalize Txt.split t y = ps at sp sl sc
    have np := g2.pen.free hp
    have pn := g2.none hP hp
    have g3 : Go q (m + 1) H (upd H2 p (.lst (svs ps))) := g2.same (same_new hp)
    have h3 : (upd H2 p (.lst (svs ps))) p = some (.lst (svs ps)) := upd_same
    show gName 7 _ _ (upd H2 p (.lst (svs ps))) _
    generalize upd H2 p (.lst (svs ps)) = H3 at g3 h3
    have lps : (svs ps).length = ps.length := svs_len ps
    refine ⟨_, rfl, _, rfl, p, _, rfl, .inl h3, q, m + 1, _, rfl, by omega, by omega, g3.pen, by omega, fun i H4 i0 i1 g4 => ?_⟩
    have h4 := g4.kp.lst np.1 h3
    refine ⟨_, rfl, _, rfl, p, _, rfl, .inl h4, q, m + 2, _, rfl, by omega, by omega, g4.pen, by omega, fun j H5 j0 j1 g5 => ?_⟩
    have h5 := g5.kp.lst np.1 h4
    refine ⟨_, rfl, q, m + 3, 3, rfl, by decide, by decide, g5.pen, by omega, fun tn H6 tn0 tn1 g6 => ?_⟩
    have h6 := g6.kp.lst np.1 h5
    obtain ⟨i, rfl⟩ := Int.eq_ofNat_of_zero_le i0
    obtain ⟨j, rfl⟩ := Int.eq_ofNat_of_zero_le j0
    have il : i < ps.length := by omega
    have jl : j < ps.length := by omega
    have ei : (svs ps)[i]? = some (.str ps[i]) := by unfold svs; rw [List.getElem?_map, List.getElem?_eq_getElem il]; rfl
    have ej : (svs ps)[j]? = some (.str ps[j]) := by unfold svs; rw [List.getElem?_map, List.getElem?_eq_getElem jl]; rfl
    have G6 := ((g3.trans g4).trans g5).trans g6
    refine ⟨fun σ' H' => ∃ rs', σ' = [some (.ref q.p), some (.str t), some (.int d), none, some (.int (i : Nat)), none, some (.str y), some (.ref p), some (.int (j : Nat)), some (.int tn)] ∧ Go q (m + 4) H H' ∧ Rows Str ps rs' ∧ H' p = some (.lst (svs rs')), ?_, ?_⟩
    · refine ⟨_, rfl, rfl, _, rfl, ite2 (fun _ => ?_) (fun _ => ?_)⟩
      · refine ⟨_, rfl, .inl ⟨rfl, _, SqL.of h6⟩, _, rfl, p, _, (i : Int), i, _, rfl, rfl, h6, by omega, by omega, ?_, ei, ?_⟩
        · unfold seqIndex?
          rw [if_neg (show ¬ (i : Int) < 0 by omega), lps]
          rw [if_pos (by rw [decide_eq_true (show (0 : Int) ≤ (i : Int) by omega), decide_eq_true (show (i : Int) < (ps.length : Int) by omega)]; rfl)]
          rfl
        · exact ⟨ps.eraseIdx i, rfl, Go.mut hP pn G6, .pop i il, by rw [upd_same]; unfold svs; rw [erase_map]⟩
      · refine ⟨_, rfl, rfl, _, rfl, ite2 (fun _ => ?_) (fun _ => ?_)⟩
        · refine ⟨_, rfl, .inl ⟨rfl, _, SqL.of h6⟩, _, rfl, _, rfl, _, rfl, p, _, _, _, rfl, rfl, .inl h6, atI_nat ej, p, _, _, _, rfl, rfl, h6, szl (by omega), by omega, by omega, ?_⟩
          refine ⟨ps.take i ++ ps[j] :: ps.drop i, rfl, Go.mut hP pn G6, .ins i j _ il (List.getElem?_eq_getElem jl), ?_⟩
          rw [upd_same, Int.toNat_natCast]
          unfold svs
          rw [List.map_append, List.map_cons, List.map_take, List.map_drop, List.append_assoc]
          rfl
        · refine ⟨_, rfl, _, rfl, p, _, _, _, rfl, rfl, .inl h6, atI_nat ej, _, rfl, _, rfl, p, _, _, _, rfl, rfl, .inl h6, atI_nat ei, szr, fun tt H7 n7 s7 h7 => ?_⟩
          refine ⟨tt, _, rfl, SqT.of h7, rfl, _, _, rfl, _, rfl, _, rfl, p, _, _, i, rfl, rfl, s7 _ _ h6, ixn lps il, ?_⟩
          refine ⟨_, _, rfl, _, rfl, _, rfl, p, _, _, j, rfl, rfl, upd_same, ixn (by rw [List.length_set, lps]) jl, ?_⟩
          refine ⟨rfl, (ps.set i ps[j]).set j ps[i], rfl, Go.mut hP pn (Go.mut hP pn (G6.same s7)), .swap i j _ _ (List.getElem?_eq_getElem il) (List.getElem?_eq_getElem jl), ?_⟩
          rw [upd_same]
          unfold svs
          rw [List.map_set, List.map_set]
    · rintro _ H7 ⟨rs', rfl, g7, rw', h7⟩
      have rt : Rows _ (cutN c (TL.tl t)) (rs'.map TL.tl) := by
        have := rw'.map TL.tl
        rw [sc] at this
        exact this
      have e : TL.tl (Txt.join y rs') = TL.joinL [c] (rs'.map TL.tl) := by rw [tl_joinT, hy]
      refine ⟨_, rfl, ⟨_, rfl⟩, _, rfl, _, p, rs', rfl, rfl, .inl (SqL.of h7), ?_, k _ H7 (g7.mono (by omega)) (by rw [e]; exact bt _ rt) (bent_rows tx e rt hc)⟩
      have e0 := rows_sum (ps := rs') (y := y) (by rw [TL.len_tl, hy]; rfl)
      rw [e0]
      have e1 := joinL_lens1 (c := c) (ps := cutN c (TL.tl t)) (by obtain ⟨p, ps, e⟩ := cut_ne c (TL.tl t); rw [e]; simp)
      rw [join_cut] at e1
      have e2 := (rt.map fun p => p.length + 1).sum (k := (TL.tl t).length + 1) fun x hx => by
        obtain ⟨p, hp, rfl⟩ := List.mem_map.mp hx
        have := cut_len hp
        omega
      omega
end
end Af

set_option Elab.async false
set_option linter.all false
set_option maxRecDepth 100000
set_option maxHeartbeats 2000000
namespace Af
open PySem PySem.Calls PySem.Spec PyProof.Rows L2
/-! len(x) of an instance whose class has its own __len__ -/
structure LenC (K : PySem.W.Frag) (C f : Addr) : Prop where
  ln : PySem.W.findIn K (.ref C) "__len__" = some (some (.ref f))
  fn : PySem.W.isFn K (.ref f) = true
def rLenO (C : Addr) (sp : Sp) : List V → Hp → VK → Prop := fun xs H Q => ∃ a dx fs, xs = [.ref a] ∧ H a = some (.ins C dx fs) ∧ sp [.ref a] H (fun v H' => ∃ n : Nat, v = .int (n : Int) ∧ (n : Int) < 2 ^ 63 ∧ Q (.int (n : Int)) H') E0
section
variable {X : Cx} {C f : Addr} {fd : FuncData} {ps : List Str} {sp : Sp} {k n : Nat}
theorem own_run1 (G : FnOk X.prog X.w X.K X.mg X.base CX0 k f fd ps sp) (hb : Binds X.K fd ps []) {A : Around} (hr : Room k A) (hA : A.frames = X.A.frames) {pins : List (Addr × Obj)} {s : Shared} {σ : L2.St} {H : Hp} {x : V} {v : Value} (I : Inv X pins σ H s) (rx : RelV x v)
    {Q : VK} (hq : sp [x] H Q E0) : wpAny (model X.prog X.w) A (call (.ref f) [v]) (fun r s' => EP X pins σ Q r s') X.xe s := by
  have e0 : Env0 X.prog X.w X.K X.mg X.base A X.stack s H := by
    have e := I.env0
    exact ⟨by rw [hA]; exact e.frames, e.mod, e.bs, e.bsz, e.funs, e.frf, e.hok, e.bare⟩
  have hl := G.len _ _ _ _ hq
  refine wpAny_call (codeAny_mono (G.run A X.stack s H ⟨[v], []⟩ [v] [x] _ E0 hr e0 (by
    have := hb s [v] I.kIn (by simpa using hl)
    simpa using this) (.cons rx .nil) hq) fun r s' z => ?_)
  cases r with
  | error e => exact pass0 pins σ H s e s' I z
  | ok fl =>
    cases fl with
    | ret w => exact I.after z
    | next => exact False.elim z
    | brk => exact False.elim z
    | cont => exact False.elim z
theorem call_lenO (O : LenC X.K C f) (G : FnOk X.prog X.w X.K X.mg X.base CX0 k f fd ps sp) (hb : Binds X.K fd ps []) (hr : Room n X.A) (hkn : k + 1 ≤ n := by decide) : CallR X (.builtin "len") (rLenO C sp) := by
  intro pins s σ H xs us Q I r h
  obtain ⟨a, dx, fs, rfl, ha, q⟩ := h
  obtain rfl := Vals.ref1 r
  obtain ⟨mA, J, _⟩ := ins_get I.hok ha
  obtain ⟨od, J, _⟩ := J.look
  have KI := I.kIn
  refine Calls.call_function_entry kind_len plain_len entry_len (args_len1 _) ?_
  unfold Builtin.«len»
  refine wpAny_bind (m := oneArg "len" _) (wpAny_pure ?_)
  refine wpAny_bind (m := callSpecial? (.ref a) (PySem.Str.ofString "__len__")) (PySem.W.special_fn KI J O.ln (beq_iff_eq.mp O.fn) (wpAny_mono (own_run1 G hb (A := X.A.in1) ((hr.mono hkn).in1) rfl (x := .ref a) I rfl q) (fun v s' z => ?_) fun _ _ z => z))
  obtain ⟨v', H', I', rv, m, e, hm, z⟩ := z
  subst e
  obtain ⟨t, rfl⟩ := rv
  refine wpAny_bind (wpAny_holding (wpAny_pure ?_))
  refine wpAny_bind (wpAny_letGo ?_)
  show wpAny _ _ (if ((m : Nat) : Int) < 0 then _ else _) _ _ _
  rw [if_neg (by omega)]
  show wpAny _ _ (if ((m : Nat) : Int) ≥ 2 ^ 63 then _ else _) _ _ _
  rw [if_neg (by omega)]
  exact wpAny_bind (wpAny_mkInt (wpAny_pure ⟨_, rfl, .int (m : Int), H', I'.tok _, ⟨_, rfl⟩, z⟩))
end
end Af

set_option Elab.async false
set_option linter.all false
set_option maxRecDepth 100000
namespace Af
open PySem PySem.Spec PyProof.Rows L2
/-! a method without arguments called where its error is caught; objects that change, and the heap without them -/
section
variable {X : Cx} {CX : CXT} {k : Nat} {f C : Addr} {fd : FuncData} {ps : List Str} {sp : Sp} {E : L2.St → XK} {m : Str} {pos apos : Pos} {o : Expr} {ta : TE}
theorem pe_meth0X {pl : Sem Bool} (he : PE X o ta) (c : Cls X.K C) (hm : Meth X.K C m f) (F : FnOk X.prog X.w X.K X.mg X.base CX k f fd ps sp) (room : Room k X.A) (b : Binds X.K fd ps []) (out : ∀ σ, PassesAt CX X σ (E σ))
    (h3 : eval (.Call (.Attribute o m apos) [] [] pos) X.env = (do
      let v ← eval o X.env
      standAt apos.atName
      let (g, own) ← holding [v] (getMethod v m pl)
      callWith pos g own (backTo pos (starEach [] X.env)) (backToKw pos (keywordEach [] X.env))) := by rfl) :
    PE X (.Call (.Attribute o m apos) [] [] pos) (tMethX C m sp E ta tNil) := by
  refine ⟨fun pins s σ H Q I h => PySem.W.methodCall_KW (pl := pl) (thn (he.run pins s σ H _ I h) fun u s1 z => ?_) h3⟩
  obtain ⟨x, G, I1, rx, a, dx, fs, ex, ea, l, q⟩ := z
  subst ex
  obtain rfl : u = Value.ref a := rx
  refine getmeth_ok I1 ea c hm l (PySem.W.callWith_K0 (first := [.ref a]) I1.kIn hm.kp ?_)
  exact run_fnS (us := [.ref a]) (vs := [.ref a]) F room b (out σ) I1 (.cons rfl .nil) q
theorem pass0A : ∀ σ, PassesAt CX0 X σ ((fun _ => E0) σ) := fun _ _ _ _ _ _ _ h => h.elim
end
/-- an own class, its fields' names -/
structure ObjC (K : PySem.W.Frag) (mg : Str → Option Value) (n : Str) (C : Addr) (fs : List Str) : Prop where
  cl : Cls K C
  no : ∀ f ∈ fs, NoAttr K C f
  mgC : mg n = some (.ref C)
/-- the heap without what stands at L -/
def hl (L : List Addr) (H : Hp) : Hp := fun a => if a ∈ L then none else H a
theorem hl_at {L : List Addr} {H : Hp} {a : Addr} (h : a ∉ L) : hl L H a = H a := if_neg h
theorem hl_in {L : List Addr} {H : Hp} : Same (hl L H) H := fun a o e => by
  unfold hl at e
  by_cases m : a ∈ L
  · rw [if_pos m] at e
    cases e
  · rw [if_neg m] at e
    exact e
theorem hl_not {L : List Addr} {H : Hp} {a : Addr} {o : HO} (e : hl L H a = some o) : a ∉ L := fun m => by
  unfold hl at e
  rw [if_pos m] at e
  cases e
theorem hl_same {L : List Addr} {H H' : Hp} (s : Same H H') : Same (hl L H) (hl L H') := fun a o e => by
  have n := hl_not e
  rw [hl_at n] at e ⊢
  exact s a o e
/-- all stands but what is named -/
def Fr (M : List Addr) (H H' : Hp) : Prop := ∀ a o, a ∉ M → H a = some o → H' a = some o
theorem Fr.refl {M : List Addr} {H : Hp} : Fr M H H := fun _ _ _ e => e
theorem Fr.trans {M : List Addr} {H H1 H2 : Hp} (a : Fr M H H1) (b : Fr M H1 H2) : Fr M H H2 := fun c o n e => b c o n (a c o n e)
theorem Fr.of {M : List Addr} {H H' : Hp} (s : Same H H') : Fr M H H' := fun a o _ e => s a o e
theorem Fr.mono {M N : List Addr} {H H' : Hp} (f : Fr M H H') (h : ∀ a ∈ M, a ∈ N) : Fr N H H' := fun a o n e => f a o (fun m => n (h a m)) e
theorem Fr.hl {M L : List Addr} {H H' : Hp} (f : Fr M H H') (h : ∀ a ∈ M, a ∈ L) : Same (hl L H) (Af.hl L H') := fun a o e => by
  have n := hl_not e
  rw [hl_at n] at e ⊢
  exact f a o (fun m => n (h a m)) e
theorem Fr.upd {M : List Addr} {H H' : Hp} {a : Addr} {o : HO} (f : Fr M H H') (h : a ∈ M) : Fr M H (L2.upd H' a o) := fun b u n e => by
  rw [upd_ne (fun z => n (by rw [z]; exact h))]
  exact f b u n e
theorem Fr.kp {p : Addr} {H H' : Hp} (k : Kp p H H') : Fr [p] H H' := fun a o n e => k a o (.inl fun z => n (by rw [z]; exact List.mem_singleton.mpr rfl)) e
/-- more is hidden that is new -/
theorem hl_more {L N : List Addr} {H H' : Hp} (s : Same (hl L H) (hl L H')) (n : ∀ a ∈ N, H a = none) : Same (hl L H) (hl (N ++ L) H') := fun a o e => by
  have nl := hl_not e
  have e2 := s a o e
  have e1 := hl_in _ _ e
  rw [hl_at nl] at e2
  rw [hl_at (fun m => ?_)]
  · exact e2
  · rcases List.mem_append.mp m with m | m
    · rw [n a m] at e1
      cases e1
    · exact nl m
/-- what is hidden: lists, and instances of the class R -/
def Lok (R : Addr) (L : List Addr) (H : Hp) : Prop := ∀ a ∈ L, (∃ xs, H a = some (.lst xs)) ∨ ∃ dx fs, H a = some (.ins R dx fs)
theorem Lok.same {R : Addr} {L : List Addr} {H H' : Hp} (h : Lok R L H) (s : Same H H') : Lok R L H' := fun a m => by
  rcases h a m with ⟨xs, e⟩ | ⟨dx, fs, e⟩
  · exact .inl ⟨xs, s _ _ e⟩
  · exact .inr ⟨dx, fs, s _ _ e⟩
theorem Lok.upd {R : Addr} {L : List Addr} {H : Hp} {a : Addr} {o : HO} (h : Lok R L H) (n : (∃ xs, o = .lst xs) ∨ ∃ dx fs, o = .ins R dx fs) : Lok R L (L2.upd H a o) := fun b m => by
  by_cases e : b = a
  · subst e
    rw [upd_same]
    rcases n with ⟨xs, rfl⟩ | ⟨dx, fs, rfl⟩
    · exact .inl ⟨xs, rfl⟩
    · exact .inr ⟨dx, fs, rfl⟩
  · rw [upd_ne e]
    exact h b m
theorem Lok.new {R : Addr} {L : List Addr} {H : Hp} {a : Addr} (h : Lok R L H) (n : H a = none) : a ∉ L := fun m => by
  rcases h a m with ⟨xs, e⟩ | ⟨dx, fs, e⟩ <;> (rw [n] at e; cases e)
theorem Lok.tup {R : Addr} {L : List Addr} {H : Hp} {a : Addr} {xs : List V} (h : Lok R L H) (n : H a = some (.tup xs)) : a ∉ L := fun m => by
  rcases h a m with ⟨xs, e⟩ | ⟨dx, fs, e⟩ <;> (rw [n] at e; cases e)
theorem Lok.ins {R C : Addr} {L : List Addr} {H : Hp} {a dx : Addr} {fs : List (Str × V)} (h : Lok R L H) (n : H a = some (.ins C dx fs)) (ne : C ≠ R) : a ∉ L := fun m => by
  rcases h a m with ⟨xs, e⟩ | ⟨dx, fs, e⟩
  · rw [n] at e; cases e
  · rw [n] at e
    have := Option.some.inj e
    injection this with this
    exact ne this
theorem Lok.app {R : Addr} {L N : List Addr} {H : Hp} (h : Lok R L H) (n : Lok R N H) : Lok R (N ++ L) H := fun a m => by
  rcases List.mem_append.mp m with m | m
  · exact n a m
  · exact h a m
theorem putF_len {f : Str} {v u : V} : ∀ {fs : List (Str × V)}, fs.lookup f = some u → (putF f v fs).length = fs.length
  | [], h => by cases h
  | (g, x) :: r, h => by
    unfold putF
    by_cases e : g = f
    · rw [if_pos e]
      rfl
    · rw [if_neg e, List.length_cons, List.length_cons]
      congr 1
      refine putF_len (f := f) (v := v) (u := u) ?_
      rw [List.lookup_cons] at h
      have : (f == g) = false := by simpa using fun z => e z.symm
      rw [this] at h
      exact h
theorem nd_len : ∀ (n : Nat) (l : List Nat), l.Nodup → (∀ k ∈ l, k < n) → l.length ≤ n
  | 0, [], _, _ => Nat.le_refl _
  | 0, x :: _, _, h => absurd (h x List.mem_cons_self) (Nat.not_lt_zero _)
  | n + 1, l, nd, h => by
    have ih := nd_len n (l.erase n) (nd.erase n) fun k hk => by
      have h1 := h k (List.mem_of_mem_erase hk)
      have h2 : k ≠ n := fun e => by
        rw [e] at hk
        exact nd.not_mem_erase hk
      omega
    by_cases m : n ∈ l
    · rw [List.length_erase_of_mem m] at ih
      omega
    · rw [List.erase_of_not_mem m] at ih
      omega
end Af

set_option Elab.async false
set_option linter.all false
set_option maxRecDepth 100000
set_option maxHeartbeats 4000000
namespace Af
open PySem L2
abbrev s_l_handed_on : Stmt := top 66
abbrev N_l_handed_on : List Str := ["_law_found", "_law_plan_here", "_law_parts_here", "_law_some", "_law_k"]
theorem sc_l_handed_on : FnScope N_l_handed_on ["_law_found", "_law_plan_here"] (defScope s_l_handed_on) := ⟨rfl, rfl, rfl, by decide +kernel, rfl, by decide +kernel, by decide +kernel⟩

/-! pieces as data -/
def pieceD (p : Int × (Int × List Int)) : PyData := .tuple [.int p.1, .int p.2.1, .tuple (dvs p.2.2)]
theorem dp_pieces {K : PySem.W.Frag} {H : Hp} : ∀ {xs : List V} {ps : List (Int × (Int × List Int))}, Paired (PieceA H) xs ps → DpAll K H xs (ps.map pieceD)
  | _, _, .nil => .nil
  | _, _, .cons h t => by
    obtain ⟨t', b, rfl, h1, h2⟩ := h
    exact .cons (.tup (SqT.of h1) (.cons (.int _) (.cons (.int _) (.cons (.tup (SqT.of h2) (dp_ints _)) .nil)))) (dp_pieces t)
theorem lay_pieces : ∀ ps : List (Int × (Int × List Int)), PyData.canLayAll0 (ps.map pieceD) = true ∧ PyData.depthAll (ps.map pieceD) ≤ 2
  | [] => ⟨rfl, by decide⟩
  | p :: ps => by
    obtain ⟨h3, h4⟩ := lay_pieces ps
    refine ⟨?_, ?_⟩
    · show (PyData.canLay0 (pieceD p) && PyData.canLayAll0 (ps.map pieceD)) = true
      rw [h3]
      show ((true && (true && (PyData.canLayAll0 (dvs p.2.2) && true))) && true) = true
      rw [lay_ints]
      rfl
    · show max (PyData.depth (pieceD p)) (PyData.depthAll (ps.map pieceD)) ≤ 2
      have e : PyData.depth (pieceD p) = max 0 (max 0 (max (PyData.depthAll (dvs p.2.2) + 1) 0)) + 1 := rfl
      rw [e, deep_ints]
      show max (max 0 (max 0 (max (0 + 1) 0)) + 1) _ ≤ 2
      omega
theorem sh_pieces (ps : List (Int × (Int × List Int))) : SeqAt.shaped (.list (ps.map pieceD)) = true := by
  obtain ⟨h1, h2⟩ := lay_pieces ps
  show (PyData.canLayAll0 (ps.map pieceD) && decide (PyData.depthAll (ps.map pieceD) + 1 ≤ 64)) = true
  rw [h1, decide_eq_true (by omega)]
  rfl
theorem eqv_pieces (ps : List (Int × (Int × List Int))) : PyData.eqv (.list (ps.map pieceD)) (.list (ps.map pieceD)) = true := PySem.SeqAt.eqv_refl _ (Bool.and_eq_true_iff.mp (sh_pieces ps)).1
/-- the pieces of the first epoch, up to one -/
def zU (es : List Int) (n : Nat) : List Nat := (List.range n).filter fun k => decide (gE es k = 0)
theorem zU_succ (es : List Int) (n : Nat) : zU es (n + 1) = zU es n ++ (if gE es n = 0 then [n] else []) := by
  unfold zU
  rw [List.range_succ, List.filter_append]
  congr 1
  by_cases h : gE es n = 0
  · rw [if_pos h]; simp [h]
  · rw [if_neg h]; simp [h]
theorem zU_in {es : List Int} {n k : Nat} (h : k ∈ zU es n) : k < n ∧ gE es k = 0 := by
  unfold zU at h
  obtain ⟨h1, h2⟩ := List.mem_filter.mp h
  exact ⟨List.mem_range.mp h1, of_decide_eq_true h2⟩
theorem zU_len (es : List Int) (n : Nat) : (zU es n).length ≤ n := by
  have := List.length_filter_le (fun k => decide (gE es k = 0)) (List.range n)
  rw [List.length_range] at this
  exact this
theorem zU_nodup (es : List Int) (n : Nat) : (zU es n).Nodup := (List.pairwise_lt_range (n := n)).imp (fun h => Nat.ne_of_lt h) |>.filter _
theorem zU_law {es : List Int} (h0 : ∀ j, 0 ≤ gE es j) : lawB es (zU es es.length).reverse = true := by
  have nd : (zU es es.length).reverse.Nodup := List.pairwise_reverse.mpr ((zU_nodup es es.length).imp fun h => Ne.symm h)
  have al : ∀ k ∈ (zU es es.length).reverse, gE es k = 0 := fun k hk => (zU_in (List.mem_reverse.mp hk)).2
  generalize (zU es es.length).reverse = ls at nd al
  unfold lawB
  refine List.all_eq_true.mpr fun k hk => ?_
  have hk := List.mem_range.mp hk
  rw [okAt_iff hk]
  refine ⟨fun m => ?_, fun j _ h => ?_⟩
  · obtain ⟨i, hi, e⟩ := List.mem_iff_getElem.mp m
    rw [List.length_take] at hi
    rw [List.getElem_take] at e
    exact List.pairwise_iff_getElem.mp nd i k (by omega) hk (by omega) e
  · have e := al _ (List.getElem_mem hk)
    have := h0 j
    omega
theorem rkP_nn (pl : Pl) (j : Nat) : 0 ≤ gE (rkP pl) j := by
  unfold gE
  rw [List.getD_eq_getElem?_getD]
  by_cases h : j < (rkP pl).length
  · rw [List.getElem?_eq_getElem h]
    show 0 ≤ (rkP pl)[j]
    obtain ⟨p, _, e⟩ := List.mem_map.mp (show (rkP pl)[j] ∈ (allP pl.w 0 pl.sts).map _ from List.getElem_mem h)
    rw [← e]
    omega
  · rw [List.getElem?_eq_none (by omega)]
    exact Int.le_refl _
theorem nvs_rev (ls : List Nat) : (nvs ls).reverse = nvs ls.reverse := by
  unfold nvs ivs
  rw [List.map_reverse, List.map_reverse]
theorem PlanF.wt {C t sl ql el : Addr} {H : Hp} {x : V} {pl : Pl} {l : List V} (f : PlanF C H x pl sl ql el) (ht : H t = some (.tup l)) : PlanW t C H x pl := by
  obtain ⟨a, ca, xs, ys, e, ⟨_, h3, h4, h5⟩, _⟩ := f.ex
  refine ⟨sl, ql, el, f, fun z => ?_, fun z => ?_, fun z => ?_⟩
  · rw [z, ht] at h3; cases h3
  · rw [z, ht] at h4; cases h4
  · rw [z, ht] at h5; cases h5
def sp_handed (C : Addr) : Sp := fun vs H Q _ => ∃ (x v : V) (pl : Pl) (sl ql el : Addr), vs = [x, v] ∧ PlanF C H x pl sl ql el ∧ PlanT H v pl ∧ pl.sts.length ≤ 39 ∧ ∀ H', Same H H' → Q (.bl true) H'
section
variable {P : Program} {w : World} {K : PySem.W.Frag} {mg : Str → Option Value} {base : Heap}
theorem ok_handed {f C CE fE fI fW fV : Addr} {fd fdE fdI fdW fdV : FuncData} (F : Fun K "_law_handed_on" "_law_handed_on" s_l_handed_on f fd) (T : Txt mg) (TC : PlanC K mg C) (O : OwnEqC K C fE)
    (G_eq : FnOk P w K mg base CX0 1 fE fdE ["self", "other"] (sp_eq K C)) (b_eq : Binds K fdE ["self", "other"] [])
    (P_pieces : PropC P w K mg base C "pieces" (sp_p_pieces C)) (M_eo : Meth K C "epoch_of" fI) (G_eo : FnOk P w K mg base (L2.CX P w) 3 fI fdI ["self", "piece"] (sp_epoch_of K C CE)) (b_eo : Binds K fdI ["self", "piece"] [])
    (M_wi : Meth K C "with_step" fW) (G_wi : FnOk P w K mg base CX0 8 fW fdW ["self", "index", "step"] (sp_wi C)) (b_wi : Binds K fdW ["self", "index", "step"] [])
    (M_wo : Meth K C "without_step" fV) (G_wo : FnOk P w K mg base CX0 8 fV fdV ["self", "index"] (sp_wo C)) (b_wo : Binds K fdV ["self", "index"] [])
    (c_l_parts : Cal P w K mg base 2 "_law_parts" ["_law_plan_here"] sp_partsX) (c_l_ranks : Cal P w K mg base 3 "_law_ranks" ["_law_plan_here"] sp_ranks)
    (c_content_after : Cal P w K mg base 7 "content_after" ["plan", "fall"] (sp_content C)) (c_l_left : Cal P w K mg base 3 "_law_left" ["_law_plan_here", "_law_some"] sp_left) :
    FnOk P w K mg base CX0 9 f fd ["_law_found", "_law_plan_here"] (sp_handed C) := by
  refine F.ok sc_l_handed_on (fun vs H Q E h => ?_) (fun cdv A outer s H vs Q E hr h => ?_)
  · obtain ⟨_, _, _, _, _, _, rfl, _⟩ := h
    rfl
  obtain ⟨x, v, pl, sl, ql, el, rfl, pF, pt, h39, k⟩ := h
  refine ⟨_, (pss_cons (ps_set (i := 2) sc_l_handed_on.nd rfl (Or.inl rfl) (pe_cal c_l_parts hr (pa_cons (pv 1) pa_nil)))
    (pss_cons (ps_cut (ps_if (PW.pt (pw_or (pt_cmpR (op_neD hr.units) (pe_propC TC.cl P_pieces hr (pv 0)) (pv 2) (nomark _)) (pw_or1 (pt_cmpR (op_neD hr.units) (pe_lc (own := [("_law_k", 4)]) (g := (gName 4)) (tt := tYes) rfl sc_l_handed_on.nd (pi_range1 rfl T.range (pa_cons (pe_callB call_len' (by rfl) T.len (by decide +kernel) (pa_cons (pv 2) pa_nil)) pa_nil)) (blkOk_by (own := [("_law_k", 4)]) (N := N_l_handed_on) (sc := defScope s_l_handed_on) (by decide +kernel)) (fun _ _ _ _ _ => pg_name (i := 4) sc_l_handed_on.nd rfl (Or.inl rfl)) (fun _ _ _ _ _ => pts_nil) (fun _ _ _ _ _ => (pe_methX (E := fun _ => E0) (pl := _) (pv 0) TC.cl M_eo G_eo (hr.mono (by decide)) b_eo (passN rfl rfl) (pa_cons (pv 4) pa_nil)))) (pe_cal c_l_ranks hr (pa_cons (pv 1) pa_nil)) (nomark _)))))
      (pss_one (ps_ret pe_bl))
      pss_nil))
    (pss_cons (ps_if (pt_cmpR (op_ownNe O G_eq b_eq hr) (pe_methX (E := fun _ => E0) (pl := _) (pe_methX (E := fun _ => E0) (pl := _) (pv 0) TC.cl M_wi G_wi (hr.mono (by decide)) b_wi pass0A (pa_cons pe_int (pa_cons pe_non pa_nil))) TC.cl M_wo G_wo (hr.mono (by decide)) b_wo pass0A (pa_cons pe_int pa_nil)) (pv 0) (nomark _))
      (pss_one (ps_ret pe_bl))
      pss_nil)
    (pss_cons (ps_setLc (i := 3) (own := [("_law_k", 4)]) (g := (gName 4)) rfl sc_l_handed_on.nd rfl rfl (sw_true rfl rfl rfl (by decide +kernel)) (pi_range1 rfl T.range (pa_cons (pe_callB call_len' (by rfl) T.len (by decide +kernel) (pa_cons (pv 2) pa_nil)) pa_nil)) (blkOk_by (own := [("_law_k", 4)]) (N := N_l_handed_on) (sc := defScope s_l_handed_on) (by decide +kernel)) (fun _ _ _ _ _ => pg_name (i := 4) sc_l_handed_on.nd rfl (Or.inl rfl)) (fun _ _ _ _ _ => (pts_one (pt_cmpR op_eq (pe_ix ix_seq' (pe_cal c_l_ranks hr (pa_cons (pv 1) pa_nil)) (pv 4) (fun _ _ => rfl)) pe_int (nomark _)))) (fun _ _ _ _ _ => (pv 4)))
    (pss_one (ps_ret (pe_cmpR (op_eqD hr.units) (pe_cal c_content_after hr (pa_cons (pv 0) (pa_cons (pe_rev' (pv 3)) pa_nil))) (pe_cal c_l_left hr (pa_cons (pv 1) (pa_cons (pe_rev' (pv 3)) pa_nil))) (nomark _)))))))), ?_⟩
  have o := pF.ok
  obtain ⟨pa, ca0, xs0, ys0, rfl, pX, hca0, hst0, hps0⟩ := pF.ex
  obtain ⟨a, ca, sa, xs, rfl, ha, hca, hsa, hst⟩ := pt.ex
  obtain ⟨dx, fs, hx, hM, hM2, hM3⟩ := pX.px3
  have xl := paired_len hst
  have w0 : 0 < pl.w := by have := o.w1; omega
  have hw : ∀ f ws, some (f, ws) ∈ pl.sts → ws.length ≤ 100 := fun f ws hm => by
    obtain ⟨o1, _, o3, _⟩ := o.st _ hm
    have := o.c24
    omega
  have o40 := o.sl
  refine ⟨_, rfl, a, ca, sa, pl.w, xs, pl.sts, rfl, ha, hsa, hst, w0, by omega, hw, fun l1 H1 ys s1 n1 h1 hp => ?_⟩
  have pX1 := pX.same s1
  have yl : ys.length = (allP pl.w 0 pl.sts).length := paired_len hp
  have yl0 : ys0.length = (allP pl.w 0 pl.sts).length := paired_len hps0
  have pc := o.pc
  have pel : (pieceE pl.sts (allP pl.w 0 pl.sts)).length = ys.length := by
    unfold pieceE
    rw [List.length_map, yl]
  have rl : (rkP pl).length = ys.length := by rw [rkP_len, yl]
  refine ⟨fun σ' H' => σ' = [some (.ref pa), some (.ref a), some (.ref l1), none, none] ∧ Same H1 H', ?_, ?_⟩
  · refine ⟨_, rfl, pa, dx, fs, rfl, s1 _ _ hx, pa, ca0, sl, ql, el, pl, xs0, ys0, rfl, pX1, fun l2 H2 s2 n2 h2 => ?_⟩
    have S2 := s1.trans s2
    refine ⟨_, rfl, _, _, .lst (SqL.of h2) (dp_pieces (pieceA_st S2 hps0)), .lst (SqL.of (s2 _ _ h1)) (dp_pieces (pieceA_st s2 hp)), sh_pieces _, sh_pieces _, ?_⟩
    rw [eqv_pieces]
    refine ⟨_, rfl, iteF ?_⟩
    refine ⟨_, rfl, l1, _, rfl, .inl (s2 _ _ h1), _, rfl, ?_, ?_, fun D hD => lc_range (lo := 0) (fun i H' => Same H2 H' ∧ H' D = some (.lst (ivs ((pieceE pl.sts (allP pl.w 0 pl.sts)).take i)))) ?_ ?_ ?_⟩
    · omega
    · omega
    · exact ⟨same_new hD, upd_same⟩
    · rintro j H8 hj ⟨s8, h8⟩
      have hj' : j < ys.length := by omega
      have px8 := pX1.same (s2.trans s8)
      refine ⟨rfl, _, rfl, pa, dx, fs, rfl, s8 _ _ (S2 _ _ hx), hM, _, rfl, pa, ca0, sl, ql, el, pl, xs0, ys0, _, "int", rfl, px8, yl0, ⟨.int _, by decide, fun _ _ _ e => by cases e⟩, fun j' e hv he => ?_, fun z => ?_⟩
      · have ej : j' = j := by
          have z : (0 : Int) + (j : Int) = (j' : Int) := by injection hv
          omega
        subst ej
        refine ⟨_, h8, szl (by rw [ivs_len, List.length_take]; omega), same_mut s8 hD, ?_⟩
        rw [upd_same, List.take_add_one, he]
        unfold ivs
        rw [List.map_append]
        rfl
      · have : idxB (ys0.length : Int) (.int (0 + (j : Int))) = true := by
          show (decide (0 ≤ 0 + (j : Int)) && decide (0 + (j : Int) < ys0.length)) = true
          rw [decide_eq_true (by omega), decide_eq_true (by omega)]
          rfl
        rw [this] at z
        cases z
    rintro H8 ⟨s8, h8⟩
    rw [List.take_of_length_le (by rw [pel]; omega), pieceE_rnk] at h8
    have S8 := S2.trans s8
    refine ⟨_, rfl, a, ca, sa, pl.w, xs, pl.sts, rfl, S8 _ _ ha, S8 _ _ hsa, steps_same S8 hst, w0, by omega, hw, pc, fun l3 H9 s9 n9 h9 => ?_⟩
    refine ⟨_, _, .lst (SqL.of (s9 _ _ h8)) (dp_ints _), .lst (SqL.of h9) (dp_ints _), shl_ints _, shl_ints _, ?_⟩
    rw [eqv_dvs, decide_eq_true rfl]
    exact ⟨_, rfl, iteF ⟨rfl, s2.trans (s8.trans s9)⟩⟩
  rintro _ H2 ⟨rfl, s2⟩
  have S2 := s1.trans s2
  have pF2 := pF.same S2
  refine ⟨_, rfl, pa, dx, fs, rfl, S2 _ _ hx, hM2, .ref pa, pl, sl, ql, el, rfl, pF2, h39, fun y1 H3 s3 pn1 => ?_⟩
  obtain ⟨sl1, ql1, el1, pF1, m1, m2, m3⟩ := pn1.ex
  obtain ⟨pa1, ca1, xs1, ys1, rfl, pX1', hca1, hst1, hps1⟩ := pF1.ex
  obtain ⟨dx1, fs1, hx1, _, _, hN3⟩ := pX1'.px3
  refine ⟨pa1, dx1, fs1, rfl, hx1, hN3, .ref pa1, pl.cs, pl.w, pl.sts, sl1, ql1, el1, rfl, pF1, fun y2 H4 s4 pn2 => ⟨_, rfl, ?_⟩⟩
  have S3 := S2.trans s3
  have S4 := S3.trans s4
  have pF4 := pF.same S4
  refine ne_ins TC (pn2.w (p := ca) (S3 _ _ hca)).i (pF4.wt (S4 _ _ hca)).i ?_
  rw [same_refl]
  refine ⟨_, rfl, iteF ?_⟩
  have h14 := s4 _ _ (s3 _ _ (s2 _ _ h1))
  refine ⟨_, rfl, l1, _, rfl, .inl h14, _, rfl, ?_, ?_, fun D hD => lc_range (lo := 0) (fun i H' => Same H4 H' ∧ H' D = some (.lst (nvs (zU (rkP pl) i)))) ?_ ?_ ?_⟩
  · omega
  · omega
  · exact ⟨same_new hD, upd_same⟩
  · rintro j H8 hj ⟨s8, h8⟩
    have hj' : j < (rkP pl).length := by omega
    have S8 := S4.trans s8
    refine ⟨rfl, _, rfl, a, ca, sa, pl.w, xs, pl.sts, rfl, S8 _ _ ha, S8 _ _ hsa, steps_same S8 hst, w0, by omega, hw, pc, fun l3 H9 s9 n9 h9 => ?_⟩
    have at0 : atI (ivs (rkP pl)) (0 + (j : Int)) = some (.int (gE (rkP pl) j)) := at_of (Int.zero_add _) (gE_get hj')
    refine ⟨_, rfl, l3, _, _, _, rfl, rfl, .inl h9, at0, rfl, _, rfl, ?_⟩
    have zs := zU_succ (rkP pl) j
    have zl := zU_len (rkP pl) j
    refine ite2 (fun y => ?_) (fun y => ?_)
    · have y' : gE (rkP pl) j = 0 := V.int.inj (of_decide_eq_true y)
      rw [if_pos y'] at zs
      refine ⟨_, rfl, _, s9 _ _ h8, szl (by rw [nvs_len]; omega), same_mut (s8.trans s9) hD, ?_⟩
      rw [upd_same, zs, nvs_app, show (0 : Int) + (j : Int) = ((j : Nat) : Int) by omega]
      rfl
    · have y' : ¬ gE (rkP pl) j = 0 := fun z => y (decide_eq_true (congrArg V.int z))
      rw [if_neg y', List.append_nil] at zs
      exact ⟨s8.trans s9, by rw [zs]; exact s9 _ _ h8⟩
  rintro H5 ⟨s5, h5⟩
  have eln : (((ys.length : Nat) : Int) - 0).toNat = (rkP pl).length := by omega
  have h5 : H5 D = some (.lst (nvs (zU (rkP pl) (rkP pl).length))) := by rw [h5]; congr 4
  have zl := zU_len (rkP pl) (rkP pl).length
  have S5 := S4.trans s5
  have fl : ∀ {G : Hp} {b : Addr}, Same H G → G b = some (.lst (nvs (zU (rkP pl) (rkP pl).length).reverse)) → FlV C G (.ref pa) pl sl ql el b (zU (rkP pl) (rkP pl).length).reverse := fun sg hb => ⟨pF.same sg, hb, fun p hp => (zU_in (List.mem_reverse.mp hp)).1, zU_law (rkP_nn pl), by rw [List.length_reverse]; omega⟩
  refine ⟨_, rfl, _, rfl, D, _, rfl, h5, fun r1 H6 n6 s6 h6 => ?_⟩
  rw [nvs_rev] at h6
  refine ⟨.ref pa, pl, sl, ql, el, r1, _, rfl, fl (S5.trans s6) h6, fun c1 H7 s7 h7 => ?_⟩
  have S7 := S5.trans (s6.trans s7)
  refine ⟨_, rfl, _, rfl, D, _, rfl, s7 _ _ (s6 _ _ h5), fun r2 H8 n8 s8 h8 => ?_⟩
  rw [nvs_rev] at h8
  have S8 := S7.trans s8
  refine ⟨a, ca, sa, r2, pl.w, xs, pl.sts, pl.cs, _, rfl, S8 _ _ ha, S8 _ _ hca, S8 _ _ hsa, steps_same S8 hst, w0, by omega, o.st, o.c24, h8, fun p hp => ?_, by rw [List.length_reverse]; omega, fun t H9 s9 h9 => ?_⟩
  · have := (zU_in (List.mem_reverse.mp hp)).1
    rwa [rkP_len] at this
  refine ⟨_, _, .tup (SqT.of (s9 _ _ (s8 _ _ h7))) (dp_ints _), .tup (SqT.of h9) (dp_ints _), sh_ints _, sh_ints _, ?_⟩
  rw [show PyData.eqv _ _ = true from PySem.SeqAt.eqv_refl _ (Bool.and_eq_true_iff.mp (sh_ints _)).1]
  exact k H9 (S8.trans s9)
end
end Af

set_option Elab.async false
set_option linter.all false
set_option maxRecDepth 100000
set_option maxHeartbeats 8000000
namespace Af
open PySem L2
abbrev s_law : Stmt := top 67
abbrev N_law : List Str := ["_law_script", "_law_pen_here", "_law_turn", "_law_text_here", "_law_again", "_law_found"]
theorem sc_law : FnScope N_law ["_law_script"] (defScope s_law) := ⟨rfl, rfl, rfl, by decide +kernel, rfl, by decide +kernel, by decide +kernel⟩

def sp_law (K : PySem.W.Frag) : Sp := fun vs H Q _ => ∃ (a : Addr) (ns : List Int), vs = [.ref a] ∧ SqL K H a (ns.map V.int) ∧ ∀ H', Q (.bl true) H'
theorem spl_len1 {w f : Int} {ws : List Int} (h : ws ≠ []) : (spl w f [] f ws).length ≤ ws.length := by
  cases ws with
  | nil => exact absurd rfl h
  | cons x r =>
    rw [spl_go (by simp), List.length_cons]
    exact spl_len r _ _ _
theorem allP_tot {w : Int} {n : Nat} : ∀ {l : List Stp} {i : Nat}, (∀ x ∈ l, OkS n x) → (allP w i l).length ≤ tot l
  | [], _, _ => Nat.le_refl _
  | a :: l, i, h => by
    have ih := allP_tot (w := w) (l := l) (i := i + 1) fun x hx => h x (List.mem_cons_of_mem _ hx)
    have e : allP w i (a :: l) = oneP w i a ++ allP w (i + 1) l := rfl
    rw [e, List.length_append, tot_cons]
    have o := h a List.mem_cons_self
    cases a with
    | none =>
      show 0 + _ ≤ 0 + _
      omega
    | some fw =>
      obtain ⟨f, ws⟩ := fw
      obtain ⟨_, o2, _⟩ := o
      have z : (oneP w i (some (f, ws))).length ≤ ws.length := by
        show ((spl w f [] f ws).map _).length ≤ _
        rw [List.length_map]
        exact spl_len1 o2
      have e2 : stl (some (f, ws)) = ws.length := rfl
      omega
theorem OkP.of {s t : Nat} {pl : Pl} (g : Good s t pl) (h1 : s ≤ 40) (h2 : t ≤ 40) : OkP pl := ⟨g.c1, g.c24, g.cb, g.w1, g.w24, g.st, Nat.le_trans g.sl h1, Nat.le_trans (allP_tot g.st) (Nat.le_trans g.tl h2)⟩
theorem line_chars {w : Str} {ns : List Int} (hw : ∀ c ∈ TL.tl w, c < 200) (hn : ∀ z ∈ ns, 0 ≤ z) : ∀ c ∈ TL.tl (lineS w ns), c < 200 := fun c hc => by
  unfold lineS at hc
  rw [tl_joinT, tl_blank] at hc
  rcases joinL_mem hc with h | ⟨p, hp, h⟩
  · rw [List.mem_singleton.mp h]
    decide
  · obtain ⟨q, hq, rfl⟩ := List.mem_map.mp hp
    rcases List.mem_cons.mp hq with e | hq
    · rw [e] at h
      exact hw c h
    · obtain ⟨z, hz, rfl⟩ := List.mem_map.mp hq
      obtain ⟨n, rfl⟩ := Int.eq_ofNat_of_zero_le (hn z hz)
      rw [tl_numS] at h
      have := TL.numL_digits n c h
      omega
theorem text_chars {w : Int} {cs : List Int} {sts : List Stp} (g : TextG w cs sts) : ∀ c ∈ TL.tl (textS w cs sts), c < 200 := fun c hc => by
  unfold textS at hc
  rw [tl_joinT, tl_break] at hc
  rcases joinL_mem hc with h | ⟨p, hp, h⟩
  · rw [List.mem_singleton.mp h]
    decide
  · obtain ⟨q, hq, rfl⟩ := List.mem_map.mp hp
    unfold linesS at hq
    rcases List.mem_cons.mp hq with e | hq
    · rw [e] at h
      exact line_chars (by decide +kernel) (fun z hz => by rw [List.mem_singleton.mp hz]; exact g.w0) c h
    rcases List.mem_cons.mp hq with e | hq
    · rw [e] at h
      exact line_chars (by decide +kernel) (fun z hz => (g.cb z hz).1) c h
    · obtain ⟨x, hx, rfl⟩ := List.mem_map.mp hq
      have gx := g.st x hx
      cases x with
      | none =>
        have : ∀ c ∈ TL.tl (stepS none), c < 200 := by decide +kernel
        exact this c h
      | some fw =>
        obtain ⟨f, ws⟩ := fw
        refine line_chars (by decide +kernel) (fun z hz => ?_) c h
        exact ((nums_st gx).bd z hz).1
theorem dbl (x : Nat) (h : 1 ≤ x) : 2 * (4817 * x - 1) + 1 ≤ 4817 * (x * 2) - 1 := by omega
theorem text_tx {w : Int} {cs : List Int} {sts : List Stp} (g : TextG w cs sts) (h : sts.length ≤ 14) : TxL 4816 (textS w cs sts) := by
  refine ⟨?_, fun c hc => Nat.lt_trans (text_chars g c hc) (by decide)⟩
  unfold textS
  rw [TL.len_tl, tl_joinT, tl_break]
  refine Nat.le_trans (joinL_len (k := 301) fun p hp => ?_) ?_
  · obtain ⟨q, hq, rfl⟩ := List.mem_map.mp hp
    rw [← TL.len_tl]
    have := lines_len g q hq
    show q.length + 1 ≤ 301
    omega
  · rw [List.length_map]
    unfold linesS
    rw [List.length_cons, List.length_cons, List.length_map]
    omega
section
variable {P : Program} {w : World} {K : PySem.W.Frag} {mg : Str → Option Value} {base : Heap}
theorem ok_law {f C : Addr} {fd : FuncData} (F : Fun K "law" "law" s_law f fd) (T : Txt mg) (TC : PlanC K mg C) (c_l_pen : Cal P w K mg base 1 "_law_pen" ["_law_script"] (sp_pen K)) (c_l_draw : Cal P w K mg base 2 "_law_draw" ["_law_pen_here", "_law_under"] sp_draw)
    (c_l_plan : Cal P w K mg base 5 "_law_plan" ["_law_pen_here", "_law_most"] sp_plan) (c_l_text : Cal P w K mg base 1 "_law_text" ["_law_plan_here"] sp_ltext) (c_l_bent : Cal P w K mg base 3 "_law_bent" ["_law_pen_here", "_law_text_here"] sp_bent)
    (c_l_read_right : CalG P w K mg base 10 "_law_read_right" ["_law_thing"] (sp_rr K)) (c_l_parsed : Cal P w K mg base 9 "_law_parsed" ["_law_thing"] (sp_parsed K C)) (c_format_plan : Cal P w K mg base 3 "format_plan" ["plan"] (sp_format C))
    (c_l_handed_on : Cal P w K mg base 9 "_law_handed_on" ["_law_found", "_law_plan_here"] (sp_handed C)) (c_l_read : Cal P w K mg base 3 "_law_read" ["_law_thing"] (sp_read K)) :
    FnG P w K mg base 11 f fd ["_law_script"] (sp_law K) := by
  have c_Plan := TC.mgC
  refine okG F sc_law (fun vs H Q E h => ?_) (fun cdv A outer s H vs Q E hr hg h => ?_)
  · obtain ⟨_, _, rfl, _⟩ := h
    rfl
  obtain ⟨a, ns, rfl, ha, k⟩ := h
  refine ⟨_, (pss_cons (ps_set (i := 1) sc_law.nd rfl (Or.inl rfl) (pe_cal c_l_pen hr (pa_cons (pv 0) pa_nil)))
    (pss_cons (ps_for PassesOwn.never rfl (pi_range1 rfl T.range (pa_cons pe_int pa_nil)) (pg_name (i := 2) sc_law.nd rfl (Or.inl rfl))
      (pss_cons (ps_set (i := 3) sc_law.nd rfl (Or.inl rfl) (pe_cal c_l_text hr (pa_cons (pe_cal c_l_plan hr (pa_cons (pv 1) (pa_cons pe_int pa_nil))) pa_nil)))
    (pss_cons (ps_for PassesOwn.never rfl (pi_range1 rfl T.range (pa_cons (pe_cal c_l_draw hr (pa_cons (pv 1) (pa_cons pe_int pa_nil))) pa_nil)) (pg_name (i := 4) sc_law.nd rfl (Or.inl rfl))
      (pss_one (ps_set (i := 3) sc_law.nd rfl (Or.inl rfl) (pe_cal c_l_bent hr (pa_cons (pv 1) (pa_cons (pv 3) pa_nil))))))
    (pss_cons (ps_if (pt_not (pt_val (pe_calG c_l_read_right hr hg (pa_cons (pv 3) pa_nil))))
      (pss_one (ps_ret pe_bl))
      pss_nil)
    (pss_cons (ps_set (i := 5) sc_law.nd rfl (Or.inl rfl) (pe_cal c_l_parsed hr (pa_cons (pv 3) pa_nil)))
    (pss_one (ps_if (pt_val (pe_callB call_isi (by rfl) T.isinstance (by decide +kernel) (pa_cons (pv 5) (pa_cons (pe_glob (v := .ref C) rfl c_Plan rfl) pa_nil))))
      (pss_one (ps_if (PW.pt (pw_or (pt_cmpR op_ne (pe_cal c_format_plan hr (pa_cons (pv 5) pa_nil)) (pv 3) (nomark _)) (pw_or1 (pt_not (pt_val (pe_cal c_l_handed_on hr (pa_cons (pv 5) (pa_cons (pe_cal c_l_read hr (pa_cons (pv 3) pa_nil)) pa_nil))))))))
      (pss_one (ps_ret pe_bl))
      pss_nil))
      pss_nil)))))))
    (pss_one (ps_ret pe_bl)))), ?_⟩
  refine ⟨_, rfl, a, ns, rfl, ha, fun q H1 s1 nqp nqc pn1 => ⟨60, rfl, by decide, by decide, for_range (n := 60) (lo := 0) (fun i σ' H' => ∃ v2 v3 v4 v5, σ' = [some (.ref a), some (.ref q.p), v2, v3, v4, v5] ∧ Pen q (2200 * i) H') ?_ ?_ ?_⟩⟩
  · exact ⟨_, _, _, _, rfl, pn1⟩
  · rintro i σ' H2 hi ⟨v2, v3, v4, v5, rfl, pn2⟩
    clear ha s1
    refine ⟨_, rfl, q, _, 7, rfl, pn2, by omega, by decide, by decide, fun pv H3 pl g3 hv gd c5 db => ?_⟩
    have db := db rfl
    have good : OkP pl := OkP.of gd (by decide) (by decide)
    have tg := textG_of good
    obtain ⟨ta, ca, sa, xs, rfl, hta, hca, hn, hsa, hst⟩ := hv.ex
    refine ⟨ta, ca, sa, pl, xs, rfl, hta, hca, hsa, hst, good, fun H4 s4 => ?_⟩
    have bud := text_bud tg good.c1 db
    have tx := text_tx tg (by have := db.s; omega)
    have pn4 := g3.pen.same s4
    generalize textS pl.w pl.cs pl.sts = t at bud tx
    clear gd c5 hv hta hca hn hsa hst good tg db
    refine ⟨_, rfl, q, _, 4, rfl, by decide, by decide, pn4, by omega, fun nb H5 n0 n1 g5 => ⟨_, rfl, by omega, by omega, for_range (lo := 0) (fun j σ' H' => ∃ v4 t, σ' = [some (.ref a), some (.ref q.p), some (.int (0 + (i : Int))), some (.str t), v4, v5] ∧ Pen q (2200 * i + 2101 + 10 * j) H' ∧ Bud (3 - j) (TL.tl t) ∧ TxL (4817 * 2 ^ j - 1) t) ?_ ?_ ?_⟩⟩
    · exact ⟨_, t, rfl, g5.pen.mono (by omega), bud, tx⟩
    · rintro j σ' H6 hj ⟨v4, t, rfl, pn6, bud, tx⟩
      have j2 : j ≤ 2 := by omega
      have p4 : 2 ^ j ≤ 4 := Nat.le_trans (Nat.pow_le_pow_right (by decide) j2) (by decide)
      refine ⟨_, rfl, _, rfl, q, _, t, 4817 * 2 ^ j - 1, rfl, pn6, by omega, tx, by omega, fun t' H7 g7 bt tx' => ?_⟩
      have e : 3 - j = (3 - (j + 1)) + 1 := by omega
      rw [e] at bud
      exact ⟨_, t', rfl, g7.pen.mono (by omega), bud_bent bud bt, tx'.mono (by rw [Nat.pow_succ]; exact dbl _ Nat.one_le_two_pow)⟩
    rintro σ' H6 ⟨v4, t, rfl, pn6, bud, tx⟩
    have nb3 : (nb - 0).toNat ≤ 3 := by omega
    have bud := bud_le (m := 0) bud (Nat.zero_le _)
    have p8 : 2 ^ nb.toNat ≤ 8 := Nat.le_trans (Nat.pow_le_pow_right (by decide) (by omega : nb.toNat ≤ 3)) (by decide)
    have tx := tx.mono (m := 50000) (Nat.le_trans (Nat.sub_le _ _) (Nat.le_trans (Nat.mul_le_mul_left 4817 p8) (by decide : 4817 * 8 ≤ 50000)))
    have pn6 : Pen q (2200 * i + 2150) H6 := pn6.mono (by omega)
    have lt := tx.len
    refine ⟨_, rfl, .inl ⟨t, rfl, lt, tx.chr, fun H7 s7 => ⟨_, rfl, iteF ?_⟩⟩⟩
    have pn7 := pn6.same s7
    refine ⟨_, rfl, .inl ⟨t, rfl, lt, ?_⟩⟩
    cases er : readT t with
    | inl n =>
      refine fun H8 s8 => ?_
      refine ⟨_, rfl, .int (n : Nat), .ref C, _, _, false, rfl, .own C, .base (.int _), TC.is0 "int" (by decide), ?_⟩
      exact ⟨_, rfl, iteF ⟨_, _, _, _, rfl, (pn7.same s8).mono (by omega)⟩⟩
    | inr pl =>
      refine fun y H8 s8 pn => ?_
      have h39 := read_short er bud
      have tb := (read_back er).1
      obtain ⟨sl, ql, el, pF, _, _, _⟩ := pn.ex
      obtain ⟨ya, _, ydx, yfs, _, _, rfl, _, _, _, _, hya⟩ := pF.x
      refine ⟨_, rfl, .ref ya, .ref C, _, _, true, rfl, .own C, TC.ty hya, TC.is1, ?_⟩
      refine ⟨_, rfl, iteT ?_⟩
      refine ⟨_, rfl, .ref ya, pl, sl, ql, el, rfl, pF, fun H9 s9 => ?_⟩
      rw [tb]
      refine ⟨_, rfl, rfl, ?_⟩
      rw [show decide (V.str t = V.str t) = true from decide_eq_true rfl]
      refine ⟨_, rfl, iteF ?_⟩
      refine ⟨_, rfl, _, rfl, .inl ⟨t, rfl, lt, ?_⟩⟩
      rw [er]
      refine fun pv' H10 s10 pt ok => ⟨.ref ya, pv', pl, sl, ql, el, rfl, pF.same (s9.trans s10), pt, h39, fun H11 s11 => ?_⟩
      exact ⟨_, rfl, iteF ⟨_, _, _, _, rfl, (pn7.same (s8.trans (s9.trans (s10.trans s11)))).mono (by omega)⟩⟩
  · rintro σ' H2 ⟨v2, v3, v4, v5, rfl, _⟩
    exact k H2
end
end Af

set_option Elab.async false
set_option linter.all false
set_option maxRecDepth 100000
namespace Af
open PySem PySem.Spec PyProof.Rows PySem.Calls L2
/-! an own exception class with an __init__ of its own, over ValueError: what the written part says of it, as a question -/
def oexB (K : PySem.W.Frag) (C : Addr) : Bool := match K.lookup C with
  | some ⟨.type "type", _, .cls cd, sl⟩ => (match cd.mro, sl.toList with
    | .ref D :: bm, [_, _, _, _, some (.builtin n), _] => D == C && (n == "ValueError.__new__" && (!cd.hasDel && (cd.hasDict && PySem.HandSPX.refsVE bm)))
    | _, _ => false)
  | _ => false
theorem oex_of {K : PySem.W.Frag} {C : Addr} (h : oexB K C = true) (sa : PySem.W.findIn K (.ref C) "__setattr__" = some (some (.builtin "object.__setattr__"))) (b : PySem.W.subIn K (.ref C) (.type "BaseException") = some true)
    (t : PySem.W.typeIn K (.ref C) = some (.type "type")) (k : PySem.W.keepIn K (.ref C) = true) : OexC K C := by
  refine ⟨?_, sa, b, t, k⟩
  unfold oexB at h
  split at h
  · rename_i dd cd sl e
    split at h
    · rename_i D bm x0 x1 x2 x3 n x5 em es
      simp only [Bool.and_eq_true, beq_iff_eq, Bool.not_eq_true'] at h
      obtain ⟨rfl, rfl, h3, h4, h5⟩ := h
      obtain ⟨nm, bs, mro, ns, qn, hd, sn, sb, ab, col, del⟩ := cd
      dsimp only at em h3 h4
      subst em h3 h4
      obtain ⟨sl⟩ := sl
      dsimp only at es
      subst es
      exact ⟨nm, qn, ns, bs, bm, sn, sb, ab, col, dd, x0, x1, x2, x3, x5, e, h5⟩
    · cases h
  · cases h
theorem FnOk.or {P : Program} {w : World} {K : PySem.W.Frag} {mg : Str → Option Value} {base : Heap} {CX : CXT} {k : Nat} {f : Addr} {fd : FuncData} {ps : List Str} {sp sp' : Sp} (F : FnOk P w K mg base CX k f fd ps sp) (G : FnOk P w K mg base CX k f fd ps sp') :
    FnOk P w K mg base CX k f fd ps (fun vs H Q E => sp vs H Q E ∨ sp' vs H Q E) :=
  ⟨fun vs H Q E q => q.elim (F.len _ _ _ _) (G.len _ _ _ _), fun A outer s H args us vs Q E hr he hb hv hs => hs.elim (F.run A outer s H args us vs Q E hr he hb hv) (G.run A outer s H args us vs Q E hr he hb hv)⟩
end Af

set_option Elab.async false
set_option linter.all false
set_option maxRecDepth 100000
set_option maxHeartbeats 4000000
namespace Af
open PySem L2
def tyV : Value → Bool
  | .type _ => true
  | _ => false
theorem mro_ty : ∀ n ∈ tyNames, (fastBuiltinMro n).elim false (·.all tyV) = true := by decide +kernel
theorem sub_ty {K : PySem.W.Frag} {C : Addr} {n : String} (h : n ∈ tyNames) : PySem.W.subIn K (.type n) (.ref C) = some false := by
  have q := mro_ty n h
  show (fastBuiltinMro n).map (·.contains (.ref C)) = some false
  cases e : fastBuiltinMro n with
  | none =>
    rw [e] at q
    cases q
  | some l =>
    rw [e] at q
    show some (l.contains (.ref C)) = some false
    congr 1
    refine Bool.eq_false_iff.mpr fun z => ?_
    have m : Value.ref C ∈ l := by simpa using z
    have := List.all_eq_true.mp q _ m
    cases this
theorem is_own {K : PySem.W.Frag} {t : Value} : PySem.W.kitOne K t t = some true := by
  unfold PySem.W.kitOne
  rw [if_pos (by simp)]
theorem is_no {K : PySem.W.Frag} {C D : Addr} (ic : PySem.W.isClsIn K D = true) (tc : PySem.W.typeIn K (.ref D) = some (.type "type")) (s : PySem.W.subIn K (.ref C) (.ref D) = some false) (n : (Value.ref C == Value.ref D) = false) : PySem.W.kitOne K (.ref C) (.ref D) = some false := by
  unfold PySem.W.kitOne
  rw [if_neg (by rw [n]; decide)]
  show (if ((PySem.W.clsIn K D).isSome && PySem.W.typeIn K (.ref D) == some (.type "type")) = true then PySem.W.subIn K (.ref C) (.ref D) else none) = some false
  rw [if_pos (by rw [tc, show (PySem.W.clsIn K D).isSome = true from ic]; simp)]
  exact s
theorem is_val {K : PySem.W.Frag} {C : Addr} (s : PySem.W.subIn K (.ref C) (.type "ValueError") = some true) : PySem.W.kitOne K (.ref C) (.type "ValueError") = some true := by
  unfold PySem.W.kitOne
  rw [if_neg (by simp)]
  show (if PySem.W.kitMeta "ValueError" = true then PySem.W.subIn K (.ref C) (.type "ValueError") else none) = _
  rw [if_pos (by decide +kernel)]
  exact s
theorem any_no {K : PySem.W.Frag} {C : Value} {D : Value} {l : List Value} (h : PySem.W.kitOne K C D = some false) (t : PySem.W.kitAny K C l = some false) : PySem.W.kitAny K C (D :: l) = some false :=
  kitAny_cons h (fun _ => t) (fun z => by cases z)
theorem first_not {K : PySem.W.Frag} {C : Addr} {n : String} (h : n ∈ tyNames) : PySem.W.notFirst K C (.type n) = true := by
  unfold PySem.W.notFirst
  rw [sub_ty h]
  simp
theorem is_not {K : PySem.W.Frag} {C : Addr} {n : String} (h : n ∈ tyNames) (ic : PySem.W.isClsIn K C = true) (tc : PySem.W.typeIn K (.ref C) = some (.type "type")) : PySem.W.kitOne K (.type n) (.ref C) = some false := by
  unfold PySem.W.kitOne
  rw [if_neg (by simp)]
  show (if ((PySem.W.clsIn K C).isSome && PySem.W.typeIn K (.ref C) == some (.type "type")) = true then PySem.W.subIn K (.type n) (.ref C) else none) = some false
  rw [if_pos (by rw [tc, show (PySem.W.clsIn K C).isSome = true from ic]; simp)]
  exact sub_ty h
theorem all_mk {l : PySem.W.OpenLaw} {w : World} {K : PySem.W.Frag} {h : Heap} {mg : Str → Option Value} {fa C : Addr} (X : K.In h) (G : h.Ns mainGlobals mg) (hfa : mg "law" = some (.ref fa))
    {f1 : Addr} {od1 an1 : Option Addr} {sl1 : Array (Option Value)} {oc1 kV1 dc1 pm1 cd1 ct1 : Value}
    {f2 : Addr} {od2 an2 : Option Addr} {sl2 : Array (Option Value)} {oc2 kV2 dc2 pm2 cd2 ct2 : Value}
    {f3 : Addr} {od3 an3 : Option Addr} {sl3 : Array (Option Value)} {oc3 kV3 dc3 pm3 cd3 ct3 : Value}
    {f4 : Addr} {od4 an4 : Option Addr} {sl4 : Array (Option Value)} {oc4 kV4 dc4 pm4 cd4 ct4 : Value}
    {f5 : Addr} {od5 an5 : Option Addr} {sl5 : Array (Option Value)} {oc5 kV5 dc5 pm5 cd5 ct5 : Value}
    {f6 : Addr} {od6 an6 : Option Addr} {sl6 : Array (Option Value)} {oc6 kV6 dc6 pm6 cd6 ct6 : Value}
    {f7 : Addr} {od7 an7 : Option Addr} {sl7 : Array (Option Value)} {oc7 kV7 dc7 pm7 cd7 ct7 : Value}
    {f8 : Addr} {od8 an8 : Option Addr} {sl8 : Array (Option Value)} {oc8 kV8 dc8 pm8 cd8 ct8 : Value}
    {f9 : Addr} {od9 an9 : Option Addr} {sl9 : Array (Option Value)} {oc9 kV9 dc9 pm9 cd9 ct9 : Value}
    {f10 : Addr} {od10 an10 : Option Addr} {sl10 : Array (Option Value)} {oc10 kV10 dc10 pm10 cd10 ct10 : Value}
    {f11 : Addr} {od11 an11 : Option Addr} {sl11 : Array (Option Value)} {oc11 kV11 dc11 pm11 cd11 ct11 : Value}
    {f12 : Addr} {od12 an12 : Option Addr} {sl12 : Array (Option Value)} {oc12 kV12 dc12 pm12 cd12 ct12 : Value}
    {f13 : Addr} {od13 an13 : Option Addr} {sl13 : Array (Option Value)} {oc13 kV13 dc13 pm13 cd13 ct13 : Value}
    {f14 : Addr} {od14 an14 : Option Addr} {sl14 : Array (Option Value)} {oc14 kV14 dc14 pm14 cd14 ct14 : Value}
    {f15 : Addr} {od15 an15 : Option Addr} {sl15 : Array (Option Value)} {oc15 kV15 dc15 pm15 cd15 ct15 : Value}
    {f16 : Addr} {od16 an16 : Option Addr} {sl16 : Array (Option Value)} {oc16 kV16 dc16 pm16 cd16 ct16 : Value}
    {f17 : Addr} {od17 an17 : Option Addr} {sl17 : Array (Option Value)} {oc17 kV17 dc17 pm17 cd17 ct17 : Value}
    {f18 : Addr} {od18 an18 : Option Addr} {sl18 : Array (Option Value)} {oc18 kV18 dc18 pm18 cd18 ct18 : Value}
    {f19 : Addr} {od19 an19 : Option Addr} {sl19 : Array (Option Value)} {oc19 kV19 dc19 pm19 cd19 ct19 : Value}
    {f20 : Addr} {od20 an20 : Option Addr} {sl20 : Array (Option Value)} {oc20 kV20 dc20 pm20 cd20 ct20 : Value}
    {f21 : Addr} {od21 an21 : Option Addr} {sl21 : Array (Option Value)} {oc21 kV21 dc21 pm21 cd21 ct21 : Value}
    {f22 : Addr} {od22 an22 : Option Addr} {sl22 : Array (Option Value)} {oc22 kV22 dc22 pm22 cd22 ct22 : Value}
    {f23 : Addr} {od23 an23 : Option Addr} {sl23 : Array (Option Value)} {oc23 kV23 dc23 pm23 cd23 ct23 : Value}
    {f24 : Addr} {od24 an24 : Option Addr} {sl24 : Array (Option Value)} {oc24 kV24 dc24 pm24 cd24 ct24 : Value}
    {f25 : Addr} {od25 an25 : Option Addr} {sl25 : Array (Option Value)} {oc25 kV25 dc25 pm25 cd25 ct25 : Value}
    {f26 : Addr} {od26 an26 : Option Addr} {sl26 : Array (Option Value)} {oc26 kV26 dc26 pm26 cd26 ct26 : Value}
    {f27 : Addr} {od27 an27 : Option Addr} {sl27 : Array (Option Value)} {oc27 kV27 dc27 pm27 cd27 ct27 : Value}
    {f28 : Addr} {od28 an28 : Option Addr} {sl28 : Array (Option Value)} {oc28 kV28 dc28 pm28 cd28 ct28 : Value}
    {f29 : Addr} {od29 an29 : Option Addr} {sl29 : Array (Option Value)} {oc29 kV29 dc29 pm29 cd29 ct29 : Value}
    {f30 : Addr} {od30 an30 : Option Addr} {sl30 : Array (Option Value)} {oc30 kV30 dc30 pm30 cd30 ct30 : Value}
    {f31 : Addr} {od31 an31 : Option Addr} {sl31 : Array (Option Value)} {oc31 kV31 dc31 pm31 cd31 ct31 : Value}
    {f32 : Addr} {od32 an32 : Option Addr} {sl32 : Array (Option Value)} {oc32 kV32 dc32 pm32 cd32 ct32 : Value}
    {f33 : Addr} {od33 an33 : Option Addr} {sl33 : Array (Option Value)} {oc33 kV33 dc33 pm33 cd33 ct33 : Value}
    {f34 : Addr} {od34 an34 : Option Addr} {sl34 : Array (Option Value)} {oc34 kV34 dc34 pm34 cd34 ct34 : Value}
    {f35 : Addr} {od35 an35 : Option Addr} {sl35 : Array (Option Value)} {oc35 kV35 dc35 pm35 cd35 ct35 : Value}
    {f36 : Addr} {od36 an36 : Option Addr} {sl36 : Array (Option Value)} {oc36 kV36 dc36 pm36 cd36 ct36 : Value}
    {f37 : Addr} {od37 an37 : Option Addr} {sl37 : Array (Option Value)} {oc37 kV37 dc37 pm37 cd37 ct37 : Value}
    {f38 : Addr} {od38 an38 : Option Addr} {sl38 : Array (Option Value)} {oc38 kV38 dc38 pm38 cd38 ct38 : Value}
    {f39 : Addr} {od39 an39 : Option Addr} {sl39 : Array (Option Value)} {oc39 kV39 dc39 pm39 cd39 ct39 : Value}
    {f40 : Addr} {od40 an40 : Option Addr} {sl40 : Array (Option Value)} {oc40 kV40 dc40 pm40 cd40 ct40 : Value}
    {f41 : Addr} {od41 an41 : Option Addr} {sl41 : Array (Option Value)} {oc41 kV41 dc41 pm41 cd41 ct41 : Value}
    {f42 : Addr} {od42 an42 : Option Addr} {sl42 : Array (Option Value)} {oc42 kV42 dc42 pm42 cd42 ct42 : Value}
    {f43 : Addr} {od43 an43 : Option Addr} {sl43 : Array (Option Value)} {oc43 kV43 dc43 pm43 cd43 ct43 : Value}
    {f44 : Addr} {od44 an44 : Option Addr} {sl44 : Array (Option Value)} {oc44 kV44 dc44 pm44 cd44 ct44 : Value}
    {f45 : Addr} {od45 an45 : Option Addr} {sl45 : Array (Option Value)} {oc45 kV45 dc45 pm45 cd45 ct45 : Value}
    {f46 : Addr} {od46 an46 : Option Addr} {sl46 : Array (Option Value)} {oc46 kV46 dc46 pm46 cd46 ct46 : Value}
    {f47 : Addr} {od47 an47 : Option Addr} {sl47 : Array (Option Value)} {oc47 kV47 dc47 pm47 cd47 ct47 : Value}
    {f48 : Addr} {od48 an48 : Option Addr} {sl48 : Array (Option Value)} {oc48 kV48 dc48 pm48 cd48 ct48 : Value}
    {f49 : Addr} {od49 an49 : Option Addr} {sl49 : Array (Option Value)} {oc49 kV49 dc49 pm49 cd49 ct49 : Value}
    {f50 : Addr} {od50 an50 : Option Addr} {sl50 : Array (Option Value)} {oc50 kV50 dc50 pm50 cd50 ct50 : Value}
    {f51 : Addr} {od51 an51 : Option Addr} {sl51 : Array (Option Value)} {oc51 kV51 dc51 pm51 cd51 ct51 : Value}
    {f52 : Addr} {od52 an52 : Option Addr} {sl52 : Array (Option Value)} {oc52 kV52 dc52 pm52 cd52 ct52 : Value}
    {f53 : Addr} {od53 an53 : Option Addr} {sl53 : Array (Option Value)} {oc53 kV53 dc53 pm53 cd53 ct53 : Value}
    {pp53 : Addr} {pr53 : List Value}
    {f54 : Addr} {od54 an54 : Option Addr} {sl54 : Array (Option Value)} {oc54 kV54 dc54 pm54 cd54 ct54 : Value}
    {pp54 : Addr} {pr54 : List Value}
    {f55 : Addr} {od55 an55 : Option Addr} {sl55 : Array (Option Value)} {oc55 kV55 dc55 pm55 cd55 ct55 : Value}
    {pp55 : Addr} {pr55 : List Value}
    {f56 : Addr} {od56 an56 : Option Addr} {sl56 : Array (Option Value)} {oc56 kV56 dc56 pm56 cd56 ct56 : Value}
    {pp56 : Addr} {pr56 : List Value}
    {f57 : Addr} {od57 an57 : Option Addr} {sl57 : Array (Option Value)} {oc57 kV57 dc57 pm57 cd57 ct57 : Value}
    {pp57 : Addr} {pr57 : List Value}
    {CF CE : Addr}
    {CP fP ccP cdP : Addr} {odP anP cldP cddP : Option Addr} {slP cslP ccsP : Array (Option Value)} {vsP : Array Value} {ocP kVP dcP pmP ctP clP coP : Value} {fileP : Str} {tkP : Tok}
    {tk0 : Nat}
    {tk1 : Nat}
    {tk2 : Nat}
    {tkfigP : Nat}
    {tkmostP : Nat}
    {ta0 : Addr} {td0 : Option Addr} {ti0 : Array Value} {tn0 : Nat} {ts0 : Array (Option Value)}
    (a1 : PySem.W.nsIn K mainGlobals "is_integer" = some (some (.ref f1))) (l1 : K.lookup f1 = some ⟨oc1, od1, .func (PySem.W.fnOf "is_integer" "is_integer" (defArgs s_is_integer) (defBody s_is_integer) (defScope s_is_integer) .none kV1 dc1 pm1 an1 cd1 ct1), sl1⟩) (c1 : PySem.W.codeIn K cd1 "is_integer" = true) (k1 : PySem.W.keepIn K (.ref f1) = true)
    (a2 : PySem.W.nsIn K mainGlobals "is_index" = some (some (.ref f2))) (l2 : K.lookup f2 = some ⟨oc2, od2, .func (PySem.W.fnOf "is_index" "is_index" (defArgs s_is_index) (defBody s_is_index) (defScope s_is_index) .none kV2 dc2 pm2 an2 cd2 ct2), sl2⟩) (c2 : PySem.W.codeIn K cd2 "is_index" = true) (k2 : PySem.W.keepIn K (.ref f2) = true)
    (a3 : PySem.W.nsIn K mainGlobals "is_width" = some (some (.ref f3))) (l3 : K.lookup f3 = some ⟨oc3, od3, .func (PySem.W.fnOf "is_width" "is_width" (defArgs s_is_width) (defBody s_is_width) (defScope s_is_width) .none kV3 dc3 pm3 an3 cd3 ct3), sl3⟩) (c3 : PySem.W.codeIn K cd3 "is_width" = true) (k3 : PySem.W.keepIn K (.ref f3) = true)
    (a4 : PySem.W.nsIn K mainGlobals "are_worths" = some (some (.ref f4))) (l4 : K.lookup f4 = some ⟨oc4, od4, .func (PySem.W.fnOf "are_worths" "are_worths" (defArgs s_are_worths) (defBody s_are_worths) (defScope s_are_worths) .none kV4 dc4 pm4 an4 cd4 ct4), sl4⟩) (c4 : PySem.W.codeIn K cd4 "are_worths" = true) (k4 : PySem.W.keepIn K (.ref f4) = true)
    (a5 : PySem.W.nsIn K mainGlobals "is_content" = some (some (.ref f5))) (l5 : K.lookup f5 = some ⟨oc5, od5, .func (PySem.W.fnOf "is_content" "is_content" (defArgs s_is_content) (defBody s_is_content) (defScope s_is_content) .none kV5 dc5 pm5 an5 cd5 ct5), sl5⟩) (c5 : PySem.W.codeIn K cd5 "is_content" = true) (k5 : PySem.W.keepIn K (.ref f5) = true)
    (a6 : PySem.W.nsIn K mainGlobals "is_step" = some (some (.ref f6))) (l6 : K.lookup f6 = some ⟨oc6, od6, .func (PySem.W.fnOf "is_step" "is_step" (defArgs s_is_step) (defBody s_is_step) (defScope s_is_step) .none kV6 dc6 pm6 an6 cd6 ct6), sl6⟩) (c6 : PySem.W.codeIn K cd6 "is_step" = true) (k6 : PySem.W.keepIn K (.ref f6) = true)
    (a7 : PySem.W.nsIn K mainGlobals "_broken" = some (some (.ref f7))) (l7 : K.lookup f7 = some ⟨oc7, od7, .func (PySem.W.fnOf "_broken" "_broken" (defArgs s_broken) (defBody s_broken) (defScope s_broken) .none kV7 dc7 pm7 an7 cd7 ct7), sl7⟩) (c7 : PySem.W.codeIn K cd7 "_broken" = true) (k7 : PySem.W.keepIn K (.ref f7) = true)
    (a8 : PySem.W.nsIn K mainGlobals "_pieces_of" = some (some (.ref f8))) (l8 : K.lookup f8 = some ⟨oc8, od8, .func (PySem.W.fnOf "_pieces_of" "_pieces_of" (defArgs s_pieces_of) (defBody s_pieces_of) (defScope s_pieces_of) .none kV8 dc8 pm8 an8 cd8 ct8), sl8⟩) (c8 : PySem.W.codeIn K cd8 "_pieces_of" = true) (k8 : PySem.W.keepIn K (.ref f8) = true)
    (a9 : PySem.W.nsIn K mainGlobals "is_room" = some (some (.ref f9))) (l9 : K.lookup f9 = some ⟨oc9, od9, .func (PySem.W.fnOf "is_room" "is_room" (defArgs s_is_room) (defBody s_is_room) (defScope s_is_room) .none kV9 dc9 pm9 an9 cd9 ct9), sl9⟩) (c9 : PySem.W.codeIn K cd9 "is_room" = true) (k9 : PySem.W.keepIn K (.ref f9) = true)
    (a10 : PySem.W.nsIn K mainGlobals "are_steps" = some (some (.ref f10))) (l10 : K.lookup f10 = some ⟨oc10, od10, .func (PySem.W.fnOf "are_steps" "are_steps" (defArgs s_are_steps) (defBody s_are_steps) (defScope s_are_steps) .none kV10 dc10 pm10 an10 cd10 ct10), sl10⟩) (c10 : PySem.W.codeIn K cd10 "are_steps" = true) (k10 : PySem.W.keepIn K (.ref f10) = true)
    (a11 : PySem.W.nsIn K mainGlobals "_epochs_of" = some (some (.ref f11))) (l11 : K.lookup f11 = some ⟨oc11, od11, .func (PySem.W.fnOf "_epochs_of" "_epochs_of" (defArgs s_epochs_of) (defBody s_epochs_of) (defScope s_epochs_of) .none kV11 dc11 pm11 an11 cd11 ct11), sl11⟩) (c11 : PySem.W.codeIn K cd11 "_epochs_of" = true) (k11 : PySem.W.keepIn K (.ref f11) = true)
    (a12 : PySem.W.nsIn K mainGlobals "_law_pen" = some (some (.ref f12))) (l12 : K.lookup f12 = some ⟨oc12, od12, .func (PySem.W.fnOf "_law_pen" "_law_pen" (defArgs s_l_pen) (defBody s_l_pen) (defScope s_l_pen) .none kV12 dc12 pm12 an12 cd12 ct12), sl12⟩) (c12 : PySem.W.codeIn K cd12 "_law_pen" = true) (k12 : PySem.W.keepIn K (.ref f12) = true)
    (a13 : PySem.W.nsIn K mainGlobals "_law_next" = some (some (.ref f13))) (l13 : K.lookup f13 = some ⟨oc13, od13, .func (PySem.W.fnOf "_law_next" "_law_next" (defArgs s_l_next) (defBody s_l_next) (defScope s_l_next) .none kV13 dc13 pm13 an13 cd13 ct13), sl13⟩) (c13 : PySem.W.codeIn K cd13 "_law_next" = true) (k13 : PySem.W.keepIn K (.ref f13) = true)
    (a14 : PySem.W.nsIn K mainGlobals "_law_draw" = some (some (.ref f14))) (l14 : K.lookup f14 = some ⟨oc14, od14, .func (PySem.W.fnOf "_law_draw" "_law_draw" (defArgs s_l_draw) (defBody s_l_draw) (defScope s_l_draw) .none kV14 dc14 pm14 an14 cd14 ct14), sl14⟩) (c14 : PySem.W.codeIn K cd14 "_law_draw" = true) (k14 : PySem.W.keepIn K (.ref f14) = true)
    (a15 : PySem.W.nsIn K mainGlobals "_law_split" = some (some (.ref f15))) (l15 : K.lookup f15 = some ⟨oc15, od15, .func (PySem.W.fnOf "_law_split" "_law_split" (defArgs s_l_split) (defBody s_l_split) (defScope s_l_split) .none kV15 dc15 pm15 an15 cd15 ct15), sl15⟩) (c15 : PySem.W.codeIn K cd15 "_law_split" = true) (k15 : PySem.W.keepIn K (.ref f15) = true)
    (a16 : PySem.W.nsIn K mainGlobals "_law_parts" = some (some (.ref f16))) (l16 : K.lookup f16 = some ⟨oc16, od16, .func (PySem.W.fnOf "_law_parts" "_law_parts" (defArgs s_l_parts) (defBody s_l_parts) (defScope s_l_parts) .none kV16 dc16 pm16 an16 cd16 ct16), sl16⟩) (c16 : PySem.W.codeIn K cd16 "_law_parts" = true) (k16 : PySem.W.keepIn K (.ref f16) = true)
    (a17 : PySem.W.nsIn K mainGlobals "_law_write" = some (some (.ref f17))) (l17 : K.lookup f17 = some ⟨oc17, od17, .func (PySem.W.fnOf "_law_write" "_law_write" (defArgs s_l_write) (defBody s_l_write) (defScope s_l_write) .none kV17 dc17 pm17 an17 cd17 ct17), sl17⟩) (c17 : PySem.W.codeIn K cd17 "_law_write" = true) (k17 : PySem.W.keepIn K (.ref f17) = true)
    (a18 : PySem.W.nsIn K mainGlobals "_law_drawn" = some (some (.ref f18))) (l18 : K.lookup f18 = some ⟨oc18, od18, .func (PySem.W.fnOf "_law_drawn" "_law_drawn" (defArgs s_l_drawn) (defBody s_l_drawn) (defScope s_l_drawn) .none kV18 dc18 pm18 an18 cd18 ct18), sl18⟩) (c18 : PySem.W.codeIn K cd18 "_law_drawn" = true) (k18 : PySem.W.keepIn K (.ref f18) = true)
    (a19 : PySem.W.nsIn K mainGlobals "_law_log" = some (some (.ref f19))) (l19 : K.lookup f19 = some ⟨oc19, od19, .func (PySem.W.fnOf "_law_log" "_law_log" (defArgs s_l_log) (defBody s_l_log) (defScope s_l_log) .none kV19 dc19 pm19 an19 cd19 ct19), sl19⟩) (c19 : PySem.W.codeIn K cd19 "_law_log" = true) (k19 : PySem.W.keepIn K (.ref f19) = true)
    (a20 : PySem.W.nsIn K mainGlobals "_law_copy" = some (some (.ref f20))) (l20 : K.lookup f20 = some ⟨oc20, od20, .func (PySem.W.fnOf "_law_copy" "_law_copy" (defArgs s_l_copy) (defBody s_l_copy) (defScope s_l_copy) .none kV20 dc20 pm20 an20 cd20 ct20), sl20⟩) (c20 : PySem.W.codeIn K cd20 "_law_copy" = true) (k20 : PySem.W.keepIn K (.ref f20) = true)
    (a21 : PySem.W.nsIn K mainGlobals "_law_plan" = some (some (.ref f21))) (l21 : K.lookup f21 = some ⟨oc21, od21, .func (PySem.W.fnOf "_law_plan" "_law_plan" (defArgs s_l_plan) (defBody s_l_plan) (defScope s_l_plan) .none kV21 dc21 pm21 an21 cd21 ct21), sl21⟩) (c21 : PySem.W.codeIn K cd21 "_law_plan" = true) (k21 : PySem.W.keepIn K (.ref f21) = true)
    (a22 : PySem.W.nsIn K mainGlobals "_law_plan_of" = some (some (.ref f22))) (l22 : K.lookup f22 = some ⟨oc22, od22, .func (PySem.W.fnOf "_law_plan_of" "_law_plan_of" (defArgs s_l_plan_of) (defBody s_l_plan_of) (defScope s_l_plan_of) .none kV22 dc22 pm22 an22 cd22 ct22), sl22⟩) (c22 : PySem.W.codeIn K cd22 "_law_plan_of" = true) (k22 : PySem.W.keepIn K (.ref f22) = true)
    (a23 : PySem.W.nsIn K mainGlobals "_law_ranks" = some (some (.ref f23))) (l23 : K.lookup f23 = some ⟨oc23, od23, .func (PySem.W.fnOf "_law_ranks" "_law_ranks" (defArgs s_l_ranks) (defBody s_l_ranks) (defScope s_l_ranks) .none kV23 dc23 pm23 an23 cd23 ct23), sl23⟩) (c23 : PySem.W.codeIn K cd23 "_law_ranks" = true) (k23 : PySem.W.keepIn K (.ref f23) = true)
    (a24 : PySem.W.nsIn K mainGlobals "piece_epochs" = some (some (.ref f24))) (l24 : K.lookup f24 = some ⟨oc24, od24, .func (PySem.W.fnOf "piece_epochs" "piece_epochs" (defArgs s_piece_epochs) (defBody s_piece_epochs) (defScope s_piece_epochs) .none kV24 dc24 pm24 an24 cd24 ct24), sl24⟩) (c24 : PySem.W.codeIn K cd24 "piece_epochs" = true) (k24 : PySem.W.keepIn K (.ref f24) = true)
    (a25 : PySem.W.nsIn K mainGlobals "is_fall" = some (some (.ref f25))) (l25 : K.lookup f25 = some ⟨oc25, od25, .func (PySem.W.fnOf "is_fall" "is_fall" (defArgs s_is_fall) (defBody s_is_fall) (defScope s_is_fall) .none kV25 dc25 pm25 an25 cd25 ct25), sl25⟩) (c25 : PySem.W.codeIn K cd25 "is_fall" = true) (k25 : PySem.W.keepIn K (.ref f25) = true)
    (a26 : PySem.W.nsIn K mainGlobals "behind_piece" = some (some (.ref f26))) (l26 : K.lookup f26 = some ⟨oc26, od26, .func (PySem.W.fnOf "behind_piece" "behind_piece" (defArgs s_behind_piece) (defBody s_behind_piece) (defScope s_behind_piece) .none kV26 dc26 pm26 an26 cd26 ct26), sl26⟩) (c26 : PySem.W.codeIn K cd26 "behind_piece" = true) (k26 : PySem.W.keepIn K (.ref f26) = true)
    (a27 : PySem.W.nsIn K mainGlobals "overwritten" = some (some (.ref f27))) (l27 : K.lookup f27 = some ⟨oc27, od27, .func (PySem.W.fnOf "overwritten" "overwritten" (defArgs s_overwritten) (defBody s_overwritten) (defScope s_overwritten) .none kV27 dc27 pm27 an27 cd27 ct27), sl27⟩) (c27 : PySem.W.codeIn K cd27 "overwritten" = true) (k27 : PySem.W.keepIn K (.ref f27) = true)
    (a28 : PySem.W.nsIn K mainGlobals "_law_left" = some (some (.ref f28))) (l28 : K.lookup f28 = some ⟨oc28, od28, .func (PySem.W.fnOf "_law_left" "_law_left" (defArgs s_l_left) (defBody s_l_left) (defScope s_l_left) .none kV28 dc28 pm28 an28 cd28 ct28), sl28⟩) (c28 : PySem.W.codeIn K cd28 "_law_left" = true) (k28 : PySem.W.keepIn K (.ref f28) = true)
    (a29 : PySem.W.nsIn K mainGlobals "check_fall" = some (some (.ref f29))) (l29 : K.lookup f29 = some ⟨oc29, od29, .func (PySem.W.fnOf "check_fall" "check_fall" (defArgs s_check_fall) (defBody s_check_fall) (defScope s_check_fall) .none kV29 dc29 pm29 an29 cd29 ct29), sl29⟩) (c29 : PySem.W.codeIn K cd29 "check_fall" = true) (k29 : PySem.W.keepIn K (.ref f29) = true)
    (a30 : PySem.W.nsIn K mainGlobals "content_after" = some (some (.ref f30))) (l30 : K.lookup f30 = some ⟨oc30, od30, .func (PySem.W.fnOf "content_after" "content_after" (defArgs s_content_after) (defBody s_content_after) (defScope s_content_after) .none kV30 dc30 pm30 an30 cd30 ct30), sl30⟩) (c30 : PySem.W.codeIn K cd30 "content_after" = true) (k30 : PySem.W.keepIn K (.ref f30) = true)
    (a31 : PySem.W.nsIn K mainGlobals "number_in" = some (some (.ref f31))) (l31 : K.lookup f31 = some ⟨oc31, od31, .func (PySem.W.fnOf "number_in" "number_in" (defArgs s_number_in) (defBody s_number_in) (defScope s_number_in) .none kV31 dc31 pm31 an31 cd31 ct31), sl31⟩) (c31 : PySem.W.codeIn K cd31 "number_in" = true) (k31 : PySem.W.keepIn K (.ref f31) = true)
    (a32 : PySem.W.nsIn K mainGlobals "_numbers_behind" = some (some (.ref f32))) (l32 : K.lookup f32 = some ⟨oc32, od32, .func (PySem.W.fnOf "_numbers_behind" "_numbers_behind" (defArgs s_numbers_behind) (defBody s_numbers_behind) (defScope s_numbers_behind) .none kV32 dc32 pm32 an32 cd32 ct32), sl32⟩) (c32 : PySem.W.codeIn K cd32 "_numbers_behind" = true) (k32 : PySem.W.keepIn K (.ref f32) = true)
    (a33 : PySem.W.nsIn K mainGlobals "_width_in" = some (some (.ref f33))) (l33 : K.lookup f33 = some ⟨oc33, od33, .func (PySem.W.fnOf "_width_in" "_width_in" (defArgs s_width_in) (defBody s_width_in) (defScope s_width_in) .none kV33 dc33 pm33 an33 cd33 ct33), sl33⟩) (c33 : PySem.W.codeIn K cd33 "_width_in" = true) (k33 : PySem.W.keepIn K (.ref f33) = true)
    (a34 : PySem.W.nsIn K mainGlobals "_step_in" = some (some (.ref f34))) (l34 : K.lookup f34 = some ⟨oc34, od34, .func (PySem.W.fnOf "_step_in" "_step_in" (defArgs s_step_in) (defBody s_step_in) (defScope s_step_in) .none kV34 dc34 pm34 an34 cd34 ct34), sl34⟩) (c34 : PySem.W.codeIn K cd34 "_step_in" = true) (k34 : PySem.W.keepIn K (.ref f34) = true)
    (a35 : PySem.W.nsIn K mainGlobals "_steps_in" = some (some (.ref f35))) (l35 : K.lookup f35 = some ⟨oc35, od35, .func (PySem.W.fnOf "_steps_in" "_steps_in" (defArgs s_steps_in) (defBody s_steps_in) (defScope s_steps_in) .none kV35 dc35 pm35 an35 cd35 ct35), sl35⟩) (c35 : PySem.W.codeIn K cd35 "_steps_in" = true) (k35 : PySem.W.keepIn K (.ref f35) = true)
    (a36 : PySem.W.nsIn K mainGlobals "parse_plan" = some (some (.ref f36))) (l36 : K.lookup f36 = some ⟨oc36, od36, .func (PySem.W.fnOf "parse_plan" "parse_plan" (defArgs s_parse_plan) (defBody s_parse_plan) (defScope s_parse_plan) .none kV36 dc36 pm36 an36 cd36 ct36), sl36⟩) (c36 : PySem.W.codeIn K cd36 "parse_plan" = true) (k36 : PySem.W.keepIn K (.ref f36) = true)
    (a37 : PySem.W.nsIn K mainGlobals "_law_figures" = some (some (.ref f37))) (l37 : K.lookup f37 = some ⟨oc37, od37, .func (PySem.W.fnOf "_law_figures" "_law_figures" (defArgs s_l_figures) (defBody s_l_figures) (defScope s_l_figures) .none kV37 dc37 pm37 an37 cd37 ct37), sl37⟩) (c37 : PySem.W.codeIn K cd37 "_law_figures" = true) (k37 : PySem.W.keepIn K (.ref f37) = true)
    (a38 : PySem.W.nsIn K mainGlobals "_law_row_of" = some (some (.ref f38))) (l38 : K.lookup f38 = some ⟨oc38, od38, .func (PySem.W.fnOf "_law_row_of" "_law_row_of" (defArgs s_l_row_of) (defBody s_l_row_of) (defScope s_l_row_of) .none kV38 dc38 pm38 an38 cd38 ct38), sl38⟩) (c38 : PySem.W.codeIn K cd38 "_law_row_of" = true) (k38 : PySem.W.keepIn K (.ref f38) = true)
    (a39 : PySem.W.nsIn K mainGlobals "_law_read" = some (some (.ref f39))) (l39 : K.lookup f39 = some ⟨oc39, od39, .func (PySem.W.fnOf "_law_read" "_law_read" (defArgs s_l_read) (defBody s_l_read) (defScope s_l_read) .none kV39 dc39 pm39 an39 cd39 ct39), sl39⟩) (c39 : PySem.W.codeIn K cd39 "_law_read" = true) (k39 : PySem.W.keepIn K (.ref f39) = true)
    (a40 : PySem.W.nsIn K mainGlobals "_law_parsed" = some (some (.ref f40))) (l40 : K.lookup f40 = some ⟨oc40, od40, .func (PySem.W.fnOf "_law_parsed" "_law_parsed" (defArgs s_l_parsed) (defBody s_l_parsed) (defScope s_l_parsed) .none kV40 dc40 pm40 an40 cd40 ct40), sl40⟩) (c40 : PySem.W.codeIn K cd40 "_law_parsed" = true) (k40 : PySem.W.keepIn K (.ref f40) = true)
    (a41 : PySem.W.nsIn K mainGlobals "_law_read_right" = some (some (.ref f41))) (l41 : K.lookup f41 = some ⟨oc41, od41, .func (PySem.W.fnOf "_law_read_right" "_law_read_right" (defArgs s_l_read_right) (defBody s_l_read_right) (defScope s_l_read_right) .none kV41 dc41 pm41 an41 cd41 ct41), sl41⟩) (c41 : PySem.W.codeIn K cd41 "_law_read_right" = true) (k41 : PySem.W.keepIn K (.ref f41) = true)
    (a42 : PySem.W.nsIn K mainGlobals "_line_of" = some (some (.ref f42))) (l42 : K.lookup f42 = some ⟨oc42, od42, .func (PySem.W.fnOf "_line_of" "_line_of" (defArgs s_line_of) (defBody s_line_of) (defScope s_line_of) .none kV42 dc42 pm42 an42 cd42 ct42), sl42⟩) (c42 : PySem.W.codeIn K cd42 "_line_of" = true) (k42 : PySem.W.keepIn K (.ref f42) = true)
    (a43 : PySem.W.nsIn K mainGlobals "format_plan" = some (some (.ref f43))) (l43 : K.lookup f43 = some ⟨oc43, od43, .func (PySem.W.fnOf "format_plan" "format_plan" (defArgs s_format_plan) (defBody s_format_plan) (defScope s_format_plan) .none kV43 dc43 pm43 an43 cd43 ct43), sl43⟩) (c43 : PySem.W.codeIn K cd43 "format_plan" = true) (k43 : PySem.W.keepIn K (.ref f43) = true)
    (a44 : PySem.W.nsIn K mainGlobals "_law_text" = some (some (.ref f44))) (l44 : K.lookup f44 = some ⟨oc44, od44, .func (PySem.W.fnOf "_law_text" "_law_text" (defArgs s_l_text) (defBody s_l_text) (defScope s_l_text) .none kV44 dc44 pm44 an44 cd44 ct44), sl44⟩) (c44 : PySem.W.codeIn K cd44 "_law_text" = true) (k44 : PySem.W.keepIn K (.ref f44) = true)
    (a45 : PySem.W.nsIn K mainGlobals "_law_bent" = some (some (.ref f45))) (l45 : K.lookup f45 = some ⟨oc45, od45, .func (PySem.W.fnOf "_law_bent" "_law_bent" (defArgs s_l_bent) (defBody s_l_bent) (defScope s_l_bent) .none kV45 dc45 pm45 an45 cd45 ct45), sl45⟩) (c45 : PySem.W.codeIn K cd45 "_law_bent" = true) (k45 : PySem.W.keepIn K (.ref f45) = true)
    (a46 : PySem.W.nsIn K mainGlobals "_law_handed_on" = some (some (.ref f46))) (l46 : K.lookup f46 = some ⟨oc46, od46, .func (PySem.W.fnOf "_law_handed_on" "_law_handed_on" (defArgs s_l_handed_on) (defBody s_l_handed_on) (defScope s_l_handed_on) .none kV46 dc46 pm46 an46 cd46 ct46), sl46⟩) (c46 : PySem.W.codeIn K cd46 "_law_handed_on" = true) (k46 : PySem.W.keepIn K (.ref f46) = true)
    (a47 : PySem.W.nsIn K mainGlobals "law" = some (some (.ref f47))) (l47 : K.lookup f47 = some ⟨oc47, od47, .func (PySem.W.fnOf "law" "law" (defArgs s_law) (defBody s_law) (defScope s_law) .none kV47 dc47 pm47 an47 cd47 ct47), sl47⟩) (c47 : PySem.W.codeIn K cd47 "law" = true) (k47 : PySem.W.keepIn K (.ref f47) = true)
    (aC : PySem.W.nsIn K mainGlobals "Plan" = some (some (.ref C)))
    (a48 : PySem.W.findIn K (.ref C) "__init__" = some (some (.ref f48))) (i48 : PySem.W.isFn K (.ref f48) = true) (l48 : K.lookup f48 = some ⟨oc48, od48, .func (PySem.W.fnOf "__init__" "Plan.__init__" (defArgs s_Plan___init) (defBody s_Plan___init) (defScope s_Plan___init) .none kV48 dc48 pm48 an48 cd48 ct48), sl48⟩) (c48 : PySem.W.codeIn K cd48 "Plan.__init__" = true) (k48 : PySem.W.keepIn K (.ref f48) = true)
    (a49 : PySem.W.findIn K (.ref C) "__eq__" = some (some (.ref f49))) (i49 : PySem.W.isFn K (.ref f49) = true) (l49 : K.lookup f49 = some ⟨oc49, od49, .func (PySem.W.fnOf "__eq__" "Plan.__eq__" (defArgs s_Plan___eq) (defBody s_Plan___eq) (defScope s_Plan___eq) .none kV49 dc49 pm49 an49 cd49 ct49), sl49⟩) (c49 : PySem.W.codeIn K cd49 "Plan.__eq__" = true) (k49 : PySem.W.keepIn K (.ref f49) = true)
    (a50 : PySem.W.findIn K (.ref C) "epoch_of" = some (some (.ref f50))) (i50 : PySem.W.isFn K (.ref f50) = true) (l50 : K.lookup f50 = some ⟨oc50, od50, .func (PySem.W.fnOf "epoch_of" "Plan.epoch_of" (defArgs s_Plan_epoch_of) (defBody s_Plan_epoch_of) (defScope s_Plan_epoch_of) .none kV50 dc50 pm50 an50 cd50 ct50), sl50⟩) (c50 : PySem.W.codeIn K cd50 "Plan.epoch_of" = true) (k50 : PySem.W.keepIn K (.ref f50) = true)
    (a51 : PySem.W.findIn K (.ref C) "with_step" = some (some (.ref f51))) (i51 : PySem.W.isFn K (.ref f51) = true) (l51 : K.lookup f51 = some ⟨oc51, od51, .func (PySem.W.fnOf "with_step" "Plan.with_step" (defArgs s_Plan_with_step) (defBody s_Plan_with_step) (defScope s_Plan_with_step) .none kV51 dc51 pm51 an51 cd51 ct51), sl51⟩) (c51 : PySem.W.codeIn K cd51 "Plan.with_step" = true) (k51 : PySem.W.keepIn K (.ref f51) = true)
    (a52 : PySem.W.findIn K (.ref C) "without_step" = some (some (.ref f52))) (i52 : PySem.W.isFn K (.ref f52) = true) (l52 : K.lookup f52 = some ⟨oc52, od52, .func (PySem.W.fnOf "without_step" "Plan.without_step" (defArgs s_Plan_without_step) (defBody s_Plan_without_step) (defScope s_Plan_without_step) .none kV52 dc52 pm52 an52 cd52 ct52), sl52⟩) (c52 : PySem.W.codeIn K cd52 "Plan.without_step" = true) (k52 : PySem.W.keepIn K (.ref f52) = true)
    (a53 : PySem.W.findIn K (.ref C) "base" = some (some (.ref pp53))) (i53 : PySem.W.specialIn K (.ref pp53) "__get__" = some (some (.builtin "property.__get__"))) (j53 : PySem.W.takesIn K (.ref pp53) = some true) (r53 : PySem.W.recIn K pp53 "property" = some (.ref f53 :: pr53)) (l53 : K.lookup f53 = some ⟨oc53, od53, .func (PySem.W.fnOf "base" "Plan.base" (defArgs s_Plan_base) (defBody s_Plan_base) (defScope s_Plan_base) .none kV53 dc53 pm53 an53 cd53 ct53), sl53⟩) (c53 : PySem.W.codeIn K cd53 "Plan.base" = true) (k53 : PySem.W.keepIn K (.ref f53) = true)
    (a54 : PySem.W.findIn K (.ref C) "width" = some (some (.ref pp54))) (i54 : PySem.W.specialIn K (.ref pp54) "__get__" = some (some (.builtin "property.__get__"))) (j54 : PySem.W.takesIn K (.ref pp54) = some true) (r54 : PySem.W.recIn K pp54 "property" = some (.ref f54 :: pr54)) (l54 : K.lookup f54 = some ⟨oc54, od54, .func (PySem.W.fnOf "width" "Plan.width" (defArgs s_Plan_width) (defBody s_Plan_width) (defScope s_Plan_width) .none kV54 dc54 pm54 an54 cd54 ct54), sl54⟩) (c54 : PySem.W.codeIn K cd54 "Plan.width" = true) (k54 : PySem.W.keepIn K (.ref f54) = true)
    (a55 : PySem.W.findIn K (.ref C) "steps" = some (some (.ref pp55))) (i55 : PySem.W.specialIn K (.ref pp55) "__get__" = some (some (.builtin "property.__get__"))) (j55 : PySem.W.takesIn K (.ref pp55) = some true) (r55 : PySem.W.recIn K pp55 "property" = some (.ref f55 :: pr55)) (l55 : K.lookup f55 = some ⟨oc55, od55, .func (PySem.W.fnOf "steps" "Plan.steps" (defArgs s_Plan_steps) (defBody s_Plan_steps) (defScope s_Plan_steps) .none kV55 dc55 pm55 an55 cd55 ct55), sl55⟩) (c55 : PySem.W.codeIn K cd55 "Plan.steps" = true) (k55 : PySem.W.keepIn K (.ref f55) = true)
    (a56 : PySem.W.findIn K (.ref C) "pieces" = some (some (.ref pp56))) (i56 : PySem.W.specialIn K (.ref pp56) "__get__" = some (some (.builtin "property.__get__"))) (j56 : PySem.W.takesIn K (.ref pp56) = some true) (r56 : PySem.W.recIn K pp56 "property" = some (.ref f56 :: pr56)) (l56 : K.lookup f56 = some ⟨oc56, od56, .func (PySem.W.fnOf "pieces" "Plan.pieces" (defArgs s_Plan_pieces) (defBody s_Plan_pieces) (defScope s_Plan_pieces) .none kV56 dc56 pm56 an56 cd56 ct56), sl56⟩) (c56 : PySem.W.codeIn K cd56 "Plan.pieces" = true) (k56 : PySem.W.keepIn K (.ref f56) = true)
    (a57 : PySem.W.findIn K (.ref C) "epochs" = some (some (.ref pp57))) (i57 : PySem.W.specialIn K (.ref pp57) "__get__" = some (some (.builtin "property.__get__"))) (j57 : PySem.W.takesIn K (.ref pp57) = some true) (r57 : PySem.W.recIn K pp57 "property" = some (.ref f57 :: pr57)) (l57 : K.lookup f57 = some ⟨oc57, od57, .func (PySem.W.fnOf "epochs" "Plan.epochs" (defArgs s_Plan_epochs) (defBody s_Plan_epochs) (defScope s_Plan_epochs) .none kV57 dc57 pm57 an57 cd57 ct57), sl57⟩) (c57 : PySem.W.codeIn K cd57 "Plan.epochs" = true) (k57 : PySem.W.keepIn K (.ref f57) = true)
    (pg : PySem.W.plainGet K C Str.empty = true) (hd : PySem.W.hasDictIn K C = true) (po : PySem.W.plainOver K C = true) (sa : PySem.W.findIn K (.ref C) "__setattr__" = some (some (.builtin "object.__setattr__"))) (mk : PySem.W.makesIn K C = true) (kc : PySem.W.keepIn K (.ref C) = true)
    (ic : PySem.W.isClsIn K C = true) (tc : PySem.W.typeIn K (.ref C) = some (.type "type")) (ha : PySem.W.findIn K (.ref C) "__class__" = some (some (.builtin "object.__class__"))) (hn : PySem.W.specialIn K (.builtin "object.__class__") "__get__" = some (some (.builtin "getset_descriptor.__get__"))) (htk : PySem.W.takesIn K (.builtin "object.__class__") = some true) (hm : PySem.W.mroIn K C (.type "object") = some true)
    (hne : PySem.W.findIn K (.ref C) "__ne__" = some (some (.builtin "object.__ne__")))
    (n0 : PySem.W.findIn K (.ref C) "_base" = some none)
    (n1 : PySem.W.findIn K (.ref C) "_width" = some none)
    (n2 : PySem.W.findIn K (.ref C) "_steps" = some none)
    (n3 : PySem.W.findIn K (.ref C) "_pieces" = some none)
    (n4 : PySem.W.findIn K (.ref C) "_piece_epochs" = some none)
    (n5 : PySem.W.findIn K (.ref C) "_epochs" = some none)
    (gCF : PySem.W.nsIn K mainGlobals "FallError" = some (some (.ref CF)))
    (gCE : PySem.W.nsIn K mainGlobals "UnknownPiece" = some (some (.ref CE)))
    (yb : PySem.W.subIn K (.ref CF) (.type "BaseException") = some true)
    (yd : PySem.W.hasDictIn K CF = true)
    (yt : PySem.W.typeIn K (.ref CF) = some (.type "type"))
    (xxCE : PySem.W.excIn K CE [.type "ValueError", .type "Exception", .type "BaseException", .type "object"] "ValueError.__new__" = true)
    (xkCE : PySem.W.keepIn K (.ref CE) = true)
    (xbCE : PySem.W.subIn K (.ref CE) (.type "BaseException") = some true)
    (xtCE : PySem.W.typeIn K (.ref CE) = some (.type "type"))
    (xdCE : PySem.W.hasDictIn K CE = true)
    (xcCE : PySem.W.findIn K (.ref CE) "__class__" = some (some (.builtin "object.__class__")))
    (xmCE : PySem.W.mroIn K CE (.type "object") = some true)
    (xgaCE : PySem.W.findIn K (.ref CE) "__getattribute__" = some (some (.builtin "BaseException.__getattribute__")))
    (xgtCE : PySem.W.findIn K (.ref CE) "__getattr__" = some none)
    (yeCE : PySem.W.subIn K (.ref CE) (.ref CF) = some true)
    (gCP : PySem.W.nsIn K mainGlobals "ParseError" = some (some (.ref CP)))
    (yeP : PySem.W.subIn K (.ref CP) (.ref CF) = some true)
    (oxP : oexB K CP = true)
    (saP : PySem.W.findIn K (.ref CP) "__setattr__" = some (some (.builtin "object.__setattr__")))
    (bP : PySem.W.subIn K (.ref CP) (.type "BaseException") = some true)
    (tP : PySem.W.typeIn K (.ref CP) = some (.type "type"))
    (kP : PySem.W.keepIn K (.ref CP) = true)
    (c1P : PySem.W.isClsIn K CP = true)
    (iP : PySem.W.findIn K (.ref CP) "__init__" = some (some (.ref fP)))
    (tfP : PySem.W.typeIn K (.ref fP) = some (.type "function"))
    (lP : K.lookup fP = some ⟨ocP, odP, .func (PySem.W.fnX "__init__" "ParseError.__init__" (defArgs s_ParseError___init) (defBody s_ParseError___init) (defScope s_ParseError___init) [("__class__", ccP)] .none kVP dcP pmP anP (.ref cdP) ctP), slP⟩)
    (cP : PySem.W.codeIn K (.ref cdP) "ParseError.__init__" = true)
    (clP : K.lookup ccP = some ⟨clP, cldP, .cell (some (.ref CP)), cslP⟩)
    (coP : K.lookup cdP = some ⟨coP, cddP, .fields vsP, ccsP⟩)
    (vP : vsP[2]? = some (.str fileP tkP))
    (mfP : ((l.prog.main.file : Str) == fileP) = true)
    (topP : (l.prog.main.scope.names.lookup ("super" : Str)).isSome = false)
    (suP : PySem.W.nsIn K mainGlobals "super" = some none)
    (opP : PySem.W.nsIn K cStatics "thirdparty.any" = some none)
    (inP : PySem.W.ks_superIn K CP CP "__init__" = some (some (.builtin "ValueError.__init__")))
    (veP : PySem.W.subIn K (.ref CP) (.type "ValueError") = some true)
    (noP : PySem.W.findIn K (.ref CP) "line" = some none)
    (gaP : PySem.W.findIn K (.ref CP) "__getattribute__" = some (some (.builtin "BaseException.__getattribute__")))
    (gtP : PySem.W.findIn K (.ref CP) "__getattr__" = some none)
    (hdP : PySem.W.hasDictIn K CP = true)
    (haP : PySem.W.findIn K (.ref CP) "__class__" = some (some (.builtin "object.__class__")))
    (hmP : PySem.W.mroIn K CP (.type "object") = some true)
    (zr : PySem.W.nsIn K mainGlobals "repr" = some none)
    (z0 : PySem.W.nsIn K mainGlobals "len" = some none)
    (z1 : PySem.W.nsIn K mainGlobals "int" = some none)
    (z2 : PySem.W.nsIn K mainGlobals "list" = some none)
    (z3 : PySem.W.nsIn K mainGlobals "tuple" = some none)
    (z4 : PySem.W.nsIn K mainGlobals "range" = some none)
    (z5 : PySem.W.nsIn K mainGlobals "min" = some none)
    (z6 : PySem.W.nsIn K mainGlobals "all" = some none)
    (z7 : PySem.W.nsIn K mainGlobals "enumerate" = some none)
    (z8 : PySem.W.nsIn K mainGlobals "zip" = some none)
    (z9 : PySem.W.nsIn K mainGlobals "isinstance" = some none)
    (z10 : PySem.W.nsIn K mainGlobals "bool" = some none)
    (ValueError : PySem.W.nsIn K mainGlobals "ValueError" = some none)
    (str : PySem.W.nsIn K mainGlobals "str" = some none)
    (zs : PySem.W.nsIn K mainGlobals "set" = some none)
    (m0 : PySem.W.nsIn K mainGlobals "MOST_CELLS" = some (some (.int 24 tk0)))
    (m1 : PySem.W.nsIn K mainGlobals "MOST_STEPS" = some (some (.int 40 tk1)))
    (m2 : PySem.W.nsIn K mainGlobals "MOST_PIECES" = some (some (.int 40 tk2)))
    (figP : PySem.W.nsIn K mainGlobals "FIGURES" = some (some (.str "0123456789" tkfigP)))
    (mostP : PySem.W.nsIn K mainGlobals "MOST_FIGURES" = some (some (.int 2 tkmostP)))
    (u0 : PySem.W.nsIn K mainGlobals "ALL_WORTHS" = some (some (.ref ta0))) (w0 : K.lookup ta0 = some ⟨.type "tuple", td0, .seq ti0 tn0, ts0⟩) (x0 : ti0.size ≤ sizeLine) (y0 : Vals (ivs [0, 1, 2, 3, 4, 5, 6, 7]) ti0.toList) :
    ∃ fd : FuncData, (∀ (s : Shared) (v : Value), BindsTo s fd ⟨[v], []⟩ [("_law_script", v)]) ∧ ∀ base : Heap, K.In base → base.Ns mainGlobals mg → FnG l.prog w K mg base 11 fa fd ["_law_script"] (sp_law K) := by
  have e := hfa.symm.trans (PySem.W.mg_of X G a47)
  cases e
  have T : Txt mg := ⟨PySem.W.mg_none_of X G z0, PySem.W.mg_none_of X G z1, PySem.W.mg_none_of X G z2, PySem.W.mg_none_of X G z3, PySem.W.mg_none_of X G z4, PySem.W.mg_none_of X G z5, PySem.W.mg_none_of X G z6, PySem.W.mg_none_of X G z7, PySem.W.mg_none_of X G z8, PySem.W.mg_none_of X G z9, PySem.W.mg_none_of X G z10⟩
  have CK : Cst K mg := ⟨⟨_, PySem.W.mg_of X G m0⟩, ⟨_, PySem.W.mg_of X G m1⟩, ⟨_, PySem.W.mg_of X G m2⟩, ⟨_, PySem.W.mg_of X G u0, fun H => .inr ⟨_, ti0, tn0, w0, rfl, rfl, x0, y0⟩⟩⟩
  have TC : PlanC K mg C := ⟨⟨pg, hd, po, sa⟩, n0, n1, n2, n3, n4, n5, PySem.W.mg_of X G aC, is_own, fun n hn => is_not hn ic tc, fun n hn => first_not hn, ha, hn, htk, hm⟩
  have F_Plan___init := fun_mk (st := s_Plan___init) l48 c48 k48
  have b_Plan___init := F_Plan___init.binds (ps := ["self", "base", "width", "steps"]) fun _ _ _ _ _ _ us hl => match us, hl with | [_, _, _, _], _ => rfl
  have M_Plan___init : Mk K C f48 := ⟨mk, a48, i48, kc⟩
  have F_Plan___eq := fun_mk (st := s_Plan___eq) l49 c49 k49
  have b_Plan___eq := F_Plan___eq.binds (ps := ["self", "other"]) fun _ _ _ _ _ _ us hl => match us, hl with | [_, _], _ => rfl
  have M_Plan___eq : Meth K C "__eq__" f49 := ⟨a49, i49, k49⟩
  have F_Plan_epoch_of := fun_mk (st := s_Plan_epoch_of) l50 c50 k50
  have b_Plan_epoch_of := F_Plan_epoch_of.binds (ps := ["self", "piece"]) fun _ _ _ _ _ _ us hl => match us, hl with | [_, _], _ => rfl
  have M_Plan_epoch_of : Meth K C "epoch_of" f50 := ⟨a50, i50, k50⟩
  have F_Plan_with_step := fun_mk (st := s_Plan_with_step) l51 c51 k51
  have b_Plan_with_step := F_Plan_with_step.binds (ps := ["self", "index", "step"]) fun _ _ _ _ _ _ us hl => match us, hl with | [_, _, _], _ => rfl
  have M_Plan_with_step : Meth K C "with_step" f51 := ⟨a51, i51, k51⟩
  have F_Plan_without_step := fun_mk (st := s_Plan_without_step) l52 c52 k52
  have b_Plan_without_step := F_Plan_without_step.binds (ps := ["self", "index"]) fun _ _ _ _ _ _ us hl => match us, hl with | [_, _], _ => rfl
  have M_Plan_without_step : Meth K C "without_step" f52 := ⟨a52, i52, k52⟩
  have O : OwnEqC K C f49 := ⟨a49, i49, hne, hm⟩
  have X_CE : ExcC K mg "UnknownPiece" CE := ⟨PySem.W.mg_of X G gCE, xxCE, xkCE, xbCE, xtCE⟩
  have I_CE : L2.ExcC K CE := ⟨xgaCE, xgtCE, xbCE, xdCE, xcCE, hn, htk, xmCE⟩
  have m_CE : PySem.W.exmOne K (.ref CE) (.ref CF) = some true := PySem.W.exm_ref yb yd yt yeCE
  have OP : OexC K CP := oex_of oxP saP bP tP kP
  have UP : SupC l.prog K mg CP ccP cdP := ⟨⟨_, _, _, _, _, _, coP, vP, mfP⟩, ⟨_, _, _, clP⟩, topP, PySem.W.mg_none_of X G suP, opP, inP, veP⟩
  have PC : ∀ base, PeC l.prog w K mg base CP := fun base => ⟨OP, ⟨fP, _, iP, tfP, ok_pe_init OP UP noP lP cP, fun _ us _ hl => match us, hl with | [_, _], _ => .of_eq rfl⟩, PySem.W.mg_of X G gCP⟩
  have XP : ErrP K mg CF CP := ⟨PySem.W.mg_of X G gCF, PySem.W.mg_of X G gCP, ⟨gaP, gtP, bP, hdP, haP, hn, htk, hmP⟩, ⟨gaP, gtP, bP, hdP⟩, noP, PySem.W.exm_ref yb yd yt yeP, is_own, is_val veP⟩
  refine ⟨PySem.W.fnOf "law" "law" (defArgs s_law) (defBody s_law) (defScope s_law) .none kV47 dc47 pm47 an47 cd47 ct47, fun s v => .of_eq rfl, fun base _ _ => ?_⟩
  have t_repr := PySem.W.mg_none_of X G zr
  have t_ValueError := PySem.W.mg_none_of X G ValueError
  have t_str := PySem.W.mg_none_of X G str
  have t_zs := PySem.W.mg_none_of X G zs
  have F_Plan_base := fun_mk (st := s_Plan_base) l53 c53 k53
  have P_base : PropC l.prog w K mg base C "base" (sp_p_base C) := ⟨pp53, f53, _, ⟨a53, i53, j53, _, r53⟩, ok_p_base F_Plan_base TC, F_Plan_base.binds (ps := ["self"]) fun _ _ _ _ _ _ us hl => match us, hl with | [_], _ => rfl⟩
  have F_Plan_width := fun_mk (st := s_Plan_width) l54 c54 k54
  have P_width : PropC l.prog w K mg base C "width" (sp_p_width C) := ⟨pp54, f54, _, ⟨a54, i54, j54, _, r54⟩, ok_p_width F_Plan_width TC, F_Plan_width.binds (ps := ["self"]) fun _ _ _ _ _ _ us hl => match us, hl with | [_], _ => rfl⟩
  have F_Plan_steps := fun_mk (st := s_Plan_steps) l55 c55 k55
  have P_steps : PropC l.prog w K mg base C "steps" (sp_p_steps C) := ⟨pp55, f55, _, ⟨a55, i55, j55, _, r55⟩, ok_p_steps F_Plan_steps T TC, F_Plan_steps.binds (ps := ["self"]) fun _ _ _ _ _ _ us hl => match us, hl with | [_], _ => rfl⟩
  have F_Plan_pieces := fun_mk (st := s_Plan_pieces) l56 c56 k56
  have P_pieces : PropC l.prog w K mg base C "pieces" (sp_p_pieces C) := ⟨pp56, f56, _, ⟨a56, i56, j56, _, r56⟩, ok_p_pieces F_Plan_pieces T TC, F_Plan_pieces.binds (ps := ["self"]) fun _ _ _ _ _ _ us hl => match us, hl with | [_], _ => rfl⟩
  have F_Plan_epochs := fun_mk (st := s_Plan_epochs) l57 c57 k57
  have P_epochs : PropC l.prog w K mg base C "epochs" (sp_p_epochs C) := ⟨pp57, f57, _, ⟨a57, i57, j57, _, r57⟩, ok_p_epochs F_Plan_epochs TC, F_Plan_epochs.binds (ps := ["self"]) fun _ _ _ _ _ _ us hl => match us, hl with | [_], _ => rfl⟩
  have F1 := fun_mk (st := s_is_integer) l1 c1 k1
  have c_is_integer : Cal l.prog w K mg base 1 "is_integer" ["thing"] (sp_is_integer K) := ⟨f1, _, ok_is_integer F1 T, PySem.W.mg_of X G a1, k1, F1.binds (ps := ["thing"]) fun _ _ _ _ _ _ us hl => match us, hl with | [_], _ => rfl⟩
  have F2 := fun_mk (st := s_is_index) l2 c2 k2
  have c_is_index : Cal l.prog w K mg base 2 "is_index" ["thing", "many"] (sp_is_index K) := ⟨f2, _, ok_is_index F2 T c_is_integer, PySem.W.mg_of X G a2, k2, F2.binds (ps := ["thing", "many"]) fun _ _ _ _ _ _ us hl => match us, hl with | [_, _], _ => rfl⟩
  have F3 := fun_mk (st := s_is_width) l3 c3 k3
  have c_is_width : Cal l.prog w K mg base 2 "is_width" ["thing"] (sp_is_width K) := ⟨f3, _, ok_is_width F3 T CK c_is_integer, PySem.W.mg_of X G a3, k3, F3.binds (ps := ["thing"]) fun _ _ _ _ _ _ us hl => match us, hl with | [_], _ => rfl⟩
  have F4 := fun_mk (st := s_are_worths) l4 c4 k4
  have c_are_worths : Cal l.prog w K mg base 3 "are_worths" ["thing"] (sp_are_worths K) := ⟨f4, _, ok_are_worths F4 T CK c_is_index, PySem.W.mg_of X G a4, k4, F4.binds (ps := ["thing"]) fun _ _ _ _ _ _ us hl => match us, hl with | [_], _ => rfl⟩
  have F5 := fun_mk (st := s_is_content) l5 c5 k5
  have c_is_content : Cal l.prog w K mg base 4 "is_content" ["thing"] (sp_is_content K) := ⟨f5, _, ok_is_content F5 T CK c_are_worths, PySem.W.mg_of X G a5, k5, F5.binds (ps := ["thing"]) fun _ _ _ _ _ _ us hl => match us, hl with | [_], _ => rfl⟩
  have F6 := fun_mk (st := s_is_step) l6 c6 k6
  have c_is_step : Cal l.prog w K mg base 4 "is_step" ["cells", "thing"] (sp_is_step K) := ⟨f6, _, ok_is_step F6 T c_is_index c_are_worths, PySem.W.mg_of X G a6, k6, F6.binds (ps := ["cells", "thing"]) fun _ _ _ _ _ _ us hl => match us, hl with | [_, _], _ => rfl⟩
  have F7 := fun_mk (st := s_broken) l7 c7 k7
  have c_broken : Cal l.prog w K mg base 1 "_broken" ["width", "index", "write"] sp_brokenX := ⟨f7, _, ok_brokenX F7 T, PySem.W.mg_of X G a7, k7, F7.binds (ps := ["width", "index", "write"]) fun _ _ _ _ _ _ us hl => match us, hl with | [_, _, _], _ => rfl⟩
  have F8 := fun_mk (st := s_pieces_of) l8 c8 k8
  have c_pieces_of : Cal l.prog w K mg base 2 "_pieces_of" ["width", "steps"] sp_piecesX := ⟨f8, _, ok_piecesX F8 T c_broken, PySem.W.mg_of X G a8, k8, F8.binds (ps := ["width", "steps"]) fun _ _ _ _ _ _ us hl => match us, hl with | [_, _], _ => rfl⟩
  have F9 := fun_mk (st := s_is_room) l9 c9 k9
  have c_is_room : Cal l.prog w K mg base 3 "is_room" ["width", "steps"] sp_roomX := ⟨f9, _, ok_roomX F9 T CK c_pieces_of, PySem.W.mg_of X G a9, k9, F9.binds (ps := ["width", "steps"]) fun _ _ _ _ _ _ us hl => match us, hl with | [_, _], _ => rfl⟩
  have c_is_roomE : Cal l.prog w K mg base 3 "is_room" ["width", "steps"] sp_roomE := ⟨f9, _, ok_roomE F9 T CK c_pieces_of, PySem.W.mg_of X G a9, k9, F9.binds (ps := ["width", "steps"]) fun _ _ _ _ _ _ us hl => match us, hl with | [_, _], _ => rfl⟩
  have F10 := fun_mk (st := s_are_steps) l10 c10 k10
  have c_are_steps : Cal l.prog w K mg base 5 "are_steps" ["cells", "width", "thing"] (sp_are_steps K sp_roomX) := ⟨f10, _, ok_are_steps F10 T c_is_step c_is_room, PySem.W.mg_of X G a10, k10, F10.binds (ps := ["cells", "width", "thing"]) fun _ _ _ _ _ _ us hl => match us, hl with | [_, _, _], _ => rfl⟩
  have F11 := fun_mk (st := s_epochs_of) l11 c11 k11
  have c_epochs_of : Cal l.prog w K mg base 1 "_epochs_of" ["steps"] sp_epochsX := ⟨f11, _, ok_epochsX F11 T, PySem.W.mg_of X G a11, k11, F11.binds (ps := ["steps"]) fun _ _ _ _ _ _ us hl => match us, hl with | [_], _ => rfl⟩
  have F12 := fun_mk (st := s_l_pen) l12 c12 k12
  have c_l_pen : Cal l.prog w K mg base 1 "_law_pen" ["_law_script"] (sp_pen K) := ⟨f12, _, ok_pen F12 T, PySem.W.mg_of X G a12, k12, F12.binds (ps := ["_law_script"]) fun _ _ _ _ _ _ us hl => match us, hl with | [_], _ => rfl⟩
  have F13 := fun_mk (st := s_l_next) l13 c13 k13
  have c_l_next : Cal l.prog w K mg base 1 "_law_next" ["_law_pen_here"] sp_next := ⟨f13, _, ok_next F13 T, PySem.W.mg_of X G a13, k13, F13.binds (ps := ["_law_pen_here"]) fun _ _ _ _ _ _ us hl => match us, hl with | [_], _ => rfl⟩
  have F14 := fun_mk (st := s_l_draw) l14 c14 k14
  have c_l_draw : Cal l.prog w K mg base 2 "_law_draw" ["_law_pen_here", "_law_under"] sp_draw := ⟨f14, _, ok_draw F14 T c_l_next, PySem.W.mg_of X G a14, k14, F14.binds (ps := ["_law_pen_here", "_law_under"]) fun _ _ _ _ _ _ us hl => match us, hl with | [_, _], _ => rfl⟩
  have F15 := fun_mk (st := s_l_split) l15 c15 k15
  have c_l_split : Cal l.prog w K mg base 1 "_law_split" ["_law_index", "_law_step_here", "_law_span_here"] sp_split := ⟨f15, _, ok_split F15 T, PySem.W.mg_of X G a15, k15, F15.binds (ps := ["_law_index", "_law_step_here", "_law_span_here"]) fun _ _ _ _ _ _ us hl => match us, hl with | [_, _, _], _ => rfl⟩
  have F16 := fun_mk (st := s_l_parts) l16 c16 k16
  have c_l_parts : Cal l.prog w K mg base 2 "_law_parts" ["_law_plan_here"] sp_partsX := ⟨f16, _, ok_partsX F16 T c_l_split, PySem.W.mg_of X G a16, k16, F16.binds (ps := ["_law_plan_here"]) fun _ _ _ _ _ _ us hl => match us, hl with | [_], _ => rfl⟩
  have cw_l_parts : Cal l.prog w K mg base 2 "_law_parts" ["_law_plan_here"] sp_parts := by
    obtain ⟨f, fd, F, r⟩ := c_l_parts.ex
    exact ⟨f, fd, weak_parts F, r⟩
  have F17 := fun_mk (st := s_l_write) l17 c17 k17
  have c_l_write : Cal l.prog w K mg base 3 "_law_write" ["_law_pen_here", "_law_many", "_law_kinds", "_law_longest_row"] sp_write := ⟨f17, _, ok_write F17 T c_l_draw, PySem.W.mg_of X G a17, k17, F17.binds (ps := ["_law_pen_here", "_law_many", "_law_kinds", "_law_longest_row"]) fun _ _ _ _ _ _ us hl => match us, hl with | [_, _, _, _], _ => rfl⟩
  have F18 := fun_mk (st := s_l_drawn) l18 c18 k18
  have c_l_drawn : Cal l.prog w K mg base 4 "_law_drawn" ["_law_pen_here", "_law_many", "_law_most", "_law_kinds"] sp_drawn := ⟨f18, _, ok_drawn F18 T c_l_draw cw_l_parts c_l_write, PySem.W.mg_of X G a18, k18, F18.binds (ps := ["_law_pen_here", "_law_many", "_law_most", "_law_kinds"]) fun _ _ _ _ _ _ us hl => match us, hl with | [_, _, _, _], _ => rfl⟩
  have F19 := fun_mk (st := s_l_log) l19 c19 k19
  have c_l_log : Cal l.prog w K mg base 3 "_law_log" ["_law_pen_here", "_law_kinds"] sp_log := ⟨f19, _, ok_log F19 T c_l_draw, PySem.W.mg_of X G a19, k19, F19.binds (ps := ["_law_pen_here", "_law_kinds"]) fun _ _ _ _ _ _ us hl => match us, hl with | [_, _], _ => rfl⟩
  have F20 := fun_mk (st := s_l_copy) l20 c20 k20
  have c_l_copy : Cal l.prog w K mg base 3 "_law_copy" ["_law_pen_here", "_law_kinds"] sp_log := ⟨f20, _, ok_copy F20 T c_l_draw, PySem.W.mg_of X G a20, k20, F20.binds (ps := ["_law_pen_here", "_law_kinds"]) fun _ _ _ _ _ _ us hl => match us, hl with | [_, _], _ => rfl⟩
  have F21 := fun_mk (st := s_l_plan) l21 c21 k21
  have c_l_plan : Cal l.prog w K mg base 5 "_law_plan" ["_law_pen_here", "_law_most"] sp_plan := ⟨f21, _, ok_plan F21 T c_l_draw c_l_log c_l_copy c_l_drawn, PySem.W.mg_of X G a21, k21, F21.binds (ps := ["_law_pen_here", "_law_most"]) fun _ _ _ _ _ _ us hl => match us, hl with | [_, _], _ => rfl⟩
  have G_Plan := ok_initX (P := l.prog) (w := w) (base := base) F_Plan___init T TC c_is_content c_is_width c_are_steps c_epochs_of c_pieces_of
  have G_eq := ok_eq (P := l.prog) (w := w) (base := base) F_Plan___eq T TC
  have G_eo := ok_epoch_of (P := l.prog) (w := w) (base := base) F_Plan_epoch_of T TC X_CE c_is_index
  have NC : NumC mg := ⟨⟨_, PySem.W.mg_of X G figP⟩, ⟨_, PySem.W.mg_of X G mostP⟩⟩
  have G_wi := ok_wi (P := l.prog) (w := w) (base := base) F_Plan_with_step T TC M_Plan___init c_is_index c_is_step G_Plan b_Plan___init
  have G_wo := ok_wo (P := l.prog) (w := w) (base := base) F_Plan_without_step T TC M_Plan___init c_is_index G_Plan b_Plan___init
  have F22 := fun_mk (st := s_l_plan_of) l22 c22 k22
  have c_l_plan_of : Cal l.prog w K mg base 8 "_law_plan_of" ["_law_plan_here"] (sp_plan_of C) := ⟨f22, _, ok_plan_of F22 T TC M_Plan___init G_Plan b_Plan___init, PySem.W.mg_of X G a22, k22, F22.binds (ps := ["_law_plan_here"]) fun _ _ _ _ _ _ us hl => match us, hl with | [_], _ => rfl⟩
  have F23 := fun_mk (st := s_l_ranks) l23 c23 k23
  have c_l_ranks : Cal l.prog w K mg base 3 "_law_ranks" ["_law_plan_here"] sp_ranks := ⟨f23, _, ok_ranks F23 T c_l_parts, PySem.W.mg_of X G a23, k23, F23.binds (ps := ["_law_plan_here"]) fun _ _ _ _ _ _ us hl => match us, hl with | [_], _ => rfl⟩
  have F24 := fun_mk (st := s_piece_epochs) l24 c24 k24
  have c_piece_epochs : Cal l.prog w K mg base 4 "piece_epochs" ["plan"] (sp_pe C) := ⟨f24, _, ok_pe F24 T TC M_Plan_epoch_of G_eo b_Plan_epoch_of P_pieces, PySem.W.mg_of X G a24, k24, F24.binds (ps := ["plan"]) fun _ _ _ _ _ _ us hl => match us, hl with | [_], _ => rfl⟩
  have F25 := fun_mk (st := s_is_fall) l25 c25 k25
  have c_is_fall : Cal l.prog w K mg base 5 "is_fall" ["plan", "thing"] (sp_is_fall K C) := ⟨f25, _, ok_is_fall F25 T t_zs c_piece_epochs c_is_index, PySem.W.mg_of X G a25, k25, F25.binds (ps := ["plan", "thing"]) fun _ _ _ _ _ _ us hl => match us, hl with | [_, _], _ => rfl⟩
  have F26 := fun_mk (st := s_behind_piece) l26 c26 k26
  have c_behind_piece : Cal l.prog w K mg base 1 "behind_piece" ["content", "piece"] sp_behind := ⟨f26, _, ok_behind F26 T, PySem.W.mg_of X G a26, k26, F26.binds (ps := ["content", "piece"]) fun _ _ _ _ _ _ us hl => match us, hl with | [_, _], _ => rfl⟩
  have F27 := fun_mk (st := s_overwritten) l27 c27 k27
  have c_overwritten : Cal l.prog w K mg base 3 "overwritten" ["plan", "fall"] (sp_over C) := ⟨f27, _, ok_over F27 T TC P_base P_pieces c_behind_piece, PySem.W.mg_of X G a27, k27, F27.binds (ps := ["plan", "fall"]) fun _ _ _ _ _ _ us hl => match us, hl with | [_, _], _ => rfl⟩
  have F28 := fun_mk (st := s_l_left) l28 c28 k28
  have c_l_left : Cal l.prog w K mg base 3 "_law_left" ["_law_plan_here", "_law_some"] sp_left := ⟨f28, _, ok_left F28 T c_l_parts, PySem.W.mg_of X G a28, k28, F28.binds (ps := ["_law_plan_here", "_law_some"]) fun _ _ _ _ _ _ us hl => match us, hl with | [_, _], _ => rfl⟩
  have F29 := fun_mk (st := s_check_fall) l29 c29 k29
  have c_check_fall : Cal l.prog w K mg base 6 "check_fall" ["plan", "fall"] (sp_check_fall C) := ⟨f29, _, ok_check_fall F29 T c_is_fall, PySem.W.mg_of X G a29, k29, F29.binds (ps := ["plan", "fall"]) fun _ _ _ _ _ _ us hl => match us, hl with | [_, _], _ => rfl⟩
  have F30 := fun_mk (st := s_content_after) l30 c30 k30
  have c_content_after : Cal l.prog w K mg base 7 "content_after" ["plan", "fall"] (sp_content C) := ⟨f30, _, ok_content F30 T c_check_fall c_overwritten, PySem.W.mg_of X G a30, k30, F30.binds (ps := ["plan", "fall"]) fun _ _ _ _ _ _ us hl => match us, hl with | [_, _], _ => rfl⟩
  have F31 := fun_mk (st := s_number_in) l31 c31 k31
  have c_number_in : Cal l.prog w K mg base 1 "number_in" ["word"] sp_number := ⟨f31, _, ok_number_in F31 T NC, PySem.W.mg_of X G a31, k31, F31.binds (ps := ["word"]) fun _ _ _ _ _ _ us hl => match us, hl with | [_], _ => rfl⟩
  have F32 := fun_mk (st := s_numbers_behind) l32 c32 k32
  have c_numbers_behind : Cal l.prog w K mg base 2 "_numbers_behind" ["word", "line"] sp_numbers := ⟨f32, _, ok_numbers_behind F32 T c_number_in, PySem.W.mg_of X G a32, k32, F32.binds (ps := ["word", "line"]) fun _ _ _ _ _ _ us hl => match us, hl with | [_, _], _ => rfl⟩
  have F33 := fun_mk (st := s_width_in) l33 c33 k33
  have c_width_in : Cal l.prog w K mg base 3 "_width_in" ["line"] sp_width_in := ⟨f33, _, ok_width_in F33 T c_numbers_behind, PySem.W.mg_of X G a33, k33, F33.binds (ps := ["line"]) fun _ _ _ _ _ _ us hl => match us, hl with | [_], _ => rfl⟩
  have F34 := fun_mk (st := s_step_in) l34 c34 k34
  have c_step_in : Cal l.prog w K mg base 3 "_step_in" ["line"] sp_step_in := ⟨f34, _, ok_step_in F34 T c_numbers_behind, PySem.W.mg_of X G a34, k34, F34.binds (ps := ["line"]) fun _ _ _ _ _ _ us hl => match us, hl with | [_], _ => rfl⟩
  have F35 := fun_mk (st := s_steps_in) l35 c35 k35
  have c_steps_in : CalX l.prog w K mg base 5 "_steps_in" ["lines", "width", "cells"] (sp_steps_in CP) := ⟨f35, _, ok_steps_in F35 T PC c_step_in c_is_step c_is_roomE, PySem.W.mg_of X G a35, k35, F35.binds (ps := ["lines", "width", "cells"]) fun _ _ _ _ _ _ us hl => match us, hl with | [_, _, _], _ => rfl⟩
  have F36 := fun_mk (st := s_parse_plan) l36 c36 k36
  have c_parse_plan : CalX l.prog w K mg base 8 "parse_plan" ["text"] (sp_parse2 K C CP) := ⟨f36, _, FnOk.or (ok_parse F36 T t_str PC TC M_Plan___init G_Plan b_Plan___init c_width_in c_is_width c_is_content c_numbers_behind c_steps_in) (ok_parseX F36 T t_str PC TC M_Plan___init G_Plan b_Plan___init c_width_in c_is_width c_is_content c_numbers_behind c_steps_in), PySem.W.mg_of X G a36, k36, F36.binds (ps := ["text"]) fun _ _ _ _ _ _ us hl => match us, hl with | [_], _ => rfl⟩
  have F37 := fun_mk (st := s_l_figures) l37 c37 k37
  have c_l_figures : Cal l.prog w K mg base 1 "_law_figures" ["_law_word", "_law_under"] sp_figures := ⟨f37, _, ok_figures F37 T t_str, PySem.W.mg_of X G a37, k37, F37.binds (ps := ["_law_word", "_law_under"]) fun _ _ _ _ _ _ us hl => match us, hl with | [_, _], _ => rfl⟩
  have F38 := fun_mk (st := s_l_row_of) l38 c38 k38
  have c_l_row_of : Cal l.prog w K mg base 2 "_law_row_of" ["_law_line_here", "_law_many"] sp_row_of := ⟨f38, _, ok_row_of F38 T c_l_figures, PySem.W.mg_of X G a38, k38, F38.binds (ps := ["_law_line_here", "_law_many"]) fun _ _ _ _ _ _ us hl => match us, hl with | [_, _], _ => rfl⟩
  have F39 := fun_mk (st := s_l_read) l39 c39 k39
  have c_l_read : Cal l.prog w K mg base 3 "_law_read" ["_law_thing"] (sp_read K) := ⟨f39, _, ok_read F39 T t_str c_l_figures c_l_row_of c_l_parts, PySem.W.mg_of X G a39, k39, F39.binds (ps := ["_law_thing"]) fun _ _ _ _ _ _ us hl => match us, hl with | [_], _ => rfl⟩
  have F40 := fun_mk (st := s_l_parsed) l40 c40 k40
  have c_l_parsed : Cal l.prog w K mg base 9 "_law_parsed" ["_law_thing"] (sp_parsed K C) := ⟨f40, _, ok_parsed F40 T t_ValueError XP c_parse_plan, PySem.W.mg_of X G a40, k40, F40.binds (ps := ["_law_thing"]) fun _ _ _ _ _ _ us hl => match us, hl with | [_], _ => rfl⟩
  have F41 := fun_mk (st := s_l_read_right) l41 c41 k41
  have c_l_read_right : CalG l.prog w K mg base 10 "_law_read_right" ["_law_thing"] (sp_rr K) := ⟨f41, _, ok_read_right F41 T t_repr TC O G_eq b_Plan___eq P_base P_width P_steps c_l_read c_l_parsed c_l_plan_of, PySem.W.mg_of X G a41, k41, F41.binds (ps := ["_law_thing"]) fun _ _ _ _ _ _ us hl => match us, hl with | [_], _ => rfl⟩
  have F42 := fun_mk (st := s_line_of) l42 c42 k42
  have c_line_of : Cal l.prog w K mg base 1 "_line_of" ["word", "numbers"] sp_line := ⟨f42, _, ok_line_of F42 T t_str, PySem.W.mg_of X G a42, k42, F42.binds (ps := ["word", "numbers"]) fun _ _ _ _ _ _ us hl => match us, hl with | [_, _], _ => rfl⟩
  have F43 := fun_mk (st := s_format_plan) l43 c43 k43
  have c_format_plan : Cal l.prog w K mg base 3 "format_plan" ["plan"] (sp_format C) := ⟨f43, _, ok_format F43 T TC P_base P_width P_steps c_line_of, PySem.W.mg_of X G a43, k43, F43.binds (ps := ["plan"]) fun _ _ _ _ _ _ us hl => match us, hl with | [_], _ => rfl⟩
  have F44 := fun_mk (st := s_l_text) l44 c44 k44
  have c_l_text : Cal l.prog w K mg base 1 "_law_text" ["_law_plan_here"] sp_ltext := ⟨f44, _, ok_ltext F44 T t_str, PySem.W.mg_of X G a44, k44, F44.binds (ps := ["_law_plan_here"]) fun _ _ _ _ _ _ us hl => match us, hl with | [_], _ => rfl⟩
  have F45 := fun_mk (st := s_l_bent) l45 c45 k45
  have c_l_bent : Cal l.prog w K mg base 3 "_law_bent" ["_law_pen_here", "_law_text_here"] sp_bent := ⟨f45, _, ok_bent F45 T c_l_draw, PySem.W.mg_of X G a45, k45, F45.binds (ps := ["_law_pen_here", "_law_text_here"]) fun _ _ _ _ _ _ us hl => match us, hl with | [_, _], _ => rfl⟩
  have F46 := fun_mk (st := s_l_handed_on) l46 c46 k46
  have c_l_handed_on : Cal l.prog w K mg base 9 "_law_handed_on" ["_law_found", "_law_plan_here"] (sp_handed C) := ⟨f46, _, ok_handed F46 T TC O G_eq b_Plan___eq P_pieces M_Plan_epoch_of G_eo b_Plan_epoch_of M_Plan_with_step G_wi b_Plan_with_step M_Plan_without_step G_wo b_Plan_without_step c_l_parts c_l_ranks c_content_after c_l_left, PySem.W.mg_of X G a46, k46, F46.binds (ps := ["_law_found", "_law_plan_here"]) fun _ _ _ _ _ _ us hl => match us, hl with | [_, _], _ => rfl⟩
  exact ok_law (fun_mk (st := s_law) l47 c47 k47) T TC c_l_pen c_l_draw c_l_plan c_l_text c_l_bent c_l_read_right c_l_parsed c_format_plan c_l_handed_on c_l_read
theorem walk {l : PySem.W.OpenLaw} {q : Program} {loose : List Str} {XP : (Str → Option Value) → Heap → Prop} {YP : World → Heap → Prop} {d : DefRec} {K : Params → PySem.W.Frag} (hn : l.most = some 63) (hdf : d.params.defaults = [])
    (hY : ∀ (w : World) (h : Heap), YP w h → (K w.params).In h)
    (F : ∀ (w : World) (mg : Str → Option Value) (fa : Addr) (h : Heap), (K w.params).In h → h.Ns mainGlobals mg → mg d.name = some (.ref fa) →
      ∃ fd : FuncData, (∀ (s : Shared) (u : Value), BindsTo s fd ⟨[u], []⟩ [("_law_script", u)]) ∧ ∀ base : Heap, (K w.params).In base → base.Ns mainGlobals mg → FnG l.prog w (K w.params) mg base 11 fa fd ["_law_script"] (sp_law (K w.params))) :
    PySem.W.WalkO q loose XP YP l.row.toRowW d [] (fun f vs => PySem.call f vs) :=
  walkG (n := 63) (k := 11) (x := "_law_script") (sp := fun w => sp_law (K w.params)) hn (by decide) hdf ⟨rfl, by decide, by decide⟩ hY F fun _ _ a ns hl _ hS => ⟨a, ns, rfl, hS, fun _ => rfl⟩
end Af

open PySem PySem.W PyProof.Rows in
set_option maxRecDepth 100000 in
set_option maxHeartbeats 0 in
theorem PySem.Challenge.cw_afterfall_k10_texts_and_back_holds : PySem.Challenge.rw_afterfall_k10_texts_and_back.Holds := by
  w_on; o_law; k_head; (case hw => w_witness2)
  k_fill
  refine Af.walk (l := PySem.Challenge.rw_afterfall_k10_texts_and_back) rfl rfl (fun w h Y => PySem.W.kIn_of Y) ?F
  case F =>
    intro w mg fa h KX G hmg
    refine' Af.all_mk KX G hmg ?a1 ?l1 ?c1 ?k1 ?a2 ?l2 ?c2 ?k2 ?a3 ?l3 ?c3 ?k3 ?a4 ?l4 ?c4 ?k4 ?a5 ?l5 ?c5 ?k5 ?a6 ?l6 ?c6 ?k6 ?a7 ?l7 ?c7 ?k7 ?a8 ?l8 ?c8 ?k8 ?a9 ?l9 ?c9 ?k9 ?a10 ?l10 ?c10 ?k10 ?a11 ?l11 ?c11 ?k11 ?a12 ?l12 ?c12 ?k12 ?a13 ?l13 ?c13 ?k13 ?a14 ?l14 ?c14 ?k14 ?a15 ?l15 ?c15 ?k15 ?a16 ?l16 ?c16 ?k16 ?a17 ?l17 ?c17 ?k17 ?a18 ?l18 ?c18 ?k18 ?a19 ?l19 ?c19 ?k19 ?a20 ?l20 ?c20 ?k20 ?a21 ?l21 ?c21 ?k21 ?a22 ?l22 ?c22 ?k22 ?a23 ?l23 ?c23 ?k23 ?a24 ?l24 ?c24 ?k24 ?a25 ?l25 ?c25 ?k25 ?a26 ?l26 ?c26 ?k26 ?a27 ?l27 ?c27 ?k27 ?a28 ?l28 ?c28 ?k28 ?a29 ?l29 ?c29 ?k29 ?a30 ?l30 ?c30 ?k30 ?a31 ?l31 ?c31 ?k31 ?a32 ?l32 ?c32 ?k32 ?a33 ?l33 ?c33 ?k33 ?a34 ?l34 ?c34 ?k34 ?a35 ?l35 ?c35 ?k35 ?a36 ?l36 ?c36 ?k36 ?a37 ?l37 ?c37 ?k37 ?a38 ?l38 ?c38 ?k38 ?a39 ?l39 ?c39 ?k39 ?a40 ?l40 ?c40 ?k40 ?a41 ?l41 ?c41 ?k41 ?a42 ?l42 ?c42 ?k42 ?a43 ?l43 ?c43 ?k43 ?a44 ?l44 ?c44 ?k44 ?a45 ?l45 ?c45 ?k45 ?a46 ?l46 ?c46 ?k46 ?a47 ?l47 ?c47 ?k47 ?aC ?a48 ?i48 ?l48 ?c48 ?k48 ?a49 ?i49 ?l49 ?c49 ?k49 ?a50 ?i50 ?l50 ?c50 ?k50 ?a51 ?i51 ?l51 ?c51 ?k51 ?a52 ?i52 ?l52 ?c52 ?k52 ?a53 ?i53 ?j53 ?r53 ?l53 ?c53 ?k53 ?a54 ?i54 ?j54 ?r54 ?l54 ?c54 ?k54 ?a55 ?i55 ?j55 ?r55 ?l55 ?c55 ?k55 ?a56 ?i56 ?j56 ?r56 ?l56 ?c56 ?k56 ?a57 ?i57 ?j57 ?r57 ?l57 ?c57 ?k57 ?pg ?hd ?po ?sa ?mk ?kc ?ic ?tc ?ha ?hn ?htk ?hm ?hne ?n0 ?n1 ?n2 ?n3 ?n4 ?n5 ?gCF ?gCE ?yb ?yd ?yt ?xxCE ?xkCE ?xbCE ?xtCE ?xdCE ?xcCE ?xmCE ?xgaCE ?xgtCE ?yeCE ?gCP ?yeP ?oxP ?saP ?bP ?tP ?kP ?c1P ?iP ?tfP ?lP ?cP ?clP ?coP ?vP ?mfP ?topP ?suP ?opP ?inP ?veP ?noP ?gaP ?gtP ?hdP ?haP ?hmP ?zr ?z0 ?z1 ?z2 ?z3 ?z4 ?z5 ?z6 ?z7 ?z8 ?z9 ?z10 ?ValueError ?str ?zs ?m0 ?m1 ?m2 ?figP ?mostP ?u0 ?w0 ?x0 ?y0
    (case a1 => k_is)
    (case l1 => k_is)
    (case c1 => k_is)
    (case k1 => k_is)
    (case a2 => k_is)
    (case l2 => k_is)
    (case c2 => k_is)
    (case k2 => k_is)
    (case a3 => k_is)
    (case l3 => k_is)
    (case c3 => k_is)
    (case k3 => k_is)
    (case a4 => k_is)
    (case l4 => k_is)
    (case c4 => k_is)
    (case k4 => k_is)
    (case a5 => k_is)
    (case l5 => k_is)
    (case c5 => k_is)
    (case k5 => k_is)
    (case a6 => k_is)
    (case l6 => k_is)
    (case c6 => k_is)
    (case k6 => k_is)
    (case a7 => k_is)
    (case l7 => k_is)
    (case c7 => k_is)
    (case k7 => k_is)
    (case a8 => k_is)
    (case l8 => k_is)
    (case c8 => k_is)
    (case k8 => k_is)
    (case a9 => k_is)
    (case l9 => k_is)
    (case c9 => k_is)
    (case k9 => k_is)
    (case a10 => k_is)
    (case l10 => k_is)
    (case c10 => k_is)
    (case k10 => k_is)
    (case a11 => k_is)
    (case l11 => k_is)
    (case c11 => k_is)
    (case k11 => k_is)
    (case a12 => k_is)
    (case l12 => k_is)
    (case c12 => k_is)
    (case k12 => k_is)
    (case a13 => k_is)
    (case l13 => k_is)
    (case c13 => k_is)
    (case k13 => k_is)
    (case a14 => k_is)
    (case l14 => k_is)
    (case c14 => k_is)
    (case k14 => k_is)
    (case a15 => k_is)
    (case l15 => k_is)
    (case c15 => k_is)
    (case k15 => k_is)
    (case a16 => k_is)
    (case l16 => k_is)
    (case c16 => k_is)
    (case k16 => k_is)
    (case a17 => k_is)
    (case l17 => k_is)
    (case c17 => k_is)
    (case k17 => k_is)
    (case a18 => k_is)
    (case l18 => k_is)
    (case c18 => k_is)
    (case k18 => k_is)
    (case a19 => k_is)
    (case l19 => k_is)
    (case c19 => k_is)
    (case k19 => k_is)
    (case a20 => k_is)
    (case l20 => k_is)
    (case c20 => k_is)
    (case k20 => k_is)
    (case a21 => k_is)
    (case l21 => k_is)
    (case c21 => k_is)
    (case k21 => k_is)
    (case a22 => k_is)
    (case l22 => k_is)
    (case c22 => k_is)
    (case k22 => k_is)
    (case a23 => k_is)
    (case l23 => k_is)
    (case c23 => k_is)
    (case k23 => k_is)
    (case a24 => k_is)
    (case l24 => k_is)
    (case c24 => k_is)
    (case k24 => k_is)
    (case a25 => k_is)
    (case l25 => k_is)
    (case c25 => k_is)
    (case k25 => k_is)
    (case a26 => k_is)
    (case l26 => k_is)
    (case c26 => k_is)
    (case k26 => k_is)
    (case a27 => k_is)
    (case l27 => k_is)
    (case c27 => k_is)
    (case k27 => k_is)
    (case a28 => k_is)
    (case l28 => k_is)
    (case c28 => k_is)
    (case k28 => k_is)
    (case a29 => k_is)
    (case l29 => k_is)
    (case c29 => k_is)
    (case k29 => k_is)
    (case a30 => k_is)
    (case l30 => k_is)
    (case c30 => k_is)
    (case k30 => k_is)
    (case a31 => k_is)
    (case l31 => k_is)
    (case c31 => k_is)
    (case k31 => k_is)
    (case a32 => k_is)
    (case l32 => k_is)
    (case c32 => k_is)
    (case k32 => k_is)
    (case a33 => k_is)
    (case l33 => k_is)
    (case c33 => k_is)
    (case k33 => k_is)
    (case a34 => k_is)
    (case l34 => k_is)
    (case c34 => k_is)
    (case k34 => k_is)
    (case a35 => k_is)
    (case l35 => k_is)
    (case c35 => k_is)
    (case k35 => k_is)
    (case a36 => k_is)
    (case l36 => k_is)
    (case c36 => k_is)
    (case k36 => k_is)
    (case a37 => k_is)
    (case l37 => k_is)
    (case c37 => k_is)
    (case k37 => k_is)
    (case a38 => k_is)
    (case l38 => k_is)
    (case c38 => k_is)
    (case k38 => k_is)
    (case a39 => k_is)
    (case l39 => k_is)
    (case c39 => k_is)
    (case k39 => k_is)
    (case a40 => k_is)
    (case l40 => k_is)
    (case c40 => k_is)
    (case k40 => k_is)
    (case a41 => k_is)
    (case l41 => k_is)
    (case c41 => k_is)
    (case k41 => k_is)
    (case a42 => k_is)
    (case l42 => k_is)
    (case c42 => k_is)
    (case k42 => k_is)
    (case a43 => k_is)
    (case l43 => k_is)
    (case c43 => k_is)
    (case k43 => k_is)
    (case a44 => k_is)
    (case l44 => k_is)
    (case c44 => k_is)
    (case k44 => k_is)
    (case a45 => k_is)
    (case l45 => k_is)
    (case c45 => k_is)
    (case k45 => k_is)
    (case a46 => k_is)
    (case l46 => k_is)
    (case c46 => k_is)
    (case k46 => k_is)
    (case a47 => k_is)
    (case l47 => k_is)
    (case c47 => k_is)
    (case k47 => k_is)
    (case aC => k_is)
    (case a48 => k_is)
    (case i48 => k_is)
    (case l48 => k_is)
    (case c48 => k_is)
    (case k48 => k_is)
    (case a49 => k_is)
    (case i49 => k_is)
    (case l49 => k_is)
    (case c49 => k_is)
    (case k49 => k_is)
    (case a50 => k_is)
    (case i50 => k_is)
    (case l50 => k_is)
    (case c50 => k_is)
    (case k50 => k_is)
    (case a51 => k_is)
    (case i51 => k_is)
    (case l51 => k_is)
    (case c51 => k_is)
    (case k51 => k_is)
    (case a52 => k_is)
    (case i52 => k_is)
    (case l52 => k_is)
    (case c52 => k_is)
    (case k52 => k_is)
    (case a53 => k_is)
    (case i53 => k_is)
    (case j53 => k_is)
    (case r53 => k_is)
    (case l53 => k_is)
    (case c53 => k_is)
    (case k53 => k_is)
    (case a54 => k_is)
    (case i54 => k_is)
    (case j54 => k_is)
    (case r54 => k_is)
    (case l54 => k_is)
    (case c54 => k_is)
    (case k54 => k_is)
    (case a55 => k_is)
    (case i55 => k_is)
    (case j55 => k_is)
    (case r55 => k_is)
    (case l55 => k_is)
    (case c55 => k_is)
    (case k55 => k_is)
    (case a56 => k_is)
    (case i56 => k_is)
    (case j56 => k_is)
    (case r56 => k_is)
    (case l56 => k_is)
    (case c56 => k_is)
    (case k56 => k_is)
    (case a57 => k_is)
    (case i57 => k_is)
    (case j57 => k_is)
    (case r57 => k_is)
    (case l57 => k_is)
    (case c57 => k_is)
    (case k57 => k_is)
    (case pg => k_is)
    (case hd => k_is)
    (case po => k_is)
    (case sa => k_is)
    (case mk => k_is)
    (case kc => k_is)
    (case ic => k_is)
    (case tc => k_is)
    (case ha => k_is)
    (case hn => k_is)
    (case htk => k_is)
    (case hm => k_is)
    (case hne => k_is)
    (case n0 => k_is)
    (case n1 => k_is)
    (case n2 => k_is)
    (case n3 => k_is)
    (case n4 => k_is)
    (case n5 => k_is)
    (case gCF => k_is)
    (case gCE => k_is)
    (case yb => k_is)
    (case yd => k_is)
    (case yt => k_is)
    (case xxCE => k_exc)
    (case xkCE => k_is)
    (case xbCE => k_is)
    (case xtCE => k_is)
    (case xdCE => k_is)
    (case xcCE => k_is)
    (case xmCE => k_is)
    (case xgaCE => k_is)
    (case xgtCE => k_is)
    (case yeCE => k_is)
    (case gCP => k_is)
    (case yeP => k_is)
    (case oxP => first | k_is | kernel_rfl | decide +kernel)
    (case saP => k_is)
    (case bP => k_is)
    (case tP => k_is)
    (case kP => k_is)
    (case c1P => k_is)
    (case iP => k_is)
    (case tfP => k_is)
    (case lP => k_is)
    (case cP => k_is)
    (case clP => k_is)
    (case coP => k_is)
    (case vP => rfl)
    (case mfP => first | rfl | decide +kernel)
    (case topP => first | rfl | decide +kernel)
    (case suP => k_is)
    (case opP => k_is)
    (case inP => first | ks_is | first | k_is | kernel_rfl | decide +kernel)
    (case veP => k_is)
    (case noP => k_is)
    (case gaP => k_is)
    (case gtP => k_is)
    (case hdP => k_is)
    (case haP => k_is)
    (case hmP => k_is)
    (case zr => k_is)
    (case z0 => k_is)
    (case z1 => k_is)
    (case z2 => k_is)
    (case z3 => k_is)
    (case z4 => k_is)
    (case z5 => k_is)
    (case z6 => k_is)
    (case z7 => k_is)
    (case z8 => k_is)
    (case z9 => k_is)
    (case z10 => k_is)
    (case ValueError => k_is)
    (case str => k_is)
    (case zs => k_is)
    (case m0 => k_is)
    (case m1 => k_is)
    (case m2 => k_is)
    (case figP => k_is)
    (case mostP => k_is)
    (case u0 => k_is)
    (case w0 => k_is)
    (case x0 => decide)
    (case y0 => exact .cons ⟨_, rfl⟩ (.cons ⟨_, rfl⟩ (.cons ⟨_, rfl⟩ (.cons ⟨_, rfl⟩ (.cons ⟨_, rfl⟩ (.cons ⟨_, rfl⟩ (.cons ⟨_, rfl⟩ (.cons ⟨_, rfl⟩ .nil))))))))

