import PyProof.Rows.All
import Wide.All
import OpenK.AllK
import Wide.FinOn
import HandS.Base
import HandS.Call
import HandS.List
import HandS.Comp
import HandS.Ends
import HandS.Dict
import HandS.Iter
import HandS.Text
import HandS.Words
import HandS.WordsList
import PyProof.ReprRoads
import PyProof.ReprBulk
import PyProof.Rows.StrBoot
import HandS.IsInst
import HandS.StrMore
import HandS.Style
import PyProof.StrOps2
import HandS.Exc
import HandS.ExcOwn
import HandS.WordsExc
import PyProof.NeKinds
import HandS.Set
import HandS.Strs
import KE.SortData
import HandS.SetFor
import KE.SortKeyHeap
import HandS.SortKw
import PyProof.StrLaws
import HandS.Walk
import KE.GoesEnum
import HandS.More
import PyProof.DictUpdate
import HandS.TupSets
import KE.KDictKeyed
import HandS.TupAny
import HandS.TupMul
import HandS.ListEq
import KE.KeyNested
import PyProof.Rows.TupTab
import HandS.CallRecv
import HandS.Star
import HandS.DictComp
import HandS.Conv
import HandS.TupLen
import HandS.ExcInit
import HandS.ExcValue
import HandS.ExcIs
import HandS.ExcField
import KE.KExcIs
import HandS.Flow
import KE.KMinKey
import HandS.Deep
import KE.DataMinMax
import PyProof.EqKinds
import HandS.AnyAll
import HandS.Steps
import HandS.RevRange
import PySem.Challenge.RW_stemrules_k36_tables_refused
/-! Pot0 -/
set_option Elab.async false
set_option maxRecDepth 100000
set_option maxHeartbeats 4000000
namespace Lk
open PySem PySem.Spec PyProof.Rows L2
/-- a def of the module, as it stands behind the top -/
structure Def1 (K : PySem.W.Frag) (mg : Str → Option Value) (x : String) (st : Stmt) : Prop where
  ex : ∃ (f : Addr) (fd : FuncData), L2.Fun K x x st f fd ∧ mg x = some (.ref f)
/-- a def that may be called by its name, with its promise -/
structure Cal (P : Program) (w : World) (K : PySem.W.Frag) (mg : Str → Option Value) (base : Heap) (k : Nat) (x : String) (sp : Sp) : Prop where
  ex : ∃ (f : Addr) (fd : FuncData) (ps : List Str), FnOk P w K mg base CX0 k f fd ps sp ∧ mg x = some (.ref f) ∧ PySem.W.keepIn K (.ref f) = true ∧ Binds K fd ps []
section
variable {P : Program} {w : World} {K : PySem.W.Frag} {mg : Str → Option Value} {base : Heap}
theorem mkCal {x : String} {st : Stmt} {N ps : List Str} {k : Nat} {sp : Sp} (D : Def1 K mg x st) (S : FnScope N ps (defScope st))
    (hb : ∀ (kV doc pm : Value) (an : Option Addr) (cdv ct : Value) (us : List Value), us.length = ps.length → bindArgs (PySem.W.fnOf x x (defArgs st) (defBody st) (defScope st) .none kV doc pm an cdv ct) ⟨us, []⟩ = pure (ps.zip us))
    (len : ∀ vs H Q E, sp vs H Q E → vs.length = ps.length)
    (hbody : ∀ (f : Addr) (cdv : Value) (A : Around) (outer : List Env) (s : Shared) (H : Hp) (vs : List V) (Q : VK) (E : XK), Room k (A.deeper (envOfC x (defScope st) s.heap.objs.size f cdv)) → sp vs H Q E →
      ∃ t, PSs (cxOf CX0 P w K mg base N x (defScope st) f cdv A outer s H E).nox (defBody st) t ∧ t { nx := fun _ H' => Q .non H', rt := Q } (start N vs) H) : Cal P w K mg base (k + 1) x sp := by
  obtain ⟨f, fd, F, m⟩ := D.ex
  exact ⟨f, fd, ps, F.ok S len fun cdv A outer s H vs Q E hr h => hbody f cdv A outer s H vs Q E hr h, m, F.kp, F.binds hb⟩
theorem Cal.imp {x : String} {k : Nat} {sp sp' : Sp} (c : Cal P w K mg base k x sp) (h : ∀ vs H Q E, sp' vs H Q E → sp vs H Q E) : Cal P w K mg base k x sp' := by
  obtain ⟨f, fd, ps, F, a, b, d⟩ := c.ex
  exact ⟨f, fd, ps, F.imp h, a, b, d⟩
end
section
variable {X : Cx} {k j : Nat} {x : String} {sp : Sp} {p pos : Pos} {e : Expr} {es : List Expr} {t : TA}
theorem pe_cal (c : Cal X.prog X.w X.K X.mg X.base k x sp) (hr : Room j X.A) (hk : k ≤ j) (ha : PA X (e :: es) t) (hg : Gl X x := by rfl)
    (hdb : ((x : Str) == ("__debug__" : Str)) = false := by decide) (he : starEach (e :: es) X.env = (false, eval e X.env) :: starEach es X.env := by rfl) (hpl : (backTo pos (starEach es X.env)).any (·.1) = false := by rfl) :
    PE X (.Call (.Name x p) (e :: es) [] pos) (tCall sp [] E0 t) := by
  obtain ⟨f, fd, ps, F, m, kp, b⟩ := c.ex
  exact pe_call F (hr.mono hk) hg m kp b .nil pass0 ha hdb he hpl
end
/-! ### heaps -/
theorem same_upd {H : Hp} {p : Addr} {o : HO} (h : H p = none) : Same H (upd H p o) := fun b x e => by
  rw [upd_ne (ne_of_none e h)]
  exact e
theorem same_mut {H0 H : Hp} {p : Addr} {o : HO} (s : Same H0 H) (h : H0 p = none) : Same H0 (upd H p o) := fun b x e => by
  rw [upd_ne (ne_of_none e h)]
  exact s b x e
theorem Same.seqT {K : PySem.W.Frag} {H H' : Hp} {a : Addr} {xs : List V} (e : Same H H') (h : SqT K H a xs) : SqT K H' a xs := by
  rcases h with (h | ⟨o, h⟩) | h
  · exact .inl (.inl (e _ _ h))
  · exact .inl (.inr ⟨o, e _ _ h⟩)
  · exact .inr h
/-- all but p stands as it was -/
def But (p : Addr) (H H' : Hp) : Prop := ∀ q o, H q = some o → q ≠ p → H' q = some o
/-- a pot: [cells, place, amount, room] -/
def PotAt (p c : Addr) (H : Hp) : Prop := p ≠ c ∧ (∃ i a b : Int, H p = some (.lst [.ref c, .int i, .int a, .int b])) ∧ ∃ ns : List Int, H c = some (.lst (ns.map V.int)) ∧ ns.length ≤ 17
structure Ext (p c : Addr) (H H' : Hp) : Prop where
  keep : But p H H'
  pot : PotAt p c H'
theorem PotAt.same {p c : Addr} {H H' : Hp} (h : PotAt p c H) (s : Same H H') : PotAt p c H' := by
  obtain ⟨n, ⟨i, a, b, e⟩, ns, e2, l⟩ := h
  exact ⟨n, ⟨i, a, b, s _ _ e⟩, ns, s _ _ e2, l⟩
theorem PotAt.ref {p c : Addr} {H : Hp} (h : PotAt p c H) : Ext p c H H := ⟨fun _ _ e _ => e, h⟩
theorem Ext.trans {p c : Addr} {H H1 H2 : Hp} (a : Ext p c H H1) (b : Ext p c H1 H2) : Ext p c H H2 := ⟨fun q o e n => b.keep q o (a.keep q o e n) n, b.pot⟩
theorem Ext.same {p c : Addr} {H H1 H2 : Hp} (a : Ext p c H H1) (b : Same H1 H2) : Ext p c H H2 := ⟨fun q o e n => b q o (a.keep q o e n), a.pot.same b⟩
theorem Ext.pre {p c : Addr} {H H1 H2 : Hp} (a : Same H H1) (b : Ext p c H1 H2) : Ext p c H H2 := ⟨fun q o e n => b.keep q o (a q o e) n, b.pot⟩
theorem PotAt.nep {p c q : Addr} {H : Hp} (h : PotAt p c H) (e : H q = none) : q ≠ p := by
  obtain ⟨n, ⟨i, a, b, e1⟩, _⟩ := h
  exact fun z => by
    rw [z, e1] at e
    cases e
theorem PotAt.nec {p c q : Addr} {H : Hp} (h : PotAt p c H) (e : H q = none) : q ≠ c := by
  obtain ⟨n, _, ns, e1, _⟩ := h
  exact fun z => by
    rw [z, e1] at e
    cases e
theorem Ext.new {p c q : Addr} {H H1 : Hp} {o : HO} (a : Ext p c H H1) (h : H1 q = none) : Ext p c H (upd H1 q o) := a.same (same_upd h)
/-- an object that H does not know may change -/
theorem Ext.mut {p c q : Addr} {H H1 : Hp} {o : HO} (h0 : PotAt p c H) (a : Ext p c H H1) (h : H q = none) : Ext p c H (upd H1 q o) := by
  have n1 := h0.nep h
  have n2 := h0.nec h
  obtain ⟨n, ⟨i, x, b, e⟩, ns, e2, l⟩ := a.pot
  exact ⟨fun r u er nr => by
    rw [upd_ne (ne_of_none er h)]
    exact a.keep r u er nr, n, ⟨i, x, b, by rw [upd_ne n1.symm]; exact e⟩, ns, by rw [upd_ne n2.symm]; exact e2, l⟩
theorem Ext.get {p c q : Addr} {H H1 : Hp} {o : HO} (a : Ext p c H H1) (h : H q = some o) (n : q ≠ p) : H1 q = some o := a.keep q o h n
theorem Ext.free {p c q : Addr} {H H1 : Hp} (a : Ext p c H H1) (h : H1 q = none) : H q = none := by
  cases e : H q with
  | none => rfl
  | some o =>
    by_cases n : q = p
    · obtain ⟨_, ⟨i, x, b, e1⟩, _⟩ := a.pot
      rw [n, e1] at h
      cases h
    · rw [a.keep q o e n] at h
      cases h
theorem Ext.seq {K : PySem.W.Frag} {p c l : Addr} {H H1 : Hp} {xs : List V} (a : Ext p c H H1) (n : l ≠ p) (h : SqL K H l xs) : SqL K H1 l xs := by
  rcases h with (h | ⟨o, h⟩) | h
  · exact .inl (.inl (a.keep _ _ h n))
  · exact .inl (.inr ⟨o, a.keep _ _ h n⟩)
  · exact .inr h
theorem Ext.seqT {K : PySem.W.Frag} {p c l : Addr} {H H1 : Hp} {xs : List V} (a : Ext p c H H1) (n : l ≠ p) (h : SqT K H l xs) : SqT K H1 l xs := by
  rcases h with (h | ⟨o, h⟩) | h
  · exact .inl (.inl (a.keep _ _ h n))
  · exact .inl (.inr ⟨o, a.keep _ _ h n⟩)
  · exact .inr h
/-- what of the built-ins' names the module leaves alone -/
structure Glb (mg : Str → Option Value) : Prop where
  int : mg "int" = none
  abs : mg "abs" = none
  range : mg "range" = none
  enumerate : mg "enumerate" = none
  len : mg "len" = none
/-! ### mathematics of the slices -/
theorem sIx_some {n d : Nat} {i : Int} (h : 0 ≤ i) : HT.sIx n d (some i) = min i.toNat n := by
  show (if i < 0 then (i + (n : Int)).toNat else min i.toNat n) = _
  rw [if_neg (by omega)]
theorem cut_to {xs : List V} {i : Int} (h : 0 ≤ i) : cutV xs none (some i) = xs.take i.toNat := by
  unfold cutV
  rw [HT.sIx_none, sIx_some h, List.drop_zero, Nat.sub_zero, Nat.min_comm]
  exact List.take_eq_take_iff.mpr (by omega)
theorem cut_from_to {xs : List V} {i j : Int} (h : 0 ≤ i) (h2 : i ≤ j) : cutV xs (some i) (some j) = (xs.drop i.toNat).take (j.toNat - i.toNat) := by
  unfold cutV
  rw [sIx_some h, sIx_some (by omega)]
  by_cases hi : i.toNat ≤ xs.length
  · rw [Nat.min_eq_left hi]
    refine List.take_eq_take_iff.mpr ?_
    rw [List.length_drop]
    omega
  · have e1 : xs.drop (min i.toNat xs.length) = [] := List.drop_eq_nil_of_le (by omega)
    have e2 : xs.drop i.toNat = [] := List.drop_eq_nil_of_le (by omega)
    rw [e1, e2, List.take_nil, List.take_nil]
/-! ### texts by their signs -/
theorem joinL_nil : ∀ l : List (List Nat), TL.joinL [] l = l.flatten
  | [] => rfl
  | [p] => by simp [TL.joinL]
  | p :: q :: r => by
    show p ++ ([] ++ TL.joinL [] (q :: r)) = _
    rw [joinL_nil (q :: r)]
    simp
theorem tl_join0 {x : Str} (hx : TL.tl x = []) (ys : List Str) : TL.tl (Txt.join x ys) = (ys.map TL.tl).flatten := by
  rw [TL.join_eq, TL.tl_join, hx, joinL_nil]
theorem sum_len_le {k : Nat} : ∀ {ys : List Str}, (∀ y ∈ ys, y.length ≤ k) → (ys.map (·.length)).sum ≤ ys.length * k
  | [], _ => Nat.zero_le _
  | y :: r, h => by
    rw [List.map_cons, List.sum_cons, List.length_cons, Nat.succ_mul]
    have h1 := h y List.mem_cons_self
    have h2 := sum_len_le (ys := r) fun z hz => h z (List.mem_cons_of_mem _ hz)
    omega
theorem flat_all {P : Nat → Prop} {ys : List Str} (h : ∀ y ∈ ys, ∀ c ∈ TL.tl y, P c) : ∀ c ∈ (ys.map TL.tl).flatten, P c := by
  intro c hc
  obtain ⟨l, hl, hc⟩ := List.mem_flatten.mp hc
  obtain ⟨y, hy, rfl⟩ := List.mem_map.mp hl
  exact h y hy c hc
theorem flat_len {k : Nat} {ys : List Str} (h : ∀ y ∈ ys, (TL.tl y).length ≤ k) : ((ys.map TL.tl).flatten).length ≤ ys.length * k := by
  induction ys with
  | nil => exact Nat.zero_le _
  | cons y r ih =>
    rw [List.map_cons, List.flatten_cons, List.length_append, List.length_cons, Nat.succ_mul]
    have h1 := h y List.mem_cons_self
    have h2 := ih fun z hz => h z (List.mem_cons_of_mem _ hz)
    omega
def Up (c : Nat) : Prop := 65 ≤ c ∧ c ≤ 90
def Lo (c : Nat) : Prop := 97 ≤ c ∧ c ≤ 122
instance (c : Nat) : Decidable (Up c) := by unfold Up; exact inferInstance
instance (c : Nat) : Decidable (Lo c) := by unfold Lo; exact inferInstance
/-- a drawn name: its head, its tail -/
structure Nm (z : Str) (h t : List Nat) : Prop where
  e : TL.tl z = h ++ t
  up : ∀ c ∈ h, Up c
  lo : ∀ c ∈ t, Lo c
  ne : h ++ t ≠ []
  lh : h.length ≤ 3
  lt : t.length ≤ 3
/-- the reading of a store, in one step -/
theorem set_read {te : TE} {g : TG} {t : TS} {D : Ends} {σ : L2.St} {H : Hp} (h : te σ H fun x H1 => g x σ H1 (t D)) : tSeq (tAsg te g) t D σ H := h
/-! ### places, loops over pairs -/
theorem ixN_lt {n : Nat} {k : Int} (h0 : 0 ≤ k) (h1 : k < n) : ixN n k = some k.toNat := by
  unfold ixN
  rw [if_pos h0, if_pos h1]
theorem atI_lt {α : Type} {xs : List α} {k : Int} (h0 : 0 ≤ k) (h1 : k < xs.length) : ∃ v, atI xs k = some v ∧ xs[k.toNat]? = some v := by
  have hk : k.toNat < xs.length := by omega
  refine ⟨xs[k.toNat], ?_, List.getElem?_eq_getElem hk⟩
  unfold atI
  rw [ixN_lt h0 h1]
  exact List.getElem?_eq_getElem hk
theorem atI_ints {ns : List Int} {k : Int} (h0 : 0 ≤ k) (h1 : k < ns.length) : ∃ z : Int, atI (ns.map V.int) k = some (.int z) := by
  obtain ⟨v, e, g⟩ := atI_lt (xs := ns.map V.int) h0 (by rw [List.length_map]; exact h1)
  rw [List.getElem?_map] at g
  cases q : ns[k.toNat]? with
  | none =>
    rw [q] at g
    cases g
  | some z =>
    rw [q] at g
    cases g
    exact ⟨z, e⟩
theorem map_item {ns : List Int} {i : Nat} {x : V} (h : (ns.map V.int)[i]? = some x) : ∃ z, x = .int z ∧ ns[i]? = some z := by
  rw [List.getElem?_map] at h
  cases q : ns[i]? with
  | none =>
    rw [q] at h
    cases h
  | some z =>
    rw [q] at h
    cases h
    exact ⟨z, rfl, rfl⟩
/-- for i, x in enumerate(xs), xs a list that the body leaves as it is -/
theorem for_enum {K : PySem.W.Frag} {a : Addr} {xs : List V} {g : TG} {tb : TS} {D : Ends} {σ : L2.St} {H : Hp} (Pv : Nat → L2.St → Hp → Prop) (h0 : Pv 0 σ H) (hl : ∀ i σ H, Pv i σ H → SqL K H a xs)
    (hs : ∀ (i : Nat) (x : V) (σ : L2.St) (H : Hp) (T : Addr), xs[i]? = some x → H T = none → Pv i σ H → g (.ref T) σ (upd H T (.tup [.int (i : Int), x])) fun σ2 H2 => tb { D with nx := Pv (i + 1), ct := Pv (i + 1), bk := D.nx } σ2 H2)
    (hd : ∀ σ H, Pv xs.length σ H → D.nx σ H) :
    ∃ W : Nat → Nat → L2.St → Hp → Prop, (∃ m, W 0 m σ H) ∧ ∀ i m σ H, W i m σ H →
      ((Ite K a).stop i H ∧ D.nx σ H) ∨ ((Ite K a).go i H ∧ ∃ N : L2.St → Hp → Prop, (∀ σ' H', N σ' H' → ∃ m', m' < m ∧ W (i + 1) m' σ' H') ∧ ∀ x H', (Ite K a).yld i H x H' → g x σ H' fun σ2 H2 => tb { D with nx := N, ct := N, bk := D.nx } σ2 H2) := by
  refine ⟨fun i m σ H => i + m = xs.length ∧ Pv i σ H, ⟨xs.length, Nat.zero_add _, h0⟩, ?_⟩
  rintro i m σ H ⟨em, p⟩
  have q := hl i σ H p
  cases m with
  | zero =>
    have e : i = xs.length := em
    subst e
    exact .inl ⟨⟨xs, q, Nat.le_refl _⟩, hd σ H p⟩
  | succ m =>
    have hi : i < xs.length := by omega
    refine .inr ⟨⟨xs, xs[i], q, List.getElem?_eq_getElem hi⟩, Pv (i + 1), fun σ' H' p' => ⟨m, Nat.lt_succ_self m, by omega, p'⟩, fun v H' y => ?_⟩
    obtain ⟨T, x, rfl, nT, rfl, f⟩ := y
    exact hs i x σ H T (f xs q) nT p
/-! ### the promises of the law's own helpers -/
def spKneaded : Sp := fun vs H Q _ => ∃ s l : Int, vs = [.int s, .int l] ∧ ∀ r : Int, Q (.int r) H
def spPotOf (K : PySem.W.Frag) : Sp := fun vs H Q _ => ∃ (a : Addr) (ns : List Int), vs = [.ref a] ∧ SqL K H a (ns.map V.int) ∧ ns.length ≤ 63 ∧ ∀ (p c : Addr) (H' : Hp), Same H H' → H p = none → PotAt p c H' → Q (.ref p) H'
def spBelow : Sp := fun vs H Q _ => ∃ (p c : Addr) (n : Int), vs = [.ref p, .int n] ∧ PotAt p c H ∧ 0 < n ∧ n < 1073741824 ∧ ∀ (r : Int) (H' : Hp), 0 ≤ r → r < n → Ext p c H H' → Q (.int r) H'
def spPick (K : PySem.W.Frag) : Sp := fun vs H Q _ => ∃ (p c l : Addr) (xs : List V), vs = [.ref p, .ref l] ∧ PotAt p c H ∧ SqL K H l xs ∧ l ≠ p ∧ 0 < xs.length ∧ xs.length ≤ 1000 ∧ ∀ (v : V) (H' : Hp), v ∈ xs → Ext p c H H' → Q v H'
def spName : Sp := fun vs H Q _ => ∃ (p c : Addr), vs = [.ref p] ∧ PotAt p c H ∧ ∀ (z : Str) (h t : List Nat) (H' : Hp), Nm z h t → Ext p c H H' → Q (.str z) H'
theorem pot_put {p c : Addr} {H H1 : Hp} {i a b : Int} (_h0 : PotAt p c H) (e : Ext p c H H1) : Ext p c H (upd H1 p (.lst [.ref c, .int i, .int a, .int b])) := by
  obtain ⟨n, _, ns, e2, l⟩ := e.pot
  exact ⟨fun q o eq nq => by
    rw [upd_ne nq]
    exact e.keep q o eq nq, n, ⟨i, a, b, upd_same⟩, ns, by rw [upd_ne n.symm]; exact e2, l⟩
theorem eqv_ints_nil (ns : List Int) : PyData.eqv (.list (ns.map PyData.int)) (.list []) = decide (ns = []) := by
  cases ns with
  | nil => rfl
  | cons x r =>
    rw [decide_eq_false (by simp)]
    rfl
theorem dp_ints {K : PySem.W.Frag} {H : Hp} : ∀ ns : List Int, DpAll K H (ns.map V.int) (ns.map PyData.int)
  | [] => .nil
  | x :: r => .cons (.int x) (dp_ints r)
theorem shaped_ints (ns : List Int) : SeqAt.shaped (.list (ns.map PyData.int)) = true := by
  have h1 : ∀ l : List Int, PyData.canLayAll0 (l.map PyData.int) = true := fun l => by
    induction l with
    | nil => rfl
    | cons x r ih => simpa [PyData.canLayAll0, PyData.canLay0] using ih
  have h2 : ∀ l : List Int, PyData.depthAll (l.map PyData.int) = 0 := fun l => by
    induction l with
    | nil => rfl
    | cons x r ih => simpa [PyData.depthAll, PyData.depth] using ih
  unfold SeqAt.shaped
  simp [PyData.canLay0, PyData.depth, h1, h2]
/-- ''.join([pick(pot, letters) for lap in range(below(pot, n))]) -/
theorem word_read {K : PySem.W.Frag} {p c : Addr} {σ : L2.St} {H : Hp} {n : Int} {iv : Nat} {letters : List Str} {tl : TA} {Q : VK} (hL : ∀ (σ : L2.St) (H : Hp) (Q : List V → Hp → Prop), Q (letters.map V.str) H → tl σ H Q) (hne : 0 < letters.length) (hle : letters.length ≤ 1000)
    (h1 : ∀ y ∈ letters, (TL.tl y).length ≤ 1) (hσ : σ[0]? = some (some (.ref p))) (hσ2 : ∀ v : Option V, ((wipe σ [iv]).set iv v)[0]? = some (some (.ref p))) (hw : ∀ v : Option V, wipe ((wipe σ [iv]).set iv v) [iv] = wipe σ [iv])
    (hP : PotAt p c H) (hn : 0 < n) (hn2 : n ≤ 1000) (k : ∀ (ys : List Str) (H' : Hp), (∀ y ∈ ys, y ∈ letters) → (ys.length : Int) < n → Ext p c H H' → Q (.str (Txt.join "" ys)) H') :
    tM1 (fun x xs H Q => ∃ a p, ∃ ys : List Str, x = .str a ∧ xs = [.ref p] ∧ (SqL K H p (ys.map V.str) ∨ SqT K H p (ys.map V.str)) ∧ (ys.map (·.length)).sum + ys.length * a.length ≤ 16777216 ∧ Q (.str (Txt.join a ys)) H)
      (tC (.str "")) (tLc (iRng1 (tCons (tCall spBelow [] E0 (tCons (tVar 0) (tCons (tC (.int n)) tNil))) tNil)) (gName iv) tYes (tCall (spPick K) [] E0 (tCons (tVar 0) (tCons (tLst tl) tNil))) [iv]) σ H Q := by
  refine ⟨⟨_, rfl⟩, _, hσ, p, c, n, rfl, hP, hn, by omega, fun r H1 r0 r1 e1 => ⟨r, rfl, by omega, by omega, fun D nD => ?_⟩⟩
  have nD0 := e1.free nD
  have nDp : D ≠ p := hP.nep nD0
  refine lc_range (lo := 0) (n := r.toNat) (fun i H' => Ext p c H H' ∧ ∃ ys : List Str, H' D = some (.lst (ys.map V.str)) ∧ ys.length = i ∧ ∀ y ∈ ys, y ∈ letters) ⟨e1.mut hP nD0, [], upd_same, rfl, fun y h => nomatch h⟩ ?_ ?_
  · rintro i H2 hi ⟨e2, ys, hD, hl, hy⟩
    refine ⟨hw _, _, hσ2 _, hL _ _ _ ⟨by rw [List.length_map]; exact Nat.le_of_lt (small1000 hle), fun l nl => ?_⟩⟩
    refine ⟨p, c, l, letters.map V.str, rfl, e2.pot.same (same_upd nl), SqL.of upd_same, e2.pot.nep nl, by rw [List.length_map]; exact hne, by rw [List.length_map]; exact hle, fun v H3 hv e3 => ?_⟩
    obtain ⟨y, my, rfl⟩ := List.mem_map.mp hv
    have e4 := e2.trans (Ext.pre (same_upd nl) e3)
    have hD3 : H3 D = some (.lst (ys.map V.str)) := e3.get (by rw [upd_ne (ne_of_none hD nl)]; exact hD) nDp
    refine ⟨_, hD3, by rw [List.length_map, hl]; exact small1000 (by omega), e4.mut hP nD0, ys ++ [y], by rw [upd_same, List.map_append]; rfl, by rw [List.length_append, hl]; rfl, fun z hz => ?_⟩
    rcases List.mem_append.mp hz with hz | hz
    · exact hy z hz
    · rw [List.mem_singleton.mp hz]
      exact my
  · rintro H2 ⟨e2, ys, hD, hl, hy⟩
    have hs : (ys.map (·.length)).sum ≤ ys.length * 1 := sum_len_le fun y h => by
      rw [TL.len_tl]
      exact h1 y (hy y h)
    exact ⟨"", D, ys, rfl, rfl, .inl (SqL.of hD), by
      show (ys.map (·.length)).sum + ys.length * 0 ≤ 16777216
      omega, k ys H2 hy (by omega) e2⟩
end Lk
/-! Repr0 -/
set_option Elab.async false
set_option maxRecDepth 100000
set_option maxHeartbeats 4000000
namespace Lk
open PySem PySem.Spec PyProof.Rows L2
/-! ### data of any form, dicts too -/
def keyD : Key → PyData
  | .inl i => .int i
  | .inr x => .str x
mutual
inductive Th (K : PySem.W.Frag) (H : Hp) : V → PyData → Prop
  | non : Th K H .non .none
  | bl (b : Bool) : Th K H (.bl b) (.bool b)
  | int (i : Int) : Th K H (.int i) (.int i)
  | str (x : Str) : Th K H (.str x) (.str x)
  | lst {a : Addr} {xs : List V} {ds : List PyData} : SqL K H a xs → ThAll K H xs ds → Th K H (.ref a) (.list ds)
  | tup {a : Addr} {xs : List V} {ds : List PyData} : SqT K H a xs → ThAll K H xs ds → Th K H (.ref a) (.tuple ds)
  | dct {a : Addr} {kvs : List (Key × V)} {ds : List (PyData × PyData)} : H a = some (.dK kvs) → ThAll K H (kvs.map (·.2)) (ds.map (·.2)) → ds.map (·.1) = kvs.map (fun p => keyD p.1) → Th K H (.ref a) (.dict ds)
inductive ThAll (K : PySem.W.Frag) (H : Hp) : List V → List PyData → Prop
  | nil : ThAll K H [] []
  | cons {v : V} {vs : List V} {d : PyData} {ds : List PyData} : Th K H v d → ThAll K H vs ds → ThAll K H (v :: vs) (d :: ds)
end
mutual
def noLst : PyData → Bool
  | .none | .bool _ | .int _ | .str _ => true
  | .list _ => false
  | .tuple xs => noLstAll xs
  | .dict kvs => noLstKv kvs
def noLstAll : List PyData → Bool
  | [] => true
  | x :: xs => noLst x && noLstAll xs
def noLstKv : List (PyData × PyData) → Bool
  | [] => true
  | (_, v) :: r => noLst v && noLstKv r
end
theorem noLstKv_map : ∀ ds : List (PyData × PyData), noLstAll (ds.map (·.2)) = noLstKv ds
  | [] => rfl
  | (k, v) :: r => by
    show (noLst v && noLstAll (r.map (·.2))) = (noLst v && noLstKv r)
    rw [noLstKv_map r]
/-- what may be shown -/
structure Wf (d : PyData) : Prop where
  sh : d.showable = true
  lv : d.leavesShort 13 = true
  bk : d.bulk ≤ 1000000
  dp : d.depth ≤ 60
  sy : d.hasDict = false ∨ noLst d = true
section
variable {X : Cx} {pins : List (Addr × Obj)} {σ : L2.St} {H : Hp} {s : Shared}
theorem keys_read {prog : Program} {w : World} {h : Heap} : ∀ {es : List DictEntry} {kvs : List (Key × V)} {vs : List (Key × Value)}, KV kvs vs → Pairs (mixKind prog w) es vs →
    ReadsAll h (es.map (·.key)) (kvs.map fun p => keyD p.1) [] ∧ Vals (kvs.map (·.2)) (es.map (·.val))
  | _, _, _, .nil, .nil => ⟨.nil, .nil⟩
  | _, _, _, .cons (a := a) q t, .cons (e := e) h1 h2 p => by
    obtain ⟨ih1, ih2⟩ := keys_read (h := h) t p
    obtain ⟨q1, q2⟩ := q
    rw [← q1] at h1
    refine ⟨?_, .cons (by show L2.RelV a.2 e.val; rw [h2]; exact q2) ih2⟩
    obtain ⟨k, v⟩ := a
    have h1' : keyIs k e.key = true := h1
    rcases keyIs_shape h1' with ⟨i, t, rfl, e1⟩ | ⟨x, t, rfl, e1⟩
    · have r : Reads h e.key (.int i) [] := by rw [e1]; exact Reads.int i t
      exact ReadsAll.cons r ih1
    · have r : Reads h e.key (.str x) [] := by rw [e1]; exact Reads.str x t
      exact ReadsAll.cons r ih1
theorem th_reads (I : Inv X pins σ H s) {v : V} {d : PyData} (h : Th X.K H v d) : ∀ u, RelV v u → ∃ as, Reads s.heap u d as ∧ (noLst d = true → sysModules ∉ as) := by
  refine Th.rec (motive_1 := fun v d _ => ∀ u, RelV v u → ∃ as, Reads s.heap u d as ∧ (noLst d = true → sysModules ∉ as)) (motive_2 := fun vs ds _ => ∀ us, Vals vs us → ∃ as, ReadsAll s.heap us ds as ∧ (noLstAll ds = true → sysModules ∉ as))
    ?_ ?_ ?_ ?_ ?_ ?_ ?_ ?_ ?_ h
  · intro u r
    cases r
    exact ⟨_, Reads.none, fun _ h => nomatch h⟩
  · intro b u r
    cases r
    exact ⟨_, Reads.bool b, fun _ h => nomatch h⟩
  · intro i u r
    obtain ⟨t, rfl⟩ := r
    exact ⟨_, Reads.int i t, fun _ h => nomatch h⟩
  · intro x u r
    obtain ⟨t, rfl⟩ := r
    exact ⟨_, Reads.str x t, fun _ h => nomatch h⟩
  · intro a xs ds hs _ ih u r
    cases r
    obtain ⟨its, rv, ⟨o, n, ho, hc, _, hd⟩, _⟩ := I.list hs
    obtain ⟨as, hr, _⟩ := ih its rv
    exact ⟨_, Reads.list ho hc hd hr, fun z => by simp [noLst] at z⟩
  · intro a xs ds hs _ ih u r
    cases r
    obtain ⟨its, rv, ⟨o, ho, hc, n, hd⟩, _⟩ := I.tuple hs
    obtain ⟨as, hr, hn⟩ := ih its rv
    exact ⟨_, Reads.tuple ho hc hd hr, fun z => hn (by simpa [noLst] using z)⟩
  · intro a kvs ds hs _ ek ih u r
    cases r
    obtain ⟨_, hsys, vs, kv, o, es, ep, ho, ex, hd, _, hp, _⟩ := (show ObjOk X.prog X.w H s.heap a (.dK kvs) from I.hok a _ hs)
    obtain ⟨rk, rv⟩ := keys_read (h := s.heap) kv hp
    obtain ⟨bs, hr, hn⟩ := ih _ rv
    refine ⟨_, Reads.dict ho ex.1 hd (by rw [ek]; exact rk) hr, fun z hm => ?_⟩
    rcases List.mem_append.mp hm with hm | hm
    · rw [List.mem_singleton.mp hm] at hsys
      exact absurd hsys (by simp)
    · refine hn ?_ hm
      rw [noLstKv_map]
      simpa [noLst] using z
  · intro us r
    cases r
    exact ⟨_, ReadsAll.nil, fun _ h => nomatch h⟩
  · intro v vs d ds _ _ ih1 ih2 us r
    cases r with
    | cons r1 r2 =>
      obtain ⟨as, q1, n1⟩ := ih1 _ r1
      obtain ⟨bs, q2, n2⟩ := ih2 _ r2
      refine ⟨_, ReadsAll.cons q1 q2, fun z hm => ?_⟩
      have z2 : noLst d = true ∧ noLstAll ds = true := by simpa [noLstAll] using z
      rcases List.mem_append.mp hm with hm | hm
      · exact n1 z2.1 hm
      · exact n2 z2.2 hm
theorem Wf.fits {d : PyData} (h : Wf d) : d.shown.length ≤ sizeLine := PyData.shown_fits_bulk (B := 13) (by decide) (by decide) h.lv (Nat.le_trans h.bk (by decide))
end
end Lk
/-! Grd0 -/
set_option Elab.async false
set_option maxRecDepth 100000
set_option maxHeartbeats 4000000
namespace Lk
open PySem PySem.Spec PyProof.Rows L2
/-! ### defs that are called where no guard is on the stack: they may show data -/
structure FnG (P : Program) (w : World) (K : PySem.W.Frag) (mg : Str → Option Value) (base : Heap) (CX : CXT) (k : Nat) (f : Addr) (fd : FuncData) (ps : List Str) (sp : Sp) : Prop where
  len : ∀ vs H Q E, sp vs H Q E → vs.length = ps.length
  go : ∀ (A : Around) (above : List Env) (s : Shared) (H : Hp) (args : Args) (us : List Value) (vs : List V) (Q : VK) (E : XK), Room k A → A.guards = some [] →
    Env0 P w K mg base A above s H → BindsTo s fd args (ps.zip us) → Vals vs us → sp vs H Q E → codeAny (model P w) A (.call (.ref f) args) (CR CX above P w H s Q E) s
section
variable {P : Program} {w : World} {K : PySem.W.Frag} {mg : Str → Option Value} {base : Heap} {CX : CXT}
theorem fnG_of {k : Nat} {f : Addr} {nm qn : Str} {pr : Arguments} {bd : List Stmt} {sc : Scope} {d1 d2 d3 d4 cv ct oc : Value} {an od : Option Addr} {sl : Array (Option Value)} {N ps : List Str} {sp : Sp}
    (at_ : K.lookup f = some ⟨oc, od, .func (PySem.W.fnOf nm qn pr bd sc d1 d2 d3 d4 an cv ct), sl⟩) (hc : PySem.W.codeIn K cv qn = true) (S : FnScope N ps sc) (len : ∀ vs H Q E, sp vs H Q E → vs.length = ps.length)
    (hb : ∀ (A : Around) (above : List Env) (s : Shared) (H : Hp) (vs : List V) (Q : VK) (E : XK), Room k (A.deeper (envOfC qn sc s.heap.objs.size f cv)) → (A.deeper (envOfC qn sc s.heap.objs.size f cv)).guards = some [] → sp vs H Q E →
      ∃ t, PSs (cxOf CX P w K mg base N qn sc f cv A above s H E) bd t ∧ t { nx := fun _ H' => Q .non H', rt := Q } (start N vs) H) :
    FnG P w K mg base CX (k + 1) f (PySem.W.fnOf nm qn pr bd sc d1 d2 d3 d4 an cv ct) ps sp := by
  constructor
  · exact len
  · intro A above s H args us vs Q E room gd env bind rel want
    have old : ∀ b o, base.get? b = some o → s.heap.get? b = some o := fun b o e => (env.bs b o e).1
    have kin := env.mod.kin.keeps old
    have mine : ∀ y ∈ ps.zip us, sc.names.lookup y.1 = some .local ∨ (sc.names.lookup y.1 = some .cell ∧ ((cellsFrom (s.heap.objs.size + 1) sc.names []).lookup y.1).isSome = true) := by
      rintro ⟨n, v⟩ hy
      have := S.par n (List.of_mem_zip hy).1
      exact this.imp id fun c => ⟨c, PySem.W.cellsFrom_some _ _ _ (.inl c)⟩
    apply codeAny_call_function room.depth (kin _ _ at_) rfl S.co S.gen rfl (PySem.W.codeRec_of kin hc)
    apply bind
    apply wpAny_newFunctionEnv_cells S.kind mine
    intro env1 he s1 inside
    subst he
    refine ⟨(env.mod.nolimit.keeps old).keeps inside.toInCall.keep, codeAny_func ?_⟩
    obtain ⟨t, walk, read⟩ := hb A above s H vs Q E (room.deeper _) gd want
    have I0 := inv_start (CX := CX) (P := P) (w := w) (E := E) S room.hd env (len _ _ _ _ want) rel inside
    apply wpAny_mono (walk.run [] s1 (start N vs) H _ I0 read)
    · intro fl s2 out
      match fl, out with
      | .ret u, ⟨v, σ', H', J, rv, q⟩ => exact ⟨v, H', J.os, J.bare, J.base, J.hok, rv, q⟩
      | .next, ⟨σ', H', J, q⟩ => exact ⟨V.non, H', J.os, J.bare, J.base, J.hok, rfl, q⟩
      | .brk, ⟨_, _, _, q⟩ => exact False.elim q
      | .cont, ⟨_, _, _, q⟩ => exact False.elim q
    · intro e s2 out
      exact out
structure CalG (P : Program) (w : World) (K : PySem.W.Frag) (mg : Str → Option Value) (base : Heap) (CX : CXT) (k : Nat) (x : String) (sp : Sp) : Prop where
  ex : ∃ (f : Addr) (fd : FuncData) (ps : List Str), FnG P w K mg base CX k f fd ps sp ∧ mg x = some (.ref f) ∧ PySem.W.keepIn K (.ref f) = true ∧ Binds K fd ps []
theorem mkCalG {x : String} {st : Stmt} {N ps : List Str} {k : Nat} {sp : Sp} (D : Def1 K mg x st) (S : FnScope N ps (defScope st))
    (hb : ∀ (kV doc pm : Value) (an : Option Addr) (cdv ct : Value) (us : List Value), us.length = ps.length → bindArgs (PySem.W.fnOf x x (defArgs st) (defBody st) (defScope st) .none kV doc pm an cdv ct) ⟨us, []⟩ = pure (ps.zip us))
    (len : ∀ vs H Q E, sp vs H Q E → vs.length = ps.length)
    (body : ∀ (f : Addr) (cdv : Value) (A : Around) (above : List Env) (s : Shared) (H : Hp) (vs : List V) (Q : VK) (E : XK), Room k (A.deeper (envOfC x (defScope st) s.heap.objs.size f cdv)) →
      (A.deeper (envOfC x (defScope st) s.heap.objs.size f cdv)).guards = some [] → sp vs H Q E →
      ∃ t, PSs (cxOf CX P w K mg base N x (defScope st) f cdv A above s H E) (defBody st) t ∧ t { nx := fun _ H' => Q .non H', rt := Q } (start N vs) H) : CalG P w K mg base CX (k + 1) x sp := by
  obtain ⟨f, fd, F, m⟩ := D.ex
  have b := F.binds hb
  have kp := F.kp
  obtain ⟨oc, od, kV, doc, pm, an, cdv, ct, sl, rfl, lk, hcd⟩ := F.ex
  exact ⟨f, _, ps, fnG_of lk hcd S len fun A above s H vs Q E hr hg h => body f cdv A above s H vs Q E hr hg h, m, kp, b⟩
/-- the whole law, from its promise -/
theorem lawG {mb : Str → Option Value} {k : Nat} {fa a : Addr} {fd : FuncData} {x : Str} {sp : Sp} {s : Shared} {vs : List Value} {ns : List Int}
    (KX : K.In s.heap) (gl : s.heap.Ns mainGlobals mg) (bl : s.heap.Ns builtinsNs mb) (bb : ∀ x : Str, x ≠ "__name__" → mb x = bootBuiltins x) (nl : s.heap.NoLimit) (gens : s.gens = #[])
    (ha : s.heap.get? a = some { cls := .type "list", data := .seq vs.toArray }) (hin : IntsAre vs ns) (short : ns.length ≤ sizeLine) (room : Room k callerA)
    (F : ∀ base : Heap, K.In base → base.Ns mainGlobals mg → FnG P w K mg base CX k fa fd [x] sp) (bind : ∀ (s : Shared) (u : Value), BindsTo s fd ⟨[u], []⟩ [(x, u)])
    (prom : ∀ H : Hp, Only H → SqL K H a (ns.map V.int) → sp [.ref a] H (fun v _ => v = .bl true) fun _ _ _ => False)
    (noX : ∀ H e s', CX [] H s (fun _ _ _ => False) e s' → False) :
    codeAny (model P w) callerA (.call (.ref fa) ⟨[.ref a], []⟩) (fun r s' => r = .ok (.ret (.bool true)) ∧ OldK s.heap s'.heap ∧ s'.os = s.os ∧ AllBare s'.gens) s := by
  have vals := vals_ints hin
  have run : ∀ H : Hp, Only H → SqL K H a (ns.map V.int) → HOk P w H s.heap → (∀ b, H b ≠ none → b = a ∧ K.lookup a = none) →
      codeAny (model P w) callerA (.call (.ref fa) ⟨[.ref a], []⟩) (fun r s' => r = .ok (.ret (.bool true)) ∧ OldK s.heap s'.heap ∧ s'.os = s.os ∧ AllBare s'.gens) s := by
    intro H only seq ok here
    have dicts : ∀ {b : Addr} {m : Str → Option Value}, s.heap.Ns b m → (hidT s.heap H).Ns b m := by
      rintro b m ⟨o, es, ep, e, d, r⟩
      refine ⟨o, es, ep, hidT_get e ?_, d, r⟩
      apply Classical.byContradiction
      intro z
      obtain ⟨rfl, _⟩ := here b z
      rw [ha] at e
      cases e
      cases d
    have kb : K.In (hidT s.heap H) := by
      intro b o e
      refine hidT_get (KX b o e) ?_
      apply Classical.byContradiction
      intro z
      obtain ⟨rfl, q⟩ := here b z
      rw [q] at e
      cases e
    have md : Mod K mg (hidT s.heap H) := ⟨kb, dicts gl, ⟨mb, dicts bl, bb⟩, by
      obtain ⟨mc, h1, h2⟩ := nl
      exact ⟨mc, dicts h1, h2⟩⟩
    have nof : ∀ b ∈ frs ([] : List Env), H b = none := by
      intro b i
      have i2 : b ∈ ([] : List Addr) := i
      cases i2
    have env : Env0 P w K mg (hidT s.heap H) callerA [] s H := ⟨rfl, md, fun b o e => of_hidT e, Nat.le_of_eq (hidT_size _ _), trivial, nof, ok, .of_eq gens⟩
    apply codeAny_mono ((F _ kb (dicts gl)).go callerA [] s H ⟨[.ref a], []⟩ [.ref a] [.ref a] _ _ room rfl env (bind s (.ref a)) (.cons rfl .nil) (prom H only seq))
    intro r s' out
    match r, out with
    | .error e, out => exact (noX H e s' out).elim
    | .ok .next, out => exact False.elim out
    | .ok .brk, out => exact False.elim out
    | .ok .cont, out => exact False.elim out
    | .ok (.ret u), ⟨v, H', os, bare, un, ok', rel, q⟩ =>
      have e1 : v = .bl true := q
      rw [e1] at rel
      have e2 : u = Value.bool true := rel
      rw [e2]
      refine ⟨rfl, OldK.of_keep ?_, os, bare⟩
      intro b o e
      rcases only b with z | ⟨ob, xs, z⟩
      · exact un.keep b o e z (by
          intro i
          have i2 : b ∈ ([] : List Addr) := i
          cases i2) (by
          intro i
          cases i)
      · have after := (ok' b _ (un.frzs b ob _ z)).1
        rw [(ok b _ z).1] at e
        cases e
        exact after
  match q : K.lookup a with
  | some o =>
    have same := KX a o q
    rw [ha] at same
    cases same
    exact run (fun _ => none) (fun _ => .inl rfl) (.inr ⟨_, vs.toArray, _, q, rfl, rfl, rfl, by rw [List.size_toArray, hin.length]; exact short, by simpa using vals⟩) (fun b u z => nomatch z) fun b z => absurd rfl z
  | none =>
    have mine : ∀ {b : Addr} {u : HO}, (fun b => if b = a then some (HO.frz { cls := .type "list", data := .seq vs.toArray } (.lst (ns.map V.int))) else none) b = some u → b = a ∧ u = HO.frz { cls := .type "list", data := .seq vs.toArray } (.lst (ns.map V.int)) := by
      intro b u z
      by_cases h : b = a
      · exact ⟨h, (Option.some.inj ((if_pos h).symm.trans z)).symm⟩
      · exact absurd ((if_neg h).symm.trans z) (by simp)
    refine run (fun b => if b = a then some (.frz { cls := .type "list", data := .seq vs.toArray } (.lst (ns.map V.int))) else none) (fun b => ?_) (.inl (.inr ⟨{ cls := .type "list", data := .seq vs.toArray }, if_pos rfl⟩)) (fun b u z => ?_) fun b z => ⟨?_, q⟩
    · by_cases h : b = a
      · exact .inr ⟨_, _, if_pos h⟩
      · exact .inl (if_neg h)
    · obtain ⟨rfl, rfl⟩ := mine z
      exact ⟨ha, by rw [List.length_map]; exact short, vs, _, vals, ha⟩
    · apply Classical.byContradiction
      intro h
      exact z (if_neg h)
end
/-- the goal that the law's head leaves, from the law's promise -/
theorem walkG {l : PySem.W.OpenLaw} {k : Nat} {q : Program} {loose : List Str} {XP : (Str → Option Value) → Heap → Prop} {YP : World → Heap → Prop} {d : DefRec} {K : Params → PySem.W.Frag} {CX : World → CXT} {sp : World → Sp} {x : Str}
    (most : l.most = some 63) (noD : d.params.defaults = []) (room : Room k callerA) (hY : ∀ (w : World) (h : Heap), YP w h → (K w.params).In h)
    (F : ∀ (w : World) (mg : Str → Option Value) (fa : Addr) (h : Heap), (K w.params).In h → h.Ns mainGlobals mg → mg d.name = some (.ref fa) →
      ∃ fd : FuncData, (∀ (s : Shared) (u : Value), BindsTo s fd ⟨[u], []⟩ [(x, u)]) ∧ ∀ base : Heap, (K w.params).In base → base.Ns mainGlobals mg → FnG l.prog w (K w.params) mg base (CX w) k fa fd [x] (sp w))
    (prom : ∀ (w : World) (H : Hp) (a : Addr) (ns : List Int), ns.length ≤ 63 → Only H → SqL (K w.params) H a (ns.map V.int) → sp w [.ref a] H (fun v _ => v = .bl true) fun _ _ _ => False)
    (noX : ∀ (w : World) (H : Hp) (s : Shared) (e : Value) (s' : Shared), CX w [] H s (fun _ _ _ => False) e s' → False) :
    PySem.W.WalkO q loose XP YP l.row.toRowW d [] (fun f vs => PySem.call f vs) := by
  apply Att.attach_call most noD
  intro w s0 s1 mg mb fa o pm cd doc a vs ns G Y ho hd hcd hmg hobj hints hlen hg
  obtain ⟨fd, hb, hF⟩ := F w mg fa _ (hY w _ Y) G.T.g hmg
  exact lawG (hY w _ Y) G.T.g G.T.b G.T.builtins G.T.nolimit hg hobj hints (Nat.le_trans hlen (by decide)) room hF hb (fun H only seq => prom w H a ns hlen only seq) fun H e s' => noX w H s1 e s'
end Lk
/-! Nam0 -/
set_option Elab.async false
set_option maxRecDepth 100000
set_option maxHeartbeats 4000000
namespace Lk
open PySem PySem.Spec PyProof.Rows L2
def upB (c : Nat) : Bool := decide (65 ≤ c) && decide (c ≤ 90)
def loB (c : Nat) : Bool := decide (97 ≤ c) && decide (c ≤ 122)
def capS : Str := "ABCDEFGHIJKLMNOPQRSTUVWXYZ"
def smaS : Str := "abcdefghijklmnopqrstuvwxyz"
theorem range_has {n k c : Nat} : (List.range' n k).contains c = (decide (n ≤ c) && decide (c < n + k)) := by
  rw [Bool.eq_iff_iff]
  simp [List.mem_range'_1]
theorem cap_has (c : Nat) : capS.cps.contains c = upB c := by
  have e : capS.cps.toList = List.range' 65 26 := by decide +kernel
  rw [← Array.contains_toList, e, range_has, Bool.eq_iff_iff]
  simp [upB]
  omega
theorem sma_has (c : Nat) : smaS.cps.contains c = loB c := by
  have e : smaS.cps.toList = List.range' 97 26 := by decide +kernel
  rw [← Array.contains_toList, e, range_has, Bool.eq_iff_iff]
  simp [loB]
  omega
/-! ### strip -/
theorem drop_tw (p : Nat → Bool) : ∀ l : List Nat, l.drop (l.takeWhile p).length = l.dropWhile p
  | [] => rfl
  | c :: r => by
    rw [List.takeWhile_cons, List.dropWhile_cons]
    by_cases h : p c = true
    · rw [if_pos h, if_pos h]
      exact drop_tw p r
    · rw [if_neg h, if_neg h]
      rfl
theorem tw_len (p : Nat → Bool) : ∀ l : List Nat, (l.takeWhile p).length ≤ l.length
  | [] => Nat.le_refl _
  | c :: r => by
    rw [List.takeWhile_cons]
    split
    · exact Nat.succ_le_succ (tw_len p r)
    · exact Nat.zero_le _
theorem tl_lstrip (p : Nat → Bool) (x : Str) : TL.tl (Txt.stripBy p true false x) = (TL.tl x).dropWhile p := by
  have hlo : stripLo p true x = ((TL.tl x).takeWhile p).length := if_pos rfl
  have hhi : stripHi p false x (stripLo p true x) = x.length := if_neg Bool.false_ne_true
  unfold Txt.stripBy
  by_cases h : stripSame p true false x = true
  · rw [if_pos h]
    have h0 : stripLo p true x = 0 := by
      unfold stripSame at h
      rw [Bool.and_eq_true] at h
      exact beq_iff_eq.mp h.1
    rw [← drop_tw, ← hlo, h0]
    rfl
  · rw [if_neg h]
    unfold stripped
    rw [hhi, TL.tl_strSub_end, hlo, drop_tw]
theorem dw_all {p : Nat → Bool} : ∀ l : List Nat, (l.dropWhile p = [] ↔ l.all p = true)
  | [] => by simp
  | c :: r => by
    rw [List.dropWhile_cons, List.all_cons]
    by_cases h : p c = true
    · rw [if_pos h, h, Bool.true_and]
      exact dw_all r
    · rw [if_neg h]
      simp [h]
theorem tl_strip (p : Nat → Bool) (x : Str) : TL.tl (Txt.stripBy p true true x) = [] ↔ (TL.tl x).all p = true := by
  have hl : x.length = (TL.tl x).length := TL.len_tl x
  have hlo : stripLo p true x = ((TL.tl x).takeWhile p).length := if_pos rfl
  have hhi : ∀ k, stripHi p true x k = x.length - (((TL.tl x).drop k).reverse.takeWhile p).length := fun k => if_pos rfl
  have key : TL.tl (Txt.stripBy p true true x) = ((TL.tl x).drop (stripLo p true x)).take (stripHi p true x (stripLo p true x) - stripLo p true x) := by
    unfold Txt.stripBy
    by_cases h : stripSame p true true x = true
    · rw [if_pos h]
      unfold stripSame at h
      rw [Bool.and_eq_true] at h
      have h0 := beq_iff_eq.mp h.1
      have h1 := beq_iff_eq.mp h.2
      rw [h1, h0, List.drop_zero, Nat.sub_zero, hl, List.take_length]
    · rw [if_neg h]
      unfold stripped
      rw [TL.tl_strSub]
  rw [key, hlo, drop_tw, hhi, drop_tw]
  cases e : (TL.tl x).dropWhile p with
  | nil =>
    rw [List.take_nil]
    exact ⟨fun _ => (dw_all _).mp e, fun _ => rfl⟩
  | cons c r =>
    have hc : p c = false := by
      have := List.head?_dropWhile_not p (TL.tl x)
      rw [e] at this
      simpa using this
    constructor
    · intro h
      exfalso
      have hlen : (c :: r).length + ((TL.tl x).takeWhile p).length = (TL.tl x).length := by
        rw [← e, ← drop_tw, List.length_drop]
        have := tw_len p (TL.tl x)
        omega
      have hrev : (((c :: r).reverse).takeWhile p).length ≤ r.length := by
        rw [List.reverse_cons]
        by_cases ha : r.reverse.all p = true
        · rw [List.takeWhile_append_of_pos (by simpa using ha), List.takeWhile_cons, if_neg (by rw [hc]; decide)]
          simp
        · have := tw_len p (r.reverse ++ [c])
          have h2 : ((r.reverse ++ [c]).takeWhile p).length ≠ (r.reverse ++ [c]).length := fun z => by
            have e2 : (r.reverse ++ [c]).takeWhile p = r.reverse ++ [c] := (List.takeWhile_sublist p).eq_of_length z
            have := List.all_takeWhile (p := p) (l := r.reverse ++ [c])
            rw [e2, List.all_append, Bool.and_eq_true] at this
            exact ha this.1
          rw [List.length_append, List.length_reverse, List.length_singleton] at this h2
          omega
      rw [List.length_cons] at hlen
      have : (List.take (x.length - (((c :: r).reverse).takeWhile p).length - ((TL.tl x).takeWhile p).length) (c :: r)).length = 0 := by rw [h]; rfl
      rw [List.length_take, List.length_cons] at this
      omega
    · intro h
      have := (dw_all _).mpr h
      rw [e] at this
      cases this
/-! ### what a name, an end, a pattern is -/
def nmB (l : List Nat) : Bool := !l.isEmpty && (l.dropWhile upB).all loB
def dName : PyData → Bool
  | .str x => nmB (TL.tl x)
  | _ => false
def dEnd (p : Nat → Bool) : PyData → Bool
  | .str x => decide (x.length ≤ 3) && (TL.tl x).all p
  | _ => false
def isE : PyData → Bool
  | .str x => decide (x = "")
  | _ => false
def dPat : PyData → Bool
  | .tuple [b, e] => dEnd upB b && (dEnd loB e && !(isE b && isE e))
  | _ => false
/-! ### types of data -/
def tyN : PyData → String
  | .none => "NoneType" | .bool _ => "bool" | .int _ => "int" | .str _ => "str" | .list _ => "list" | .tuple _ => "tuple" | .dict _ => "dict"
def isStr : PyData → Bool
  | .str _ => true
  | _ => false
def isTup : PyData → Bool
  | .tuple _ => true
  | _ => false
def isDct : PyData → Bool
  | .dict _ => true
  | _ => false
def isLst : PyData → Bool
  | .list _ => true
  | _ => false
theorem th_ty {K : PySem.W.Frag} {H : Hp} {v : V} {d : PyData} (h : Th K H v d) : TyX K H v (.type (tyN d)) := by
  cases h with
  | non => exact .base .non
  | bl b => exact .base (.bl b)
  | int i => exact .base (.int i)
  | str x => exact .base (.str x)
  | lst h _ =>
    rcases h with (h | ⟨o, h⟩) | ⟨o, its, n, h, hc, _⟩
    · exact .base (.lst h)
    · exact .base (.frz h)
    · exact .kList h hc
  | tup h _ =>
    rcases h with (h | ⟨o, h⟩) | ⟨o, its, n, h, hc, _⟩
    · exact .base (.tup h)
    · exact .fTuple h
    · exact .kTuple h hc
  | dct h _ _ => exact .base (.dK h)
theorem kit_str {K : PySem.W.Frag} : ∀ d : PyData, PySem.W.kitOne K (.type (tyN d)) (.type "str") = some (isStr d)
  | .none => kit_ty (show kitB "NoneType" "str" = some false by decide +kernel)
  | .bool _ => kit_ty (show kitB "bool" "str" = some false by decide +kernel)
  | .int _ => kit_ty (show kitB "int" "str" = some false by decide +kernel)
  | .str _ => kit_ty (show kitB "str" "str" = some true by decide +kernel)
  | .list _ => kit_ty (show kitB "list" "str" = some false by decide +kernel)
  | .tuple _ => kit_ty (show kitB "tuple" "str" = some false by decide +kernel)
  | .dict _ => kit_ty (show kitB "dict" "str" = some false by decide +kernel)
theorem kit_tup {K : PySem.W.Frag} : ∀ d : PyData, PySem.W.kitOne K (.type (tyN d)) (.type "tuple") = some (isTup d)
  | .none => kit_ty (show kitB "NoneType" "tuple" = some false by decide +kernel)
  | .bool _ => kit_ty (show kitB "bool" "tuple" = some false by decide +kernel)
  | .int _ => kit_ty (show kitB "int" "tuple" = some false by decide +kernel)
  | .str _ => kit_ty (show kitB "str" "tuple" = some false by decide +kernel)
  | .list _ => kit_ty (show kitB "list" "tuple" = some false by decide +kernel)
  | .tuple _ => kit_ty (show kitB "tuple" "tuple" = some true by decide +kernel)
  | .dict _ => kit_ty (show kitB "dict" "tuple" = some false by decide +kernel)
theorem kit_lst {K : PySem.W.Frag} : ∀ d : PyData, PySem.W.kitOne K (.type (tyN d)) (.type "list") = some (isLst d)
  | .none => kit_ty (show kitB "NoneType" "list" = some false by decide +kernel)
  | .bool _ => kit_ty (show kitB "bool" "list" = some false by decide +kernel)
  | .int _ => kit_ty (show kitB "int" "list" = some false by decide +kernel)
  | .str _ => kit_ty (show kitB "str" "list" = some false by decide +kernel)
  | .list _ => kit_ty (show kitB "list" "list" = some true by decide +kernel)
  | .tuple _ => kit_ty (show kitB "tuple" "list" = some false by decide +kernel)
  | .dict _ => kit_ty (show kitB "dict" "list" = some false by decide +kernel)
/-- a module's constant -/
def Con1 (mg : Str → Option Value) (x : String) (v : V) : Prop := ∃ u, mg x = some u ∧ RelV v u
section
variable {X : Cx} {x : String} {v : V} {pos : Pos}
theorem pe_con1 (h : Con1 X.mg x v) (hg : Gl X x := by rfl) (hd : ((x : Str) == ("__debug__" : Str)) = false := by decide) : PE X (.Name x pos) (tC v) := by
  obtain ⟨u, e, r⟩ := h
  exact pe_glob hg e r hd
/-- isinstance(e, T), T one built-in class -/
theorem pe_isi {T : String} {e : Expr} {te : TE} {p q pos : Pos} (he : PE X e te) (hm : X.mg "isinstance" = none) (hT : X.mg T = none) (hb : bootBuiltins T = some (.type T)) (hg : Gl X "isinstance" := by rfl) (hgT : Gl X T := by rfl)
    (hn : (T : Str) ≠ "__name__" := by decide) (hd : ((T : Str) == ("__debug__" : Str)) = false := by decide) (h1 : starEach [e, .Name T q] X.env = (false, eval e X.env) :: starEach [.Name T q] X.env := by rfl) (h2 : starEach [.Name T q] X.env = (false, eval (.Name T q) X.env) :: starEach [] X.env := by rfl)
    (h3 : (backTo pos (starEach [.Name T q] X.env)).any (·.1) = false := by rfl) :
    PE X (.Call (.Name "isinstance" p) [e, .Name T q] [] pos) (tCB (rIsi X.K) (tCons te (tCons (tC (.ty T)) tNil))) :=
  pe_callB call_isi hg hm (by decide +kernel) (pa_cons he (pa_cons (pe_bltn (v := .ty T) hgT hT hb rfl hn hd) pa_nil h2) h1) (he := h1) (hpl := h3)
end
/-! ### promises of the program's first functions -/
structure Glc (mg : Str → Option Value) : Prop where
  isinst : mg "isinstance" = none
  str : mg "str" = none
  tuple : mg "tuple" = none
  caps : Con1 mg "CAPITALS" (.str capS)
  smalls : Con1 mg "SMALLS" (.str smaS)
  ends : Con1 mg "MOST_END_LETTERS" (.int 3)
def spIsName (K : PySem.W.Frag) : Sp := fun vs H Q _ => ∃ v d, vs = [v] ∧ Th K H v d ∧ d.bulk ≤ 1000000 ∧ Q (.bl (dName d)) H
def spIsEnd (K : PySem.W.Frag) : Sp := fun vs H Q _ => ∃ v d L p, vs = [v, .str L] ∧ Th K H v d ∧ d.bulk ≤ 1000000 ∧ (∀ c, L.cps.contains c = p c) ∧ Q (.bl (dEnd p d)) H
def spIsPat (K : PySem.W.Frag) : Sp := fun vs H Q _ => ∃ v d, vs = [v] ∧ Th K H v d ∧ d.bulk ≤ 1000000 ∧ Q (.bl (dPat d)) H
theorem not_str {d : PyData} (h : isStr d = false) : dName d = false ∧ (∀ p, dEnd p d = false) ∧ isE d = false := by
  cases d with
  | str x => cases h
  | _ => exact ⟨rfl, fun _ => rfl, rfl⟩
theorem th_str {K : PySem.W.Frag} {H : Hp} {v : V} {d : PyData} (h : Th K H v d) (e : isStr d = true) : ∃ x, v = .str x ∧ d = .str x := by
  cases h with
  | str x => exact ⟨x, rfl, rfl⟩
  | _ => cases e
theorem th_tup {K : PySem.W.Frag} {H : Hp} {v : V} {d : PyData} (h : Th K H v d) (e : isTup d = true) : ∃ a xs ds, v = .ref a ∧ d = .tuple ds ∧ SqT K H a xs ∧ ThAll K H xs ds := by
  cases h with
  | tup hs ha => exact ⟨_, _, _, rfl, rfl, hs, ha⟩
  | _ => cases e
theorem thAll_len {K : PySem.W.Frag} {H : Hp} : ∀ {xs : List V} {ds : List PyData}, ThAll K H xs ds → xs.length = ds.length
  | _, _, .nil => rfl
  | _, _, .cons _ t => congrArg (· + 1) (thAll_len t)
theorem tl_nil_iff {x : Str} : TL.tl x = [] ↔ x = "" := ⟨fun h => TL.ext_tl (by rw [h]; decide +kernel), fun h => by rw [h]; decide +kernel⟩
theorem not_pat {d : PyData} (h : isTup d = false) : dPat d = false := by
  cases d with
  | tuple xs => cases h
  | _ => rfl
theorem not_pat2 : ∀ {ds : List PyData}, ds.length ≠ 2 → dPat (.tuple ds) = false
  | [], _ => rfl
  | [_], _ => rfl
  | [_, _], h => absurd rfl h
  | _ :: _ :: _ :: _, _ => rfl
theorem th_two {K : PySem.W.Frag} {H : Hp} : ∀ {xs : List V} {ds : List PyData}, ThAll K H xs ds → xs.length = 2 → ∃ b c db dc, xs = [b, c] ∧ ds = [db, dc] ∧ Th K H b db ∧ Th K H c dc
  | _, _, .nil, h => nomatch h
  | _, _, .cons _ .nil, h => nomatch h
  | _, _, .cons h1 (.cons h2 .nil), _ => ⟨_, _, _, _, rfl, rfl, h1, h2⟩
  | _, _, .cons _ (.cons _ (.cons _ _)), h => by simp at h
theorem th_three {K : PySem.W.Frag} {H : Hp} : ∀ {xs : List V} {ds : List PyData}, ThAll K H xs ds → xs.length = 3 → ∃ a b c da db dc, xs = [a, b, c] ∧ ds = [da, db, dc] ∧ Th K H a da ∧ Th K H b db ∧ Th K H c dc
  | _, _, .nil, h => nomatch h
  | _, _, .cons _ .nil, h => nomatch h
  | _, _, .cons _ (.cons _ .nil), h => nomatch h
  | _, _, .cons h1 (.cons h2 (.cons h3 .nil)), _ => ⟨_, _, _, _, _, _, rfl, rfl, h1, h2, h3⟩
  | _, _, .cons _ (.cons _ (.cons _ (.cons _ _))), h => by simp at h
theorem end_str {p : Nat → Bool} {d : PyData} (h : dEnd p d = true) : isStr d = true := by
  cases d with
  | str x => rfl
  | _ => cases h
end Lk
/-! Nam1 -/
set_option Elab.async false
set_option maxRecDepth 100000
set_option maxHeartbeats 4000000
namespace Lk
open PySem PySem.Spec PyProof.Rows L2
theorem lt1 {c d : Nat} : decide (([c] : List Nat) < [d]) = decide (c < d) := by
  rw [Bool.eq_iff_iff, decide_eq_true_iff, decide_eq_true_iff, List.cons_lt_cons_iff]
  constructor
  · rintro (h | ⟨_, h⟩)
    · exact h
    · exact absurd h (List.lt_irrefl _)
  · exact fun h => .inl h
/-- a sign as a text -/
abbrev sg (c : Nat) : Str := ⟨#[c]⟩
/-- a comprehension over a text's signs: Pv by the signs taken -/
theorem lc_str {x : Str} {g : TG} {tt : TT} {te : TE} {vs : List Nat} {σ : L2.St} {H1 : Hp} {D : Addr} {Qd : Hp → Prop} (Pv : List Nat → Hp → Prop) (h0 : Pv [] (upd H1 D (.lst [])))
    (hs : ∀ pre c post H, TL.tl x = pre ++ c :: post → Pv pre H → g (.str (sg c)) (wipe σ vs) H fun σ2 H2 => wipe σ2 vs = wipe σ vs ∧ tt σ2 H2 fun b H3 =>
      if b = true then te σ2 H3 fun y H4 => ∃ acc, H4 D = some (.lst acc) ∧ acc.length < sizeLine ∧ Pv (pre ++ [c]) (upd H4 D (.lst (acc ++ [y]))) else Pv (pre ++ [c]) H3) (hd : ∀ H, Pv (TL.tl x) H → Qd H) :
    ∃ W : Nat → Nat → Hp → Prop, (∃ m, W 0 m (upd H1 D (.lst []))) ∧ ∀ i m H, W i m H →
      ((Its x).stop i H ∧ Qd H) ∨ ((Its x).go i H ∧ ∃ Nx : Hp → Prop, (∀ H', Nx H' → ∃ m', m' < m ∧ W (i + 1) m' H') ∧ ∀ y H', (Its x).yld i H y H' → g y (wipe σ vs) H' fun σ2 H2 => wipe σ2 vs = wipe σ vs ∧ tt σ2 H2 fun b H3 =>
        if b = true then te σ2 H3 fun y H4 => ∃ acc, H4 D = some (.lst acc) ∧ acc.length < sizeLine ∧ Nx (upd H4 D (.lst (acc ++ [y]))) else Nx H3) := by
  have hl : x.cps.size = (TL.tl x).length := TL.len_tl x
  refine ⟨fun i m H => i + m = (TL.tl x).length ∧ Pv ((TL.tl x).take i) H, ⟨_, Nat.zero_add _, h0⟩, ?_⟩
  rintro i m H ⟨em, p⟩
  cases m with
  | zero =>
    refine .inl ⟨by show x.cps.size ≤ i; omega, hd H ?_⟩
    rw [List.take_of_length_le (by omega)] at p
    exact p
  | succ m =>
    have hi : i < (TL.tl x).length := by omega
    have split : TL.tl x = (TL.tl x).take i ++ (TL.tl x)[i] :: (TL.tl x).drop (i + 1) := by
      rw [← List.drop_eq_getElem_cons hi, List.take_append_drop]
    have more : (TL.tl x).take (i + 1) = (TL.tl x).take i ++ [(TL.tl x)[i]] := List.take_succ_eq_append_getElem hi
    refine .inr ⟨by show i < x.cps.size; omega, Pv ((TL.tl x).take (i + 1)), fun H' p' => ⟨m, Nat.lt_succ_self m, by omega, p'⟩, ?_⟩
    rintro y H' ⟨rfl, c, hc, rfl⟩
    have ec : c = (TL.tl x)[i] := by
      have : (TL.tl x)[i]? = some c := by
        show x.cps.toList[i]? = some c
        rw [Array.getElem?_toList]
        exact hc
      rw [List.getElem?_eq_getElem hi] at this
      exact (Option.some.inj this).symm
    subst ec
    rw [more]
    exact hs _ _ _ _ split p
/-! ### lists of texts, compared with the empty one -/
/-- a text of code points, if it is a text -/
def okS : PyData → Bool
  | .str x => PyData.strOk x
  | _ => true
theorem th_same {K : PySem.W.Frag} {H H' : Hp} (s : Same H H') {v : V} {d : PyData} (h : Th K H v d) : Th K H' v d := by
  refine Th.rec (motive_1 := fun v d _ => Th K H' v d) (motive_2 := fun vs ds _ => ThAll K H' vs ds) ?_ ?_ ?_ ?_ ?_ ?_ ?_ ?_ ?_ h
  · exact .non
  · exact .bl
  · exact .int
  · exact .str
  · exact fun hs _ ih => .lst (s.seq hs) ih
  · exact fun hs _ ih => .tup (Same.seqT s hs) ih
  · exact fun hs _ ek ih => .dct (s _ _ hs) ih ek
  · exact .nil
  · exact fun _ _ i1 i2 => .cons i1 i2
theorem th_dp {K : PySem.W.Frag} {H : Hp} {v : V} {d : PyData} (h : Th K H v d) : d.canLay0 = true → Dp K H v d := by
  refine Th.rec (motive_1 := fun v d _ => d.canLay0 = true → Dp K H v d) (motive_2 := fun vs ds _ => PyData.canLayAll0 ds = true → DpAll K H vs ds) ?_ ?_ ?_ ?_ ?_ ?_ ?_ ?_ ?_ h
  · exact fun _ => .non
  · exact fun b _ => .bl b
  · exact fun i _ => .int i
  · exact fun x _ => .str x
  · exact fun hs _ ih c => .lst hs (ih (by simpa only [PyData.canLay0] using c))
  · exact fun hs _ ih c => .tup hs (ih (by simpa only [PyData.canLay0] using c))
  · exact fun _ _ _ _ c => by simp [PyData.canLay0] at c
  · exact fun _ => .nil
  · intro v vs d ds _ _ i1 i2 c
    have c2 : d.canLay0 = true ∧ PyData.canLayAll0 ds = true := by simpa only [PyData.canLayAll0, Bool.and_eq_true] using c
    exact .cons (i1 c2.1) (i2 c2.2)
theorem ok_of_all {z : Str} (h : ∀ c ∈ TL.tl z, c < 1114112) : PyData.strOk z = true := by
  unfold PyData.strOk
  rw [Array.all_eq_true']
  intro c hc
  exact decide_eq_true (h c (by simpa using hc))
theorem Nm.ok {z : Str} {h t : List Nat} (n : Nm z h t) : PyData.strOk z = true := ok_of_all fun c hc => by
  rw [n.e] at hc
  rcases List.mem_append.mp hc with hc | hc
  · have := (n.up c hc).2
    omega
  · have := (n.lo c hc).2
    omega
theorem Nm.len {z : Str} {h t : List Nat} (n : Nm z h t) : z.length ≤ 6 := by
  rw [TL.len_tl, n.e, List.length_append]
  have := n.lh
  have := n.lt
  omega
end Lk
/-! Mak0 -/
set_option Elab.async false
set_option maxRecDepth 100000
set_option linter.all false
set_option maxHeartbeats 4000000
namespace Lk
open PySem PySem.Spec PyProof.Rows L2
/-! ### text * int -/
theorem rep_fold (a : Array Nat) : ∀ (k : Nat) (acc : Array Nat), ((List.replicate k a).foldl (· ++ ·) acc).toList = acc.toList ++ (List.replicate k a.toList).flatten
  | 0, acc => by simp
  | k + 1, acc => by
    rw [List.replicate_succ, List.foldl_cons, rep_fold a k, List.replicate_succ, List.flatten_cons, Array.toList_append, List.append_assoc]
/-! ### made data: an expression's reading gives data, and only adds to the heap -/
def Mk1 (K : PySem.W.Frag) (te : TE) (σ : L2.St) (H0 : Hp) (d : PyData) : Prop := ∀ H, Same H0 H → ∀ Q : VK, (∀ v H', Same H H' → Th K H' v d → Q v H') → te σ H Q
def MkA (K : PySem.W.Frag) (ta : TA) (σ : L2.St) (H0 : Hp) (ds : List PyData) : Prop := ∀ H, Same H0 H → ∀ Q : List V → Hp → Prop, (∀ vs H', Same H H' → ThAll K H' vs ds → Q vs H') → ta σ H Q
/-- .. gives a list that stands by itself -/
def MkL (K : PySem.W.Frag) (te : TE) (σ : L2.St) (H0 : Hp) (ds : List PyData) : Prop := ∀ H, Same H0 H → ∀ Q : VK, (∀ p xs H', Same H H' → H' p = some (.lst xs) → ThAll K H' xs ds → Q (.ref p) H') → te σ H Q
section
variable {K : PySem.W.Frag} {σ : L2.St} {H0 : Hp} {te tf : TE} {ta : TA} {d e : PyData} {ds es : List PyData}
theorem thAll_same {H H' : Hp} (s : Same H H') : ∀ {vs : List V} {ds : List PyData}, ThAll K H vs ds → ThAll K H' vs ds
  | _, _, .nil => .nil
  | _, _, .cons h t => .cons (th_same s h) (thAll_same s t)
theorem thAll_app {H : Hp} : ∀ {vs ws : List V} {ds es : List PyData}, ThAll K H vs ds → ThAll K H ws es → ThAll K H (vs ++ ws) (ds ++ es)
  | _, _, _, _, .nil, h => h
  | _, _, _, _, .cons h t, g => .cons h (thAll_app t g)
theorem mk_var {i : Nat} {v : V} (h : σ[i]? = some (some v)) (t : Th K H0 v d) : Mk1 K (tVar i) σ H0 d := fun H s Q q => ⟨v, h, q v H (Same.refl H) (th_same s t)⟩
theorem mk_non : Mk1 K (tC .non) σ H0 .none := fun H _ Q q => q _ H (Same.refl H) .non
theorem mk_int {i : Int} : Mk1 K (tC (.int i)) σ H0 (.int i) := fun H _ Q q => q _ H (Same.refl H) (.int i)
theorem mk_bl {b : Bool} : Mk1 K (tC (.bl b)) σ H0 (.bool b) := fun H _ Q q => q _ H (Same.refl H) (.bl b)
theorem mk_str {x : Str} : Mk1 K (tC (.str x)) σ H0 (.str x) := fun H _ Q q => q _ H (Same.refl H) (.str x)
theorem mk_nil : MkA K tNil σ H0 [] := fun H _ Q q => q _ H (Same.refl H) .nil
theorem mk_cons (h : Mk1 K te σ H0 d) (t : MkA K ta σ H0 ds) : MkA K (tCons te ta) σ H0 (d :: ds) := fun H s Q q =>
  h H s _ fun v H1 s1 h1 => t H1 (s.trans s1) _ fun vs H2 s2 h2 => q _ H2 (s1.trans s2) (.cons (th_same s2 h1) h2)
theorem mk_tup (h : MkA K ta σ H0 ds) (hl : ds.length ≤ 1000) : Mk1 K (tTup ta) σ H0 (.tuple ds) := fun H s Q q =>
  h H s _ fun vs H1 s1 h1 => ⟨by rw [thAll_len h1]; exact Nat.le_of_lt (small1000 hl), fun p np => q _ _ (s1.trans (same_upd np)) (.tup (.inl (.inl upd_same)) (thAll_same (same_upd np) h1))⟩
theorem mk_lstL (h : MkA K ta σ H0 ds) (hl : ds.length ≤ 1000) : MkL K (tLst ta) σ H0 ds := fun H s Q q =>
  h H s _ fun vs H1 s1 h1 => ⟨by rw [thAll_len h1]; exact Nat.le_of_lt (small1000 hl), fun p np => q _ _ _ (s1.trans (same_upd np)) upd_same (thAll_same (same_upd np) h1)⟩
theorem MkL.mk (h : MkL K te σ H0 ds) : Mk1 K te σ H0 (.list ds) := fun H s Q q => h H s _ fun p xs H1 s1 e h1 => q _ H1 s1 (.lst (SqL.of e) h1)
theorem mk_varL {i : Nat} {p : Addr} {xs : List V} (h : σ[i]? = some (some (.ref p))) (e : H0 p = some (.lst xs)) (t : ThAll K H0 xs ds) : MkL K (tVar i) σ H0 ds := fun H s Q q => ⟨_, h, q p xs H (Same.refl H) (s _ _ e) (thAll_same s t)⟩
theorem mk_cat (h : MkL K te σ H0 ds) (g : MkL K tf σ H0 es) (hl : ds.length + es.length ≤ 1000) : MkL K (tOp rCat te tf) σ H0 (ds ++ es) := fun H s Q q =>
  h H s _ fun p xs H1 s1 e1 h1 => g H1 (s.trans s1) _ fun r ys H2 s2 e2 h2 => ⟨p, r, xs, ys, rfl, rfl, s2 _ _ e1, e2, by rw [thAll_len h1, thAll_len h2]; exact Nat.le_of_lt (small1000 hl), fun l nl =>
    q l _ _ ((s1.trans s2).trans (same_upd nl)) upd_same (thAll_same (same_upd nl) (thAll_app (thAll_same s2 h1) h2))⟩
theorem mk_dict0 : Mk1 K tDNewK σ H0 (.dict []) := fun H _ Q q p np => q _ _ (same_upd np) (.dct upd_same .nil rfl)
end
end Lk
/-! Siz0 -/
set_option Elab.async false
set_option maxRecDepth 100000
set_option linter.all false
set_option maxHeartbeats 4000000
namespace Lk
open PySem PySem.Spec PyProof.Rows L2
/-- data without dicts: how large, how deep -/
structure Sz (n k : Nat) (d : PyData) : Prop where
  sh : d.showable = true
  lv : d.leavesShort 13 = true
  bk : d.bulk ≤ n
  dp : d.depth ≤ k
  cl : d.canLay0 = true
theorem Sz.mono {n k m j : Nat} {d : PyData} (h : Sz n k d) (h1 : n ≤ m) (h2 : k ≤ j) : Sz m j d := ⟨h.sh, h.lv, Nat.le_trans h.bk h1, Nat.le_trans h.dp h2, h.cl⟩
theorem Sz.str {n : Nat} {x : Str} (hl : x.length ≤ n) (ho : PyData.strOk x = true) : Sz n 0 (.str x) := by
  refine ⟨rfl, ?_, hl, Nat.le_refl _, ho⟩
  unfold PyData.strOk at ho
  rw [Array.all_eq_true'] at ho
  show (x.cps.toList.all fun c => decide (c < 16 ^ 8)) = true
  rw [List.all_eq_true]
  intro c hc
  have := of_decide_eq_true (ho c (by simpa using hc))
  exact decide_eq_true (Nat.lt_trans this (by decide))
theorem Sz.none {n k : Nat} : Sz n k .none := ⟨rfl, rfl, Nat.zero_le _, Nat.zero_le _, rfl⟩
theorem Sz.bool {n k : Nat} (b : Bool) : Sz n k (.bool b) := ⟨rfl, rfl, Nat.zero_le _, Nat.zero_le _, rfl⟩
theorem sz_all {n k : Nat} : ∀ {ds : List PyData}, (∀ d ∈ ds, Sz n k d) → PyData.showableAll ds = true ∧ PyData.leavesShortAll 13 ds = true ∧ PyData.bulkAll ds ≤ ds.length * (n + 1) ∧ PyData.depthAll ds ≤ k ∧ PyData.canLayAll0 ds = true
  | [], _ => ⟨rfl, rfl, Nat.zero_le _, Nat.zero_le _, rfl⟩
  | d :: r, h => by
    obtain ⟨h1, h2, h3, h4, h5⟩ := sz_all (ds := r) fun e he => h e (List.mem_cons_of_mem _ he)
    have hd := h d List.mem_cons_self
    refine ⟨?_, ?_, ?_, ?_, ?_⟩
    · rw [PyData.showableAll, hd.sh, h1]; rfl
    · rw [PyData.leavesShortAll, hd.lv, h2]; rfl
    · have := hd.bk
      rw [PyData.bulkAll, List.length_cons, Nat.succ_mul]
      omega
    · rw [PyData.depthAll]
      exact Nat.max_le.mpr ⟨hd.dp, h4⟩
    · rw [PyData.canLayAll0, hd.cl, h5]; rfl
theorem Sz.tuple {n k m : Nat} {ds : List PyData} (h : ∀ d ∈ ds, Sz n k d) (hm : ds.length * (n + 1) ≤ m) : Sz m (k + 1) (.tuple ds) := by
  obtain ⟨h1, h2, h3, h4, h5⟩ := sz_all h
  exact ⟨by simpa only [PyData.showable] using h1, by simpa only [PyData.leavesShort] using h2, by simpa only [PyData.bulk] using Nat.le_trans h3 hm, by simp only [PyData.depth]; omega, by simpa only [PyData.canLay0] using h5⟩
theorem Sz.list {n k m : Nat} {ds : List PyData} (h : ∀ d ∈ ds, Sz n k d) (hm : ds.length * (n + 1) ≤ m) : Sz m (k + 1) (.list ds) := by
  obtain ⟨h1, h2, h3, h4, h5⟩ := sz_all h
  exact ⟨by simpa only [PyData.showable] using h1, by simpa only [PyData.leavesShort] using h2, by simpa only [PyData.bulk] using Nat.le_trans h3 hm, by simp only [PyData.depth]; omega, by simpa only [PyData.canLay0] using h5⟩
def spLaw (K : PySem.W.Frag) : Sp := fun vs H Q _ => ∃ (a : Addr) (ns : List Int), vs = [.ref a] ∧ SqL K H a (ns.map V.int) ∧ ns.length ≤ 63 ∧ ∀ H', Q (.bl true) H'
/-- a law's def, nothing raised -/
theorem mkCalG0 {P : Program} {w : World} {K : PySem.W.Frag} {mg : Str → Option Value} {base : Heap} {x : String} {st : Stmt} {N ps : List Str} {k : Nat} {sp : Sp} (D : Def1 K mg x st) (S : FnScope N ps (defScope st))
    (hb : ∀ (kV doc pm : Value) (an : Option Addr) (cdv ct : Value) (us : List Value), us.length = ps.length → bindArgs (PySem.W.fnOf x x (defArgs st) (defBody st) (defScope st) .none kV doc pm an cdv ct) ⟨us, []⟩ = pure (ps.zip us))
    (len : ∀ vs H Q E, sp vs H Q E → vs.length = ps.length)
    (body : ∀ (f : Addr) (cdv : Value) (A : Around) (above : List Env) (s : Shared) (H : Hp) (vs : List V) (Q : VK) (E : XK), Room k (A.deeper (envOfC x (defScope st) s.heap.objs.size f cdv)) →
      (A.deeper (envOfC x (defScope st) s.heap.objs.size f cdv)).guards = some [] → sp vs H Q E →
      ∃ t, PSs (cxOf CX0 P w K mg base N x (defScope st) f cdv A above s H E).nox (defBody st) t ∧ t { nx := fun _ H' => Q .non H', rt := Q } (start N vs) H) : CalG P w K mg base CX0 (k + 1) x sp :=
  mkCalG D S hb len fun f cdv A above s H vs Q E hr hg h => by
    obtain ⟨t, ht, q⟩ := body f cdv A above s H vs Q E hr hg h
    exact ⟨t, ht.nox, q⟩
theorem iteF' {b : Bool} {A B : Prop} (hb : b = false) (h : B) : if b = true then A else B := by
  rw [hb]
  exact iteF h
theorem iteT' {b : Bool} {A B : Prop} (hb : b = true) (h : A) : if b = true then A else B := by
  rw [hb]
  exact iteT h
/-! ### stores and loops over made data -/
section
variable {K : PySem.W.Frag} {σ : L2.St} {H : Hp} {te : TE} {g : TG} {t : TS} {D : Ends} {ds : List PyData}
theorem thAll_get : ∀ {xs : List V} {ds : List PyData} {i : Nat} {x : V}, ThAll K H xs ds → xs[i]? = some x → ∃ d, d ∈ ds ∧ Th K H x d
  | _, _, _, _, .nil, h => by simp at h
  | _, _, 0, _, .cons h _, e => by
    simp at e
    subst e
    exact ⟨_, List.mem_cons_self, h⟩
  | _, _, i + 1, x, .cons _ tl, e => by
    obtain ⟨d, m, h⟩ := thAll_get (i := i) (x := x) tl (by simpa using e)
    exact ⟨d, List.mem_cons_of_mem _ m, h⟩
theorem len_add (x y : Str) : (x ++ y).length = x.length + y.length := strLen_append x y
end
theorem nmB_app {u l : List Nat} (hu : u.all upB = true) (hl : l.all loB = true) (ne : u ++ l ≠ []) : nmB (u ++ l) = true := by
  have e : (u ++ l).dropWhile upB = l := by
    have e1 : ∀ u : List Nat, u.all upB = true → (u ++ l).dropWhile upB = l.dropWhile upB := fun u => by
      induction u with
      | nil => exact fun _ => rfl
      | cons c r ih =>
        intro h
        rw [List.all_cons, Bool.and_eq_true] at h
        rw [List.cons_append, List.dropWhile_cons, if_pos h.1]
        exact ih h.2
    rw [e1 u hu]
    cases l with
    | nil => rfl
    | cons c r =>
      rw [List.all_cons, Bool.and_eq_true] at hl
      have : upB c = false := by
        have h1 := hl.1
        simp only [loB, Bool.and_eq_true, decide_eq_true_eq] at h1
        simp only [upB, Bool.and_eq_false_iff, decide_eq_false_iff_not]
        omega
      rw [List.dropWhile_cons, if_neg (by rw [this]; exact Bool.false_ne_true)]
  unfold nmB
  rw [e, hl, Bool.and_true]
  cases q : u ++ l with
  | nil => exact absurd q ne
  | cons c r => rfl
/-- for x in e, e a list of made data -/
theorem for_mkL {K K' : PySem.W.Frag} {σ : L2.St} {H : Hp} {te : TE} {g : TG} {tb : TS} {D : Ends} {ds : List PyData} (h : MkL K te σ H ds)
    (q : ∀ (L : Addr) (xs : List V) (H' : Hp), Same H H' → H' L = some (.lst xs) → ThAll K H' xs ds → ∃ Pv : Nat → L2.St → Hp → Prop, Pv 0 σ H' ∧ (∀ i σ H2, Pv i σ H2 → H2 L = some (.lst xs)) ∧
      (∀ (i : Nat) (x : V) (d : PyData) (σ : L2.St) (H2 : Hp), d ∈ ds → Th K H' x d → Pv i σ H2 → g x σ H2 fun σ2 H3 => tb { D with nx := Pv (i + 1), ct := Pv (i + 1), bk := D.nx } σ2 H3) ∧ ∀ σ H2, Pv xs.length σ H2 → D.nx σ H2) :
    tFor (iList K' te) g tb D σ H := h H (Same.refl H) _ fun L xs H' s e t => by
  obtain ⟨Pv, p0, pl, ps, pd⟩ := q L xs H' s e t
  exact ⟨L, rfl, ⟨_, SqL.of e⟩, for_list (K := K') (a := L) (xs := xs) Pv p0 (fun i σ H2 _ p => SqL.of (pl i σ H2 p)) (fun i x σ H2 hx p => by
    obtain ⟨d, hd, ht⟩ := thAll_get t hx
    exact ps i x d σ H2 hd ht p) pd⟩
theorem mkFnG {P : Program} {w : World} {K : PySem.W.Frag} {mg : Str → Option Value} {base : Heap} {CX : CXT} {x : String} {st : Stmt} {f : Addr} {fd : FuncData} {N ps : List Str} {k : Nat} {sp : Sp} (F : L2.Fun K x x st f fd) (S : FnScope N ps (defScope st))
    (len : ∀ vs H Q E, sp vs H Q E → vs.length = ps.length)
    (body : ∀ (cdv : Value) (A : Around) (above : List Env) (s : Shared) (H : Hp) (vs : List V) (Q : VK) (E : XK), Room k (A.deeper (envOfC x (defScope st) s.heap.objs.size f cdv)) →
      (A.deeper (envOfC x (defScope st) s.heap.objs.size f cdv)).guards = some [] → sp vs H Q E →
      ∃ t, PSs (cxOf CX P w K mg base N x (defScope st) f cdv A above s H E) (defBody st) t ∧ t { nx := fun _ H' => Q .non H', rt := Q } (start N vs) H) : FnG P w K mg base CX (k + 1) f fd ps sp := by
  obtain ⟨oc, od, kV, doc, pm, an, cdv, ct, sl, rfl, lk, hcd⟩ := F.ex
  exact fnG_of lk hcd S len fun A above s H vs Q E hr hg h => body cdv A above s H vs Q E hr hg h
theorem mkFnG0 {P : Program} {w : World} {K : PySem.W.Frag} {mg : Str → Option Value} {base : Heap} {x : String} {st : Stmt} {f : Addr} {fd : FuncData} {N ps : List Str} {k : Nat} {sp : Sp} (F : L2.Fun K x x st f fd) (S : FnScope N ps (defScope st))
    (len : ∀ vs H Q E, sp vs H Q E → vs.length = ps.length)
    (body : ∀ (cdv : Value) (A : Around) (above : List Env) (s : Shared) (H : Hp) (vs : List V) (Q : VK) (E : XK), Room k (A.deeper (envOfC x (defScope st) s.heap.objs.size f cdv)) →
      (A.deeper (envOfC x (defScope st) s.heap.objs.size f cdv)).guards = some [] → sp vs H Q E →
      ∃ t, PSs (cxOf CX0 P w K mg base N x (defScope st) f cdv A above s H E).nox (defBody st) t ∧ t { nx := fun _ H' => Q .non H', rt := Q } (start N vs) H) : FnG P w K mg base CX0 (k + 1) f fd ps sp :=
  mkFnG F S len fun cdv A above s H vs Q E hr hg h => by
    obtain ⟨t, ht, q⟩ := body cdv A above s H vs Q E hr hg h
    exact ⟨t, ht.nox, q⟩
end Lk
/-! Try0 -/
set_option Elab.async false
set_option maxRecDepth 100000
set_option linter.all false
set_option maxHeartbeats 4000000
namespace Lk
open PySem PySem.Spec PyProof.Rows L2
abbrev Suite := Addr → Value → Option Addr → TS
/-- the ends of a suite «as n»: behind it n's slot is empty -/
def endsAs (i : Nat) (D : Ends) : Ends := { nx := fun σ H => D.nx (σ.set i none) H, rt := D.rt, bk := fun σ H => D.bk (σ.set i none) H, ct := fun σ H => D.ct (σ.set i none) H }
/-- several clauses «except C as n», the same n: one of them takes what the body raises -/
def wAsL (K : PySem.W.Frag) (i : Nat) (D : Ends) : List (Value × Suite) → WX
  | [] => fun _ _ _ _ => False
  | (c, ts) :: more => fun cls d σ H => ∃ b, PySem.W.exmOne K cls c = some b ∧ (b = true → ∀ a, H a = none → ts a cls d (endsAs i D) (σ.set i (some (.ref a))) H) ∧ (b = false → wAsL K i D more cls d σ H)
inductive HdAs (X : Cx) (n : Str) : List ExceptHandler → List (Value × Suite) → Prop
  | none : HdAs X n [] []
  | more {x : Str} {c : Value} {ts : Suite} {st : Stmt} {sts : List Stmt} {p1 p2 : Pos} {hds : List ExceptHandler} {l : List (Value × Suite)} (names : Names X x c)
      (run : ∀ (a : Addr) (oe : Obj) (cls : Value) (d : Option Addr) (pn : List (Addr × Obj)), Zc cls d oe → (∃ vs, oe.data = .fields vs) → PSs (X.suite a ((a, oe) :: pn)) (st :: sts) (ts a cls d)) (rest : HdAs X n hds l) :
      HdAs X n (.ExceptHandler (some (.Name x p1)) (some n) (st :: sts) p2 :: hds) ((c, ts) :: l)
section
variable {X : Cx} {n : Str} {i : Nat} {body : List Stmt} {hd : ExceptHandler} {hds : List ExceptHandler} {l : List (Value × Suite)} {pos : Pos} {tb : WX → TS}
theorem ps_try_asL (top : X.stack = X.env :: X.outer) (fr : X.env.frame = some X.env.locals) (nd : X.N.Nodup) (slot : X.N[i]? = some n) (loc : X.env.kindOf n = some .local)
    (bodyOk : ∀ (W : WX) (pn : List (Addr × Obj)) (xe : Value → Shared → Prop), Takes (X.tr pn xe) W → PassesOwn (model X.prog X.w) X.A X.env xe → PSs (X.tr pn xe) body (tb W)) (clauses : HdAs X n (hd :: hds) l) :
    PS X (.Try body (hd :: hds) [] [] pos) (fun D σ H => tb (wAsL X.K i D l) D σ H) := by
  constructor
  intro pins s σ H D I rd
  have xok := I.ok
  have frames : X.A.frames = some (X.env :: X.outer) := xok.frames.trans (congrArg some top)
  apply wpAny_Try_except
  let caught : Value → Shared → Prop := fun e s₁ => wpAny (model X.prog X.w) X.A (noteFrame e X.env) (fun _ s₂ => wpAny (model X.prog X.w) X.A (setFlight e none) (fun _ s₃ => wpAny (model X.prog X.w) X.A (handleBy e X.env (hd :: hds)) (SP X pins D) X.xe s₃) X.xe s₂) X.xe s₁
  have takes : Takes (X.tr (X.pn ++ pins) caught) (wAsL X.K i D l) := by
    rintro u s1 ⟨a, B, sI, pins1, σ1, H1, cls, d, rfl, J0, nb, up, sky, fresh, os, ag, want⟩
    have J : Inv X pins σ1 H1 sI := J0.ofTry xok
    rw [show (X.tr (X.pn ++ pins) caught).stack = X.stack from rfl, top] at sky
    show wpAny (model X.prog X.w) X.A (noteFrame (.ref a) X.env) _ _ _
    apply Sky.land Zc.steady frames fr sky
    intro h2 fly up2
    have J2 : Inv X pins σ1 H1 { s1 with heap := h2 } := J.landed nb fly.1 (up.trans up2) os ag
    obtain ⟨o2, vs2, at2, z2, dat2⟩ := fly.there
    have apart : a ∉ frs (X.env :: X.outer) := by
      intro hm
      obtain ⟨_, o', e', hnf⟩ := fly.2.2.1.mem hm
      rw [at2] at e'
      cases e'
      exact hnf _ dat2
    have nL : a ≠ X.env.locals := by
      rintro rfl
      exact apart (List.mem_filterMap.mpr ⟨X.env, List.mem_cons_self, fr⟩)
    have nF : a ∉ X.fs := by
      intro hm
      obtain ⟨e, he, q⟩ := List.mem_filterMap.mp hm
      exact apart (List.mem_filterMap.mpr ⟨e, List.mem_cons_of_mem _ he, q⟩)
    have S2 := J2.suite at2 dat2 fresh nL nF
    have each : ∀ {hs : List ExceptHandler} {ls : List (Value × Suite)}, HdAs X n hs ls → wAsL X.K i D ls cls d σ1 H1 → wpAny (model X.prog X.w) X.A (handleBy (.ref a) X.env hs) (SP X pins D) X.xe { s1 with heap := h2 } := by
      intro hs ls hk
      induction hk with
      | none => exact fun w => w.elim
      | @more x c ts st sts p1 p2 hds2 l2 names run rest ih =>
        rintro ⟨b, matches_, yes, no⟩
        apply wpAny_handleBy_cons (codeAny_handlers_test ?_) (by intro q; cases q)
        have looksT : PySem.W.Looks (model X.prog X.w) h2 (typeOf (.ref a)) cls := fun A Q E s k q => wpAny_typeOf_ref (k _ _ at2) (by rw [z2.1]; exact q)
        have looksM := PySem.W.exm_one (M := model X.prog X.w) J2.kIn looksT matches_
        have named : ∀ {Q : Value → Shared → Prop} {E : Value → Shared → Prop}, Q c { s1 with heap := h2 } → wpAny (model X.prog X.w) (X.A.mark (some (.ref a))) (eval (.Name x p1) X.env) Q E { s1 with heap := h2 } := by
          intro Q E q
          rcases names with ⟨hg, hdbg, hm | ⟨hm, hv, hnn⟩⟩
          · exact ld_glob (X := X.suite a ((a, o2) :: (X.pn ++ pins))) S2 hg hm q hdbg
          · exact ld_blt (X := X.suite a ((a, o2) :: (X.pn ++ pins))) S2 hg hm hv q hnn hdbg
        apply named
        apply looksM.here
        match b, yes, no with
        | false, _, no => exact ih (no rfl)
        | true, yes, _ =>
          apply codeAny_handlers_suite_as
          apply HandSPX.lands_againZ fly
          intro h3 fly3 up3
          have J3 : Inv X pins σ1 H1 { s1 with heap := h3 } := J.landed nb fly3.1 ((up.trans up2).trans up3) os ag
          obtain ⟨o3, vs3, at3, z3, dat3⟩ := fly3.there
          have S3 := J3.suite at3 dat3 fresh nL nF
          apply store_ok (X := X.suite a ((a, o3) :: (X.pn ++ pins))) (v := .ref a) S3 nd slot (.inl loc) rfl (fun s4 S4 => ?_) (.inr loc)
          apply wpAny_mono ((run a o3 cls d (X.pn ++ pins) z3 ⟨_, dat3⟩).run [] s4 _ H1 _ S4 (yes rfl a fresh)) ?_ (fun _ _ z => False.elim z)
          intro fl s5 out
          have close : ∀ {σ6 : L2.St} {H6 : Hp} {Q : Shared → Prop}, Inv (X.suite a ((a, o3) :: (X.pn ++ pins))) [] σ6 H6 s5 → (∀ s7, Inv X pins (σ6.set i Option.none) H6 s7 → Q s7) →
              wpAny (model X.prog X.w) X.A (do bindName X.env n .none; unbindBehindTheSuite X.env n p2) (fun _ s7 => Q s7) X.xe s5 := fun S6 hq => gone_ok (S6.unsuite xok) nd slot loc hq
          match fl, out with
          | .next, ⟨_, _, S6, q6⟩ => exact close S6 fun _ J7 => ⟨_, _, J7, q6⟩
          | .brk, ⟨_, _, S6, q6⟩ => exact close S6 fun _ J7 => ⟨_, _, J7, q6⟩
          | .cont, ⟨_, _, S6, q6⟩ => exact close S6 fun _ J7 => ⟨_, _, J7, q6⟩
          | .ret _, ⟨_, _, _, S6, r6, q6⟩ => exact close S6 fun _ J7 => ⟨_, _, _, J7, r6, q6⟩
    exact each clauses want
  apply wpAny_mono ((bodyOk _ _ caught takes PassesOwn.looking).run [] s σ H D (I.toTry _) rd) ?_ (fun _ _ he => he)
  intro fl s1 out
  match fl, out with
  | .next, ⟨_, _, J, q⟩ => exact wpAny_execs_nil ⟨_, _, J.ofTry xok, q⟩
  | .brk, ⟨_, _, J, q⟩ => exact ⟨_, _, J.ofTry xok, q⟩
  | .cont, ⟨_, _, J, q⟩ => exact ⟨_, _, J.ofTry xok, q⟩
  | .ret _, ⟨_, _, _, J, r, q⟩ => exact ⟨_, _, _, J.ofTry xok, r, q⟩
end
end Lk
/-! Ne0 -/
set_option Elab.async false
set_option maxRecDepth 100000
set_option linter.all false
set_option maxHeartbeats 4000000
namespace PySem
open PySem.SeqAt
end PySem
/-! Xr0 -/
set_option Elab.async false
set_option maxRecDepth 100000
set_option linter.all false
set_option maxHeartbeats 4000000
namespace Lk
open PySem PySem.Spec PyProof.Rows L2
/-- an own class of errors, under ValueError -/
structure Err (K : PySem.W.Frag) (mg : Str → Option Value) (x : String) (C : Addr) : Prop where
  gC : mg x = some (.ref C)
  xC : PySem.W.excIn K C [.type "ValueError", .type "Exception", .type "BaseException", .type "object"] "ValueError.__new__" = true
  kC : PySem.W.keepIn K (.ref C) = true
  bC : PySem.W.subIn K (.ref C) (.type "BaseException") = some true
  tC : PySem.W.typeIn K (.ref C) = some (.type "type")
/-- an error of the class at S, a clause that names the class at T -/
theorem exm_of {K : PySem.W.Frag} {S T : Addr} {b : Bool} (h1 : PySem.W.subIn K (.ref T) (.type "BaseException") = some true) (h2 : PySem.W.isClsIn K T = true) (h3 : PySem.W.typeIn K (.ref T) = some (.type "type")) (h4 : PySem.W.subIn K (.ref S) (.ref T) = some b) :
    PySem.W.exmOne K (.ref S) (.ref T) = some b := by
  have e1 : (PySem.W.subIn K (.ref T) (.type "BaseException") == some true) = true := by rw [h1] <;> rfl
  have e2 : ((PySem.W.clsIn K T).isSome && PySem.W.typeIn K (.ref T) == some (.type "type")) = true := by
    have h2' : (PySem.W.clsIn K T).isSome = true := h2
    rw [h2', h3] <;> rfl
  show (if (PySem.W.subIn K (.ref T) (.type "BaseException") == some true) = true then (if ((PySem.W.clsIn K T).isSome && PySem.W.typeIn K (.ref T) == some (.type "type")) = true then PySem.W.subIn K (.ref S) (.ref T) else none) else none) = some b
  rw [if_pos e1, if_pos e2]
  exact h4
section
variable {X : Cx} {C : Addr} {W : WX} {x : String}
/-- raise C('m') -/
theorem ps_err (R : Err X.K X.mg x C) (calm : X.calm = true) (tk : Takes X W) {m : Str} {j : Nat} {p p2 p3 pos : Pos} (hg : Gl X x := by rfl) (hdb : ((x : Str) == ("__debug__" : Str)) = false := by decide) :
    PS X (.Raise (some (.Call (.Name x p) [.Constant (.str m) j p2] [] p3)) none pos) (fun _ σ H => W (.ref C) none σ H) :=
  ps_raise calm tk (pmk_own PySem.F.excBase_ValueError R.xC R.gC R.kC (raises_own R.bC R.tC) hg hdb)
end
/-- a def that may raise, called by its name -/
structure CalX (P : Program) (w : World) (K : PySem.W.Frag) (mg : Str → Option Value) (base : Heap) (k : Nat) (x : String) (sp : Sp) : Prop where
  ex : ∃ (f : Addr) (fd : FuncData) (ps : List Str), FnOk P w K mg base (L2.CX P w) k f fd ps sp ∧ mg x = some (.ref f) ∧ PySem.W.keepIn K (.ref f) = true ∧ Binds K fd ps []
section
variable {P : Program} {w : World} {K : PySem.W.Frag} {mg : Str → Option Value} {base : Heap}
theorem mkCalX {x : String} {st : Stmt} {N ps : List Str} {k : Nat} {sp : Sp} (D : Def1 K mg x st) (S : FnScope N ps (defScope st))
    (hb : ∀ (kV doc pm : Value) (an : Option Addr) (cdv ct : Value) (us : List Value), us.length = ps.length → bindArgs (PySem.W.fnOf x x (defArgs st) (defBody st) (defScope st) .none kV doc pm an cdv ct) ⟨us, []⟩ = pure (ps.zip us))
    (len : ∀ vs H Q E, sp vs H Q E → vs.length = ps.length)
    (hbody : ∀ (f : Addr) (cdv : Value) (A : Around) (outer : List Env) (s : Shared) (H : Hp) (vs : List V) (Q : VK) (E : XK), Room k (A.deeper (envOfC x (defScope st) s.heap.objs.size f cdv)) → sp vs H Q E →
      ∃ t, PSs (cxOf (L2.CX P w) P w K mg base N x (defScope st) f cdv A outer s H E) (defBody st) t ∧ t { nx := fun _ H' => Q .non H', rt := Q } (start N vs) H) : CalX P w K mg base (k + 1) x sp := by
  obtain ⟨f, fd, F, m⟩ := D.ex
  exact ⟨f, fd, ps, F.okX S len fun cdv A outer s H vs Q E hr h => hbody f cdv A outer s H vs Q E hr h, m, F.kp, F.binds hb⟩
end
section
variable {X : Cx} {k j : Nat} {x : String} {sp : Sp} {p pos : Pos} {e : Expr} {es : List Expr} {t : TA}
/-- called in a def that lets its errors out -/
theorem pe_calX {E : XK} (c : CalX X.prog X.w X.K X.mg X.base k x sp) (hr : Room j X.A) (hk : k ≤ j) (tk : Takes X (fun cls d _ H => E cls d H)) (ha : PA X (e :: es) t) (hg : Gl X x := by rfl)
    (hdb : ((x : Str) == ("__debug__" : Str)) = false := by decide) (he : starEach (e :: es) X.env = (false, eval e X.env) :: starEach es X.env := by rfl) (hpl : (backTo pos (starEach es X.env)).any (·.1) = false := by rfl) :
    PE X (.Call (.Name x p) (e :: es) [] pos) (tCall sp [] E t) := by
  obtain ⟨f, fd, ps, F, m, kp, b⟩ := c.ex
  exact pe_call F (hr.mono hk) hg m kp b .nil (passes_call tk fun _ _ _ _ h => h) ha hdb he hpl
/-- called in a try's body -/
theorem pe_calT {W : WX} (c : CalX X.prog X.w X.K X.mg X.base k x sp) (hr : Room j X.A) (hk : k ≤ j) (tk : Takes X W) (ha : PA X (e :: es) t) (hg : Gl X x := by rfl)
    (hdb : ((x : Str) == ("__debug__" : Str)) = false := by decide) (he : starEach (e :: es) X.env = (false, eval e X.env) :: starEach es X.env := by rfl) (hpl : (backTo pos (starEach es X.env)).any (·.1) = false := by rfl) :
    PE X (.Call (.Name x p) (e :: es) [] pos) (tCallS sp (WE W) t) := by
  obtain ⟨f, fd, ps, F, m, kp, b⟩ := c.ex
  exact pe_callS F (hr.mono hk) hg m kp b (fun σ => passAt tk σ) ha hdb he hpl
/-- a def that asks for no guard on the stack -/
theorem pe_calG (c : CalG X.prog X.w X.K X.mg X.base CX0 k x sp) (hr : Room j X.A) (hk : k ≤ j) (gd : X.A.guards = some []) (ha : PA X (e :: es) t) (hg : Gl X x := by rfl)
    (hdb : ((x : Str) == ("__debug__" : Str)) = false := by decide) (he : starEach (e :: es) X.env = (false, eval e X.env) :: starEach es X.env := by rfl) (hpl : (backTo pos (starEach es X.env)).any (·.1) = false := by rfl) :
    PE X (.Call (.Name x p) (e :: es) [] pos) (tCall sp [] E0 t) := by
  obtain ⟨f, fd, ps, F, m, kp, b⟩ := c.ex
  refine ⟨fun pins s σ H Q I h => ?_⟩
  refine wpAny_Call_Name_kw (ld_glob I hg m ?_ hdb)
  refine PySem.W.callWith_K (h₀ := X.base) I.ok.mod.kin kp (thn (ha.run pos pins s σ H _ I h) fun us s1 ⟨vs, H1, I1, r, q⟩ => ⟨I1.kIn, ?_⟩) he hpl
  replace q : sp (vs ++ []) H1 Q E0 := q
  rw [List.append_nil] at q
  have hl : us.length = ps.length := by rw [← r.length]; exact F.len _ _ _ _ q
  have b2 := b s1 us I1.kIn (by rw [List.append_nil]; exact hl)
  rw [List.append_nil] at b2
  refine wpAny_call (codeAny_mono (F.go X.A X.stack s1 H1 ⟨us, []⟩ us vs Q E0 (hr.mono hk) gd I1.env0 b2 r q) fun r' s' hq => ?_)
  cases r' with
  | error e' => exact pass0 pins σ H1 s1 e' s' I1 hq
  | ok fl =>
    cases fl with
    | ret u => exact I1.after hq
    | next => exact False.elim hq
    | brk => exact False.elim hq
    | cont => exact False.elim hq
end
/-! ### data stands when the pot changes -/
def potLike : List PyData → Bool
  | [_, .int _, .int _, .int _] => true
  | _ => false
mutual
def noPot : PyData → Bool
  | .none | .bool _ | .int _ | .str _ => true
  | .list xs => !potLike xs && noPotAll xs
  | .tuple xs => noPotAll xs
  | .dict kvs => noPotKv kvs
def noPotAll : List PyData → Bool
  | [] => true
  | x :: xs => noPot x && noPotAll xs
def noPotKv : List (PyData × PyData) → Bool
  | [] => true
  | (_, v) :: r => noPot v && noPotKv r
end
theorem noPotKv_map : ∀ ds : List (PyData × PyData), noPotAll (ds.map (·.2)) = noPotKv ds
  | [] => rfl
  | (k, v) :: r => by
    show (noPot v && noPotAll (r.map (·.2))) = (noPot v && noPotKv r)
    rw [noPotKv_map r]
theorem potLike_of {K : PySem.W.Frag} {H : Hp} {x : V} {i a b : Int} : ∀ {ds : List PyData}, ThAll K H [x, .int i, .int a, .int b] ds → potLike ds = true
  | _, .cons _ (.cons (.int _) (.cons (.int _) (.cons (.int _) .nil))) => rfl
theorem th_ext {K : PySem.W.Frag} {p c : Addr} {H H' : Hp} (hP : PotAt p c H) (e : Ext p c H H') {v : V} {d : PyData} (h : Th K H v d) : noPot d = true → Th K H' v d := by
  obtain ⟨_, ⟨i, a, b, hp⟩, _⟩ := hP
  refine Th.rec (motive_1 := fun v d _ => noPot d = true → Th K H' v d) (motive_2 := fun vs ds _ => noPotAll ds = true → ThAll K H' vs ds) ?_ ?_ ?_ ?_ ?_ ?_ ?_ ?_ ?_ h
  · exact fun _ => .non
  · exact fun b _ => .bl b
  · exact fun i _ => .int i
  · exact fun x _ => .str x
  · intro q xs ds hs ha ih n
    have n2 : potLike ds = false ∧ noPotAll ds = true := by simpa only [noPot, Bool.and_eq_true, Bool.not_eq_true'] using n
    by_cases z : q = p
    · rcases hs with (hs | ⟨o, hs⟩) | hs
      · rw [z, hp] at hs
        cases hs
        rw [potLike_of ha] at n2
        cases n2.1
      · rw [z, hp] at hs
        cases hs
      · exact .lst (.inr hs) (ih n2.2)
    · exact .lst (e.seq z hs) (ih n2.2)
  · intro q xs ds hs ha ih n
    have n2 : noPotAll ds = true := by simpa only [noPot] using n
    by_cases z : q = p
    · rcases hs with (hs | ⟨o, hs⟩) | hs
      · rw [z, hp] at hs
        cases hs
      · rw [z, hp] at hs
        cases hs
      · exact .tup (.inr hs) (ih n2)
    · exact .tup (e.seqT z hs) (ih n2)
  · intro q kvs ds hs _ ek ih n
    have n2 : noPotAll (ds.map (·.2)) = true := by
      rw [noPotKv_map]
      simpa only [noPot] using n
    by_cases z : q = p
    · rw [z, hp] at hs
      cases hs
    · exact .dct (e.get hs z) (ih n2) ek
  · exact fun _ => .nil
  · intro v vs d ds _ _ i1 i2 n
    have n2 : noPot d = true ∧ noPotAll ds = true := by simpa only [noPotAll, Bool.and_eq_true] using n
    exact .cons (i1 n2.1) (i2 n2.2)
theorem thAll_ext {K : PySem.W.Frag} {p c : Addr} {H H' : Hp} (hP : PotAt p c H) (e : Ext p c H H') : ∀ {vs : List V} {ds : List PyData}, ThAll K H vs ds → noPotAll ds = true → ThAll K H' vs ds
  | _, _, .nil, _ => .nil
  | _ :: _, d :: ds, .cons h t, n => by
    have n2 : noPot d = true ∧ noPotAll ds = true := by simpa only [noPotAll, Bool.and_eq_true] using n
    exact .cons (th_ext hP e h n2.1) (thAll_ext hP e t n2.2)
end Lk
/-! Clr0 -/
set_option Elab.async false
set_option maxRecDepth 100000
set_option linter.all false
set_option maxHeartbeats 4000000
namespace Lk
open PySem PySem.Spec PyProof.Rows L2
structure Wf0 (d : PyData) : Prop where
  sh : d.showable = true
  lv : d.leavesShort 13 = true
  bk : d.bulk ≤ 1000000
  dp : d.depth ≤ 60
/-- its lists are not the table of modules -/
inductive Clr (K : PySem.W.Frag) (H : Hp) : V → PyData → Prop
  | flat {v : V} {d : PyData} : Th K H v d → noLst d = true → Clr K H v d
  | lst {p : Addr} {xs : List V} {ds : List PyData} : SqL K H p xs → (p == sysModules) = false → ThAll K H xs ds → noLstAll ds = true → Clr K H (.ref p) (.list ds)
  | two {q : Addr} {v1 v2 : V} {d1 d2 : PyData} : SqT K H q [v1, v2] → Clr K H v1 d1 → Clr K H v2 d2 → Clr K H (.ref q) (.tuple [d1, d2])
section
variable {X : Cx} {pins : List (Addr × Obj)} {σ : L2.St} {H : Hp} {s : Shared}
theorem all_reads (I : Inv X pins σ H s) : ∀ {vs : List V} {ds : List PyData}, ThAll X.K H vs ds → noLstAll ds = true → ∀ us, Vals vs us → ∃ as, ReadsAll s.heap us ds as ∧ sysModules ∉ as
  | _, _, .nil, _, us, r => by
    cases r
    exact ⟨_, ReadsAll.nil, fun h => nomatch h⟩
  | _ :: _, d :: ds, .cons h t, n, us, r => by
    have n2 : noLst d = true ∧ noLstAll ds = true := by simpa [noLstAll] using n
    cases r with
    | cons r1 r2 =>
      obtain ⟨as, q1, m1⟩ := th_reads I h _ r1
      obtain ⟨bs, q2, m2⟩ := all_reads I t n2.2 _ r2
      refine ⟨_, ReadsAll.cons q1 q2, fun hm => ?_⟩
      rcases List.mem_append.mp hm with hm | hm
      · exact m1 n2.1 hm
      · exact m2 hm
theorem clr_reads (I : Inv X pins σ H s) {v : V} {d : PyData} (h : Clr X.K H v d) : ∀ u, RelV v u → ∃ as, Reads s.heap u d as ∧ sysModules ∉ as := by
  induction h with
  | flat h n =>
    intro u r
    obtain ⟨as, q, m⟩ := th_reads I h u r
    exact ⟨as, q, m n⟩
  | lst hs hp ha n =>
    intro u r
    cases r
    obtain ⟨its, rv, ⟨o, k, ho, hc, _, hd⟩, _⟩ := I.list hs
    obtain ⟨as, hr, m⟩ := all_reads I ha n its rv
    refine ⟨_, Reads.list ho hc hd hr, fun hm => ?_⟩
    rcases List.mem_cons.mp hm with hm | hm
    · rw [hm] at hp
      exact absurd hp (by simp)
    · exact m hm
  | two hs _ _ ih1 ih2 =>
    intro u r
    cases r
    obtain ⟨its, rv, ⟨o, ho, hc, n, hd⟩, _⟩ := I.tuple hs
    cases rv with
    | cons r1 rr =>
      cases rr with
      | cons r2 rz =>
        cases rz
        obtain ⟨as, q1, m1⟩ := ih1 _ r1
        obtain ⟨bs, q2, m2⟩ := ih2 _ r2
        refine ⟨_, Reads.tuple ho hc hd (ReadsAll.cons q1 (ReadsAll.cons q2 ReadsAll.nil)), fun hm => ?_⟩
        rcases List.mem_append.mp hm with hm | hm
        · exact m1 hm
        · rcases List.mem_append.mp hm with hm | hm
          · exact m2 hm
          · exact nomatch hm
/-- a list display; the new list is not the table of modules -/
def tLstS (t : TA) : TE := fun σ H Q => t σ H fun xs H1 => xs.length ≤ sizeLine ∧ ∀ p, H1 p = none → (p == sysModules) = false → Q (.ref p) (upd H1 p (.lst xs))
theorem pe_lstS {es : List Expr} {t : TA} {pos : Pos} (h : PA X es t) : PE X (.List es pos) (tLstS t) := by
  refine ⟨fun pins s σ H Q I hq => ?_⟩
  refine wpAny_List_spliced (thn (h.run pos pins s σ H _ I hq) fun us s1 ⟨xs, H1, I1, r, z, q⟩ => ⟨by rw [← r.length]; exact z, ?_⟩)
  have hf : H1 s1.heap.objs.size = none := I1.hok.fresh (Nat.le_refl _)
  have hm : (s1.heap.objs.size == sysModules) = false := beq_eq_false_iff_ne.mpr (Nat.ne_of_gt I1.big)
  refine ⟨.ref s1.heap.objs.size, upd H1 s1.heap.objs.size (.lst xs), I1.laid (t' := s1.toks) (fun b u e => Heap.get?_push_of_some _ e) (Nat.le_refl _) ?_, rfl, q _ hf hm⟩
  exact ⟨z, us, 0, r, Heap.get?_push_size _ rfl⟩
end
theorem Clr.same {K : PySem.W.Frag} {H H' : Hp} (s : Same H H') {v : V} {d : PyData} (h : Clr K H v d) : Clr K H' v d := by
  induction h with
  | flat h n => exact .flat (th_same s h) n
  | lst hs hp ha n => exact .lst (s.seq hs) hp (thAll_same s ha) n
  | two hs _ _ i1 i2 => exact .two (Same.seqT s hs) i1 i2
end Lk
/-! SetG0 -/
set_option Elab.async false
set_option maxRecDepth 100000
set_option linter.all false
set_option maxHeartbeats 4000000
namespace Lk
open PySem PySem.Spec PyProof.Rows L2
/-! ### a set whose members are told by keys, with a table that can be walked -/
section
variable {P : Program} {w : World} {κ : Type} [DecidableEq κ] {knd : KeyKind P w κ}
/-- the entries l bear the keys ks, none twice -/
def Keyed (knd : KeyKind P w κ) (l : List (Int × Value)) (ks : List κ) : Prop :=
  ∃ f : Int × Value → κ, (∀ e ∈ l, (knd.is (f e) e.2 = true ∧ e.1 = knd.hash (f e)) ∧ e.2.scannable = true) ∧ (l.map f).Perm ks ∧ ks.Nodup
theorem Keyed.elems {l : List (Int × Value)} {ks : List κ} (h : Keyed knd l ks) : ElemsOf knd l := by
  obtain ⟨f, g, _⟩ := h
  exact fun e he => ⟨⟨f e, (g e he).1⟩, (g e he).2⟩
theorem Keyed.mem {l : List (Int × Value)} {ks : List κ} (h : Keyed knd l ks) (k : κ) : k ∈ ks ↔ ∃ e ∈ l, knd.is k e.2 = true := by
  obtain ⟨f, g, pm, _⟩ := h
  rw [← pm.mem_iff, List.mem_map]
  constructor
  · rintro ⟨e, he, rfl⟩
    exact ⟨e, he, (g e he).1.1⟩
  · rintro ⟨e, he, q⟩
    rw [KeyKind.is_eq_decide (g e he).1.1 k, decide_eq_true_eq] at q
    exact ⟨e, he, q.symm⟩
theorem Keyed.perm {l l' : List (Int × Value)} {ks : List κ} (h : Keyed knd l ks) (p : l'.Perm l) : Keyed knd l' ks := by
  obtain ⟨f, g, pm, nd⟩ := h
  exact ⟨f, fun e he => g e (p.mem_iff.mp he), (p.map f).trans pm, nd⟩
theorem Keyed.len {l : List (Int × Value)} {ks : List κ} (h : Keyed knd l ks) : l.length = ks.length := by
  obtain ⟨f, _, pm, _⟩ := h
  rw [← pm.length_eq, List.length_map]
theorem Keyed.more {l : List (Int × Value)} {ks : List κ} {k : κ} {x : Value} (h : Keyed knd l ks) (hx : knd.is k x = true) (sx : x.scannable = true) (n : k ∉ ks) : Keyed knd ((knd.hash k, x) :: l) (k :: ks) := by
  have no : ∀ e ∈ l, knd.is k e.2 = false := fun e he => by
    cases q : knd.is k e.2 with
    | false => rfl
    | true => exact absurd ((h.mem k).2 ⟨e, he, q⟩) n
  obtain ⟨f, g, pm, nd⟩ := h
  obtain ⟨F, F0, F1⟩ : ∃ F : Int × Value → κ, F (knd.hash k, x) = k ∧ ∀ e ∈ l, F e = f e := ⟨fun e => if knd.is k e.2 = true then k else f e, if_pos hx, fun e he => if_neg (by rw [no e he]; exact Bool.false_ne_true)⟩
  refine ⟨F, fun e he => ?_, ?_, List.nodup_cons.mpr ⟨n, nd⟩⟩
  · rcases List.mem_cons.mp he with rfl | he
    · rw [F0]
      exact ⟨⟨hx, rfl⟩, sx⟩
    · rw [F1 e he]
      exact g e he
  · rw [List.map_cons, F0, List.map_congr_left F1]
    exact pm.cons k
def GSet (knd : KeyKind P w κ) (h : Heap) (a : Addr) (ks : List κ) : Prop :=
  ∃ o es ep t, h.get? a = some o ∧ o.ExactSet ∧ o.data = .set es ep t ∧ Keyed knd es.toList ks ∧ es.size < scanBound ∧ t.fits es.size = true ∧ Ris t.place.toList ∧ (w.params.followText "set-order" = true ∨ t.led = true)
theorem GSet.at {h h' : Heap} {a : Addr} {ks : List κ} (R : GSet knd h a ks) (k : ∀ o, h.get? a = some o → h'.get? a = some o) : GSet knd h' a ks := by
  obtain ⟨o, es, ep, t, ho, r⟩ := R
  exact ⟨o, es, ep, t, k o ho, r⟩
end
section
variable {P : Program} {w : World} {κ : Type} [DecidableEq κ] {knd : KeyKind P w κ} {A : Around} {E : Value → Shared → Prop} {s : Shared} {a : Addr} {ks : List κ}
/-- the store behind an add, and the wider table where it is too full -/
theorem gset_tail {g : Bool → Sem Unit} (quiet : ∀ (b : Bool) (s₁ : Shared) (Q' : Unit → Shared → Prop), Q' () s₁ → wpAny (model P w) A (g b) Q' E s₁) {o : Obj} {es es1 : Array (Int × Value)} {ep : Nat} {t t1 : SetTable} {ls : List κ}
    (there : s.heap.get? a = some o) (ex : o.ExactSet) (dat : o.data = .set es ep t) (ky : Keyed knd es1.toList ls) (few : es1.size < scanBound) (fit : t1.fits es1.size = true) (ris : Ris t1.place.toList) (led : w.params.followText "set-order" = true ∨ t1.led = true) {dummy : Bool} {R : Option Bool → Shared → Prop}
    (done : ∀ h', Heap.SameBut a s.heap h' → GSet knd h' a ls → R (some true) { s with heap := h' }) :
    wpAny (model P w) A (do
        storeSet a es1 t1
        if (!dummy && t1.tooFull) = true then do
            g (relayAll t1 es1 (SetTable.grown es1.size)).2.2
            storeSet a (relayAll t1 es1 (SetTable.grown es1.size)).1 (relayAll t1 es1 (SetTable.grown es1.size)).2.1
            pure (some true)
          else pure (some true)) R E s := by
  have at1 := store_at (es' := es1) (t' := t1) there dat
  have but1 := Heap.SameBut.update s.heap a (Obj.putSet es1 t1)
  refine wpAny_bind (wpAny_storeSet_of there dat ?_ (fits_of_scanBound few))
  split
  · obtain ⟨pm, ft, rs, ld⟩ := (⟨relayAll_perm t1 es1 (SetTable.grown es1.size), relayAll_fits t1 es1 (SetTable.grown es1.size), relayAll_ris t1 es1 (SetTable.grown es1.size), relayAll_led t1 es1 (SetTable.grown es1.size)⟩ :
      (relayAll t1 es1 (SetTable.grown es1.size)).1.toList.Perm es1.toList ∧ (relayAll t1 es1 (SetTable.grown es1.size)).2.1.fits (relayAll t1 es1 (SetTable.grown es1.size)).1.size = true ∧ Ris (relayAll t1 es1 (SetTable.grown es1.size)).2.1.place.toList ∧ (relayAll t1 es1 (SetTable.grown es1.size)).2.1.led = t1.led)
    revert pm ft rs ld
    generalize relayAll t1 es1 (SetTable.grown es1.size) = Z
    intro pm ft rs ld
    have few2 : Z.1.size < scanBound := by rw [← Array.length_toList, pm.length_eq, Array.length_toList]; exact few
    refine wpAny_bind (quiet _ _ _ (wpAny_bind (wpAny_storeSet_of at1 rfl ?_ (fits_of_scanBound few2))))
    exact wpAny_pure (done _ (but1.trans (Heap.SameBut.update _ a _)) ⟨_, _, _, _, store_at (es' := Z.1) (t' := Z.2.1) at1 rfl, ex, rfl, ky.perm pm, few2, ft, rs, led.imp id fun z => by rw [ld]; exact z⟩)
  · exact wpAny_pure (done _ but1 ⟨_, _, _, _, at1, ex, rfl, ky, few, fit, ris, led⟩)
/-- one more into the set -/
theorem gset_add {k : κ} {x : Value} {Q : Bool → Shared → Prop} (R : GSet knd s.heap a ks) (hx : knd.is k x = true) (sx : x.scannable = true) (room : ks.length + 1 < scanBound)
    (old : k ∈ ks → Q false s) (new : k ∉ ks → ∀ h', Heap.SameBut a s.heap h' → GSet knd h' a (k :: ks) → Q true { s with heap := h' }) : wpAny (model P w) A (setAddHashed a x (knd.hash k)) Q E s := by
  obtain ⟨o, es, ep, t, there, ex, dat, ky, few, fit, ris, led⟩ := R
  have el := ky.elems
  unfold setAddHashed setAddHashedIn
  refine wpAny_holding (wpAny_bind (wpAny_setState_of there dat fit ?_))
  dsimp only
  rw [byScan_of sx few el]
  simp only [↓reduceIte]
  unfold setAddByScan
  refine wpAny_bind (wpAny_bind (wpAny_rule (wpAny_bind (wpAny_setScan_of hx there dat fit el ?_))))
  cases found : List.findIdx? (fun e => knd.is k e.2) es.toList with
  | some j =>
    obtain ⟨hj, pj, _⟩ := List.findIdx?_eq_some_iff_getElem.mp found
    exact wpAny_pure (wpAny_pure (old ((ky.mem k).2 ⟨_, List.getElem_mem hj, pj⟩)))
  | none =>
    have nk : k ∉ ks := fun z => by
      obtain ⟨e, he, q⟩ := (ky.mem k).1 z
      have c := List.findIdx?_eq_none_iff.mp found e he
      rw [q] at c
      cases c
    dsimp only
    have gaveWay : ∀ (b : Bool) {s₁ : Shared} {Q' : Unit → Shared → Prop}, Q' () s₁ → wpAny (model P w) A (match b with | true => rule "set.scan.the-table-gave-way" | false => pure ()) Q' E s₁ := fun b s₁ Q' q => by
      cases b
      · exact wpAny_pure q
      · exact wpAny_rule q
    have pm := layNew_perm t es (knd.hash k) x
    have ft := layNew_fits t es (knd.hash k) x
    have rs := layNew_ris t es (knd.hash k) x ris
    have ld := layNew_led t es (knd.hash k) x
    generalize layNew t es (knd.hash k) x = Z at pm ft rs ld ⊢
    obtain ⟨es1, t1, dummy, gave⟩ := Z
    dsimp only at pm ft rs ld ⊢
    rw [Array.toList_push] at pm
    have pc : es1.toList.Perm ((knd.hash k, x) :: es.toList) := pm.trans (List.perm_append_singleton _ _)
    have ky1 : Keyed knd es1.toList (k :: ks) := (ky.more hx sx nk).perm pc
    have few1 : es1.size < scanBound := by
      rw [← Array.length_toList, ky1.len, List.length_cons]
      exact room
    have led1 : w.params.followText "set-order" = true ∨ t1.led = true := led.imp id fun z => by rw [ld]; exact z
    refine wpAny_bind (gaveWay _ ?_)
    split
    · refine wpAny_bind ?_
      rw [hashByValue_scannable 8 sx]
      refine wpAny_pure ?_
      refine gset_tail (knd := knd) (ls := k :: ks) (fun b s₁ Q' q => gaveWay b q) there ex dat ky1 few1 ?_ ?_ ?_ fun h' sb r => by dsimp only; exact wpAny_pure (new nk h' sb r)
      · first | exact ft | (split <;> first | exact ft | exact SetTable.fits_plain_off ft)
      · first | exact rs | (split <;> exact rs)
      · first | exact led1 | (split <;> exact led1)
    · refine wpAny_bind (wpAny_pure ?_)
      simp only [↓reduceIte]
      exact gset_tail (knd := knd) (ls := k :: ks) (fun b s₁ Q' q => gaveWay b q) there ex dat ky1 few1 ft rs led1 fun h' sb r => by dsimp only; exact wpAny_pure (new nk h' sb r)
end
end Lk
/-! SetG1 -/
set_option Elab.async false
set_option maxRecDepth 100000
set_option linter.all false
set_option maxHeartbeats 4000000
namespace Lk
open PySem PySem.Spec PyProof.Rows L2
section
variable {P : Program} {w : World} {κ : Type} [DecidableEq κ] {knd : KeyKind P w κ} {A : Around} {E : Value → Shared → Prop} {s : Shared}
/-- s.update(..), turn by turn: the keys so far -/
theorem gset_loop {I S : Addr} {fp wr : List Addr} {G : Array GenState → Array GenState → Prop} {n : Nat} {Pv : Nat → Value → Prop} {St : Nat → Shared → Prop} {R : Result → Shared → Prop} (W : WalksS P w A.in1 I fp wr G n Pv St) (apart : S ∉ fp) {ks : List κ}
    (len : n = ks.length) (room : ks.length + 1 < scanBound) (item : ∀ i v, Pv i v → ∃ k, ks[i]? = some k ∧ knd.is k v = true ∧ v.scannable = true)
    (done : ∀ s' us, Moved (S :: wr) G s s' → GSet knd s'.heap S us → (∀ k, k ∈ us ↔ k ∈ ks) → R (.ok (.ret .none)) s') :
    ∀ (m i : Nat) (s1 : Shared) (us : List κ), n - i = m → i ≤ n → St i s1 → Moved (S :: wr) G s s1 → GSet knd s1.heap S us → (∀ k, k ∈ us ↔ k ∈ ks.take i) → us.length ≤ i →
      codeAny (model P w) A (.builtin "set.update.loop" ⟨[.ref S, .ref I], []⟩) R s1 := by
  have aw : S ∉ wr := fun z => apart (W.sub _ z)
  have up : ∀ b ∈ wr, b ∈ S :: wr := fun b hb => List.mem_cons_of_mem _ hb
  intro m
  induction m with
  | zero =>
    intro i s1 us em hi st mv R1 mem _
    have ei : i = n := by omega
    rw [ei] at st mem
    refine codeAny_builtin F.entry_set_update_loop ?_
    rw [Around.under_plainId F.plain_set_update_loop _]
    show wpAny _ A.in1 (pyNext (.ref I) >>= _) _ _ s1
    refine wpAny_bind (W.done s1 _ _ st fun s2 mv2 => ?_)
    show wpAny _ A.in1 (ret Value.none) _ _ s2
    rw [List.take_of_length_le (Nat.le_of_eq len.symm)] at mem
    exact wpAny_pure (done s2 us (Moved.trans W.gtrans mv (mv2.mono up)) (R1.at fun o e => mv2.heap S o aw e) mem)
  | succ m ih =>
    intro i s1 us em hi st mv R1 mem few
    have lt : i < n := by omega
    refine codeAny_builtin F.entry_set_update_loop ?_
    rw [Around.under_plainId F.plain_set_update_loop _]
    show wpAny _ A.in1 (pyNext (.ref I) >>= _) _ _ s1
    refine wpAny_bind (W.item i s1 _ _ lt st fun v s2 pv st2 mv2 => ?_)
    obtain ⟨k, hk, iv, sv⟩ := item i v pv
    have R2 := R1.at (h' := s2.heap) fun o e => mv2.heap S o aw e
    have next : ∀ j, j ∈ ks.take (i + 1) ↔ j ∈ ks.take i ∨ j = k := fun j => by
      rw [List.take_add_one, hk]
      simp [List.mem_append]
    show wpAny _ A.in1 (holding [v] (setAdd S v) >>= _) _ _ s2
    refine wpAny_bind (wpAny_holding ?_)
    unfold setAdd
    refine wpAny_holding (wpAny_bind (knd.pyHash iv ?_))
    have mv12 := Moved.trans W.gtrans mv (mv2.mono up)
    refine gset_add (s := { s2 with toks := s2.toks + 1 }) R2 iv sv (by omega) (fun old => ?_) fun nk h3 sb R3 => ?_
    · refine wpAny_pure ⟨plainId_quiet F.plain_set_update_loop _, ih (i + 1) _ us (by omega) lt (W.frame _ s2 _ _ st2 (Nat.le_succ _) fun b hb o e => e) (mv12.then_heap (Nat.le_succ _) fun b o hb e => e) R2 (fun j => ?_) (by omega)⟩
      rw [next j, mem j]
      exact ⟨.inl, fun z => z.elim id fun e => e ▸ (mem k).1 old⟩
    · refine wpAny_pure ⟨plainId_quiet F.plain_set_update_loop _, ih (i + 1) _ (k :: us) (by omega) lt (W.frame _ s2 _ _ st2 (Nat.le_succ _) fun b hb o e => ?_) (mv12.then_heap (Nat.le_succ _) fun b o hb e => ?_) R3 (fun j => ?_) (by rw [List.length_cons]; omega)⟩
      · rw [sb.2 b (fun z : b = S => apart (by rw [← z]; exact hb))]
        exact e
      · rw [sb.2 b (fun z : b = S => hb (by rw [z]; exact List.mem_cons_self))]
        exact e
      · rw [next j, List.mem_cons, mem j]
        exact Or.comm
theorem gset_loop0 {I S : Addr} {fp wr : List Addr} {G : Array GenState → Array GenState → Prop} {n : Nat} {Pv : Nat → Value → Prop} {St : Nat → Shared → Prop} {R : Result → Shared → Prop} (W : WalksS P w A.in1 I fp wr G n Pv St) (apart : S ∉ fp) {ks : List κ}
    (len : n = ks.length) (room : ks.length + 1 < scanBound) (item : ∀ i v, Pv i v → ∃ k, ks[i]? = some k ∧ knd.is k v = true ∧ v.scannable = true) (st : St 0 s) (R0 : GSet knd s.heap S [])
    (done : ∀ s' us, Moved (S :: wr) G s s' → GSet knd s'.heap S us → (∀ k, k ∈ us ↔ k ∈ ks) → R (.ok (.ret .none)) s') : codeAny (model P w) A (.builtin "set.update.loop" ⟨[.ref S, .ref I], []⟩) R s :=
  gset_loop W apart len room item done (n - 0) 0 s [] rfl (Nat.zero_le _) st (Moved.refl W.grefl) R0 (fun k => by simp) (Nat.le_refl 0)
theorem gset_new {h : Heap} {a : Addr} (ho : h.get? a = some { cls := .type "set", dict := none, data := .set #[] 0 (.fresh 0 0 (!w.params.followText "set-order")) }) (f : Int × Value → κ) : GSet knd h a [] :=
  ⟨_, #[], 0, _, ho, ⟨rfl, rfl, rfl⟩, rfl, ⟨f, fun e he => by simp at he, List.Perm.nil, List.nodup_nil⟩, by decide, by rfl, List.Pairwise.nil, by
    show _ ∨ (!w.params.followText "set-order") = true
    cases w.params.followText "set-order"
    · exact .inr rfl
    · exact .inl rfl⟩
end
end Lk
/-! SetG2 -/
set_option Elab.async false
set_option maxRecDepth 100000
set_option linter.all false
set_option maxHeartbeats 4000000
namespace Lk
open PySem PySem.Spec PyProof.Rows L2
section
variable {P : Program} {w : World} {κ : Type} [DecidableEq κ] {knd : KeyKind P w κ} {A : Around} {E : Value → Shared → Prop} {s : Shared}
set_option maxRecDepth 100000 in
theorem call_set_L {l : Addr} {items : Array Value} {ks : List κ} {Q : Value → Shared → Prop} (hh : A.handled = none) (hl : s.heap.IsList l items) (f : Int × Value → κ) (len : items.size = ks.length) (room : ks.length + 1 < scanBound)
    (item : ∀ (i : Nat) (v : Value), items[i]? = some v → ∃ k, ks[i]? = some k ∧ knd.is k v = true ∧ v.scannable = true)
    (h : ∀ (h' : Heap) (tk : Nat) (us : List κ), GSet knd h' s.heap.objs.size us → (∀ k, k ∈ us ↔ k ∈ ks) → (∀ b o, s.heap.get? b = some o → h'.get? b = some o) → Q (.ref s.heap.objs.size) { s with heap := h', toks := tk }) :
    wpAny (model P w) A (call (.type "set") [.ref l]) Q E s := by
  obtain ⟨c, tl, hmro⟩ := F.called_set.mro
  have hmade := F.called_set.made
  have hsub := F.called_set.sub
  refine wpAny_call (codeAny_of_tree ?_)
  show wpAny _ _ (callAny (.type "set") _) _ _ _
  refine wpAny_pure ⟨Code.quiet_builtin _ (by decide +kernel), codeAny_builtin F.entry_type_call ?_⟩
  rw [Around.under_plain (weight_type_call_type "set" [.ref l] []) rfl]
  have h1 := F.called_set.notType
  have h2 := F.called_set.canCreate
  have hct := F.typeCall_set_1 (.ref l)
  repeat (any_goals (first | assumption | wp_step))
  refine codeAny_mono (code_set_led1 (.ref l) (E := E) (Q₁ := fun obj s₁ => obj = .ref s.heap.objs.size ∧ s₁ = { s with heap := s.heap.push { cls := .type "set", dict := none, data := .set #[] 0 (.fresh 0 0 (!w.params.followText "set-order")) } }) ⟨rfl, rfl⟩) fun r s₁ hr => ?_
  match r, hr with
  | .error e, hr => exact hr
  | .ok .next, hr => exact hr.elim
  | .ok .brk, hr => exact hr.elim
  | .ok .cont, hr => exact hr.elim
  | .ok (.ret obj), ⟨eo, es⟩ =>
    subst eo es
    have hS : (s.heap.push { cls := .type "set", dict := none, data := .set #[] 0 (.fresh 0 0 (!w.params.followText "set-order")) }).get? s.heap.objs.size = some { cls := .type "set", dict := none, data := .set #[] 0 (.fresh 0 0 (!w.params.followText "set-order")) } := Heap.get?_push_size _ rfl
    have hT : Shared.TypeIs { s with heap := s.heap.push { cls := .type "set", dict := none, data := .set #[] 0 (.fresh 0 0 (!w.params.followText "set-order")) } } (.ref s.heap.objs.size) "set" := ⟨_, hS, rfl⟩
    have hli := F.called_set.init.lookup
    have hbi := F.called_set.init.bind (.ref s.heap.objs.size)
    repeat (any_goals (first | assumption | wp_step))
    refine codeAny_mono (codeAny_call_builtin (R := wants (fun r s₂ => r = .none ∧ ∃ h' tk us, s₂ = { s with heap := h', toks := tk } ∧ GSet knd h' s.heap.objs.size us ∧ (∀ k, k ∈ us ↔ k ∈ ks) ∧
        (∀ b o, s.heap.get? b = some o → h'.get? b = some o)) E) F.called_set.init.plain F.entry_set_init (check_set_init_1 hT ?_)) fun r₂ s₂ hr₂ => ?_
    · obtain ⟨⟨ocls, odict, odata, oslots⟩, hol, hcl, nl, hdl⟩ := hl
      simp only at hcl hdl
      subst hcl hdl
      have hol' : (s.heap.push { cls := .type "set", dict := none, data := .set #[] 0 (.fresh 0 0 (!w.params.followText "set-order")) }).get? l = some { cls := .type "list", dict := odict, data := .seq items nl, slots := oslots } := Heap.get?_push_of_some _ hol
      have hsls := F.sub_list_set
      have hslf := F.sub_list_frozenset
      have hne : (Value.type "list" == Value.type "dict") = false := by decide
      have hl1 : (s.heap.push { cls := .type "set", dict := none, data := .set #[] 0 (.fresh 0 0 (!w.params.followText "set-order")) }).IsList l items := ⟨_, hol', rfl, nl, rfl⟩
      unfold Builtin.«set.__init__» noKeywords Builtin.Frozenset.updateFrom
      generalize hPI : pyIter = PI
      wp_walk
      subst hPI
      refine wpAny_pyIter_list hl1 ?_
      refine wpAny_bind (wpAny_runValue ?_)
      have lt : l < s.heap.objs.size := Heap.lt_size hol
      have sz : (s.heap.push { cls := .type "set", dict := none, data := .set #[] 0 (.fresh 0 0 (!w.params.followText "set-order")) }).objs.size = s.heap.objs.size + 1 := Heap.size_push ..
      have quiet : A.in1.in1.in1.handled = none := by simp [hh]
      have n1 : l ≠ (s.heap.push { cls := .type "set", dict := none, data := .set #[] 0 (.fresh 0 0 (!w.params.followText "set-order")) }).objs.size := by
        rw [Heap.size_push]
        exact Nat.ne_of_lt (Nat.lt_succ_of_lt lt)
      have n2 : s.heap.objs.size ∉ [(s.heap.push { cls := .type "set", dict := none, data := .set #[] 0 (.fresh 0 0 (!w.params.followText "set-order")) }).objs.size, l] := by
        rw [Heap.size_push]
        simp only [List.mem_cons, List.not_mem_nil, or_false, not_or]
        exact ⟨Nat.ne_of_lt (Nat.lt_succ_self _), Nat.ne_of_gt lt⟩
      refine gset_loop0 (knd := knd) (ks := ks) ((Walks.list quiet _ l n1 items).toS) n2 len room item ⟨⟨_, Heap.get?_push_size _ rfl, rfl, rfl⟩, (hl1.push _)⟩ ?hS0 ?hR
      case hS0 => exact gset_new (Heap.get?_push_of_some _ hS) f
      case hR =>
        rintro ⟨h', g2, d', tk', os'⟩ us mv R2 mem
        have eg := mv.gens
        have ed := mv.drawn
        have eo := mv.os
        dsimp only at eg ed eo
        subst eg ed eo
        show wpAny _ _ _ _ _ _
        refine wpAny_pure ?_
        show wpAny _ _ (ret Value.none) _ _ _
        refine wpAny_pure ⟨rfl, h', tk', us, rfl, R2, mem, fun b o e => ?_⟩
        have lb := Heap.lt_size e
        refine mv.heap b o ?_ (Heap.get?_push_of_some _ (Heap.get?_push_of_some _ e))
        rw [Heap.size_push]
        simp only [List.mem_cons, List.not_mem_nil, or_false, not_or]
        exact ⟨Nat.ne_of_lt lb, Nat.ne_of_lt (Nat.lt_succ_of_lt lb)⟩
    · match r₂, hr₂ with
      | .error e, hr₂ => exact hr₂
      | .ok .next, hr₂ => exact hr₂.elim
      | .ok .brk, hr₂ => exact hr₂.elim
      | .ok .cont, hr₂ => exact hr₂.elim
      | .ok (.ret r), ⟨er, h', tk, us, es, R2, mem, kp⟩ =>
        subst er es
        repeat (any_goals (first | assumption | wp_step))
        exact h _ _ _ R2 mem kp
end
end Lk
/-! SetG3 -/
set_option Elab.async false
set_option maxRecDepth 100000
set_option linter.all false
set_option maxHeartbeats 4000000
namespace Lk
open PySem PySem.Spec PyProof.Rows L2
section
variable {P : Program} {w : World} {κ : Type} [DecidableEq κ] {knd : KeyKind P w κ} {A : Around} {E : Value → Shared → Prop} {s : Shared}
set_option maxRecDepth 100000 in
theorem call_set_T {l : Addr} {items : Array Value} {ks : List κ} {Q : Value → Shared → Prop} (hh : A.handled = none) (hl : s.heap.IsTuple l items) (f : Int × Value → κ) (len : items.size = ks.length) (room : ks.length + 1 < scanBound)
    (item : ∀ (i : Nat) (v : Value), items[i]? = some v → ∃ k, ks[i]? = some k ∧ knd.is k v = true ∧ v.scannable = true)
    (h : ∀ (h' : Heap) (tk : Nat) (us : List κ), GSet knd h' s.heap.objs.size us → (∀ k, k ∈ us ↔ k ∈ ks) → (∀ b o, s.heap.get? b = some o → h'.get? b = some o) → Q (.ref s.heap.objs.size) { s with heap := h', toks := tk }) :
    wpAny (model P w) A (call (.type "set") [.ref l]) Q E s := by
  obtain ⟨c, tl, hmro⟩ := F.called_set.mro
  have hmade := F.called_set.made
  have hsub := F.called_set.sub
  refine wpAny_call (codeAny_of_tree ?_)
  show wpAny _ _ (callAny (.type "set") _) _ _ _
  refine wpAny_pure ⟨Code.quiet_builtin _ (by decide +kernel), codeAny_builtin F.entry_type_call ?_⟩
  rw [Around.under_plain (weight_type_call_type "set" [.ref l] []) rfl]
  have h1 := F.called_set.notType
  have h2 := F.called_set.canCreate
  have hct := F.typeCall_set_1 (.ref l)
  repeat (any_goals (first | assumption | wp_step))
  refine codeAny_mono (code_set_led1 (.ref l) (E := E) (Q₁ := fun obj s₁ => obj = .ref s.heap.objs.size ∧ s₁ = { s with heap := s.heap.push { cls := .type "set", dict := none, data := .set #[] 0 (.fresh 0 0 (!w.params.followText "set-order")) } }) ⟨rfl, rfl⟩) fun r s₁ hr => ?_
  match r, hr with
  | .error e, hr => exact hr
  | .ok .next, hr => exact hr.elim
  | .ok .brk, hr => exact hr.elim
  | .ok .cont, hr => exact hr.elim
  | .ok (.ret obj), ⟨eo, es⟩ =>
    subst eo es
    have hS : (s.heap.push { cls := .type "set", dict := none, data := .set #[] 0 (.fresh 0 0 (!w.params.followText "set-order")) }).get? s.heap.objs.size = some { cls := .type "set", dict := none, data := .set #[] 0 (.fresh 0 0 (!w.params.followText "set-order")) } := Heap.get?_push_size _ rfl
    have hT : Shared.TypeIs { s with heap := s.heap.push { cls := .type "set", dict := none, data := .set #[] 0 (.fresh 0 0 (!w.params.followText "set-order")) } } (.ref s.heap.objs.size) "set" := ⟨_, hS, rfl⟩
    have hli := F.called_set.init.lookup
    have hbi := F.called_set.init.bind (.ref s.heap.objs.size)
    repeat (any_goals (first | assumption | wp_step))
    refine codeAny_mono (codeAny_call_builtin (R := wants (fun r s₂ => r = .none ∧ ∃ h' tk us, s₂ = { s with heap := h', toks := tk } ∧ GSet knd h' s.heap.objs.size us ∧ (∀ k, k ∈ us ↔ k ∈ ks) ∧
        (∀ b o, s.heap.get? b = some o → h'.get? b = some o)) E) F.called_set.init.plain F.entry_set_init (check_set_init_1 hT ?_)) fun r₂ s₂ hr₂ => ?_
    · obtain ⟨⟨ocls, odict, odata, oslots⟩, hol, hcl, nl, hdl⟩ := hl
      simp only at hcl hdl
      subst hcl hdl
      have hol' : (s.heap.push { cls := .type "set", dict := none, data := .set #[] 0 (.fresh 0 0 (!w.params.followText "set-order")) }).get? l = some { cls := .type "tuple", dict := odict, data := .seq items nl, slots := oslots } := Heap.get?_push_of_some _ hol
      have hsls := F.sub_tuple_set
      have hslf := F.sub_tuple_frozenset
      have hne : (Value.type "tuple" == Value.type "dict") = false := by decide
      have hl1 : (s.heap.push { cls := .type "set", dict := none, data := .set #[] 0 (.fresh 0 0 (!w.params.followText "set-order")) }).IsTuple l items := ⟨_, hol', rfl, nl, rfl⟩
      unfold Builtin.«set.__init__» noKeywords Builtin.Frozenset.updateFrom
      generalize hPI : pyIter = PI
      wp_walk
      subst hPI
      refine wpAny_pyIter_tuple hl1 ?_
      refine wpAny_bind (wpAny_runValue ?_)
      have lt : l < s.heap.objs.size := Heap.lt_size hol
      have sz : (s.heap.push { cls := .type "set", dict := none, data := .set #[] 0 (.fresh 0 0 (!w.params.followText "set-order")) }).objs.size = s.heap.objs.size + 1 := Heap.size_push ..
      have quiet : A.in1.in1.in1.handled = none := by simp [hh]
      have n1 : l ≠ (s.heap.push { cls := .type "set", dict := none, data := .set #[] 0 (.fresh 0 0 (!w.params.followText "set-order")) }).objs.size := by
        rw [Heap.size_push]
        exact Nat.ne_of_lt (Nat.lt_succ_of_lt lt)
      have n2 : s.heap.objs.size ∉ [(s.heap.push { cls := .type "set", dict := none, data := .set #[] 0 (.fresh 0 0 (!w.params.followText "set-order")) }).objs.size, l] := by
        rw [Heap.size_push]
        simp only [List.mem_cons, List.not_mem_nil, or_false, not_or]
        exact ⟨Nat.ne_of_lt (Nat.lt_succ_self _), Nat.ne_of_gt lt⟩
      refine gset_loop0 (knd := knd) (ks := ks) ((Walks.tuple quiet _ l n1 items).toS) n2 len room item ⟨⟨_, Heap.get?_push_size _ rfl, rfl, rfl⟩, (hl1.push _)⟩ ?hS0 ?hR
      case hS0 => exact gset_new (Heap.get?_push_of_some _ hS) f
      case hR =>
        rintro ⟨h', g2, d', tk', os'⟩ us mv R2 mem
        have eg := mv.gens
        have ed := mv.drawn
        have eo := mv.os
        dsimp only at eg ed eo
        subst eg ed eo
        show wpAny _ _ _ _ _ _
        refine wpAny_pure ?_
        show wpAny _ _ (ret Value.none) _ _ _
        refine wpAny_pure ⟨rfl, h', tk', us, rfl, R2, mem, fun b o e => ?_⟩
        have lb := Heap.lt_size e
        refine mv.heap b o ?_ (Heap.get?_push_of_some _ (Heap.get?_push_of_some _ e))
        rw [Heap.size_push]
        simp only [List.mem_cons, List.not_mem_nil, or_false, not_or]
        exact ⟨Nat.ne_of_lt lb, Nat.ne_of_lt (Nat.lt_succ_of_lt lb)⟩
    · match r₂, hr₂ with
      | .error e, hr₂ => exact hr₂
      | .ok .next, hr₂ => exact hr₂.elim
      | .ok .brk, hr₂ => exact hr₂.elim
      | .ok .cont, hr₂ => exact hr₂.elim
      | .ok (.ret r), ⟨er, h', tk, us, es, R2, mem, kp⟩ =>
        subst er es
        repeat (any_goals (first | assumption | wp_step))
        exact h _ _ _ R2 mem kp
end
end Lk
/-! SetS0 -/
set_option Elab.async false
set_option maxRecDepth 100000
set_option linter.all false
set_option maxHeartbeats 4000000
namespace Lk
open PySem PySem.Spec PyProof.Rows L2
/-! ### sorted(s), s a set of texts -/
def strOf : Value → Str
  | .str x _ => x
  | _ => Str.empty
def leT (x y : Str) : Bool := decide (x.cps.toList ≤ y.cps.toList)
theorem leT_data : PySem.W.dataLe false PyData.str = leT := PySem.W.dataLe_str (β := Str) (fun x => x)
theorem leT_trans (x y z : Str) (h : leT x y = true) (g : leT y z = true) : leT x z = true := decide_eq_true (List.le_trans (of_decide_eq_true h) (of_decide_eq_true g))
theorem leT_total (x y : Str) : (leT x y || leT y x) = true := by
  rw [Bool.or_eq_true]
  exact (List.le_total x.cps.toList y.cps.toList).imp (fun h => decide_eq_true h) fun h => decide_eq_true h
theorem leT_anti (x y : Str) (h : leT x y = true) (g : leT y x = true) : x = y := TL.ext_tl (List.le_antisymm (of_decide_eq_true h) (of_decide_eq_true g))
section
variable {P : Program} {w : World} {A : Around} {E : Value → Shared → Prop} {s : Shared} {a : Addr} {us : List Str}
theorem is_strOf {k : Str} {v : Value} (h : (strKind P w).is k v = true) : ∃ t, v = .str k t := by
  cases v with
  | str x t =>
    have e : x = k := by
      have h2 : Value.isStrOf k (.str x t) = true := h
      simpa [Value.isStrOf] using h2
    exact ⟨t, by rw [e]⟩
  | _ => exact Bool.noConfusion (show false = true from h)
theorem sorted_gset {Q : Value → Shared → Prop} (R : GSet (strKind P w) s.heap a us) (hh : A.handled = none) (hu : A.units + 64 < cLine)
    (hQ : ∀ s' p (out : List Value) (c : Nat) (cs : List Str), (∀ b o, s.heap.get? b = some o → s'.heap.get? b = some o) → s'.gens = s.gens → s'.os = s.os → s.heap.objs.size ≤ p →
      s'.heap.get? p = some (seqObj "list" out.toArray c) → PySem.W.EachIs (fun v x => ∃ t, v = Value.str x t) out cs → cs.Perm us → cs.Pairwise (fun x y => leT x y = true) → Q (.ref p) s') :
    wpAny (model P w) A (call (.builtin "sorted") [.ref a]) Q E s := by
  obtain ⟨o, es, ep, t, ho, hex, hd, ky, few, fit, ris, led⟩ := R
  refine Calls.call_function_entry kind_sorted plain_sorted entry_sorted (args_sorted1 _) ?_
  unfold Builtin.«sorted»
  refine wpAny_bind (m := checkCount "sorted" 1 1 _) (wpAny_pure ?_)
  refine wpAny_bind (collect_set (A := A.in1) hh ⟨o, ho, hex.1, hd⟩ fit few ris led fun s1 vs k1 hz g1 o1 pm => ?_)
  obtain ⟨f, hf, pf, nd⟩ := ky
  have each : ∀ v ∈ vs, ∃ t, v = Value.str (strOf v) t := fun v hv => by
    obtain ⟨e, he, rfl⟩ := List.mem_map.mp (pm.mem_iff.mp hv)
    obtain ⟨t, z⟩ := is_strOf (hf e he).1.1
    rw [z]
    exact ⟨t, rfl⟩
  have pu : (vs.map strOf).Perm us := by
    refine (pm.map strOf).trans ?_
    rw [List.map_map]
    refine List.Perm.trans (List.Perm.of_eq (List.map_congr_left fun e he => ?_)) pf
    obtain ⟨t, z⟩ := is_strOf (hf e he).1.1
    show strOf e.2 = f e
    rw [z]
    rfl
  have hvl : vs.length ≤ sizeLine := by
    rw [pm.length_eq, List.length_map, Array.length_toList]
    exact fits_of_scanBound few
  refine wpAny_bind (wpAny_newList ?_ hvl)
  have hoL : (s1.heap.push (seqObj "list" vs.toArray 0)).get? s1.heap.objs.size = some (seqObj "list" vs.toArray 0) := Heap.get?_push_size _ rfl
  have ev : ∀ {l : List Value}, (∀ v ∈ l, ∃ t, v = Value.str (strOf v) t) → PySem.W.EachIs (fun v x => ∃ t, v = Value.str x t) l (l.map strOf) := by
    intro l
    induction l with
    | nil => exact fun _ => .nil
    | cons v r ih => exact fun h => .cons (h v List.mem_cons_self) (ih fun u hu => h u (List.mem_cons_of_mem _ hu))
  have er : ∀ {l : List Value} {h : Heap}, (∀ v ∈ l, ∃ t, v = Value.str (strOf v) t) → PySem.W.EachIs (fun v x => ∃ as, Reads h v (.str x) as ∧ s1.heap.objs.size ∉ as) l (l.map strOf) := by
    intro l h
    induction l with
    | nil => exact fun _ => .nil
    | cons v r ih =>
      refine fun hv => .cons ?_ (ih fun u hu => hv u (List.mem_cons_of_mem _ hu))
      obtain ⟨t, z⟩ := hv v List.mem_cons_self
      rw [z]
      exact ⟨[], Reads.str _ t, fun h => nomatch h⟩
  refine wpAny_bind (wpAny_holding (PySem.W.list_sort_data (enc := PyData.str) (s := { s1 with heap := s1.heap.push (seqObj "list" vs.toArray 0) }) hoL (ev each) (er each) (PySem.W.AllAlike.of fun _ _ => rfl) (PySem.W.Sortable.others fun _ => ⟨(fun z => nomatch z), (fun _ z => nomatch z)⟩) (by rw [List.length_map]; exact hvl) (fun _ _ => by show A.in1.units + 1 + 0 < cLine; simp; omega) fun out len eo => ?_))
  rw [leT_data] at eo
  obtain ⟨c, hc⟩ := sortedHeap_at (vs := vs) (out := out.toArray) hoL
  refine wpAny_pure ⟨_, rfl, hQ _ s1.heap.objs.size out c _ (fun b u e => ?_) g1 o1 hz hc eo ((List.mergeSort_perm _ _).trans pu) ?_⟩
  · have q := k1 b u e
    have hlt := Heap.lt_size q
    show (sortedHeap (s1.heap.push (seqObj "list" vs.toArray 0)) s1.heap.objs.size vs out.toArray).get? b = some u
    rw [sortedHeap_old (Nat.ne_of_lt hlt) (by rw [size_push']; exact Nat.lt_succ_of_lt hlt)]
    exact Heap.get?_push_of_some _ q
  · exact List.pairwise_mergeSort leT_trans leT_total _
end
end Lk
/-! SetS1 -/
set_option Elab.async false
set_option maxRecDepth 100000
set_option linter.all false
set_option maxHeartbeats 4000000
namespace Lk
open PySem PySem.Spec PyProof.Rows L2
/-! ### sets of texts over the layer -/
def SetTx (P : Program) (w : World) (a : Addr) (us : List Str) : HO := .ext fun h => GSet (strKind P w) h a us
section
variable {X : Cx}
theorem setTx_ok {H : Hp} {h : Heap} {a : Addr} {us : List Str} (R : GSet (strKind X.prog X.w) h a us) : ObjOk X.prog X.w H h a (SetTx X.prog X.w a us) :=
  ⟨R, (by
    obtain ⟨o, _, _, _, ho, _⟩ := R
    exact ⟨o, ho⟩), fun _ _ z k => z.at k⟩
theorem strs_item {us : List Value} {ss : List Str} (r : StrsAre us ss) : ∀ (i : Nat) (v : Value), us.toArray[i]? = some v → ∃ k, ss[i]? = some k ∧ (strKind X.prog X.w).is k v = true ∧ v.scannable = true := fun i v h => by
  have h2 : us[i]? = some v := by simpa using h
  obtain ⟨t, e⟩ := SS.strs_at r i v h2
  have lt : i < ss.length := by
    rw [← StrsAre.length r]
    exact (List.getElem?_eq_some_iff.mp h2).1
  refine ⟨ss[i], List.getElem?_eq_getElem lt, ?_, by rw [e]; rfl⟩
  rw [e, List.getD_eq_getElem?_getD, List.getElem?_eq_getElem lt]
  exact strKind_is _ _ _ _
def rSetS (K : PySem.W.Frag) (P : Program) (w : World) : List V → Hp → VK → Prop := fun xs H Q => ∃ (l : Addr) (ss : List Str), xs = [.ref l] ∧ (SqL K H l (ss.map V.str) ∨ SqT K H l (ss.map V.str)) ∧ ss.length + 1 < scanBound ∧
  ∀ (p : Addr) (us : List Str), H p = none → us.Nodup → (∀ x, x ∈ us ↔ x ∈ ss) → Q (.ref p) (upd H p (SetTx P w p us))
theorem call_setS (calm : X.calm = true) : CallR X (.type "set") (rSetS X.K X.prog X.w) := by
  intro pins s σ H xs us Q I r h
  obtain ⟨l, ss, rfl, hl, room, q⟩ := h
  rw [Vals.ref1 r]
  have hn : H s.heap.objs.size = none := I.hok.fresh (Nat.le_refl _)
  have fin : ∀ (h' : Heap) (tk : Nat) (us : List Str), GSet (strKind X.prog X.w) h' s.heap.objs.size us → (∀ k, k ∈ us ↔ k ∈ ss) → (∀ b o, s.heap.get? b = some o → h'.get? b = some o) → EP X pins σ Q (.ref s.heap.objs.size) { s with heap := h', toks := tk } := fun h' tk us R m k =>
    ⟨.ref s.heap.objs.size, upd H s.heap.objs.size (SetTx X.prog X.w s.heap.objs.size us), I.laid (t' := tk) k (Nat.le_refl _) (setTx_ok R), rfl, q _ us hn (by
      obtain ⟨_, _, _, _, _, _, _, ⟨_, _, _, nd⟩, _⟩ := R
      exact nd) m⟩
  rcases hl with hl | hl
  · obtain ⟨its, rv, pl, hz⟩ := I.list hl
    have rs := strs_of_vals rv
    exact call_set_L (knd := strKind X.prog X.w) (ks := ss) (I.ok.hd calm) pl.isList (fun e => strOf e.2) (by rw [List.size_toArray]; exact StrsAre.length rs) room (strs_item rs) fin
  · obtain ⟨its, rv, pl, hz⟩ := I.tuple hl
    have rs := strs_of_vals rv
    exact call_set_T (knd := strKind X.prog X.w) (ks := ss) (I.ok.hd calm) (by
      obtain ⟨o, ho, hc, n, hd⟩ := pl
      exact ⟨o, ho, hc, n, hd⟩) (fun e => strOf e.2) (by rw [List.size_toArray]; exact StrsAre.length rs) room (strs_item rs) fin
theorem vals_each : ∀ {out : List Value} {cs : List Str}, PySem.W.EachIs (fun v x => ∃ t, v = Value.str x t) out cs → Vals (cs.map V.str) out
  | _, _, .nil => .nil
  | _, _, .cons h t => .cons h (vals_each t)
/-- sorted(s), s a set of texts -/
def rSortedS (P : Program) (w : World) : List V → Hp → VK → Prop := fun xs H Q => ∃ (a : Addr) (us : List Str), xs = [.ref a] ∧ H a = some (SetTx P w a us) ∧
  ∀ (p : Addr) (cs : List Str), H p = none → cs.Perm us → cs.Pairwise (fun x y => leT x y = true) → Q (.ref p) (upd H p (.lst (cs.map V.str)))
theorem call_sortedS (calm : X.calm = true) (hu : X.A.units + 64 < cLine) : CallR X (.builtin "sorted") (rSortedS X.prog X.w) := by
  intro pins s σ H xs us Q I r h
  obtain ⟨a, ks, rfl, ha, q⟩ := h
  have R : GSet (strKind X.prog X.w) s.heap a ks := (I.hok a _ ha).1
  rw [Vals.ref1 r]
  refine sorted_gset R (I.ok.hd calm) hu fun s' p out c cs k g o hp hg ev pm pw => ?_
  have hn : H p = none := I.hok.fresh hp
  have few : ks.length < scanBound := by
    obtain ⟨_, es, _, _, _, _, _, ky, few, _⟩ := R
    rw [← ky.len, Array.length_toList]
    exact few
  have hlen : (cs.map V.str).length ≤ sizeLine := by
    rw [List.length_map, pm.length_eq]
    exact fits_of_scanBound few
  have J : Inv X pins σ (upd H p (.lst (cs.map V.str))) { s with heap := s'.heap, gens := s'.gens, drawn := s'.drawn, toks := s'.toks } :=
    I.call (ch := []) (Un.laid k hp hn) (I.hok.laid k hp ⟨hlen, out, c, vals_each ev, hg⟩) (by rw [g]; exact I.bare) (fun _ z => nomatch z)
  have e : s' = { s with heap := s'.heap, gens := s'.gens, drawn := s'.drawn, toks := s'.toks } := by
    cases s'
    cases s
    cases o
    rfl
  rw [e]
  exact ⟨.ref p, _, J, rfl, q p cs hn pm pw⟩
end
end Lk
/-! SetS2 -/
set_option Elab.async false
set_option maxRecDepth 100000
set_option linter.all false
set_option maxHeartbeats 4000000
namespace Lk
open PySem PySem.Spec PyProof.Rows L2
/-! ### sorted(xs, key=len), xs a list of texts -/
def leL (x y : Str) : Bool := decide ((x.length : Int) ≤ (y.length : Int))
theorem leL_data : PySem.W.dataLe false (fun x : Str => PyData.int x.length) = leL := PySem.W.dataLe_int (β := Str) (fun x => (x.length : Int))
theorem each_vals : ∀ {us : List Value} {ss : List Str}, StrsAre us ss → PySem.W.EachIs (fun v x => ∃ t, v = Value.str x t) us ss
  | _, _, .nil => .nil
  | _, _, .cons x t h => .cons ⟨t, rfl⟩ (each_vals h)
section
variable {X : Cx}
def tSortLen (K : PySem.W.Frag) (te : TE) : TE := fun σ H Q => te σ H fun x H1 => ∃ (l : Addr) (ss : List Str), x = .ref l ∧ SqL K H1 l (ss.map V.str) ∧ (∀ y ∈ ss, y.length ≤ sizeLine) ∧ ∀ p, H1 p = none → Q (.ref p) (upd H1 p (.lst ((ss.mergeSort leL).map V.str)))
theorem pe_sortLen {e : Expr} {te : TE} {p p2 kp pos : Pos} (he : PE X e te) (hm : X.mg "sorted" = none) (hl : X.mg "len" = none) (hu : X.A.units + 64 < cLine) (hg : Gl X "sorted" := by rfl) (hgl : Gl X "len" := by rfl)
    (h1 : backTo pos (starEach [e] X.env) = (false, eval e X.env) :: backTo pos (starEach [] X.env) := by rfl) (h2 : (backTo pos (starEach [e] X.env)).any (·.1) = false := by rfl)
    (hs : starEach [e] X.env = (false, eval e X.env) :: starEach [] X.env := by rfl) :
    PE X (.Call (.Name "sorted" p) [e] [⟨some "key", .Name "len" p2, kp⟩] pos) (tSortLen X.K te) := by
  refine ⟨fun pins s σ H Q I h => ?_⟩
  refine wpAny_Call_Name_kw (ld_blt I hg hm (show bootBuiltins "sorted" = some (.builtin "sorted") by decide +kernel) ?_ (by decide) (by decide))
  let Q' : List V → Hp → Prop := fun vs H1 => match vs with
    | [x] => ∃ (l : Addr) (ss : List Str), x = .ref l ∧ SqL X.K H1 l (ss.map V.str) ∧ (∀ y ∈ ss, y.length ≤ sizeLine) ∧ ∀ p, H1 p = none → Q (.ref p) (upd H1 p (.lst ((ss.mergeSort leL).map V.str)))
    | _ => False
  refine PyProof.Rows.callWith_kw (thn ((pa_cons he pa_nil hs).run pos pins s σ H Q' I h) fun us s1 ⟨vs, H1, I1, r1, q1⟩ => ?_) h1 h2 (by rfl) (by rfl)
  match vs, r1, q1 with
  | [x], r1, ⟨l, ss, ex, hl2, hz, q⟩ =>
    subst ex
    have eu := Vals.ref1 r1
    subst eu
    show wpAny _ _ (evalAll ((do let v ← eval (.Name "len" p2) X.env; standAt pos; pure v) :: [])) _ _ s1
    refine wpAny_evalAll_cons (wpAny_bind (ld_blt I1 hgl hl (show bootBuiltins "len" = some (.builtin "len") by decide +kernel) (wpAny_bind (wpAny_standAt (wpAny_pure ?_))) (by decide) (by decide)))
    refine wpAny_evalAll_nil ?_
    show wpAny _ _ (call (.builtin "sorted") [.ref l] [(Str.ofString "key", .builtin "len")]) _ _ s1
    obtain ⟨its, rv, pl, hz2⟩ := I1.list hl2
    have rs := strs_of_vals rv
    rw [List.length_map] at hz2
    have pm := List.mergeSort_perm ss leL
    refine PySem.W.sorted_key_data (k := fun x : Str => PyData.int x.length) (b := false) (f := .builtin "len") pl.isList (each_vals rs) (PySem.W.AllAlike.of fun _ _ => rfl) (PySem.W.Sortable.others fun _ => ⟨(fun z => nomatch z), (fun _ z => nomatch z)⟩) hz2
      (fun _ _ => by show X.A.units + 2 + 0 < cLine; omega) (PyProof.Rows.ksk_s1 _ _) (fun _ => PyProof.Rows.ksk_l1 _ _) (fun _ => PyProof.Rows.ksk_t4 _ _) (fun v y hv hy h2 tk kp => ?_) fun out c h' tk kp fr hD len eo => ?_
    · obtain ⟨t, rfl⟩ := hv
      have hy2 := hz y hy
      rw [sizeLine_eq] at hy2
      exact len_str (by omega) ⟨h2, _, rfl, fun _ _ q => q, Reads.int _ _⟩
    · rw [leL_data] at eo
      have hlen : ((ss.mergeSort leL).map V.str).length ≤ sizeLine := by
        rw [List.length_map, pm.length_eq]
        exact hz2
      exact ⟨.ref _, upd H1 (s1.heap.objs.size + 1) (.lst ((ss.mergeSort leL).map V.str)), I1.laid (t' := tk) kp (Nat.le_succ _) ⟨hlen, out, c, vals_each eo, hD⟩, rfl, q _ (I1.hok.fresh (Nat.le_succ _))⟩
end
end Lk
/-! Asc0 -/
set_option Elab.async false
set_option maxRecDepth 100000
set_option linter.all false
set_option maxHeartbeats 4000000
namespace Lk
open PySem PySem.Spec PyProof.Rows L2
/-! ### the order of names -/
def leA (x y : Str) : Prop := x.length < y.length ∨ (x.length = y.length ∧ leT x y = true)
/-- the ascending list of the different ones -/
structure IsAsc (cs ss : List Str) : Prop where
  nd : cs.Nodup
  mem : ∀ x, x ∈ cs ↔ x ∈ ss
  pw : cs.Pairwise leA
theorem leA_anti {x y : Str} (h : leA x y) (g : leA y x) : x = y := by
  rcases h with h | ⟨e, h⟩
  · rcases g with g | ⟨f, g⟩ <;> omega
  · rcases g with g | ⟨f, g⟩
    · omega
    · exact leT_anti x y h g
theorem IsAsc.uniq {cs ds ss : List Str} (h : IsAsc cs ss) (g : IsAsc ds ss) : cs = ds :=
  List.Perm.eq_of_pairwise (fun _ _ _ _ a b => leA_anti a b) h.pw g.pw ((List.perm_ext_iff_of_nodup h.nd g.nd).mpr fun x => (h.mem x).trans (g.mem x).symm)
theorem IsAsc.same {cs ss ts : List Str} (h : IsAsc cs ss) (e : ∀ x, x ∈ ss ↔ x ∈ ts) : IsAsc cs ts := ⟨h.nd, fun x => (h.mem x).trans (e x), h.pw⟩
theorem two_way {α : Type} {x y : α} (ne : x ≠ y) : ∀ {l : List α}, x ∈ l → y ∈ l → List.Sublist [x, y] l ∨ List.Sublist [y, x] l
  | a :: l, hx, hy => by
    rcases List.mem_cons.mp hx with e1 | h1
    · rcases List.mem_cons.mp hy with e2 | h2
      · exact absurd (e1.trans e2.symm) ne
      · rw [← e1]
        exact .inl (List.Sublist.cons_cons _ (List.singleton_sublist.mpr h2))
    · rcases List.mem_cons.mp hy with e2 | h2
      · rw [← e2]
        exact .inr (List.Sublist.cons_cons _ (List.singleton_sublist.mpr h1))
      · exact (two_way ne h1 h2).imp (fun z => z.cons _) fun z => z.cons _
theorem one_way {α : Type} {x y : α} (ne : x ≠ y) : ∀ {l : List α}, l.Nodup → List.Sublist [x, y] l → List.Sublist [y, x] l → False
  | [], _, h, _ => by cases h
  | a :: l, nd, h, g => by
    obtain ⟨na, nl⟩ := List.nodup_cons.mp nd
    cases h with
    | cons _ h =>
      cases g with
      | cons _ g => exact one_way ne nl h g
      | cons_cons _ g => exact na (h.subset (by simp))
    | cons_cons _ h =>
      cases g with
      | cons _ g => exact na (g.subset (by simp))
      | cons_cons _ g => exact ne rfl
theorem leL_trans (x y z : Str) (h : leL x y = true) (g : leL y z = true) : leL x z = true := by
  have h2 := of_decide_eq_true h
  have g2 := of_decide_eq_true g
  exact decide_eq_true (by omega)
theorem leL_total (x y : Str) : (leL x y || leL y x) = true := by
  rw [Bool.or_eq_true]
  by_cases h : (x.length : Int) ≤ (y.length : Int)
  · exact .inl (decide_eq_true h)
  · exact .inr (decide_eq_true (by omega))
theorem asc_of {us ss cs : List Str} (nd : us.Nodup) (mem : ∀ x, x ∈ us ↔ x ∈ ss) (pm : cs.Perm us) (pw : cs.Pairwise (fun x y => leT x y = true)) : IsAsc (cs.mergeSort leL) ss := by
  have p2 := (List.mergeSort_perm cs leL).trans pm
  have n2 := p2.nodup_iff.mpr nd
  refine ⟨n2, fun x => (p2.mem_iff).trans (mem x), List.pairwise_iff_forall_sublist.mpr fun {x y} hs => ?_⟩
  have hL : leL x y = true := List.pairwise_iff_forall_sublist.mp (List.pairwise_mergeSort leL_trans leL_total cs) hs
  have h2 := of_decide_eq_true hL
  by_cases lt : x.length < y.length
  · exact .inl lt
  have eq : x.length = y.length := by omega
  refine .inr ⟨eq, ?_⟩
  have ne : x ≠ y := List.pairwise_iff_forall_sublist.mp n2 hs
  have hx : x ∈ cs := (List.mergeSort_perm cs leL).mem_iff.mp (hs.subset (by simp))
  have hy : y ∈ cs := (List.mergeSort_perm cs leL).mem_iff.mp (hs.subset (by simp))
  rcases two_way ne hx hy with z | z
  · exact List.pairwise_iff_forall_sublist.mp pw z
  · have hL2 : leL y x = true := decide_eq_true (by omega)
    exact (one_way ne n2 hs (List.pair_sublist_mergeSort leL_trans leL_total hL2 z)).elim
end Lk
/-! Stem0 -/
set_option Elab.async false
set_option maxRecDepth 100000
set_option linter.all false
set_option maxHeartbeats 4000000
namespace Lk
open PySem PySem.Spec PyProof.Rows L2
/-! ### stems -/
theorem starts_tl {x y : Str} : Txt.startswith x y = true ↔ ∃ r, TL.tl x = TL.tl y ++ r := by
  unfold Txt.startswith
  rw [StrLaws.subAt_eq, Bool.and_eq_true, decide_eq_true_eq, beq_iff_eq, List.drop_zero]
  constructor
  · rintro ⟨_, h⟩
    exact ⟨(TL.tl x).drop y.length, by
      have e : TL.tl x = (TL.tl x).take y.length ++ (TL.tl x).drop y.length := (List.take_append_drop _ _).symm
      rw [show (TL.tl x).take y.length = TL.tl y from h] at e
      exact e⟩
  · rintro ⟨r, h⟩
    have l1 : x.length = (TL.tl y ++ r).length := by rw [TL.len_tl, h]
    rw [List.length_append, ← TL.len_tl] at l1
    refine ⟨by omega, ?_⟩
    show (TL.tl x).take y.length = TL.tl y
    rw [h, TL.len_tl, List.take_left]
theorem ends_tl {x y : Str} : Txt.endswith x y = true ↔ ∃ r, TL.tl x = r ++ TL.tl y := by
  unfold Txt.endswith
  rw [StrLaws.subAt_eq, Bool.and_eq_true, decide_eq_true_eq, beq_iff_eq]
  constructor
  · rintro ⟨l, h⟩
    refine ⟨(TL.tl x).take (x.length - y.length), ?_⟩
    have h2 : ((TL.tl x).drop (x.length - y.length)).take y.length = TL.tl y := h
    have l2 : ((TL.tl x).drop (x.length - y.length)).length ≤ y.length := by
      rw [List.length_drop, ← TL.len_tl]
      omega
    rw [List.take_of_length_le l2] at h2
    rw [← h2, List.take_append_drop]
  · rintro ⟨r, h⟩
    have l1 : x.length = (r ++ TL.tl y).length := by rw [TL.len_tl, h]
    rw [List.length_append, ← TL.len_tl] at l1
    refine ⟨by omega, ?_⟩
    show ((TL.tl x).drop (x.length - y.length)).take y.length = TL.tl y
    rw [h, show x.length - y.length = r.length by omega, List.drop_left, TL.len_tl y, List.take_length]
/-- what lies between two ends, where the one are capitals and the other small letters -/
theorem mid_of {z b e : List Nat} (hb : ∀ c ∈ b, upB c = true) (he : ∀ c ∈ e, loB c = true) (h1 : ∃ r, z = b ++ r) (h2 : ∃ r, z = r ++ e) : ∃ m, z = b ++ m ++ e := by
  obtain ⟨r, rfl⟩ := h1
  obtain ⟨q, h2⟩ := h2
  rcases List.append_eq_append_iff.mp h2 with ⟨m, e1, e2⟩ | ⟨m, e1, e2⟩
  · exact ⟨m, by rw [e2, List.append_assoc]⟩
  · cases m with
    | nil => exact ⟨[], by rw [e2]; simp⟩
    | cons c t =>
      have u := hb c (by rw [e1]; simp)
      have v := he c (by rw [e2]; simp)
      simp only [upB, loB, Bool.and_eq_true, decide_eq_true_eq] at u v
      omega
theorem cut_mid {z : Str} {b m e : List Nat} (h : TL.tl z = b ++ m ++ e) : TL.tl (cutS z (some (b.length : Int)) (some ((z.length : Int) - (e.length : Int)))) = m := by
  have l : z.length = b.length + m.length + e.length := by
    rw [TL.len_tl, h, List.length_append, List.length_append]
  show ((TL.tl z).drop (HT.sIx z.length 0 (some (b.length : Int)))).take (HT.sIx z.length z.length (some ((z.length : Int) - (e.length : Int))) - HT.sIx z.length 0 (some (b.length : Int))) = m
  rw [show ((z.length : Int) - (e.length : Int)) = ((b.length + m.length : Nat) : Int) by omega, HT.sIx_nat, HT.sIx_nat, Nat.min_eq_left (by omega), Nat.min_eq_left (by omega), h, List.append_assoc, List.drop_left, show b.length + m.length - b.length = m.length by omega, List.take_left]
end Lk
/-! EnT0 -/
set_option Elab.async false
set_option maxRecDepth 100000
set_option linter.all false
set_option maxHeartbeats 4000000
namespace Lk
open PySem PySem.Spec PyProof.Rows L2
/-! ### enumerate(t), t a tuple -/
theorem enum_one {v : Value} {o : Obj} {Hh : Heap → Prop} (B : Begins v o Hh) :
    Meets (Builtin.«enumerate.__new__» ⟨[.type "enumerate", v], []⟩) (fun _ R s => Hh s.heap ∧
      R (.ok (.ret (.ref (s.heap.push o).objs.size))) { s with heap := (s.heap.push o).push { cls := .type "enumerate", data := .fields #[.none, .bool false, .ref s.heap.objs.size, rawInt 0, .none, .none] } }) :=
  .of_wp fun prog w A R s h => by
    obtain ⟨hp, g, d, tk, os⟩ := s
    obtain ⟨h1, h⟩ := h
    have hsub := sub_enumerate
    have q1 : ∀ {A' : Around} {E : Value → Shared → Prop} {Q : Value → Shared → Prop}, Q (.ref hp.objs.size) ⟨hp.push o, g, d, tk, os⟩ → wpAny (model prog w) A' (pyIter v) Q E ⟨hp, g, d, tk, os⟩ :=
      fun q => B.iter prog w _ _ ⟨hp, g, d, tk, os⟩ _ (B.keeps _ _ h1 fun b o' e => e) q
    wp_walk
    refine wpAny_stack_any fun st => wpAny_pure ?_
    split
    · rename_i c _ _ _ _ _
      cases (c == Value.type "enumerate")
      · wp_walk using q1
        exact ⟨_, rfl, h⟩
      · wp_walk using q1
        exact ⟨_, rfl, h⟩
    · wp_walk using q1
      exact ⟨_, rfl, h⟩
section
variable {prog : Program} {w : World} {A : Around} {E : Value → Shared → Prop} {s : Shared}
theorem call_enum_tup {l : Addr} {items : Array Value} {Q : Value → Shared → Prop} (hT : s.heap.IsTuple l items)
    (h : ∀ h', IsEnum h' (s.heap.objs.size + 1) s.heap.objs.size 0 .none → h'.IsTupleIter s.heap.objs.size l 0 → h'.objs.size = s.heap.objs.size + 2 →
      (∀ b o, s.heap.get? b = some o → h'.get? b = some o) → Q (.ref (s.heap.objs.size + 1)) { s with heap := h' }) :
    wpAny (model prog w) A (call (.type "enumerate") [.ref l]) Q E s := by
  refine callType_new F.called_enumerate (by decide) (F.typeCall_enumerate_1 _) (F.newCall_enumerate_1 _) (fun obj => F.args_object_init_2 obj _) F.entry_enumerate_new (enum_one (begins_tuple l items)) ⟨hT, ?_⟩
  have z1 : (s.heap.push { cls := .type "tuple_iterator", data := .fields #[.ref l, .int 0 0] }).objs.size = s.heap.objs.size + 1 := Heap.size_push ..
  show _ ∧ _
  have at1 := Heap.get?_push_size (s.heap.push { cls := .type "tuple_iterator", data := .fields #[.ref l, .int 0 0] }) (o := { cls := .type "enumerate", data := .fields #[.none, .bool false, .ref s.heap.objs.size, rawInt 0, .none, .none] }) rfl
  rw [z1] at at1 ⊢
  exact ⟨⟨_, at1, rfl⟩, h _ at1 ⟨_, Heap.get?_push_of_some _ (Heap.get?_push_size _ rfl), rfl, rfl⟩ (by rw [Heap.size_push, z1]) fun b o x => Heap.get?_push_of_some _ (Heap.get?_push_of_some _ x)⟩
end
/-- the pairs of a tuple at a -/
def IteT (K : PySem.W.Frag) (a : Addr) : It :=
  ⟨fun i H => ∃ (xs : List V) (x : V), SqT K H a xs ∧ xs[i]? = some x, fun i H v H' => ∃ T x, v = .ref T ∧ H T = none ∧ H' = upd H T (.tup [.int (i : Nat), x]) ∧ ∀ xs, SqT K H a xs → xs[i]? = some x, fun i H => ∃ xs : List V, SqT K H a xs ∧ xs.length = i⟩
theorem apart_of {h : Heap} {e it a i : Addr} {n : Int} {old : Value} {items : Array Value} (he : IsEnum h e it n old) (hit : h.IsTupleIter it a i) (ht : h.IsTuple a items) : a ≠ it ∧ e ∉ [it, a] ∨ e = it := by
  by_cases q : e = it
  · exact .inr q
  · refine .inl ⟨fun z => ?_, fun m => ?_⟩
    · obtain ⟨o1, h1, c1, _⟩ := hit
      obtain ⟨o2, h2, c2, _⟩ := ht
      rw [z, h1] at h2
      cases h2
      rw [c1] at c2
      exact absurd c2 (by decide)
    · rcases List.mem_cons.mp m with z | m
      · exact q z
      · have z := List.mem_singleton.mp m
        obtain ⟨o2, h2, c2, _⟩ := ht
        rw [← z] at h2
        unfold IsEnum at he
        rw [he] at h2
        injection h2 with h2
        rw [← h2] at c2
        have c3 : Value.type "enumerate" = Value.type "tuple" := c2
        injection c3 with c3
        exact absurd c3 (by decide)
theorem turn_enT {P : Program} {w : World} {K : PySem.W.Frag} {elts : List Expr} {kk : Nat} {tpos : Pos} (a e it : Addr) :
    Turn P w K (.Tuple elts kk tpos) (IteT K a) [e, it] e (fun i h => (∃ old, IsEnum h e it ((i : Nat) : Int) old) ∧ h.IsTupleIter it a i ∧ e ≠ it) where
  mem := by simp
  obj := fun i h st b hb => by
    obtain ⟨⟨old, he⟩, ⟨o, ho, hc, hd⟩, _⟩ := st
    have e' : b = e ∨ b = it := by simpa using hb
    rcases e' with z | z
    · rw [z]
      exact ⟨_, he, fun v q => nomatch q⟩
    · rw [z]
      exact ⟨o, ho, fun v q => by rw [hd] at q; cases q⟩
  keep := fun i h h' st k => let ⟨⟨old, he⟩, hi, hne⟩ := st; ⟨⟨old, k e (by simp) _ he⟩, hi.at fun o q => k it (by simp) o q, hne⟩
  item := by
    intro X hP hw hK hc i pins s σ H E I hf st hg
    subst hP hw hK
    obtain ⟨⟨old, he⟩, hit, hne⟩ := st
    obtain ⟨xs, x, hq, hx⟩ := hg
    obtain ⟨its, rv, p, hz⟩ := I.tuple hq
    obtain ⟨u, hu, ru⟩ := rv.get hx
    have hel : e < s.heap.objs.size := Heap.lt_size he
    have hil : it < s.heap.objs.size := by obtain ⟨_, q, _⟩ := hit; exact Heap.lt_size q
    have ap := (apart_of he hit p).resolve_right hne
    have quiet : X.A.in1.handled = none := by
      have z := I.ok.hd hc
      simp [z]
    refine wpAny_pyNext_enum_itemD (Draws.tuple quiet it a ap.1 its.toArray) he ⟨hit, p⟩ (i := i) (by
      have z := (List.getElem?_eq_some_iff.mp hu).1
      simpa using z) hne ap.2 fun v h' tk pv ho st' hT hsz hk => ?_
    have ev : v = u := by
      have z : its[i]? = some v := by simpa using pv
      rw [hu] at z
      exact (Option.some.inj z).symm
    subst ev
    refine ⟨_, rfl, wpAny_letOwnedTupleGo_enum (s := { s with heap := h', toks := tk + 1 }) ho fun h'' he' sb => ?_⟩
    have hT2 : h''.get? s.heap.objs.size = some { cls := .type "tuple", data := .seq #[.int i tk, v] } := (sb.2 _ (Nat.ne_of_gt hel)).trans hT
    have new : ObjOk X.prog X.w (upd H s.heap.objs.size (.tup [.int (i : Nat), x])) h'' s.heap.objs.size (.tup [.int (i : Nat), x]) :=
      ⟨by show 2 ≤ sizeLine; decide, [.int i tk, v], .cons ⟨_, rfl⟩ (.cons ru .nil), ⟨_, hT2, rfl, _, rfl⟩⟩
    have I1 : Inv X pins σ (upd H s.heap.objs.size (.tup [.int (i : Nat), x])) { s with heap := h'', toks := tk + 1 } :=
      I.turnedNew (ch := [e, it]) (fun b ob hb q => (sb.2 b (fun z => hb (by simp [z]))).trans (hk b ob (fun z => hb (by simp [z])) (fun z => hb (by simp [z])) q)) hf (Nat.le_refl _) new
    refine ⟨.ref s.heap.objs.size, _, I1, rfl, ⟨_, x, rfl, I.hok.fresh (Nat.le_refl _), rfl, fun ys hy => by rw [I.tuple_inj hy hq]; exact hx⟩, ⟨⟨v, ?_⟩, st'.1.at fun o q => (sb.2 it (Ne.symm hne)).trans q, hne⟩, fun b hb => ?_⟩
    · have e1 : ((i + 1 : Nat) : Int) = (i : Int) + 1 := by omega
      rw [e1]
      exact he'
    · have hb' : b < s.heap.objs.size := by
        have e' : b = e ∨ b = it := by simpa using hb
        rcases e' with z | z
        · rw [z]; exact hel
        · rw [z]; exact hil
      rw [upd_ne (Nat.ne_of_lt hb')]
      exact (hf b hb).1
  done := by
    intro X hP hw hK hc i pins s σ H E I hf st hg
    subst hP hw hK
    obtain ⟨⟨old, he⟩, hit, hne⟩ := st
    obtain ⟨xs, hq, hx⟩ := hg
    obtain ⟨its, rv, p, hz⟩ := I.tuple hq
    obtain ⟨f0, f1, f2, f3, f4, f5⟩ := hf it (by simp)
    have hl := rv.length
    have ap := (apart_of he hit p).resolve_right hne
    have quiet : X.A.in1.handled = none := by
      have z := I.ok.hd hc
      simp [z]
    have ei : i = its.toArray.size := by
      rw [List.size_toArray, ← hl, hx]
    subst ei
    exact wpAny_pyNext_enum_endD (Draws.tuple quiet it a ap.1 its.toArray) he ⟨hit, p⟩ fun h' eb => ⟨rfl, I.turned (t' := s.toks) (fun b o hb q => eb b o hb q) f0 f1 f3 f4 f5⟩
  self := fun A i s Q E st h => let ⟨⟨_, he⟩, _⟩ := st; wpAny_pyIter_enum he h
def iEnT (K : PySem.W.Frag) (ta : TA) : TI := fun σ H R => ta σ H fun vs H1 => ∃ a xs, vs = [.ref a] ∧ SqT K H1 a xs ∧ R (IteT K a) H1
theorem pi_enT {X : Cx} {e : Expr} {ta : TA} {p pos tpos : Pos} {elts : List Expr} {kk : Nat} (hg : Gl X "enumerate") (hm : X.mg "enumerate" = none) (ha : PA X [e] ta) (hs : starEach [e] X.env = [(false, eval e X.env)] := by rfl) :
    PI X (.Tuple elts kk tpos) (.Call (.Name "enumerate" p) [e] [] pos) (iEnT X.K ta) := by
  refine ⟨fun pins s σ H R I h => ?_⟩
  refine Call_ (ld_blt I hg hm boot_enumerate (PyProof.Rows.callWith_type1 (thn (ha.run pos pins s σ H _ I h) fun us s1 ⟨vs, H1, I1, r1, q1⟩ => ?_) hs rfl))
  obtain ⟨a, xs, ex, hq, q⟩ := q1
  subst ex
  cases r1 with
  | cons r rr =>
    cases rr
    cases r
    obtain ⟨its, rv, p', hz⟩ := I1.tuple hq
    refine call_enum_tup p' fun h' he hit hsz hk => wpAny_pyIter_enum he ?_
    have I2 : Inv X pins σ H1 { s1 with heap := h' } := I1.kept (t' := s1.toks) hk
    refine ⟨s1.heap.objs.size + 1, [s1.heap.objs.size + 1, s1.heap.objs.size], _, _, H1, rfl, I2, turn_enT a (s1.heap.objs.size + 1) s1.heap.objs.size, ⟨⟨.none, he⟩, hit, Nat.succ_ne_self _⟩, fun b hb => ?_, q⟩
    have e' : b = s1.heap.objs.size + 1 ∨ b = s1.heap.objs.size := by simpa using hb
    have hle : s1.heap.objs.size ≤ b := by
      rcases e' with z | z
      · rw [z]; exact Nat.le_add_right _ _
      · rw [z]; exact Nat.le_refl _
    exact I1.fpOk hle (I1.hok.fresh hle)
theorem for_enT {K : PySem.W.Frag} {a : Addr} {xs : List V} {g : TG} {tb : TS} {D : Ends} {σ : L2.St} {H : Hp} (Pv : Nat → L2.St → Hp → Prop) (h0 : Pv 0 σ H) (hl : ∀ i σ H, Pv i σ H → SqT K H a xs)
    (hs : ∀ (i : Nat) (x : V) (σ : L2.St) (H : Hp) (T : Addr), xs[i]? = some x → H T = none → Pv i σ H → g (.ref T) σ (upd H T (.tup [.int (i : Int), x])) fun σ2 H2 => tb { D with nx := Pv (i + 1), ct := Pv (i + 1), bk := D.nx } σ2 H2)
    (hd : ∀ σ H, Pv xs.length σ H → D.nx σ H) :
    ∃ W : Nat → Nat → L2.St → Hp → Prop, (∃ m, W 0 m σ H) ∧ ∀ i m σ H, W i m σ H →
      ((IteT K a).stop i H ∧ D.nx σ H) ∨ ((IteT K a).go i H ∧ ∃ N : L2.St → Hp → Prop, (∀ σ' H', N σ' H' → ∃ m', m' < m ∧ W (i + 1) m' σ' H') ∧ ∀ x H', (IteT K a).yld i H x H' → g x σ H' fun σ2 H2 => tb { D with nx := N, ct := N, bk := D.nx } σ2 H2) := by
  refine ⟨fun i m σ H => i + m = xs.length ∧ Pv i σ H, ⟨xs.length, Nat.zero_add _, h0⟩, ?_⟩
  rintro i m σ H ⟨em, p⟩
  have q := hl i σ H p
  cases m with
  | zero =>
    have e : i = xs.length := em
    subst e
    exact .inl ⟨⟨xs, q, rfl⟩, hd σ H p⟩
  | succ m =>
    have lt : i < xs.length := by omega
    have hx := List.getElem?_eq_getElem lt
    refine .inr ⟨⟨xs, _, q, hx⟩, fun σ' H' => Pv (i + 1) σ' H', fun σ' H' p' => ⟨m, Nat.lt_succ_self m, by omega, p'⟩, ?_⟩
    rintro v H' ⟨T, x, rfl, nT, rfl, each⟩
    exact hs i x σ H T (each xs q) nT p
end Lk
/-! Pick0 -/
set_option Elab.async false
set_option maxRecDepth 100000
set_option linter.all false
set_option maxHeartbeats 4000000
namespace Lk
open PySem PySem.Spec PyProof.Rows L2
/-! ### one of a display (law04b.tpl has its own copies: do not build both together) -/
section
variable {K : PySem.W.Frag} {H H' : Hp} {p c : Addr} {σ : L2.St}
theorem th_of_mem : ∀ {xs : List V} {ds : List PyData} {x : V}, ThAll K H xs ds → x ∈ xs → ∃ d, d ∈ ds ∧ Th K H x d
  | _, _, _, .nil, h => by simp at h
  | _, _, x, .cons h t, m => by
    rcases List.mem_cons.mp m with rfl | m
    · exact ⟨_, List.mem_cons_self, h⟩
    · obtain ⟨d, hd, ht⟩ := th_of_mem t m
      exact ⟨d, List.mem_cons_of_mem _ hd, ht⟩
theorem noPot_of : ∀ {ds : List PyData} {d : PyData}, noPotAll ds = true → d ∈ ds → noPot d = true
  | e :: r, d, h, m => by
    have n2 : noPot e = true ∧ noPotAll r = true := by simpa only [noPotAll, Bool.and_eq_true] using h
    rcases List.mem_cons.mp m with rfl | m
    · exact n2.1
    · exact noPot_of n2.2 m
/-- one of a new display; the list may have any length -/
theorem pick_new {ta : TA} {ds : List PyData} {Q : VK} {i : Nat} (h : MkA K ta σ H ds) (hn : noPotAll ds = true) (l0 : 0 < ds.length) (l1 : ds.length ≤ 1000) (hP : PotAt p c H) (hi : σ[i]? = some (some (.ref p)))
    (k : ∀ v d H', d ∈ ds → Th K H' v d → Ext p c H H' → Q v H') : tCall (spPick K) [] E0 (tCons (tVar i) (tCons (tLst ta) tNil)) σ H Q :=
  ⟨_, hi, h H (Same.refl H) _ fun xs H1 s1 t1 => by
    have hl := thAll_len t1
    refine ⟨Nat.le_trans (Nat.le_of_eq hl) (Nat.le_trans l1 (by decide)), fun l nl => ?_⟩
    have P1 := hP.same s1
    have s2 : Same H1 (upd H1 l (.lst xs)) := same_upd nl
    refine ⟨p, c, l, xs, rfl, P1.same s2, SqL.of upd_same, P1.nep nl, by omega, by omega, fun v H2 hv e2 => ?_⟩
    obtain ⟨d, hd, ht⟩ := th_of_mem t1 hv
    exact k v d H2 hd (th_ext (P1.same s2) e2 (th_same s2 ht) (noPot_of hn hd)) (Ext.pre (s1.trans s2) e2)⟩
/-- data without lists stands when a list changes -/
theorem th_mutL {D : Addr} {ys : List V} {o : HO} (hD : H D = some (.lst ys)) {v : V} {d : PyData} (h : Th K H v d) : noLst d = true → Th K (upd H D o) v d := by
  refine Th.rec (motive_1 := fun v d _ => noLst d = true → Th K (upd H D o) v d) (motive_2 := fun vs ds _ => noLstAll ds = true → ThAll K (upd H D o) vs ds) ?_ ?_ ?_ ?_ ?_ ?_ ?_ ?_ ?_ h
  · exact fun _ => .non
  · exact fun b _ => .bl b
  · exact fun i _ => .int i
  · exact fun x _ => .str x
  · intro q xs ds _ _ _ n
    simp [noLst] at n
  · intro q xs ds hs ha ih n
    have n2 : noLstAll ds = true := by simpa only [noLst] using n
    rcases hs with (hs | ⟨u, hs⟩) | hs
    · have ne : q ≠ D := fun z => by
        rw [z, hD] at hs
        cases hs
      exact .tup (.inl (.inl (by rw [upd_ne ne]; exact hs))) (ih n2)
    · have ne : q ≠ D := fun z => by
        rw [z, hD] at hs
        cases hs
      exact .tup (.inl (.inr ⟨u, by rw [upd_ne ne]; exact hs⟩)) (ih n2)
    · exact .tup (.inr hs) (ih n2)
  · intro q kvs ds hs _ ek ih n
    have n2 : noLstAll (ds.map (·.2)) = true := by
      rw [noLstKv_map]
      simpa only [noLst] using n
    have ne : q ≠ D := fun z => by
      rw [z, hD] at hs
      cases hs
    exact .dct (by rw [upd_ne ne]; exact hs) (ih n2) ek
  · exact fun _ => .nil
  · intro v vs d ds _ _ i1 i2 n
    have n2 : noLst d = true ∧ noLstAll ds = true := by simpa only [noLstAll, Bool.and_eq_true] using n
    exact .cons (i1 n2.1) (i2 n2.2)
theorem thAll_mutL {D : Addr} {ys : List V} {o : HO} (hD : H D = some (.lst ys)) : ∀ {vs : List V} {ds : List PyData}, ThAll K H vs ds → noLstAll ds = true → ThAll K (upd H D o) vs ds
  | _, _, .nil, _ => .nil
  | _ :: _, d :: ds, .cons h t, n => by
    have n2 : noLst d = true ∧ noLstAll ds = true := by simpa only [noLstAll, Bool.and_eq_true] using n
    exact .cons (th_mutL hD h n2.1) (thAll_mutL hD t n2.2)
/-- what stands ready: a list that grows while the pot moves -/
theorem grow {H0 : Hp} {D : Addr} {n iv : Nat} {te : TE} {α : Type} {f : α → PyData} {Ok : α → Prop} {Qd : Hp → Prop} (flat : ∀ a, noLst (f a) = true ∧ noPot (f a) = true) (hP : PotAt p c H0) (hD0 : H0 D = none) (small : n ≤ 1000)
    (wp : ∀ (x : V), wipe ((wipe σ [iv]).set iv (some x)) [iv] = wipe σ [iv])
    (call : ∀ (x : V) (H' : Hp) (R : VK), PotAt p c H' → (∀ v a H2, Ok a → Ext p c H' H2 → Th K H2 v (f a) → R v H2) → te ((wipe σ [iv]).set iv (some x)) H' R)
    (k : ∀ (vs : List V) (as : List α) (H' : Hp), H' D = some (.lst vs) → ThAll K H' vs (as.map f) → (∀ a ∈ as, Ok a) → as.length = n → Ext p c H0 H' → Qd H') :
    ∃ W : Nat → Nat → Hp → Prop, (∃ m, W 0 m (upd H0 D (.lst []))) ∧ ∀ i m H, W i m H →
      ((Itr 0 n).stop i H ∧ Qd H) ∨ ((Itr 0 n).go i H ∧ ∃ Nx : Hp → Prop, (∀ H', Nx H' → ∃ m', m' < m ∧ W (i + 1) m' H') ∧ ∀ x H', (Itr 0 n).yld i H x H' → gName iv x (wipe σ [iv]) H' fun σ2 H2 => wipe σ2 [iv] = wipe σ [iv] ∧ tYes σ2 H2 fun b H3 =>
        if b = true then te σ2 H3 fun y H4 => ∃ acc, H4 D = some (.lst acc) ∧ acc.length < sizeLine ∧ Nx (upd H4 D (.lst (acc ++ [y]))) else Nx H3) := by
  have nd := hP.nep hD0
  have flatA : ∀ as : List α, noLstAll (as.map f) = true ∧ noPotAll (as.map f) = true := fun as => by
    induction as with
    | nil => exact ⟨rfl, rfl⟩
    | cons a r ih => exact ⟨by rw [List.map_cons, noLstAll, (flat a).1, ih.1]; rfl, by rw [List.map_cons, noPotAll, (flat a).2, ih.2]; rfl⟩
  refine lc_range (lo := 0) (n := n) (fun i H' => ∃ vs as, H' D = some (.lst vs) ∧ ThAll K H' vs (as.map f) ∧ (∀ a ∈ as, Ok a) ∧ as.length = i ∧ Ext p c H0 H') ⟨[], [], upd_same, .nil, (fun _ h => by simp at h), rfl, Ext.mut hP hP.ref hD0⟩ ?_ ?_
  · rintro i H' hi ⟨vs, as, hD, ta, ok, len, e⟩
    refine ⟨wp _, call _ H' _ e.pot fun v a H2 oka e2 th => ⟨vs, e2.get hD nd, ?_, vs ++ [v], as ++ [a], upd_same, ?_, ?_, ?_, Ext.mut hP (e.trans e2) hD0⟩⟩
    · have := thAll_len ta
      rw [List.length_map] at this
      exact small1000 (by omega)
    · rw [List.map_append]
      exact thAll_app (thAll_mutL (e2.get hD nd) (thAll_ext e.pot e2 ta (flatA as).2) (flatA as).1) (.cons (th_mutL (e2.get hD nd) th (flat a).1) .nil)
    · intro y hy
      rcases List.mem_append.mp hy with hy | hy
      · exact ok y hy
      · rw [List.mem_singleton.mp hy]
        exact oka
    · rw [List.length_append, List.length_singleton, len]
  · rintro H' ⟨vs, as, hD, ta, ok, len, e⟩
    exact k vs as H' hD ta ok len e
end
end Lk
/-! DUpd0 -/
set_option Elab.async false
set_option maxRecDepth 100000
set_option linter.all false
set_option maxHeartbeats 4000000
/-! TabB0 -/
set_option Elab.async false
set_option maxRecDepth 100000
set_option linter.all false
set_option maxHeartbeats 4000000
namespace Lk
open PySem PySem.Spec PyProof.Rows L2
/-! ### tables of up to 2048 slots -/
def MaskB (m : Nat) : Prop := m = 7 ∨ m = 31 ∨ m = 127 ∨ m = 511 ∨ m = 2047 ∨ m = 8191
theorem wayB (m : Nat) (h : Int) (k : Nat) : way m h k ≤ m := by
  have lt : SetTable.bits h % (m + 1) ≤ m := Nat.le_of_lt_succ (Nat.mod_lt _ (Nat.succ_pos _))
  have r := runEnd_bd lt
  exact Nat.le_trans (Nat.le_add_right _ _) (nth_in k (runAt m (SetTable.bits h % (m + 1)) (SetTable.bits h)) (show SetTable.bits h % (m + 1) + (SetTable.runEnd m (SetTable.bits h % (m + 1)) - SetTable.bits h % (m + 1)) ≤ m by omega))
/-- a table whose members all are found again by their hashes -/
structure TabB (t : SetTable) (hs : List Int) : Prop where
  ris : Ris t.place.toList
  dm : t.dummies = #[]
  sz : t.place.size = hs.length
  mok : MaskB t.mask
  bd : ∀ x ∈ t.place.toList, x ≤ t.mask
  reach : ∀ (i : Nat) (h : Int) (j : Nat), hs[i]? = some h → t.place.toList[i]? = some j → ∃ k, way t.mask h k = j ∧ ∀ k', k' < k → way t.mask h k' ∈ t.place.toList
section
variable {t : SetTable} {hs : List Int}
theorem TabB.put (T : TabB t hs) {h : Int} {K : Nat} (hK : way t.mask h K ∉ t.place.toList) (hb : ∀ k, k < K → way t.mask h k ∈ t.place.toList) {p : Nat} (ep : p = SetTable.below t.place (way t.mask h K)) :
    (t.put (way t.mask h K)).2 = p ∧ p ≤ hs.length ∧ TabB (t.put (way t.mask h K)).1 (hs.take p ++ h :: hs.drop p) ∧ (t.put (way t.mask h K)).1.mask = t.mask ∧ (t.put (way t.mask h K)).1.led = t.led ∧ (t.put (way t.mask h K)).1.fill = hs.length + 1 := by
  have top := wayB t.mask h K
  have pp := put_place t (way t.mask h K)
  have pd := put_dm T.dm (way t.mask h K)
  obtain ⟨c1, _, _⟩ := below_cut T.ris (way t.mask h K)
  rw [← ep] at pp c1
  have long : t.place.toList.length = hs.length := by
    rw [Array.length_toList]
    exact T.sz
  have hp1 : p ≤ t.place.toList.length := by
    rw [Array.length_toList]
    exact c1
  have hp2 : p ≤ hs.length := by rw [← long]; exact hp1
  have n1 : (t.put (way t.mask h K)).1.place.size = hs.length + 1 := by rw [← Array.length_toList, pp, len_ins _ hp1, long]
  have up : ∀ x ∈ t.place.toList, x ∈ (t.put (way t.mask h K)).1.place.toList := fun x m => by
    rw [pp]
    exact mem_ins.2 (.inr m)
  refine ⟨ep.symm, hp2, ⟨ris_insert T.ris fun e => hK (List.mem_of_getElem? (by rw [Array.getElem?_toList]; exact e)), pd, by rw [len_ins _ hp2]; exact n1, T.mok, fun x m => ?_, fun i h' j h1 h2 => ?_⟩, rfl, rfl, ?_⟩
  · rw [pp] at m
    rcases mem_ins.1 m with e | m
    · rw [e]
      exact top
    · exact T.bd x m
  · rw [tins_get hs hp2] at h1
    rw [pp, tins_get _ hp1] at h2
    have old : ∀ i', hs[i']? = some h' → t.place.toList[i']? = some j → ∃ k, way t.mask h' k = j ∧ ∀ k', k' < k → way t.mask h' k' ∈ (t.put (way t.mask h K)).1.place.toList := fun i' g1 g2 => by
      obtain ⟨k, e, z⟩ := T.reach i' h' j g1 g2
      exact ⟨k, e, fun k' lt => up _ (z k' lt)⟩
    by_cases c : i < p
    · rw [if_pos c] at h1 h2
      exact old i h1 h2
    · rw [if_neg c] at h1 h2
      by_cases d : i = p
      · rw [if_pos d] at h1 h2
        cases h1
        cases h2
        exact ⟨K, rfl, fun k' lt => up _ (hb k' lt)⟩
      · rw [if_neg d] at h1 h2
        exact old (i - 1) h1 h2
  · show (t.put (way t.mask h K)).1.place.size + (t.put (way t.mask h K)).1.dummies.size = hs.length + 1
    rw [n1, pd]
    rfl
end
/-! laid out anew -/
end Lk
/-! TupG0 -/
set_option Elab.async false
set_option maxRecDepth 100000
set_option linter.all false
set_option maxHeartbeats 4000000
namespace Lk
open PySem PySem.Spec PyProof.Rows L2
/-! ### a set whose members are told by what stands at their addresses: tuples of whatever kind, found by the table -/
section
variable {α β : Type} {R : α → β → Prop}
theorem each_at : ∀ {as : List α} {bs : List β}, PySem.W.EachIs R as bs → ∀ {i : Nat} {b : β}, bs[i]? = some b → ∃ a, as[i]? = some a ∧ R a b
  | _, _, .nil, i, b, h => by cases h
  | _, _, .cons r t, 0, b, h => by
    cases h
    exact ⟨_, rfl, r⟩
  | _, _, .cons r t, i + 1, b, h => each_at t (i := i) h
end
/-! the steps of a search -/
section
variable {P : Program} {w : World} {κ : Type} [DecidableEq κ]
/-- what a set asks of such members, besides hash and equality -/
structure Mem (knd : HeapKind P w κ) : Prop where
  st : knd.Stays
  cls : ∀ {A : Around} {E : Value → Shared → Prop} {s : Shared} {k : κ} {b : Addr} {Q : Bool → Shared → Prop}, knd.is s.heap k b → Q false s → wpAny (model P w) A (ofAClassStatement 8 (.ref b)) Q E s
  byV : ∀ {A : Around} {E : Value → Shared → Prop} {s : Shared} {k : κ} {b : Addr} {Q : Bool → Shared → Prop}, knd.is s.heap k b → (∀ v, Q v s) → wpAny (model P w) A (hashByValue 8 (.ref b)) Q E s
variable {knd : HeapKind P w κ}
theorem Mem.keep (M : Mem knd) {h h' : Heap} {k : κ} {b : Addr} (x : knd.is h k b) (kp : ∀ c u, h.get? c = some u → h'.get? c = some u) : knd.is h' k b := M.st.stays (fun c u _ _ hc _ => kp c u hc) x
/-- an entry of the table, and the key that it bears; B tells which key stands at which address -/
def Row (knd : HeapKind P w κ) (B : κ → Addr → Prop) (e : Int × Value) (k : κ) : Prop := ∃ b, e = (knd.hash k, Value.ref b) ∧ B k b
structure TRow (knd : HeapKind P w κ) (B : κ → Addr → Prop) (h : Heap) (a : Addr) (ks : List κ) (es : Array (Int × Value)) (ep : Nat) (t : SetTable) : Prop where
  here : ∃ o, h.get? a = some o ∧ o.ExactSet ∧ o.data = .set es ep t
  each : PySem.W.EachIs (Row knd B) es.toList ks
  tab : TabB t (ks.map knd.hash)
  diff : ks.Nodup
  led : w.params.followText "set-order" = true ∨ t.led = true
  loose : ks.length * 5 < t.mask * 3
  few : ks.length ≤ 4000
variable {B : κ → Addr → Prop} {A : Around} {E : Value → Shared → Prop} {s : Shared} {a : Addr} {ks : List κ} {es : Array (Int × Value)} {ep : Nat} {t : SetTable}
theorem TRow.at (R : TRow knd B s.heap a ks es ep t) {i : Nat} {k : κ} (h : ks[i]? = some k) : ∃ b, es[i]? = some (knd.hash k, Value.ref b) ∧ B k b := by
  obtain ⟨e, he, b, eb, z⟩ := each_at R.each h
  refine ⟨b, ?_, z⟩
  rw [← Array.getElem?_toList, he, eb]
end
end Lk
/-! TupG1 -/
set_option Elab.async false
set_option maxRecDepth 100000
set_option linter.all false
set_option maxHeartbeats 4000000
namespace Lk
open PySem PySem.Spec PyProof.Rows L2
section
variable {P : Program} {w : World} {κ : Type} [DecidableEq κ] {knd : HeapKind P w κ} {A : Around} {E : Value → Shared → Prop} {s : Shared} {a : Addr} {B : κ → Addr → Prop}
/-- a set with these keys, in whatever order -/
def TSet (knd : HeapKind P w κ) (B : κ → Addr → Prop) (h : Heap) (a : Addr) (ks : List κ) : Prop := ∃ ls es ep t, TRow knd B h a ls es ep t ∧ ls.Perm ks
end
end Lk
/-! TupG2 -/
set_option Elab.async false
set_option maxRecDepth 100000
set_option linter.all false
set_option maxHeartbeats 4000000
namespace Lk
open PySem PySem.Spec PyProof.Rows L2
section
variable {P : Program} {w : World} {κ : Type} [DecidableEq κ] {knd : HeapKind P w κ} {B : κ → Addr → Prop} {A : Around} {E : Value → Shared → Prop} {s : Shared}
theorem TSet.at {h h' : Heap} {a : Addr} {ks : List κ} (R : TSet knd B h a ks) (ha : ∀ o, h.get? a = some o → h'.get? a = some o) : TSet knd B h' a ks := by
  obtain ⟨ls, es, ep, t, r, pm⟩ := R
  obtain ⟨o, ho, hx⟩ := r.here
  exact ⟨ls, es, ep, t, ⟨⟨o, ha o ho, hx⟩, r.each, r.tab, r.diff, r.led, r.loose, r.few⟩, pm⟩
end
end Lk
/-! TupS0 -/
set_option Elab.async false
set_option maxRecDepth 100000
set_option linter.all false
set_option maxHeartbeats 4000000
/-! SrtT0 -/
set_option Elab.async false
set_option maxRecDepth 100000
set_option linter.all false
set_option maxHeartbeats 4000000
namespace Lk
open PySem PySem.Spec PyProof.Rows L2
/-! ### sorted(t), t a tuple of ints -/
section
variable {prog : Program} {w : World} {A : Around} {E : Value → Shared → Prop} {s : Shared}
theorem collect_tup {l : Addr} {vs : List Value} {Q : List Value → Shared → Prop} (hl : s.heap.IsTuple l vs.toArray)
    (h : Q vs { s with heap := (s.heap.push (seqObj "list" #[] 0)).update s.heap.objs.size (Obj.mapSeq (· ++ vs.toArray)) }) (hsz : vs.length ≤ sizeLine) :
    wpAny (model prog w) A (collect (.ref l)) Q E s := by
  obtain ⟨o, ho, hc, n, hd⟩ := id hl
  have old : (s.heap.push (seqObj "list" #[] 0)).get? l = some o := Heap.get?_push_of_some _ ho
  have new : (s.heap.push (seqObj "list" #[] 0)).get? s.heap.objs.size = some (seqObj "list" #[] 0) := Heap.get?_push_size _ rfl
  unfold collect
  refine wpAny_bind (wpAny_runValue (codeAny_builtin entry_proto_collect' ?_))
  show wpAny _ _ (do again (.builtin "list.__iadd__" ⟨[← newList [], .ref l], []⟩)) _ _ s
  refine wpAny_bind (wpAny_newList (wpAny_pure ⟨Code.quiet_builtin _ (by decide +kernel), codeAny_builtin entry_list_iadd' ?_⟩))
  show wpAny _ _ (Builtin.List.listExtendWith (.ref s.heap.objs.size) (.ref l) (.ref s.heap.objs.size)) _ _ { s with heap := s.heap.push (seqObj "list" #[] 0) }
  unfold Builtin.List.listExtendWith
  refine wpAny_bind (wpAny_typeOf (T := "tuple") ⟨o, old, hc⟩ ?_)
  have ht : (Value.type "tuple" == Value.type "tuple") = true := by rfl
  rw [if_pos (by rw [ht]; simp)]
  refine wpAny_bind (listItems_at old hd ?_)
  refine wpAny_bind (listItems_at (xs := #[]) (n := 0) new rfl ?_)
  rw [if_neg (by simp)]
  refine wpAny_bind (listUpdate_at (xs := #[]) (n := 0) new rfl ?_ (Nat.zero_le _) (by show (#[] ++ vs.toArray).size ≤ sizeLine + 1; simp only [Array.size_append, List.size_toArray, List.length_nil]; omega))
  refine wpAny_pure ?_
  show wpAny (model prog w) A (do
      let o ← load s.heap.objs.size
      match o.data with
      | .seq xs _ => pure xs.toList
      | _ => unsupported "internal:collect") Q E { s with heap := (s.heap.push (seqObj "list" #[] 0)).update s.heap.objs.size (Obj.mapSeq (· ++ vs.toArray)) }
  refine wpAny_bind (wpAny_load (get?_update_seq new _) ?_)
  show wpAny _ _ (pure ((#[] : Array Value) ++ vs.toArray).toList) Q E _
  rw [show ((#[] : Array Value) ++ vs.toArray).toList = vs by simp]
  exact wpAny_pure h
def AsInt (v : Value) (n : Int) : Prop := ∃ t, v = .int n t
theorem sorted_tup {l : Addr} {vs : List Value} {ns : List Int} {Q : Value → Shared → Prop} (hl : s.heap.IsTuple l vs.toArray) (each : PySem.W.EachIs AsInt vs ns) (hsz : ns.length ≤ sizeLine) (hu : A.units + 2 < cLine)
    (h : ∀ (h' : Heap) (p : Addr) (out : List Value) (c : Nat) (ns' : List Int), (∀ b o, s.heap.get? b = some o → h'.get? b = some o) → s.heap.objs.size ≤ p → h'.get? p = some (seqObj "list" out.toArray c) → PySem.W.EachIs AsInt out ns' → ns'.Perm ns → ns'.Pairwise (· ≤ ·) → Q (.ref p) { s with heap := h' }) :
    wpAny (model prog w) A (call (.builtin "sorted") [.ref l]) Q E s := by
  have n1 : vs.length = ns.length := each.length
  refine Calls.call_function_entry kind_sorted plain_sorted entry_sorted (args_sorted1 _) ?_
  unfold Builtin.«sorted»
  refine wpAny_bind (m := checkCount "sorted" 1 1 _) (wpAny_pure ?_)
  refine wpAny_bind (collect_tup (A := A.in1) hl ?_ (by omega))
  generalize hm : (s.heap.push (seqObj "list" #[] 0)).update s.heap.objs.size (Obj.mapSeq (· ++ vs.toArray)) = h1
  have kp1 : ∀ b o, s.heap.get? b = some o → h1.get? b = some o := fun b o e => by
    have lt := Heap.lt_size e
    rw [← hm, Heap.get?_update_ne _ _ _ _ (Nat.ne_of_lt lt)]
    exact Heap.get?_push_of_some _ e
  have z1 : h1.objs.size = s.heap.objs.size + 1 := by rw [← hm, Heap.size_update, size_push']
  refine wpAny_bind (wpAny_newList ?_ (by omega))
  have hoL : (h1.push (seqObj "list" vs.toArray 0)).get? h1.objs.size = some (seqObj "list" vs.toArray 0) := Heap.get?_push_size _ rfl
  have er : PySem.W.EachIs (fun v (k : Int) => ∃ as, Reads (h1.push (seqObj "list" vs.toArray 0)) v (PyData.int k) as ∧ h1.objs.size ∉ as) vs ns := each.mono fun v k ⟨t, e⟩ => ⟨[], by rw [e]; exact .int _ _, fun z => nomatch z⟩
  have shape : ∀ d ∈ ns.map PyData.int, ∃ k, d = .int k := fun d m => by
    obtain ⟨k, _, e⟩ := List.mem_map.mp m
    exact ⟨k, e.symm⟩
  have al : PySem.W.AllAlike (ns.map PyData.int) := fun d m d' m' => by
    obtain ⟨x, rfl⟩ := shape d m
    obtain ⟨y, rfl⟩ := shape d' m'
    rfl
  refine wpAny_bind (wpAny_holding (PySem.W.list_sort_data (enc := PyData.int) (s := { s with heap := h1.push (seqObj "list" vs.toArray 0) }) hoL each er al (PySem.W.Sortable.others fun b => ⟨(fun z => by cases z), (fun xs z => by cases z)⟩) (by omega) (fun k m => ?_) fun out len eo => ?_))
  · show A.in1.units + 1 + 0 < cLine
    simp
    omega
  · obtain ⟨c, hc⟩ := sortedHeap_at (vs := vs) (out := out.toArray) hoL
    refine wpAny_pure ⟨_, rfl, h _ h1.objs.size out c _ (fun b u e => ?_) (by omega) hc eo (List.mergeSort_perm _ _) ?_⟩
    · have q := kp1 b u e
      have lt := Heap.lt_size q
      show (sortedHeap (h1.push (seqObj "list" vs.toArray 0)) h1.objs.size vs out.toArray).get? b = some u
      rw [sortedHeap_old (Nat.ne_of_lt lt) (by rw [size_push']; exact Nat.lt_succ_of_lt lt)]
      exact Heap.get?_push_of_some _ q
    · have pw : (ns.mergeSort (PySem.W.dataLe false PyData.int)).Pairwise (fun x y => PySem.W.dataLe false PyData.int x y = true) := PySem.W.sort_pairwise (PySem.W.sortLe_total _ _ _) _
      refine pw.imp fun {x y} z => ?_
      rw [PySem.W.dataLe_eq] at z
      have z2 : (!PySem.W.dataLt (.int y) (.int x)) = true := z
      rw [PySem.W.dataLt_int] at z2
      simp at z2
      exact z2
end
section
variable {X : Cx}
def rSortT (K : PySem.W.Frag) : List V → Hp → VK → Prop := fun xs H Q => ∃ (a : Addr) (ns : List Int), xs = [.ref a] ∧ SqT K H a (ns.map V.int) ∧
  ∀ (ns' : List Int) (p : Addr), ns'.Perm ns → ns'.Pairwise (· ≤ ·) → H p = none → Q (.ref p) (upd H p (.lst (ns'.map V.int)))
theorem each_ints : ∀ {ns : List Int} {us : List Value}, Vals (ns.map V.int) us → PySem.W.EachIs AsInt us ns
  | [], _, h => by cases h; exact .nil
  | n :: ns, _, h => by
    cases h with
    | cons r t => exact .cons r (each_ints t)
theorem vals_ints : ∀ {us : List Value} {ns : List Int}, PySem.W.EachIs AsInt us ns → Vals (ns.map V.int) us
  | _, _, .nil => .nil
  | _, _, .cons r t => .cons r (vals_ints t)
theorem call_sortT (hu : X.A.units + 64 < cLine) : CallR X (.builtin "sorted") (rSortT X.K) := by
  intro pins s σ H xs us Q I r h
  obtain ⟨a, ns, rfl, ha, q⟩ := h
  rw [Vals.ref1 r]
  obtain ⟨its, rv, pl, hz⟩ := I.tuple ha
  have n1 : ns.length ≤ sizeLine := by
    have z := hz
    rw [List.length_map] at z
    exact z
  refine sorted_tup pl (each_ints rv) n1 (by omega) fun h' p out c ns' kp hp hg ev pm pw => ?_
  have hn : H p = none := I.hok.fresh hp
  exact ⟨.ref p, upd H p (.lst (ns'.map V.int)), I.laid (t' := s.toks) kp hp ⟨by rw [List.length_map, pm.length_eq]; exact n1, out, c, vals_ints ev, hg⟩, rfl, q ns' p pm pw hn⟩
end
end Lk
/-! Rev0 -/
set_option Elab.async false
set_option maxRecDepth 100000
set_option linter.all false
set_option maxHeartbeats 4000000
namespace Lk
open PySem PySem.Spec PyProof.Rows L2
/-! ### t[::-1], t a tuple -/
/-! ### text * int, from 1 on -/
def rStrRep1 : R2 := fun x y H Q => ∃ (a : Str) (k : Nat), x = .str a ∧ y = .int (k : Int) ∧ 1 ≤ k ∧ k ≤ 5000 ∧ a.length ≤ 1000 ∧ ∀ z : Str, TL.tl z = (List.replicate k (TL.tl a)).flatten → Q (.str z) H
theorem op_strRep1 {X : Cx} : OpR X (binaryOp .Mult) rStrRep1 := by
  intro pins s σ H x y v u Q I rx ry h
  obtain ⟨a, k, rfl, rfl, k1, k2, ha, q⟩ := h
  obtain ⟨t, rfl⟩ := rx
  obtain ⟨t', rfl⟩ := ry
  have hm : a.length * k ≤ 5000000 := by
    have := Nat.mul_le_mul ha k2
    omega
  have hl := TL.len_tl a
  have long : Builtin.Str.tooLong (a.length * k) = false := by
    unfold Builtin.Str.tooLong
    refine decide_eq_false (Nat.not_lt.mpr (Nat.le_trans hm ?_))
    decide
  refine PySem.P.mul_str (by rw [decide_eq_false (by omega), decide_eq_false (by omega)]; rfl) (fun _ _ => ?_) (fun _ _ => by rw [Int.toNat_natCast]; exact long) ?_
  · refine Int.not_lt.mpr (Int.le_ediv_of_mul_le (by omega) ?_)
    have : ((a.length * k : Nat) : Int) = (a.length : Int) * (k : Int) := Int.natCast_mul _ _
    omega
  · rw [if_neg (by omega), Int.toNat_natCast]
    by_cases one : k = 1
    · rw [if_pos (by rw [one]; rfl)]
      exact ⟨.str a, H, I, ⟨_, rfl⟩, q a (by rw [one]; simp)⟩
    have big : ((k : Int) == 1) = false := beq_eq_false_iff_ne.mpr (by omega)
    rw [big, Bool.false_or]
    by_cases h0 : a.length = 0
    · rw [if_pos (beq_iff_eq.mpr h0)]
      have e0 : TL.tl a = [] := List.length_eq_zero_iff.mp (by omega)
      exact ⟨.str a, H, I, ⟨_, rfl⟩, q a (by rw [e0]; simp)⟩
    · rw [if_neg (by rw [beq_iff_eq]; exact h0)]
      have e : TL.tl ⟨(List.replicate k a.cps).foldl (· ++ ·) #[]⟩ = (List.replicate k (TL.tl a)).flatten := by
        show ((List.replicate k a.cps).foldl (· ++ ·) #[]).toList = _
        rw [rep_fold, List.nil_append]
      refine ⟨?_, .str _, H, I.tok _, ⟨_, rfl⟩, q _ e⟩
      rw [TL.len_tl, e, List.length_flatten, List.map_replicate, List.sum_replicate_nat, ← hl, Nat.mul_comm]
      exact Nat.le_trans hm (by decide)
end Lk
/-! Mak1 -/
set_option Elab.async false
set_option maxRecDepth 100000
set_option linter.all false
set_option maxHeartbeats 4000000
namespace Lk
open PySem PySem.Spec PyProof.Rows L2
/-! ### made data: tuples put together, cut, told again and again -/
def cutL {α : Type} (l : List α) (lo hi : Option Int) : List α := (l.drop (HT.sIx l.length 0 lo)).take (HT.sIx l.length l.length hi - HT.sIx l.length 0 lo)
section
variable {K : PySem.W.Frag} {σ : L2.St} {H0 : Hp} {te tf : TE} {ds es : List PyData}
theorem thAll_drop {H : Hp} : ∀ (n : Nat) {vs : List V} {ds : List PyData}, ThAll K H vs ds → ThAll K H (vs.drop n) (ds.drop n)
  | 0, _, _, h => h
  | n + 1, _, _, .nil => .nil
  | n + 1, _, _, .cons _ t => thAll_drop n t
theorem thAll_take {H : Hp} : ∀ (n : Nat) {vs : List V} {ds : List PyData}, ThAll K H vs ds → ThAll K H (vs.take n) (ds.take n)
  | 0, _, _, _ => .nil
  | n + 1, _, _, .nil => .nil
  | n + 1, _, _, .cons h t => .cons h (thAll_take n t)
theorem thAll_cut {H : Hp} {vs : List V} {ds : List PyData} (lo hi : Option Int) (h : ThAll K H vs ds) : ThAll K H (cutV vs lo hi) (cutL ds lo hi) := by
  unfold cutV cutL
  rw [thAll_len h]
  exact thAll_take _ (thAll_drop _ h)
theorem thAll_reps {H : Hp} {vs : List V} {ds : List PyData} (h : ThAll K H vs ds) : ∀ k, ThAll K H (List.replicate k vs).flatten (List.replicate k ds).flatten
  | 0 => .nil
  | k + 1 => by
    rw [List.replicate_succ, List.replicate_succ, List.flatten_cons, List.flatten_cons]
    exact thAll_app h (thAll_reps h k)
theorem th_of_tup {H : Hp} {v : V} {ds : List PyData} (h : Th K H v (.tuple ds)) : ∃ a xs, v = .ref a ∧ SqT K H a xs ∧ ThAll K H xs ds := by
  cases h with
  | tup hs ha => exact ⟨_, _, rfl, hs, ha⟩
theorem mk_catT (h : Mk1 K te σ H0 (.tuple ds)) (g : Mk1 K tf σ H0 (.tuple es)) (hl : ds.length + es.length ≤ 1000) : Mk1 K (tOp (rCatA K) te tf) σ H0 (.tuple (ds ++ es)) := fun H s Q q =>
  h H s _ fun v H1 s1 h1 => g H1 (s.trans s1) _ fun u H2 s2 h2 => by
    obtain ⟨a, xs, rfl, ha, ta⟩ := th_of_tup (th_same s2 h1)
    obtain ⟨b, ys, rfl, hb, tb⟩ := th_of_tup h2
    have l1 := thAll_len ta
    have l2 := thAll_len tb
    refine ⟨a, b, xs, ys, rfl, rfl, ha, hb, Nat.le_of_lt (small1000 (by omega)), fun e => ?_, fun _ e => ?_, fun _ _ p np => ?_⟩
    · have ed : ds = [] := List.length_eq_zero_iff.mp (by rw [← l1, e]; rfl)
      rw [ed] at q
      exact q _ H2 (s1.trans s2) h2
    · have ed : es = [] := List.length_eq_zero_iff.mp (by rw [← l2, e]; rfl)
      rw [ed, List.append_nil] at q
      exact q _ H2 (s1.trans s2) (th_same s2 h1)
    · exact q _ _ ((s1.trans s2).trans (same_upd np)) (.tup (.inl (.inl upd_same)) (thAll_same (same_upd np) (thAll_app ta tb)))
/-- a part of a slice -/
def MkP (t : TO) (σ : L2.St) (H0 : Hp) (o : Option Int) : Prop := ∀ H, Same H0 H → ∀ Q : Option Int → Hp → Prop, (∀ H', Same H H' → Q o H') → t σ H Q
theorem mkp_none : MkP tNoPart σ H0 none := fun H _ Q q => q H (Same.refl H)
theorem mkp_var {i : Int} {j : Nat} (h : σ[j]? = some (some (.int i))) : MkP (tPart (tVar j)) σ H0 (some i) := fun H _ Q q => ⟨_, h, i, rfl, q H (Same.refl H)⟩
theorem mk_slT {tl th : TO} {lo hi : Option Int} (h : Mk1 K te σ H0 (.tuple ds)) (hl : MkP tl σ H0 lo) (hh : MkP th σ H0 hi) : Mk1 K (tSl (rSlA K) te tl th) σ H0 (.tuple (cutL ds lo hi)) := fun H s Q q =>
  h H s _ fun v H1 s1 h1 => hl H1 (s.trans s1) _ fun H2 s2 => hh H2 ((s.trans s1).trans s2) _ fun H3 s3 => by
    obtain ⟨a, xs, rfl, ha, ta⟩ := th_of_tup (th_same (s2.trans s3) h1)
    have l1 := thAll_len ta
    have x3 := (s1.trans s2).trans s3
    refine ⟨a, xs, rfl, ha, fun e => ?_, fun _ p np => ?_⟩
    · have ec : cutL ds lo hi = ds := by
        unfold cutL
        rw [← l1, e.1, e.2, List.drop_zero, Nat.sub_zero, List.take_of_length_le (Nat.le_of_eq l1.symm)]
      rw [ec] at q
      exact q _ H3 x3 (.tup ha ta)
    · exact q _ _ (x3.trans (same_upd np)) (.tup (.inl (.inl upd_same)) (thAll_same (same_upd np) (thAll_cut lo hi ta)))
/-- list(t) -/
theorem mk_listT (h : Mk1 K te σ H0 (.tuple ds)) : MkL K (tCB (fun xs H Q => ∃ p ys, xs = [.ref p] ∧ (SqL K H p ys ∨ SqT K H p ys) ∧ ∀ l, H l = none → Q (.ref l) (upd H l (.lst ys))) (tCons te tNil)) σ H0 ds := fun H s Q q =>
  h H s _ fun v H1 s1 h1 => by
    obtain ⟨a, xs, rfl, ha, ta⟩ := th_of_tup h1
    exact ⟨a, xs, rfl, .inr ha, fun l nl => q l xs _ (s1.trans (same_upd nl)) upd_same (thAll_same (same_upd nl) ta)⟩
/-- tuple(l) -/
theorem mk_tupL (h : MkL K te σ H0 ds) : Mk1 K (tCB (fun xs H Q => ∃ p ys, xs = [.ref p] ∧ ((SqL K H p ys ∧ ∀ l, H l = none → Q (.ref l) (upd H l (.tup ys))) ∨ (SqT K H p ys ∧ Q (.ref p) H))) (tCons te tNil)) σ H0 (.tuple ds) := fun H s Q q =>
  h H s _ fun p xs H1 s1 e1 t1 => ⟨p, xs, rfl, .inl ⟨SqL.of e1, fun l nl => q _ _ (s1.trans (same_upd nl)) (.tup (.inl (.inl upd_same)) (thAll_same (same_upd nl) t1))⟩⟩
/-- t * k -/
theorem mk_repT {k : Nat} (h : Mk1 K te σ H0 (.tuple ds)) (ne : ds ≠ []) (k1 : 2 ≤ k) (k2 : k ≤ 1000) (hl : ds.length ≤ 1000) : Mk1 K (tOp (rRepT K) te (tC (.int (k : Int)))) σ H0 (.tuple (List.replicate k ds).flatten) := fun H s Q q =>
  h H s _ fun v H1 s1 h1 => by
    obtain ⟨a, xs, rfl, ha, ta⟩ := th_of_tup h1
    have l1 := thAll_len ta
    refine ⟨a, k, xs, rfl, rfl, ha, fun e => ne (List.length_eq_zero_iff.mp (by rw [← l1, e]; rfl)), by omega, by omega, by omega, fun p np => q _ _ (s1.trans (same_upd np)) (.tup (.inl (.inl upd_same)) ?_)⟩
    rw [Int.toNat_natCast]
    exact thAll_same (same_upd np) (thAll_reps ta k)
end
end Lk
/-! Nil0 -/
set_option Elab.async false
set_option maxRecDepth 100000
set_option linter.all false
set_option maxHeartbeats 4000000
/-! TupG3 -/
set_option Elab.async false
set_option maxRecDepth 100000
set_option linter.all false
set_option maxHeartbeats 4000000
/-! TupS1 -/
set_option Elab.async false
set_option maxRecDepth 100000
set_option linter.all false
set_option maxHeartbeats 4000000
/-! DctN0 -/
set_option Elab.async false
set_option maxRecDepth 100000
set_option linter.all false
set_option maxHeartbeats 4000000
namespace Lk
open PySem PySem.Spec PyProof.Rows L2
/-! ### dicts whose keys are pairs of a text and a tuple of numbers -/
abbrev NK := Str × List Nat
def nk (p : NK) : NestedKey := .tup [.text p.1, .tup (p.2.map fun n : Nat => .num (n : Int))]
theorem nums_inj : ∀ {a b : List Nat}, (a.map fun n : Nat => NestedKey.num (n : Int)) = b.map (fun n : Nat => NestedKey.num (n : Int)) → a = b
  | [], [], _ => rfl
  | [], _ :: _, e => nomatch e
  | _ :: _, [], e => nomatch e
  | x :: xs, y :: ys, e => by
    rw [List.map_cons, List.map_cons] at e
    injection e with e1 e2
    injection e1 with e1
    rw [nums_inj e2]
    congr 1
    exact Int.ofNat.inj e1
theorem nk_inj {p q : NK} (h : nk p = nk q) : p = q := by
  obtain ⟨a, b⟩ := p
  obtain ⟨c, d⟩ := q
  unfold nk at h
  injection h with h
  injection h with h1 h2
  injection h1 with h1
  injection h2 with h2 _
  injection h2 with h2
  have e1 : a = c := h1
  have e2 : b = d := nums_inj h2
  rw [e1, e2]
theorem nums_depth : ∀ ns : List Nat, NestedKey.depthAll (ns.map fun n : Nat => NestedKey.num (n : Int)) = 0
  | [] => rfl
  | x :: xs => by
    rw [List.map_cons, NestedKey.depthAll, nums_depth xs]
    rfl
theorem nk_depth (p : NK) : (nk p).depth ≤ 8 := by
  unfold nk
  simp [NestedKey.depth, NestedKey.depthAll, nums_depth]
def KeyAt (H : Hp) (b : Addr) (p : NK) : Prop := ∃ t, H b = some (.tup [.str p.1, .ref t]) ∧ H t = some (.tup (p.2.map fun n : Nat => V.int (n : Int)))
theorem KeyAt.keeps {H H' : Hp} {b : Addr} {p : NK} (h : KeyAt H b p) (k : ∀ c xs, H c = some (.tup xs) → H' c = some (.tup xs)) : KeyAt H' b p := by
  obtain ⟨t, h1, h2⟩ := h
  exact ⟨t, k _ _ h1, k _ _ h2⟩
theorem nested_nums {h : Heap} : ∀ {ns : List Nat} {us : List Value}, Vals (ns.map fun n : Nat => V.int (n : Int)) us → NestedAll h (ns.map fun n : Nat => NestedKey.num (n : Int)) us
  | [], _, r => by
    cases r
    exact .nil
  | n :: ns, _, r => by
    rw [List.map_cons] at r
    cases r with
    | cons h1 t =>
      obtain ⟨tk, rfl⟩ := (show ∃ t, _ = Value.int (n : Int) t from h1)
      rw [List.map_cons]
      exact .cons (.int _ tk) (nested_nums t)
section
variable {P : Program} {w : World} {H : Hp} {h : Heap} {a b d : Addr}
theorem keyN {p : NK} (ok : HOk P w H h) (e : KeyAt H b p) : (nestedKind P w).is h (nk p) b := by
  obtain ⟨t, e1, e2⟩ := e
  obtain ⟨_, its, r, o, h1, h2, n, h3⟩ := (show ObjOk P w H h b (.tup [.str p.1, .ref t]) from ok b _ e1)
  obtain ⟨_, its2, r2, o2, g1, g2, n2, g3⟩ := (show ObjOk P w H h t (.tup (p.2.map fun n : Nat => V.int (n : Int))) from ok t _ e2)
  refine ⟨?_, nk_depth p⟩
  cases r with
  | cons r1 r =>
    cases r with
    | cons r3 r =>
      cases r
      obtain ⟨tk, rfl⟩ := (show ∃ t, _ = Value.str p.1 t from r1)
      cases (show _ = Value.ref t from r3)
      exact .tup h1 h2 h3 (.cons (.text _ tk) (.cons (.tup g1 g2 g3 (by simpa using nested_nums r2)) .nil))
def DN (P : Program) (w : World) (d : Addr) (xs : List (NestedKey × Addr × Value)) : HO :=
  .ext fun h => (d == sysModules) = false ∧ ∃ o es ep, h.get? d = some o ∧ o.ExactDict ∧ o.data = .dict es ep ∧ es.toList = xs.map (entryOfKey (nestedKind P w)) ∧ (xs.map (·.1)).Nodup
abbrev KN (H : Hp) : List (NK × V) → List (NestedKey × Addr × Value) → Prop := Paired fun p q => q.1 = nk p.1 ∧ KeyAt H q.2.1 p.1 ∧ RelV p.2 q.2.2
def NAt (P : Program) (w : World) (H : Hp) (d : Addr) (kvs : List (NK × V)) : Prop := kvs.length ≤ sizeLine ∧ ((kvs = [] ∧ H d = some (.dK [])) ∨ ∃ xs, H d = some (DN P w d xs) ∧ KN H kvs xs)
theorem KN.val {H : Hp} {kvs : List (NK × V)} {xs : List (NestedKey × Addr × Value)} (r : KN H kvs xs) (k : NK) : RelO (valV kvs k) ((atKey xs (nk k)).map (·.2)) := by
  induction r with
  | nil => exact True.intro
  | @cons p q ps qs h t ih =>
    obtain ⟨h1, _, h2⟩ := h
    by_cases e : p.1 = k
    · have e' : q.1 = nk k := h1.trans (congrArg nk e)
      have b : atKey (q :: qs) (nk k) = some q.2 := by simp [atKey, List.find?_cons, e']
      rw [valV_pos e, b]; exact h2
    · have e' : ¬ q.1 = nk k := fun z => e (nk_inj (h1.symm.trans z))
      have b : atKey (q :: qs) (nk k) = atKey qs (nk k) := by simp [atKey, List.find?_cons, e']
      rw [valV_neg e, b]; exact ih
theorem KN.repl {H : Hp} {kvs : List (NK × V)} {xs : List (NestedKey × Addr × Value)} (r : KN H kvs xs) (k : NK) {y : V} {u : Value} (ry : RelV y u) :
    KN H (kvs.map fun kv => if kv.1 = k then (kv.1, y) else kv) (xs.map (putAt (nk k) u)) := by
  induction r with
  | nil => exact .nil
  | @cons p q ps qs h t ih =>
    rw [List.map_cons, List.map_cons]
    refine .cons ?_ ih
    obtain ⟨h1, h2, h3⟩ := h
    unfold putAt
    by_cases e : p.1 = k
    · rw [if_pos e, if_pos (h1.trans (congrArg nk e))]; exact ⟨h1, h2, ry⟩
    · rw [if_neg e, if_neg (fun z => e (nk_inj (h1.symm.trans z)))]; exact ⟨h1, h2, h3⟩
theorem KN.put {H : Hp} {kvs : List (NK × V)} {xs : List (NestedKey × Addr × Value)} (r : KN H kvs xs) (k : NK) {b : Addr} {y : V} {u : Value} (hb : KeyAt H b k) (ry : RelV y u) :
    KN H (putK kvs k y) (storedH xs (nk k) b u) := by
  have e : (kvs.any fun kv => decide (kv.1 = k)) = (atKey xs (nk k)).isSome := by
    rw [valV_any, (r.val k).isSome_eq, Option.isSome_map]
  unfold putK storedH
  rw [e]
  by_cases q : (atKey xs (nk k)).isSome = true
  · rw [if_pos q, if_pos q]; exact r.repl k ry
  · rw [if_neg q, if_neg q]; exact Paired.snoc r ⟨rfl, hb, ry⟩
theorem KN.keeps {H H' : Hp} {kvs : List (NK × V)} {xs : List (NestedKey × Addr × Value)} (r : KN H kvs xs) (ht : ∀ b ys, H b = some (.tup ys) → H' b = some (.tup ys)) : KN H' kvs xs :=
  Paired.mapP r fun _ _ z => ⟨z.1, z.2.1.keeps ht, z.2.2⟩
theorem n_of {kvs : List (NK × V)} (ok : HOk P w H h) (g : NAt P w H d kvs) : (d == sysModules) = false ∧ ∃ xs, KN H kvs xs ∧ h.DictOfH (nestedKind P w) d xs := by
  obtain ⟨_, ⟨rfl, e⟩ | ⟨xs, e, r⟩⟩ := g
  · obtain ⟨_, hd, vs, rel, o, es, ep, h1, h2, h3, _, h5, _⟩ := dk_of ok e
    cases rel
    refine ⟨hd, [], .nil, o, es, ep, h1, h2, h3, ?_, (fun x hx => nomatch hx), List.nodup_nil⟩
    generalize es.toList = l at h5
    cases h5
    rfl
  · obtain ⟨⟨hd, o, es, ep, h1, h2, h3, h4, h5⟩, _⟩ := (show ObjOk P w H h d (DN P w d xs) from ok d _ e)
    refine ⟨hd, xs, r, o, es, ep, h1, h2, h3, h4, fun x hx => ?_, h5⟩
    have all : ∀ {l : List (NK × V)} {m : List (NestedKey × Addr × Value)}, KN H l m → ∀ x ∈ m, (nestedKind P w).is h x.1 x.2.1 := by
      intro l m q
      induction q with
      | nil => intro x hx; exact nomatch hx
      | @cons p q ps qs hq t ih =>
        intro x hx
        rcases List.mem_cons.mp hx with e | hx
        · subst e
          rw [hq.1]
          exact keyN ok hq.2.1
        · exact ih x hx
    exact all r x hx
theorem NAt.mut {kvs : List (NK × V)} (g : NAt P w H d kvs) : Mut (H d) := by
  obtain ⟨_, ⟨_, e⟩ | ⟨xs, e, _⟩⟩ := g
  · rw [e]
    exact True.intro
  · rw [e]
    exact True.intro
theorem NAt.notup {kvs : List (NK × V)} (g : NAt P w H d kvs) {ys : List V} : H d ≠ some (.tup ys) := by
  obtain ⟨_, ⟨_, e⟩ | ⟨xs, e, _⟩⟩ := g
  · rw [e]
    exact fun z => nomatch z
  · rw [e]
    exact fun z => nomatch z
theorem NAt.same {H' : Hp} {kvs : List (NK × V)} (g : NAt P w H d kvs) (hd : ∀ o, H d = some o → H' d = some o) (ht : ∀ b ys, H b = some (.tup ys) → H' b = some (.tup ys)) : NAt P w H' d kvs := by
  obtain ⟨z, ⟨e0, e⟩ | ⟨xs, e, r⟩⟩ := g
  · exact ⟨z, .inl ⟨e0, hd _ e⟩⟩
  · exact ⟨z, .inr ⟨xs, hd _ e, r.keeps ht⟩⟩
theorem NAt.new (e : H d = some (.dK [])) : NAt P w H d [] := ⟨Nat.zero_le _, .inl ⟨rfl, e⟩⟩
end
section
variable {X : Cx} {pins : List (Addr × Obj)} {σ : L2.St} {H : Hp} {s : Shared} {a b : Addr} {p : NK} {kvs : List (NK × V)} {v : V} {u r : Value} {A : Around} {E : Value → Shared → Prop}
theorem n_getItem {Q : Value → Shared → Prop} (hu : A.units + 9 < cLine) (I : Inv X pins σ H s) (g : NAt X.prog X.w H a kvs) (kb : KeyAt H b p) (hv : valV kvs p = some v) (h : ∀ w' s', Inv X pins σ H s' → RelV v w' → Q w' s') :
    wpAny (model X.prog X.w) A (getItem (.ref a) (.ref b)) Q E s := by
  obtain ⟨hd, xs, rel, dd⟩ := n_of I.hok g
  obtain ⟨w', hw, rw'⟩ := RelO.some_of (v := v) (o := (atKey xs (nk p)).map (·.2)) (by rw [← hv]; exact rel.val p)
  obtain ⟨q, hp, hp2⟩ := Option.map_eq_some_iff.mp hw
  refine wpAny_getItem_heap (show (nestedKind X.prog X.w).room A.in1 from (by show A.units + 1 + 8 < cLine; omega)) (keyN I.hok kb) dd hp ?_
  rw [hp2]
  exact h w' _ (I.tok _) rw'
theorem n_notIn {Q : Value → Shared → Prop} (hu : A.units + 9 < cLine) (I : Inv X pins σ H s) (g : NAt X.prog X.w H a kvs) (kb : KeyAt H b p) (h : ∀ s', Inv X pins σ H s' → Q (.bool (!(valV kvs p).isSome)) s') :
    wpAny (model X.prog X.w) A (compareOp .NotIn (.ref b) (.ref a)) Q E s := by
  obtain ⟨hd, xs, rel, dd⟩ := n_of I.hok g
  refine wpAny_notIn_heap (show (nestedKind X.prog X.w).room A.in1 from (by show A.units + 1 + 8 < cLine; omega)) (keyN I.hok kb) hd dd ?_
  have q := (rel.val p).isSome_eq
  rw [Option.isSome_map] at q
  rw [← q]
  exact h _ (I.tok _)
theorem n_setItem {Q : Unit → Shared → Prop} (hu : A.units + 9 < cLine) (I : Inv X pins σ H s) (g : NAt X.prog X.w H a kvs) (hl : kvs.length < sizeLine) (kb : KeyAt H b p) (rv : RelV v r)
    (h : ∀ o s', NAt X.prog X.w (upd H a o) a (putK kvs p v) → Inv X pins σ (upd H a o) s' → Q () s') : wpAny (model X.prog X.w) A (setItem (.ref a) (.ref b) r) Q E s := by
  obtain ⟨hd, xs, rel, dd⟩ := n_of I.hok g
  have hz : xs.length ≤ sizeLine := by rw [← Paired.length rel]; exact Nat.le_of_lt hl
  refine wpAny_setItem_heap (hsz := hz) (show (nestedKind X.prog X.w).room A.in1 from (by show A.units + 1 + 8 < cLine; omega)) (keyN I.hok kb) dd fun h' dd' hs => ?_
  obtain ⟨q, es, ep, hq, h2, h3, h4, _, h5⟩ := dd'
  have keep : ∀ c ys, H c = some (.tup ys) → upd H a (DN X.prog X.w a (storedH xs (nk p) b r)) c = some (.tup ys) := fun c ys ec => by
    have ne : c ≠ a := fun z => g.notup (z ▸ ec)
    rw [upd_ne ne]
    exact ec
  refine h (DN X.prog X.w a (storedH xs (nk p) b r)) _ ⟨?_, .inr ⟨_, upd_same, (rel.put p kb rv).keeps keep⟩⟩ (d_write I g.mut hs ⟨q, hq⟩ ⟨⟨hd, q, es, ep, hq, h2, h3, h4, h5⟩, ⟨q, hq⟩, ?_⟩)
  · have := length_putK kvs p v
    omega
  · rintro h1 h2' ⟨e0, o, es, ep, x1, x2⟩ k
    exact ⟨e0, o, es, ep, k _ x1, x2⟩
end
/-- d[y], y not in d, d[y] = v -/
def tNGet (P : Program) (w : World) (td ty : TE) : TE := fun σ H Q => td σ H fun x H1 => ty σ H1 fun y H2 => ∃ a b p kvs v, x = .ref a ∧ y = .ref b ∧ NAt P w H2 a kvs ∧ KeyAt H2 b p ∧ valV kvs p = some v ∧ Q v H2
def tNNotIn (P : Program) (w : World) (ty td : TE) : TE := fun σ H Q => ty σ H fun y H1 => td σ H1 fun x H2 => ∃ a b p kvs, x = .ref a ∧ y = .ref b ∧ NAt P w H2 a kvs ∧ KeyAt H2 b p ∧ Q (.bl (!(valV kvs p).isSome)) H2
def sNPut (P : Program) (w : World) (td ty tv : TE) : TS := fun D σ H => tv σ H fun v H1 => td σ H1 fun x H2 => ty σ H2 fun y H3 => ∃ a b p kvs, x = .ref a ∧ y = .ref b ∧ NAt P w H3 a kvs ∧ KeyAt H3 b p ∧ kvs.length < sizeLine ∧
  ∀ o, NAt P w (upd H3 a o) a (putK kvs p v) → D.nx σ (upd H3 a o)
section
variable {X : Cx} {o i value : Expr} {td ty tv : TE} {pos pos' : Pos}
theorem pe_nget (hu : X.A.units + 9 < cLine) (ho : PE X o td) (hi : PE X i ty) (hs : NoSl i) : PE X (.Subscript o i pos) (tNGet X.prog X.w td ty) := by
  refine ⟨fun pins s σ H Q I h => ?_⟩
  refine subD_of PySem.F.slot_dict_getitem.lookup hs (thn (ho.run pins s σ H _ I h) fun u s1 ⟨x, H1, I1, rx, q1⟩ => thn (hi.run pins s1 σ H1 _ I1 q1) fun iv s2 ⟨y, H2, I2, ry, a, b, p, kvs, v, ex, ey, g, kb, hv, q2⟩ => ?_)
  subst ex ey
  obtain rfl : u = Value.ref a := rx
  obtain rfl : iv = Value.ref b := ry
  obtain ⟨_, xs, _, dd⟩ := n_of I2.hok g
  exact ⟨dd.typeIs, n_getItem hu I2 g kb hv fun w' s3 I3 rw' => ⟨v, H2, I3, rw', q2⟩⟩
theorem pc_nnotin (hu : X.A.units + 9 < cLine) (hi : PE X i ty) (ho : PE X o td) : PC X .NotIn i o (tNNotIn X.prog X.w ty td) := by
  refine ⟨fun pins s σ H Q I h => ?_⟩
  refine thn (hi.run pins s σ H _ I h) fun iv s1 ⟨y, H1, I1, ry, q1⟩ => thn (ho.run pins s1 σ H1 _ I1 q1) fun u s2 ⟨x, H2, I2, rx, a, b, p, kvs, ex, ey, g, kb, q2⟩ => ?_
  subst ex ey
  obtain rfl : u = Value.ref a := rx
  obtain rfl : iv = Value.ref b := ry
  exact n_notIn hu I2 g kb fun s3 I3 => ⟨.bl (!(valV kvs p).isSome), H2, I3, rfl, q2⟩
theorem ps_nput (hu : X.A.units + 9 < cLine) (ho : PE X o td) (hi : PE X i ty) (hv : PE X value tv) (hs : swapsWith value (some (.Subscript o i pos')) pos.line X.env = pure false) :
    PS X (.Assign [.Subscript o i pos'] value pos) (sNPut X.prog X.w td ty tv) := by
  refine ⟨fun pins s σ H D I h => ?_⟩
  refine wpAny_Assign_Subscript (thn (hv.run pins s σ H _ I h) fun r s1 ⟨v, H1, I1, rv, q1⟩ => thn (ho.run pins s1 σ H1 _ I1 q1) fun u s2 ⟨x, H2, I2, rx, q2⟩ => thn (hi.run pins s2 σ H2 _ I2 q2) fun iv s3 ⟨y, H3, I3, ry, a, b, p, kvs, ex, ey, g, kb, hl, q3⟩ => ?_) hs
  subst ex ey
  obtain rfl : u = Value.ref a := rx
  obtain rfl : iv = Value.ref b := ry
  exact n_setItem hu I3 g hl kb rv fun o s4 g4 I4 => ⟨σ, _, I4, q3 o g4⟩
end
end Lk
/-! Obj0 -/
set_option Elab.async false
set_option maxRecDepth 100000
set_option linter.all false
set_option maxHeartbeats 4000000
namespace Lk
open PySem PySem.Spec PyProof.Rows L2
/-! ### own classes: their methods, called -/
/-- a method of the class at C, as it stands behind the top -/
structure DefM (K : PySem.W.Frag) (C : Addr) (m qn : String) (st : Stmt) : Prop where
  ex : ∃ (f : Addr) (fd : FuncData), L2.Fun K m qn st f fd ∧ Meth K C m f
/-- a class that is made by its own __init__ -/
structure Kls (K : PySem.W.Frag) (mg : Str → Option Value) (x : String) (C : Addr) : Prop where
  cl : Cls K C
  makes : PySem.W.makesIn K C = true
  kp : PySem.W.keepIn K (.ref C) = true
  mgC : mg x = some (.ref C)
/-- a method that may be called, with its promise -/
structure MCal (P : Program) (w : World) (K : PySem.W.Frag) (mg : Str → Option Value) (base : Heap) (C : Addr) (k : Nat) (m : String) (sp : Sp) : Prop where
  ex : ∃ (f : Addr) (fd : FuncData) (ps : List Str), FnOk P w K mg base CX0 k f fd ps sp ∧ Meth K C m f ∧ Binds K fd ps []
section
variable {P : Program} {w : World} {K : PySem.W.Frag} {mg : Str → Option Value} {base : Heap} {C : Addr}
theorem mkMCal {m qn : String} {st : Stmt} {N ps : List Str} {k : Nat} {sp : Sp} (D : DefM K C m qn st) (S : FnScope N ps (defScope st))
    (hb : ∀ (kV doc pm : Value) (an : Option Addr) (cdv ct : Value) (us : List Value), us.length = ps.length → bindArgs (PySem.W.fnOf m qn (defArgs st) (defBody st) (defScope st) .none kV doc pm an cdv ct) ⟨us, []⟩ = pure (ps.zip us))
    (len : ∀ vs H Q E, sp vs H Q E → vs.length = ps.length)
    (hbody : ∀ (f : Addr) (cdv : Value) (A : Around) (outer : List Env) (s : Shared) (H : Hp) (vs : List V) (Q : VK) (E : XK), Room k (A.deeper (envOfC qn (defScope st) s.heap.objs.size f cdv)) → sp vs H Q E →
      ∃ t, PSs (cxOf CX0 P w K mg base N qn (defScope st) f cdv A outer s H E).nox (defBody st) t ∧ t { nx := fun _ H' => Q .non H', rt := Q } (start N vs) H) : MCal P w K mg base C (k + 1) m sp := by
  obtain ⟨f, fd, F, m⟩ := D.ex
  exact ⟨f, fd, ps, F.ok S len fun cdv A outer s H vs Q E hr h => hbody f cdv A outer s H vs Q E hr h, m, F.binds hb⟩
theorem MCal.imp {m : String} {k : Nat} {sp sp' : Sp} (c : MCal P w K mg base C k m sp) (h : ∀ vs H Q E, sp' vs H Q E → sp vs H Q E) : MCal P w K mg base C k m sp' := by
  obtain ⟨f, fd, ps, F, a, b⟩ := c.ex
  exact ⟨f, fd, ps, F.imp h, a, b⟩
theorem MCal.mono {m : String} {j k : Nat} {sp : Sp} (c : MCal P w K mg base C j m sp) (h : j ≤ k) : MCal P w K mg base C k m sp := by
  obtain ⟨f, fd, ps, F, a, b⟩ := c.ex
  exact ⟨f, fd, ps, F.mono h, a, b⟩
/-- a promise that nobody can ask for -/
theorem mcal_never {m qn : String} {st : Stmt} {ps : List Str} {k : Nat} {sp : Sp} (D : DefM K C m qn st)
    (hb : ∀ (kV doc pm : Value) (an : Option Addr) (cdv ct : Value) (us : List Value), us.length = ps.length → bindArgs (PySem.W.fnOf m qn (defArgs st) (defBody st) (defScope st) .none kV doc pm an cdv ct) ⟨us, []⟩ = pure (ps.zip us))
    (no : ∀ vs H Q E, ¬ sp vs H Q E) : MCal P w K mg base C k m sp := by
  obtain ⟨f, fd, F, m⟩ := D.ex
  exact ⟨f, fd, ps, ⟨fun vs H Q E h => absurd h (no vs H Q E), fun A outer s H args us vs Q E _ _ _ _ h => absurd h (no vs H Q E)⟩, m, F.binds hb⟩
theorem Cal.mono {x : String} {j k : Nat} {sp : Sp} (c : Cal P w K mg base j x sp) (h : j ≤ k) : Cal P w K mg base k x sp := by
  obtain ⟨f, fd, ps, F, a, b, d⟩ := c.ex
  exact ⟨f, fd, ps, F.mono h, a, b, d⟩
end
theorem u9 {k : Nat} {A : Around} (r : Room k A) : A.units + 9 < cLine := by
  have := r.units
  omega
section
variable {X : Cx} {k j : Nat} {C : Addr} {m x : String} {sp : Sp} {p pos apos : Pos} {o e : Expr} {es : List Expr} {ta : TE} {t : TA}
theorem pe_mcal {pl : Sem Bool} (c : MCal X.prog X.w X.K X.mg X.base C k m sp) (cl : Cls X.K C) (hr : Room j X.A) (hk : k ≤ j) (he : PE X o ta) (ha : PA X (e :: es) t)
    (hst : starEach (e :: es) X.env = (false, eval e X.env) :: starEach es X.env := by rfl) (hpl : (backTo pos (starEach es X.env)).any (·.1) = false := by rfl)
    (ht : eval (.Call (.Attribute o m apos) (e :: es) [] pos) X.env = (do
      let ov ← eval o X.env
      standAt apos.atName
      let (f, first) ← holding [ov] (getMethod ov m pl)
      callWith pos f first (backTo pos (starEach (e :: es) X.env)) (backToKw pos (keywordEach [] X.env))) := by rfl) :
    PE X (.Call (.Attribute o m apos) (e :: es) [] pos) (tMeth C m sp [] E0 ta t) := by
  obtain ⟨f, fd, ps, F, hm, b⟩ := c.ex
  exact pe_meth he cl hm F (hr.mono hk) b .nil pass0 ha hst hpl ht
theorem pe_new (c : MCal X.prog X.w X.K X.mg X.base C k "__init__" sp) (Z : Kls X.K X.mg x C) (hr : Room j X.A) (hk : k + 1 ≤ j) (ha : PA X (e :: es) t) (hg : Gl X x := by rfl)
    (hdb : ((x : Str) == ("__debug__" : Str)) = false := by decide) (he : starEach (e :: es) X.env = (false, eval e X.env) :: starEach es X.env := by rfl) (hpl : (backTo pos (starEach es X.env)).any (·.1) = false := by rfl) :
    PE X (.Call (.Name x p) (e :: es) [] pos) (tMake C sp [] E0 t) := by
  obtain ⟨f, fd, ps, F, hm, b⟩ := c.ex
  exact pe_make ⟨Z.makes, hm.at_, hm.fn, Z.kp⟩ F (hr.mono hk) hg Z.mgC b .nil pass0 ha hdb he hpl
end
/-! within a comprehension: the reading speaks of K, not of the frame's own -/
theorem inL {X : Cx} {K : PySem.W.Frag} {tg l : Expr} {tl : TE} (h : PE X l tl) (e : X.K = K := by rfl) : PI X tg l (iList K tl) := e ▸ pi_list h
theorem inT {X : Cx} {K : PySem.W.Frag} {tg l : Expr} {tl : TE} (h : PE X l tl) (e : X.K = K := by rfl) : PI X tg l (iTup K tl) := e ▸ pi_tup h
/-! ### data of tuples and texts alone: it stands while one other thing is written -/
mutual
def onlyT : PyData → Bool
  | .none | .bool _ | .int _ | .str _ => true
  | .list _ => false
  | .tuple xs => onlyTs xs
  | .dict _ => false
def onlyTs : List PyData → Bool
  | [] => true
  | x :: xs => onlyT x && onlyTs xs
end
theorem onlyTs_all : ∀ {ds : List PyData}, onlyTs ds = true ↔ ∀ d ∈ ds, onlyT d = true
  | [] => ⟨(fun _ _ m => nomatch m), (fun _ => rfl)⟩
  | d :: ds => by
    rw [onlyTs, Bool.and_eq_true, onlyTs_all]
    exact ⟨fun h e m => (List.mem_cons.mp m).elim (fun z => z ▸ h.1) (h.2 e), fun h => ⟨h d List.mem_cons_self, fun e m => h e (List.mem_cons_of_mem _ m)⟩⟩
/-- all tuples and all that is locked stand -/
def Tups (H H' : Hp) : Prop := (∀ b xs, H b = some (.tup xs) → H' b = some (.tup xs)) ∧ ∀ b o u, H b = some (.frz o u) → H' b = some (.frz o u)
theorem Tups.seqT {K : PySem.W.Frag} {H H' : Hp} {a : Addr} {xs : List V} (t : Tups H H') (h : SqT K H a xs) : SqT K H' a xs := by
  rcases h with (h | ⟨o, h⟩) | h
  · exact .inl (.inl (t.1 _ _ h))
  · exact .inl (.inr ⟨o, t.2 _ _ _ h⟩)
  · exact .inr h
theorem Same.tups {H H' : Hp} (s : Same H H') : Tups H H' := ⟨fun b xs h => s _ _ h, fun b o u h => s _ _ h⟩
theorem Tups.trans {H H1 H2 : Hp} (a : Tups H H1) (b : Tups H1 H2) : Tups H H2 := ⟨fun c xs h => b.1 _ _ (a.1 _ _ h), fun c o u h => b.2 _ _ _ (a.2 _ _ _ h)⟩
theorem But.tups {d : Addr} {H H' : Hp} (b : But d H H') (h1 : ∀ ys, H d ≠ some (.tup ys)) (h2 : ∀ o u, H d ≠ some (.frz o u)) : Tups H H' :=
  ⟨fun c xs h => b _ _ h fun z => h1 xs (z ▸ h), fun c o u h => b _ _ h fun z => h2 o u (z ▸ h)⟩
theorem th_tups {K : PySem.W.Frag} {H H' : Hp} (t : Tups H H') {v : V} {d : PyData} (h : Th K H v d) : onlyT d = true → Th K H' v d := by
  refine Th.rec (motive_1 := fun v d _ => onlyT d = true → Th K H' v d) (motive_2 := fun vs ds _ => onlyTs ds = true → ThAll K H' vs ds) ?_ ?_ ?_ ?_ ?_ ?_ ?_ ?_ ?_ h
  · exact fun _ => .non
  · exact fun b _ => .bl b
  · exact fun i _ => .int i
  · exact fun x _ => .str x
  · exact fun _ _ _ n => nomatch n
  · exact fun hs _ ih n => .tup (t.seqT hs) (ih n)
  · exact fun _ _ _ _ n => nomatch n
  · exact fun _ => .nil
  · intro v vs d ds _ _ i1 i2 n
    have n2 : onlyT d = true ∧ onlyTs ds = true := by simpa only [onlyTs, Bool.and_eq_true] using n
    exact .cons (i1 n2.1) (i2 n2.2)
theorem thAll_tups {K : PySem.W.Frag} {H H' : Hp} (t : Tups H H') : ∀ {vs : List V} {ds : List PyData}, ThAll K H vs ds → onlyTs ds = true → ThAll K H' vs ds
  | _, _, .nil, _ => .nil
  | _ :: _, d :: ds, .cons h r, n => by
    have n2 : onlyT d = true ∧ onlyTs ds = true := by simpa only [onlyTs, Bool.and_eq_true] using n
    exact .cons (th_tups t h n2.1) (thAll_tups t r n2.2)
theorem NAt.nofrz {P : Program} {w : World} {H : Hp} {d : Addr} {kvs : List (NK × V)} (g : NAt P w H d kvs) {o : Obj} {u : HO} : H d ≠ some (.frz o u) := by
  obtain ⟨_, ⟨_, e⟩ | ⟨xs, e, _⟩⟩ := g
  · rw [e]
    exact fun z => nomatch z
  · rw [e]
    exact fun z => nomatch z
theorem But.trans {d : Addr} {H H1 H2 : Hp} (a : But d H H1) (b : But d H1 H2) : But d H H2 := fun q o h n => b q o (a q o h n) n
theorem But.same {d : Addr} {H H1 H2 : Hp} (a : But d H H1) (b : Same H1 H2) : But d H H2 := fun q o h n => b q o (a q o h n)
theorem But.refl (d : Addr) (H : Hp) : But d H H := fun _ _ h _ => h
theorem Same.but {d : Addr} {H H1 : Hp} (a : Same H H1) : But d H H1 := fun q o h _ => a q o h
theorem But.upd {d : Addr} {H H1 : Hp} {o : HO} (a : But d H H1) : But d H (upd H1 d o) := fun q u h n => by
  rw [upd_ne n]
  exact a q u h n
theorem But.upd2 {d p : Addr} {H H1 : Hp} {o : HO} (a : But d H H1) (n : H p = none) : But d H (L2.upd H1 p o) := fun q u h nq => by
  rw [upd_ne (ne_of_none h n)]
  exact a q u h nq
theorem But.free {d : Addr} {H H1 : Hp} {q : Addr} (a : But d H H1) (h : H1 q = none) (n : q ≠ d) : H q = none := by
  cases e : H q with
  | none => rfl
  | some o =>
    rw [a q o e n] at h
    cases h
theorem putK_mem {κ : Type} [DecidableEq κ] {kvs : List (κ × V)} {k : κ} {v : V} {p : κ × V} (h : p ∈ putK kvs k v) : p ∈ kvs ∨ p = (k, v) := by
  unfold putK at h
  split at h
  · obtain ⟨q, hq, rfl⟩ := List.mem_map.mp h
    by_cases e : q.1 = k
    · rw [if_pos e, ← e]
      exact .inr (by rw [e])
    · rw [if_neg e]
      exact .inl hq
  · rcases List.mem_append.mp h with h | h
    · exact .inl h
    · exact .inr (List.mem_singleton.mp h)
theorem putK_keys {κ : Type} [DecidableEq κ] {kvs : List (κ × V)} {k : κ} {v : V} (h : (kvs.map (·.1)).Nodup) : ((putK kvs k v).map (·.1)).Nodup := by
  unfold putK
  split
  · have e : (kvs.map fun kv => if kv.1 = k then (kv.1, v) else kv).map (·.1) = kvs.map (·.1) := by
      rw [List.map_map]
      refine List.map_congr_left fun q _ => ?_
      show (if q.1 = k then (q.1, v) else q).1 = q.1
      split <;> rfl
    rw [e]
    exact h
  · rename_i n
    rw [List.map_append, List.nodup_append]
    refine ⟨h, List.nodup_cons.mpr ⟨(fun z => nomatch z), List.nodup_nil⟩, fun a ha b hb e => n ?_⟩
    have hb2 : b = k := by simpa using hb
    obtain ⟨q, hq, e2⟩ := List.mem_map.mp ha
    exact List.any_eq_true.mpr ⟨q, hq, decide_eq_true (e2.trans (e.trans hb2))⟩
theorem valV_mem {κ : Type} [DecidableEq κ] {kvs : List (κ × V)} {k : κ} {v : V} (h : valV kvs k = some v) : (k, v) ∈ kvs := by
  unfold valV at h
  obtain ⟨q, hq, e⟩ := Option.map_eq_some_iff.mp h
  have a := List.find?_some hq
  have b := List.mem_of_find?_eq_some hq
  have c : q.1 = k := of_decide_eq_true a
  rw [← c, ← e]
  exact b
theorem valV_put_self {κ : Type} [DecidableEq κ] {kvs : List (κ × V)} {k : κ} {v : V} : valV (putK kvs k v) k = some v := by
  rw [valV_put, if_pos rfl]
end Lk
/-! DctN1 -/
set_option Elab.async false
set_option maxRecDepth 100000
set_option linter.all false
set_option maxHeartbeats 4000000
namespace Lk
open PySem PySem.Spec PyProof.Rows L2
/-! ### list(d), len(d), y in d: dicts whose keys are pairs of a text and a tuple of numbers -/
def IsKeysN (H : Hp) (kvs : List (NK × V)) (bs : List Addr) : Prop := Paired (fun p b => KeyAt H b p.1) kvs bs
theorem isKeysN_of {H : Hp} {kvs : List (NK × V)} {xs : List (NestedKey × Addr × Value)} (r : KN H kvs xs) : IsKeysN H kvs (xs.map fun x => x.2.1) := by
  unfold IsKeysN
  induction r with
  | nil => exact Paired.nil
  | cons h t ih => exact Paired.cons h.2.1 ih
section
variable {X : Cx}
def rListN (P : Program) (w : World) : List V → Hp → VK → Prop := fun xs H Q => ∃ d kvs, xs = [V.ref d] ∧ NAt P w H d kvs ∧ ∀ p bs, H p = none → IsKeysN H kvs bs → Q (.ref p) (upd H p (.lst (bs.map V.ref)))
theorem call_list_N (hc : X.calm = true) : CallR X (.type "list") (rListN X.prog X.w) := by
  intro pins s σ H xs us Q I r h
  obtain ⟨d, kvs, rfl, g, q⟩ := h
  obtain ⟨u, rfl, rx⟩ := r.one
  cases rx
  obtain ⟨hs, ks, pr, o, es, ep, ho, hx, hdt, he, _, hn⟩ := n_of I.hok g
  have l1 : es.size = ks.length := size_of_entries he
  have l2 : kvs.length = ks.length := Paired.length pr
  have z := g.1
  refine PySem.W.kdl_call (kdl_raw hs hx hdt) (I.ok.hd hc) ho (by omega) fun h' tk acc' c' kp e it => ?_
  have ea : acc'.toList = ks.map fun x => Value.ref x.2.1 := by
    have hl : acc'.toList.length = ks.length := by rw [Array.length_toList, it.1]; exact l1
    apply List.ext_getElem?
    intro j
    rw [List.getElem?_map]
    cases hj : acc'.toList[j]? with
    | none =>
      have h1 := List.getElem?_eq_none_iff.mp hj
      rw [List.getElem?_eq_none (by omega)]
      all_goals rfl
    | some v =>
      obtain ⟨en, hen, hv⟩ := it.2 j v (by rw [← Array.getElem?_toList]; exact hj)
      have qe := entry_at he j
      rw [hen] at qe
      cases hb : ks[j]? with
      | none =>
        rw [hb] at qe
        exact nomatch (show some en = none from qe)
      | some b =>
        rw [hb] at qe
        have e2 : en = entryOfKey (nestedKind X.prog X.w) b := Option.some.inj qe
        rw [hv, e2]
        all_goals rfl
  have eb : acc'.toList = (ks.map fun x => x.2.1).map Value.ref := by rw [ea, List.map_map]; all_goals rfl
  have rv : Vals ((ks.map fun x => x.2.1).map V.ref) acc'.toList := by rw [eb]; exact vals_refs _
  have hz : ((ks.map fun x => x.2.1).map V.ref).length ≤ sizeLine := by rw [List.length_map, List.length_map]; omega
  refine ⟨.ref s.heap.objs.size, _, I.laid (t' := tk) (o := .lst ((ks.map fun x => x.2.1).map V.ref)) kp (Nat.le_refl _) ?_, rfl, q _ _ (I.hok.fresh (Nat.le_refl _)) (isKeysN_of pr)⟩
  exact ⟨hz, acc'.toList, c', rv, by rw [Array.toArray_toList]; exact e⟩
end
end Lk
/-! Exv0 -/
set_option Elab.async false
set_option maxRecDepth 100000
set_option linter.all false
set_option maxHeartbeats 4000000
namespace Lk
open PySem PySem.Spec PyProof.Rows L2
/-- a held error of the class at C, not raised -/
def EvAt (H : Hp) (a C : Addr) : Prop := H a = some (ExO (.ref C) a) ∨ ∃ d fs, H a = some (exo a C (some d)) ∧ H d = some (exd d fs)
theorem EvAt.same {H H' : Hp} {a C : Addr} (h : EvAt H a C) (s : Same H H') : EvAt H' a C := by
  rcases h with h | ⟨d, fs, h, g⟩
  · exact .inl (s _ _ h)
  · exact .inr ⟨d, fs, s _ _ h, s _ _ g⟩
end Lk
/-! Xm0 -/
set_option Elab.async false
set_option maxRecDepth 100000
set_option linter.all false
set_option maxHeartbeats 4000000
namespace Lk
open PySem PySem.Spec PyProof.Rows L2
/-! ### methods that may raise -/
structure MCalX (P : Program) (w : World) (K : PySem.W.Frag) (mg : Str → Option Value) (base : Heap) (C : Addr) (k : Nat) (m : String) (sp : Sp) : Prop where
  ex : ∃ (f : Addr) (fd : FuncData) (ps : List Str), FnOk P w K mg base (L2.CX P w) k f fd ps sp ∧ Meth K C m f ∧ Binds K fd ps []
section
variable {P : Program} {w : World} {K : PySem.W.Frag} {mg : Str → Option Value} {base : Heap} {C : Addr}
theorem MCalX.mono {m : String} {j k : Nat} {sp : Sp} (c : MCalX P w K mg base C j m sp) (h : j ≤ k) : MCalX P w K mg base C k m sp := by
  obtain ⟨f, fd, ps, F, a, b⟩ := c.ex
  exact ⟨f, fd, ps, F.mono h, a, b⟩
theorem CalX.mono {x : String} {j k : Nat} {sp : Sp} (c : CalX P w K mg base j x sp) (h : j ≤ k) : CalX P w K mg base k x sp := by
  obtain ⟨f, fd, ps, F, a, b, d⟩ := c.ex
  exact ⟨f, fd, ps, FnOk.mono F h, a, b, d⟩
end
end Lk
/-! Open0 -/
set_option Elab.async false
set_option maxRecDepth 100000
set_option linter.all false
namespace Lk
open PySem PySem.Spec PyProof.Rows L2
/-! ### openings of readings, for any statement -/
theorem on_go {S : TS} {x : V} {i : Nat} {D : Ends} {σ : L2.St} {H : Hp} (h : S D (σ.set i (some x)) H) : gName i x σ H (S D) := h
theorem sq_asg {te : TE} {g : TG} {r : TS} {D : Ends} {σ : L2.St} {H : Hp} (h : te σ H fun y H1 => g y σ H1 (r D)) : tSeq (tAsg te g) r D σ H := h
theorem sq_if {t : TT} {ts tl r : TS} {D : Ends} {σ : L2.St} {H : Hp} (h : tIfS t ts tl { D with nx := r D } σ H) : tSeq (tIfS t ts tl) r D σ H := h
theorem sq_for {w : TI} {g : TG} {tb r : TS} {D : Ends} {σ : L2.St} {H : Hp} (h : tFor w g tb { D with nx := r D } σ H) : tSeq (tFor w g tb) r D σ H := h
theorem sq_drop {te : TE} {r : TS} {D : Ends} {σ : L2.St} {H : Hp} (h : te σ H fun _ H1 => r D σ H1) : tSeq (tDrop te) r D σ H := h
theorem go_if {t : TT} {ts tl : TS} {D : Ends} {σ : L2.St} {H : Hp} (h : t σ H fun b H1 => if b = true then ts D σ H1 else tl D σ H1) : tIfS t ts tl D σ H := h
theorem go_ret {te : TE} {D : Ends} {σ : L2.St} {H : Hp} (h : te σ H D.rt) : tRet te D σ H := h
theorem nxt_go {q : L2.St → Hp → Prop} {rt : VK} {bk ct : L2.St → Hp → Prop} {σ : L2.St} {H : Hp} (h : q σ H) : tNext { nx := q, rt := rt, bk := bk, ct := ct } σ H := h
theorem ends_go {q : L2.St → Hp → Prop} {rt : VK} {bk ct : L2.St → Hp → Prop} {σ : L2.St} {H : Hp} (h : q σ H) : Ends.nx { nx := q, rt := rt, bk := bk, ct := ct } σ H := h
theorem lst_nil {σ : L2.St} {H : Hp} {Q : VK} (h : ∀ p, H p = none → Q (.ref p) (upd H p (.lst []))) : tLst tNil σ H Q := ⟨by show 0 ≤ sizeLine; decide, h⟩
theorem go_tt {r : R2} {ta tb : TE} {σ : L2.St} {H : Hp} {R : Bool → Hp → Prop} (h : ta σ H fun x H1 => tb σ H1 fun y H2 => r x y H2 fun v H3 => ∃ b, v = .bl b ∧ R b H3) : tTest (tOp r ta tb) σ H R := h
end Lk
/-! MaxL0 -/
set_option Elab.async false
set_option maxRecDepth 100000
set_option linter.all false
set_option maxHeartbeats 4000000
namespace Lk
open PySem PySem.Spec PyProof.Rows L2
/-! ### max(x, y, key=len), x and y texts -/
section
variable {prog : Program} {w : World} {A : Around} {E : Value → Shared → Prop} {s : Shared}
theorem max_args2 (a b v : Value) : argsOk "max" ⟨[a, b], [(Str.ofString "key", v)]⟩ := by unfold argsOk; kernel_rfl
theorem max_len2 {x y : Str} {tx ty : Tok} {Q : Value → Shared → Prop} (hh : A.in1.handled = none) (lx : x.length ≤ sizeLine) (ly : y.length ≤ sizeLine)
    (hQ : ∀ v h' tk, (∃ t, v = .str (if y.length > x.length then y else x) t) → (∀ b o, s.heap.get? b = some o → h'.get? b = some o) → Q v { s with heap := h', toks := tk }) :
    wpAny (model prog w) A (call (.builtin "max") [.str x tx, .str y ty] [(Str.ofString "key", .builtin "len")]) Q E s := by
  have hname : (toString "max" ++ toString ".loop" : String) = "max.loop" := by decide
  rw [sizeLine_eq] at lx ly
  refine kmk_tree PySem.F.kind_max PySem.F.plain_max PySem.F.entry_max (max_args2 _ _ _) ?_
  show wpAny _ A.in1 (Builtin.Builtins.bindParams "max" ["key", "default"] 0 ⟨[], [(Str.ofString "key", .builtin "len")]⟩ >>= _) _ _ s
  refine wpAny_bind (wpAny_of_eq (show Builtin.Builtins.bindParams "max" ["key", "default"] 0 ⟨[], [(Str.ofString "key", .builtin "len")]⟩ = pure [some (.builtin "len"), none] from rfl) ?_)
  show wpAny _ A.in1 (newTuple [.str x tx, .str y ty] >>= _) _ _ s
  refine wpAny_bind (wpAny_newObj_type ?_)
  generalize hT : s.heap.objs.size = T
  have gT : (s.heap.push { cls := .type "tuple", data := .seq #[.str x tx, .str y ty] }).get? T = some { cls := .type "tuple", data := .seq #[.str x tx, .str y ty] } := hT ▸ Heap.get?_push_size _ rfl
  have k1 : ∀ b o, s.heap.get? b = some o → (s.heap.push { cls := .type "tuple", data := .seq #[.str x tx, .str y ty] }).get? b = some o := fun b o e => Heap.get?_push_of_some _ e
  have b1 : ∀ b o, s.heap.get? b = some o → b < T := fun b o e => hT ▸ Heap.lt_size e
  have z1 : (s.heap.push { cls := .type "tuple", data := .seq #[.str x tx, .str y ty] }).objs.size = T + 1 := by rw [← hT]; exact size_push' ..
  generalize s.heap.push { cls := .type "tuple", data := .seq #[.str x tx, .str y ty] } = h1 at gT k1 z1 ⊢
  refine wpAny_bind (wpAny_pyIter_tuple ⟨_, gT, rfl, _, rfl⟩ ?_)
  show wpAny _ A.in1 (newList [] >>= _) _ _ _
  refine wpAny_bind (wpAny_newList ?_ (Nat.zero_le _))
  rw [hname]
  dsimp only
  rw [z1]
  have z2 : (h1.push { cls := .type "tuple_iterator", data := .fields #[.ref T, .int 0 0] }).objs.size = T + 1 + 1 := by rw [← z1]; exact size_push' ..
  have gI : (h1.push { cls := .type "tuple_iterator", data := .fields #[.ref T, .int 0 0] }).get? (T + 1) = some { cls := .type "tuple_iterator", data := .fields #[.ref T, .int 0 0] } := z1 ▸ Heap.get?_push_size _ rfl
  have k2 : ∀ b o, h1.get? b = some o → (h1.push { cls := .type "tuple_iterator", data := .fields #[.ref T, .int 0 0] }).get? b = some o := fun b o e => Heap.get?_push_of_some _ e
  rw [z2]
  generalize h1.push { cls := .type "tuple_iterator", data := .fields #[.ref T, .int 0 0] } = h2 at gI k2 z2 ⊢
  have gS : (h2.push { cls := .type "list", data := .seq ([] : List Value).toArray }).get? (T + 1 + 1) = some { cls := .type "list", data := .seq #[] } := z2 ▸ Heap.get?_push_size _ rfl
  have k3 : ∀ b o, h2.get? b = some o → (h2.push { cls := .type "list", data := .seq ([] : List Value).toArray }).get? b = some o := fun b o e => Heap.get?_push_of_some _ e
  generalize h2.push { cls := .type "list", data := .seq ([] : List Value).toArray } = h3 at gS k3 ⊢
  have old : ∀ b o, s.heap.get? b = some o → h3.get? b = some o := fun b o e => k3 _ _ (k2 _ _ (k1 _ _ e))
  have gI3 := k3 _ _ gI
  have gT3 := k3 _ _ (k2 _ _ gT)
  have nIT : T ≠ T + 1 := by omega
  have nIS : T + 1 + 1 ≠ T + 1 := by omega
  have nTS : T ≠ T + 1 + 1 := by omega
  have W := Walks.tuple (prog := prog) (w := w) (A := A.in1) hh (T + 1) T nIT #[.str x tx, .str y ty]
  refine wpAny_pure ⟨plainId_quiet PySem.F.plain_max_loop _, ?_⟩
  -- the first one
  refine codeAny_builtin PySem.F.entry_max_loop ?_
  rw [Around.under_plainId PySem.F.plain_max_loop _]
  show wpAny _ A.in1 (seqItems? (.ref _) >>= _) _ _ _
  refine wpAny_bind (wpAny_seqItems gS rfl ?_)
  show wpAny _ A.in1 (tryCatch (pyNext (.ref (T + 1))) _ >>= _) _ _ _
  refine wpAny_bind (wpAny_tryCatch (W.item 0 _ _ _ (by show 0 < 2; decide) ⟨⟨_, gI3, rfl, rfl⟩, ⟨_, gT3, rfl, _, rfl⟩⟩ fun v h4 tk4 hP st4 k4 => ?_))
  have ev : v = .str x tx := by
    have z : (#[Value.str x tx, .str y ty] : Array Value)[0]? = some v := hP
    simpa using z.symm
  subst ev
  have old4 : ∀ b o, b ≠ T + 1 → h3.get? b = some o → h4.get? b = some o := fun b o n e => k4 b o (by simpa using n) e
  show wpAny _ A.in1 (tryCatch (holding [.str x tx] (call (.builtin "len") [.str x tx])) _ >>= _) _ _ _
  refine wpAny_bind (wpAny_tryCatch (wpAny_holding (P.len_str (by omega) ?_)))
  have gS4 := old4 _ _ nIS gS
  show wpAny _ A.in1 (updateSeq (T + 1 + 1) (fun _ => #[.str x tx, .int x.length (tk4 + 1)]) >>= _) _ _ _
  refine wpAny_bind ?_
  refine wpAny_updateSeq gS4 rfl ?_
  rw [hname]
  have u5 := Heap.SameBut.update h4 (T + 1 + 1) (Obj.mapSeq fun _ => #[Value.str x tx, .int x.length (tk4 + 1)])
  obtain ⟨c5, gS5⟩ : ∃ c, (h4.update (T + 1 + 1) (Obj.mapSeq fun _ => #[Value.str x tx, .int x.length (tk4 + 1)])).get? (T + 1 + 1) = some (seqObj "list" #[.str x tx, .int x.length (tk4 + 1)] c) := ⟨_, get?_update_seq gS4 fun _ => #[Value.str x tx, .int x.length (tk4 + 1)]⟩
  dsimp only
  generalize h4.update (T + 1 + 1) (Obj.mapSeq fun _ => #[Value.str x tx, .int x.length (tk4 + 1)]) = h5 at u5 gS5 ⊢
  have old5 : ∀ b o, b ≠ T + 1 → b ≠ T + 1 + 1 → h3.get? b = some o → h5.get? b = some o := fun b o n m e => (u5.2 b m).trans (old4 b o n e)
  obtain ⟨oI, gI4, cI, dI⟩ := st4.1
  have gI5 := (u5.2 (T + 1) nIS.symm).trans gI4
  refine wpAny_pure ⟨plainId_quiet PySem.F.plain_max_loop _, ?_⟩
  -- the second one
  refine codeAny_builtin PySem.F.entry_max_loop ?_
  rw [Around.under_plainId PySem.F.plain_max_loop _]
  show wpAny _ A.in1 (seqItems? (.ref _) >>= _) _ _ _
  refine wpAny_bind (wpAny_seqItems gS5 rfl ?_)
  show wpAny _ A.in1 (tryCatch (pyNext (.ref (T + 1))) _ >>= _) _ _ _
  refine wpAny_bind (wpAny_tryCatch (W.item 1 _ _ _ (by show 1 < 2; decide) ⟨⟨_, gI5, cI, dI⟩, ⟨_, old5 _ _ nIT nTS gT3, rfl, _, rfl⟩⟩ fun v h6 tk6 hP6 st6 k6 => ?_))
  have ev : v = .str y ty := by
    have z : (#[Value.str x tx, .str y ty] : Array Value)[1]? = some v := hP6
    simpa using z.symm
  subst ev
  have old6 : ∀ b o, b ≠ T + 1 → h5.get? b = some o → h6.get? b = some o := fun b o n e => k6 b o (by simpa using n) e
  show wpAny _ A.in1 (tryCatch (holding [.str y ty] (call (.builtin "len") [.str y ty])) _ >>= _) _ _ _
  refine wpAny_bind (wpAny_tryCatch (wpAny_holding (P.len_str (by omega) ?_)))
  have gS6 := old6 _ _ nIS gS5
  obtain ⟨oI6, gI6, cI6, dI6⟩ := st6.1
  show wpAny _ A.in1 (tryCatch (holding [.str y ty, .int y.length (tk6 + 1)] (richCompare .Gt (.int y.length (tk6 + 1)) (.int x.length (tk4 + 1)) >>= _)) _ >>= _) _ _ _
  refine wpAny_bind (wpAny_tryCatch (wpAny_holding (wpAny_bind (CmpOf.ints_gt (prog := prog) (w := w) (A := A.in1) (P := fun i v => ∃ t, v = .int (if i = 0 then (x.length : Int) else y.length) t) (fun i => if i = 0 then (x.length : Int) else y.length) (fun i v h => h) 1 0 _ _ _ _ _ ⟨_, rfl⟩ ⟨_, rfl⟩ ?_))))
  refine wpAny_bind (wpAny_holding (wpAny_truthy_bool ?_))
  refine wpAny_bind (wpAny_letGo (wpAny_pure ?_))
  -- the end
  have fin : ∀ (z : Str) (tz : Tok) (u : Value) (c : Nat) (h7 : Heap) (tk7 : Nat), z = (if y.length > x.length then y else x) → h7.get? (T + 1 + 1) = some (seqObj "list" #[.str z tz, u] c) → (∃ o, h7.get? (T + 1) = some o ∧ o.cls = .type "tuple_iterator" ∧ o.data = .fields #[.ref T, .int (2 : Nat) 0]) →
      h7.get? T = some { cls := .type "tuple", data := .seq #[.str x tx, .str y ty] } → (∀ b o, b < T → s.heap.get? b = some o → h7.get? b = some o) →
      codeAny (model prog w) A (.builtin "max.loop" ⟨[.ref (T + 1), .builtin "len", .ref (T + 1 + 1)], []⟩) (fun r s' => match r with | .ok (.ret v) => Q v s' | .ok _ => False | .error e => E e s') { s with heap := h7, toks := tk7 } := by
    intro z tz u c h7 tk7 ez g7 gi gt o7
    obtain ⟨o, gi, ci, di⟩ := gi
    refine codeAny_builtin PySem.F.entry_max_loop ?_
    rw [Around.under_plainId PySem.F.plain_max_loop _]
    show wpAny _ A.in1 (seqItems? (.ref _) >>= _) _ _ _
    refine wpAny_bind (wpAny_seqItems g7 rfl ?_)
    show wpAny _ A.in1 (tryCatch (pyNext (.ref (T + 1))) _ >>= _) _ _ _
    refine wpAny_bind (wpAny_tryCatch (W.done _ _ _ ⟨⟨o, gi, ci, di⟩, ⟨_, gt, rfl, _, rfl⟩⟩ fun h8 tk8 k8 => ?_))
    have g8 := k8 _ _ (by simpa using nIS) g7
    show wpAny _ A.in1 (updateSeq (T + 1 + 1) (fun _ => #[]) >>= _) _ _ _
    refine wpAny_bind ?_
    refine wpAny_updateSeq g8 rfl (wpAny_bind (wpAny_letGo (wpAny_pure ?_)))
    refine hQ _ _ _ ⟨tz, by rw [ez]⟩ fun b o e => ?_
    have lt := b1 b o e
    have key : ∀ n : Nat, n < T → n ≠ T + 1 + 1 ∧ n ≠ T + 1 := fun n h => by omega
    refine ((Heap.SameBut.update h8 (T + 1 + 1) (Obj.mapSeq fun _ => (#[] : Array Value))).2 b (key b lt).1).trans (k8 b o ?_ (o7 b o lt e))
    show b ∉ [T + 1]
    rw [List.mem_singleton]
    exact (key b lt).2
  have old6b : ∀ b o, b < T → s.heap.get? b = some o → h6.get? b = some o := fun b o lt e => old6 b o (by omega) (old5 b o (by omega) (by omega) (old b o e))
  have gT6 := old6 _ _ nIT (old5 _ _ nIT nTS gT3)
  have key : ∀ n : Nat, n < T → n ≠ T + 1 + 1 := fun n h => by omega
  by_cases hb : (y.length : Int) > x.length
  · rw [if_pos (show (fun i j : Nat => decide ((if i = 0 then (x.length : Int) else y.length) > (if j = 0 then (x.length : Int) else y.length))) 1 0 = true from decide_eq_true hb)]
    refine wpAny_bind ?_
    refine wpAny_updateSeq gS6 rfl (wpAny_bind (wpAny_letGo ?_))
    rw [hname]
    have u7 := Heap.SameBut.update h6 (T + 1 + 1) (Obj.mapSeq fun _ => #[Value.str y ty, .int y.length (tk6 + 1)])
    refine wpAny_pure ⟨plainId_quiet PySem.F.plain_max_loop _, fin y ty _ _ _ _ ?_ (get?_update_seq gS6 fun _ => #[Value.str y ty, .int y.length (tk6 + 1)]) ⟨oI6, (u7.2 _ nIS.symm).trans gI6, cI6, dI6⟩ ((u7.2 _ nTS).trans gT6) fun b o lt e => (u7.2 b (key b lt)).trans (old6b b o lt e)⟩
    rw [if_pos (by omega)]
  · rw [if_neg (show ¬ (fun i j : Nat => decide ((if i = 0 then (x.length : Int) else y.length) > (if j = 0 then (x.length : Int) else y.length))) 1 0 = true from fun z => hb (of_decide_eq_true z))]
    refine wpAny_bind (wpAny_letGo ?_)
    rw [hname]
    refine wpAny_pure ⟨plainId_quiet PySem.F.plain_max_loop _, fin x tx _ _ _ _ ?_ gS6 ⟨oI6, gI6, cI6, dI6⟩ gT6 old6b⟩
    rw [if_neg (by omega)]
end
section
variable {X : Cx}
def tMaxLen (te tf : TE) : TE := fun σ H Q => te σ H fun x H1 => tf σ H1 fun y H2 => ∃ a b : Str, x = .str a ∧ y = .str b ∧ a.length ≤ sizeLine ∧ b.length ≤ sizeLine ∧ Q (.str (if b.length > a.length then b else a)) H2
theorem pe_maxLen {e f : Expr} {te tf : TE} {p p2 kp pos : Pos} (he : PE X e te) (hf : PE X f tf) (hc : X.calm = true) (hm : X.mg "max" = none) (hl : X.mg "len" = none) (hg : Gl X "max" := by rfl) (hgl : Gl X "len" := by rfl)
    (h1 : backTo pos (starEach [e, f] X.env) = (false, eval e X.env) :: backTo pos (starEach [f] X.env) := by rfl) (h2 : (backTo pos (starEach [e, f] X.env)).any (·.1) = false := by rfl)
    (hs : starEach [e, f] X.env = (false, eval e X.env) :: starEach [f] X.env := by rfl) (hs2 : starEach [f] X.env = (false, eval f X.env) :: starEach [] X.env := by rfl) :
    PE X (.Call (.Name "max" p) [e, f] [⟨some "key", .Name "len" p2, kp⟩] pos) (tMaxLen te tf) := by
  refine ⟨fun pins s σ H Q I h => ?_⟩
  refine wpAny_Call_Name_kw (ld_blt I hg hm (show bootBuiltins "max" = some (.builtin "max") by decide +kernel) ?_ (by decide) (by decide))
  let Q' : List V → Hp → Prop := fun vs H1 => match vs with
    | [x, y] => ∃ a b : Str, x = .str a ∧ y = .str b ∧ a.length ≤ sizeLine ∧ b.length ≤ sizeLine ∧ Q (.str (if b.length > a.length then b else a)) H1
    | _ => False
  refine PyProof.Rows.callWith_kw (thn ((pa_cons he (pa_cons hf pa_nil hs2) hs).run pos pins s σ H Q' I h) fun us s1 ⟨vs, H1, I1, r1, q1⟩ => ?_) h1 h2 (by rfl) (by rfl)
  match vs, r1, q1 with
  | [x, y], r1, ⟨a, b, ex, ey, la, lb, q⟩ =>
    subst ex
    subst ey
    obtain ⟨u, u', rfl, ⟨ta, rfl⟩, ⟨tb, rfl⟩⟩ := vals2 r1
    show wpAny _ _ (evalAll ((do let v ← eval (.Name "len" p2) X.env; standAt pos; pure v) :: [])) _ _ s1
    refine wpAny_evalAll_cons (wpAny_bind (ld_blt I1 hgl hl (show bootBuiltins "len" = some (.builtin "len") by decide +kernel) (wpAny_bind (wpAny_standAt (wpAny_pure ?_))) (by decide) (by decide)))
    refine wpAny_evalAll_nil ?_
    show wpAny _ _ (call (.builtin "max") [.str a ta, .str b tb] [(Str.ofString "key", .builtin "len")]) _ _ s1
    refine max_len2 (I1.ok.hd hc) la lb fun v h' tk ⟨t, ev⟩ kp => ⟨_, H1, I1.kept (t' := tk) kp, ?_, q⟩
    rw [ev]
    exact ⟨_, rfl⟩
end
end Lk
/-! SrtK0 -/
set_option Elab.async false
set_option maxRecDepth 100000
set_option linter.all false
set_option maxHeartbeats 4000000
namespace Lk
open PySem PySem.Spec PyProof.Rows L2
/-! ### sorted(d), d a dict whose keys are texts, of any size -/
def rSortedK : List V → Hp → VK → Prop := fun xs H Q => ∃ (a : Addr) (kvs : List (Key × V)) (ks : List Str), xs = [.ref a] ∧ H a = some (.dK kvs) ∧ kvs.map (·.1) = ks.map Sum.inr ∧ ks.length ≤ 1000000 ∧ ∀ p, H p = none → Q (.ref p) (upd H p (.lst ((ks.mergeSort leT).map V.str)))
section
variable {X : Cx}
theorem call_sortedK (hcalm : X.calm = true) (hu : X.A.units + 64 < cLine) : CallR X (.builtin "sorted") rSortedK := by
  intro pins s σ H xs us Q I r q
  obtain ⟨a, kvs, ks, ex, hd, hks, few, q⟩ := q
  subst ex
  obtain ⟨u, eu, rx⟩ := vals1 r
  subst eu
  cases rx
  obtain ⟨z, lo, vs, rel, dd⟩ := dk_rd I.hok (.inl hd)
  obtain ⟨ep, hat⟩ := dd.dictAt
  have hkeys : vs.map (·.1) = ks.map Sum.inr := rel.keys.symm.trans hks
  have hl : vs.length = ks.length := by
    have e := congrArg List.length hkeys
    rw [List.length_map, List.length_map] at e
    exact e
  have h16 : vs.length ≤ sizeLine := by rw [hl, sizeLine_eq]; omega
  refine Calls.call_function_entry PyProof.Rows.kind_sorted PyProof.Rows.plain_sorted PyProof.Rows.entry_sorted (PyProof.Rows.args_sorted1 _) ?_
  unfold Builtin.«sorted»
  refine wpAny_bind (m := checkCount "sorted" 1 1 _) (wpAny_pure ?_)
  refine wpAny_bind (PySem.W.kdu_collect (A := X.A.in1) (PySem.W.kdl_dict (knd := mixKind X.prog X.w) (kvs := vs) (ep := ep) lo) (I.ok.hd hcalm) hat h16 fun h' tk acc hk hacc => ?_)
  have hal : acc.toList.length = ks.length := by rw [Array.length_toList, hacc.1, hl]
  have hS : StrsAre acc.toList ks := strs_at hal fun j v e => by
    obtain ⟨k, x, e1, e2⟩ := hacc.2 j v (by rw [← Array.getElem?_toList]; exact e)
    have e3 : (vs.map (·.1))[j]? = some k := by rw [List.getElem?_map, e1]; all_goals rfl
    rw [hkeys, List.getElem?_map] at e3
    cases e4 : ks[j]? with
    | none => rw [e4] at e3; cases e3
    | some y =>
      rw [e4] at e3
      have e5 : Sum.inr y = k := Option.some.inj e3
      subst e5
      obtain ⟨t, ev⟩ := Value.isStrOf_shape (x := y) (v := v) e2
      exact ⟨y, t, rfl, ev⟩
  have I1 : Inv X pins σ H { s with heap := h', toks := tk } := I.kept hk
  have hvl : acc.toList.length ≤ sizeLine := by rw [hal, sizeLine_eq]; omega
  refine wpAny_bind (wpAny_newList ?_ hvl)
  have hoL : (h'.push (seqObj "list" acc.toList.toArray 0)).get? h'.objs.size = some (seqObj "list" acc.toList.toArray 0) := Heap.get?_push_size _ rfl
  show wpAny _ _ _ _ _ { s with heap := h'.push (seqObj "list" acc.toList.toArray 0), toks := tk }
  have ev : ∀ {l : List Value} {ys : List Str}, StrsAre l ys → PySem.W.EachIs (fun v x => ∃ t, v = Value.str x t) l ys := fun {l ys} h => by
    induction h with
    | nil => exact .nil
    | cons x t _ ih => exact .cons ⟨t, rfl⟩ ih
  have er : ∀ {l : List Value} {ys : List Str} {h : Heap} {p : Addr}, StrsAre l ys → PySem.W.EachIs (fun v x => ∃ as, Reads h v (.str x) as ∧ p ∉ as) l ys := fun {l ys h p} hh => by
    induction hh with
    | nil => exact .nil
    | cons x t _ ih => exact .cons ⟨[], Reads.str _ t, fun h => nomatch h⟩ ih
  refine wpAny_bind (wpAny_holding (PySem.W.list_sort_data (enc := PyData.str) (s := { s with heap := h'.push (seqObj "list" acc.toList.toArray 0), toks := tk }) hoL (ev hS) (er hS) (PySem.W.AllAlike.of fun _ _ => rfl) (PySem.W.Sortable.others fun _ => ⟨(fun z => nomatch z), (fun _ z => nomatch z)⟩) (by rw [← hal]; exact hvl) (fun _ _ => by show X.A.in1.units + 1 + 0 < cLine; simp; omega) fun out len eo => ?_))
  rw [leT_data] at eo
  obtain ⟨c, hc⟩ := sortedHeap_at (vs := acc.toList) (out := out.toArray) hoL
  have hn : H h'.objs.size = none := I1.hok.fresh (Nat.le_refl _)
  have hlen : ((ks.mergeSort leT).map V.str).length ≤ sizeLine := by
    rw [List.length_map, (List.mergeSort_perm ks leT).length_eq, sizeLine_eq]
    omega
  refine wpAny_pure ⟨_, rfl, .ref h'.objs.size, upd H h'.objs.size (.lst ((ks.mergeSort leT).map V.str)), I1.laid (t' := tk) (fun b u e => ?_) (Nat.le_refl _) ⟨hlen, out, c, vals_each eo, hc⟩, rfl, q _ hn⟩
  have hb : b < h'.objs.size := Heap.lt_size e
  rw [PyProof.Rows.sortedHeap_old (Nat.ne_of_lt hb) (by rw [size_push']; exact Nat.lt_succ_of_lt hb)]
  exact Heap.get?_push_of_some _ e
end
end Lk
/-! InD0 -/
set_option Elab.async false
set_option maxRecDepth 100000
set_option linter.all false
set_option maxHeartbeats 4000000
namespace Lk
open PySem PySem.Spec PyProof.Rows L2
/-! ### x in t, t a tuple of data of any depth -/
def rInT (K : PySem.W.Frag) : R2 := fun x y H Q => ∃ d ds, Dp K H x d ∧ Dp K H y (.tuple ds) ∧ SeqAt.shaped d = true ∧ SeqAt.shaped (.tuple ds) = true ∧ Q (.bl (ds.any fun z => PyData.eqv z d)) H
section
variable {X : Cx}
theorem op_inT (hu : X.A.units + 65 < cLine) : OpR X (compareOp .In) (rInT X.K) := by
  intro pins s σ H x y v u Q I rx ry h
  obtain ⟨d, ds, hd, he, sd, se, q⟩ := h
  obtain ⟨as, r1⟩ := Dp.reads I d x v hd rx
  obtain ⟨bs, r2⟩ := Dp.reads I (.tuple ds) y u he ry
  exact SeqAt.in_tuple_reads r2 r1 (SeqAt.canLay_of_shaped se) (SeqAt.canLay_of_shaped sd) (room_in_shaped sd hu) ⟨.bl _, H, I, rfl, q⟩
end
end Lk
/-! MaxD0 -/
set_option Elab.async false
set_option maxRecDepth 100000
set_option linter.all false
set_option maxHeartbeats 4000000
namespace Lk
open PySem PySem.Spec PyProof.Rows L2
/-! ### max(xs, default=i), xs a list of ints -/
def mxI (d : Int) : List Int → Int
  | [] => d
  | n :: ns => ns.foldl max n
theorem reads_ints {h : Heap} : ∀ {ns : List Int} {us : List Value}, Vals (ns.map V.int) us → ReadsAll h us (ns.map PyData.int) []
  | [], _, .nil => .nil
  | n :: ns, _, .cons r t => by
    obtain ⟨tk, rfl⟩ := r
    exact .cons (as := []) (bs := []) (.int _ _) (reads_ints t)
theorem alike_ints2 (ns : List Int) : PySem.W.AlikeAll (ns.map PyData.int) := by
  refine ⟨fun a ma b mb => ?_, fun a ma => ?_⟩
  · obtain ⟨i, _, rfl⟩ := List.mem_map.mp ma
    obtain ⟨j, _, rfl⟩ := List.mem_map.mp mb
    rfl
  · obtain ⟨i, _, rfl⟩ := List.mem_map.mp ma
    exact fun z => nomatch z
theorem depth_ints : ∀ ns : List Int, PyData.depthAll (ns.map PyData.int) = 0
  | [] => rfl
  | n :: ns => by
    show max (PyData.int n).depth (PyData.depthAll (ns.map PyData.int)) = 0
    rw [depth_ints ns]
    rfl
section
variable {X : Cx}
def tMaxD (K : PySem.W.Frag) (d : Int) (te : TE) : TE := fun σ H Q => te σ H fun x H1 => ∃ (l : Addr) (ns : List Int), x = .ref l ∧ SqL K H1 l (ns.map V.int) ∧ Q (.int (mxI d ns)) H1
theorem pe_maxD {e : Expr} {d : Int} {j : Nat} {te : TE} {p p2 kp pos : Pos} (he : PE X e te) (hc : X.calm = true) (hu : X.A.units + 64 < cLine) (hm : X.mg "max" = none) (hg : Gl X "max" := by rfl)
    (h1 : backTo pos (starEach [e] X.env) = (false, eval e X.env) :: backTo pos (starEach [] X.env) := by rfl) (h2 : (backTo pos (starEach [e] X.env)).any (·.1) = false := by rfl)
    (hs : starEach [e] X.env = (false, eval e X.env) :: starEach [] X.env := by rfl) :
    PE X (.Call (.Name "max" p) [e] [⟨some "default", .Constant (.int d) j p2, kp⟩] pos) (tMaxD X.K d te) := by
  refine ⟨fun pins s σ H Q I h => ?_⟩
  refine wpAny_Call_Name_kw (ld_blt I hg hm (show bootBuiltins "max" = some (.builtin "max") by decide +kernel) ?_ (by decide) (by decide))
  let Q' : List V → Hp → Prop := fun vs H1 => match vs with
    | [x] => ∃ (l : Addr) (ns : List Int), x = .ref l ∧ SqL X.K H1 l (ns.map V.int) ∧ Q (.int (mxI d ns)) H1
    | _ => False
  refine PyProof.Rows.callWith_kw (thn ((pa_cons he pa_nil hs).run pos pins s σ H Q' I h) fun us s1 ⟨vs, H1, I1, r1, q1⟩ => ?_) h1 h2 (by rfl) (by rfl)
  match vs, r1, q1 with
  | [x], r1, ⟨l, ns, ex, hl, q⟩ =>
    subst ex
    obtain ⟨u, rfl, rx⟩ := vals1 r1
    cases rx
    show wpAny _ _ (evalAll ((do let v ← eval (.Constant (.int d) j p2) X.env; standAt pos; pure v) :: [])) _ _ s1
    refine wpAny_evalAll_cons (wpAny_bind (wpAny_Constant_int (wpAny_bind (wpAny_standAt (wpAny_pure ?_)))))
    refine wpAny_evalAll_nil ?_
    obtain ⟨its, rv, pl, hz⟩ := I1.list hl
    generalize hs1 : s1.toks + 1 = t1
    show wpAny _ _ (call (.builtin "max") [.ref l] [(Str.ofString "default", .int d _)]) _ _ { s1 with toks := _ }
    refine PySem.W.max_list_default (s := { s1 with toks := _ }) (I1.ok.hd hc) pl.isList (by simpa using reads_ints rv) (alike_ints2 ns) (by rw [depth_ints]; omega) (fun en h' tk kp => ?_) fun y ys i v h' tk bs en _ rd kp => ?_
    · have e0 : ns = [] := List.map_eq_nil_iff.mp en
      subst e0
      exact ⟨.int _, H1, I1.kept (t' := tk) kp, ⟨_, rfl⟩, q⟩
    · match ns, en with
      | n :: ns, en =>
        obtain ⟨rfl, rfl⟩ := List.cons.inj en
        rw [PySem.W.maxD_ints] at rd
        cases rd
        exact ⟨.int _, H1, I1.kept (t' := tk) kp, ⟨_, rfl⟩, q⟩
end
end Lk
/-! Lc20 -/
set_option Elab.async false
set_option maxRecDepth 100000
set_option linter.all false
set_option maxHeartbeats 4000000
namespace Lk
open PySem PySem.Spec PyProof.Rows L2
/-! ### a comprehension with two clauses: over a list, then over a tuple -/
/-- the inner round: over a tuple, from where the outer one stands -/
def InW (J : It) (g : TG) (tt : TT) (te : TE) (vs : List Nat) (σ2 : L2.St) (D : Addr) (Nx : Hp → Prop) (H4 : Hp) : Prop := ∃ W1 : Nat → Nat → Hp → Prop, (∃ m, W1 0 m H4) ∧ ∀ j k H, W1 j k H →
      (J.stop j H ∧ Nx H) ∨ (J.go j H ∧ ∃ Nx1 : Hp → Prop, (∀ H', Nx1 H' → ∃ k', k' < k ∧ W1 (j + 1) k' H') ∧ ∀ x H', J.yld j H x H' → g x (wipe σ2 vs) H' fun σ3 H5 => wipe σ3 vs = wipe σ2 vs ∧ tt σ3 H5 fun b H6 =>
        if b = true then te σ3 H6 fun y H7 => ∃ acc, H7 D = some (.lst acc) ∧ acc.length < sizeLine ∧ Nx1 (upd H7 D (.lst (acc ++ [y]))) else Nx1 H6)
theorem in_tup {K : PySem.W.Frag} {a : Addr} {xs : List V} {g : TG} {tt : TT} {te : TE} {vs : List Nat} {σ2 : L2.St} {D : Addr} {Nx : Hp → Prop} {H4 : Hp} (Pv : Nat → Hp → Prop) (h0 : Pv 0 H4) (hl : ∀ i H, i ≤ xs.length → Pv i H → SqT K H a xs)
    (hs : ∀ i x H, xs[i]? = some x → Pv i H → g x (wipe σ2 vs) H fun σ3 H2 => wipe σ3 vs = wipe σ2 vs ∧ tt σ3 H2 fun b H3 =>
      if b = true then te σ3 H3 fun y H4 => ∃ acc, H4 D = some (.lst acc) ∧ acc.length < sizeLine ∧ Pv (i + 1) (upd H4 D (.lst (acc ++ [y]))) else Pv (i + 1) H3) (hd : ∀ H, Pv xs.length H → Nx H) :
    InW (Itt K a) g tt te vs σ2 D Nx H4 := by
  refine ⟨fun i m H => m = xs.length - i ∧ i ≤ xs.length ∧ Pv i H, ⟨xs.length, by simp, Nat.zero_le _, h0⟩, ?_⟩
  rintro i m H ⟨rfl, hi, p⟩
  have q := hl i H hi p
  by_cases hlt : i < xs.length
  · refine .inr ⟨⟨xs, xs[i], q, by simp [hlt]⟩, Pv (i + 1), fun H' p' => ⟨xs.length - (i + 1), by omega, rfl, hlt, p'⟩, fun x H' y => ?_⟩
    obtain ⟨e, y⟩ := y
    subst e
    exact hs i x _ (y xs q) p
  · have e : i = xs.length := by omega
    subst e
    exact .inl ⟨⟨xs, q, Nat.le_refl _⟩, hd H p⟩
theorem lc2_list {K : PySem.W.Frag} {a : Addr} {xs : List V} {g g1 : TG} {tt tt1 : TT} {wi1 : TI} {te : TE} {vs vs1 : List Nat} {σ : L2.St} {H1 : Hp} {D : Addr} {Qd : Hp → Prop} (Pv : Nat → Hp → Prop) (h0 : Pv 0 (upd H1 D (.lst []))) (hl : ∀ i H, i ≤ xs.length → Pv i H → SqL K H a xs)
    (hs : ∀ i x H, xs[i]? = some x → Pv i H → g x (wipe σ vs) H fun σ2 H2 => wipe σ2 vs = wipe σ vs ∧ tt σ2 H2 fun b H3 =>
      if b = true then wi1 σ2 H3 fun J1 H4 => InW J1 g1 tt1 te vs1 σ2 D (Pv (i + 1)) H4 else Pv (i + 1) H3) (hd : ∀ H, Pv xs.length H → Qd H) :
    ∃ W : Nat → Nat → Hp → Prop, (∃ m, W 0 m (upd H1 D (.lst []))) ∧ ∀ i m H, W i m H →
      ((Itl K a).stop i H ∧ Qd H) ∨ ((Itl K a).go i H ∧ ∃ Nx : Hp → Prop, (∀ H', Nx H' → ∃ m', m' < m ∧ W (i + 1) m' H') ∧ ∀ x H', (Itl K a).yld i H x H' → g x (wipe σ vs) H' fun σ2 H2 => wipe σ2 vs = wipe σ vs ∧ tt σ2 H2 fun b H3 =>
        if b = true then wi1 σ2 H3 fun J1 H4 => ∃ W1 : Nat → Nat → Hp → Prop, (∃ m, W1 0 m H4) ∧ ∀ j k H, W1 j k H →
          (J1.stop j H ∧ Nx H) ∨ (J1.go j H ∧ ∃ Nx1 : Hp → Prop, (∀ H', Nx1 H' → ∃ k', k' < k ∧ W1 (j + 1) k' H') ∧ ∀ x H', J1.yld j H x H' → g1 x (wipe σ2 vs1) H' fun σ3 H5 => wipe σ3 vs1 = wipe σ2 vs1 ∧ tt1 σ3 H5 fun b H6 =>
            if b = true then te σ3 H6 fun y H7 => ∃ acc, H7 D = some (.lst acc) ∧ acc.length < sizeLine ∧ Nx1 (upd H7 D (.lst (acc ++ [y]))) else Nx1 H6)
        else Nx H3) := by
  refine ⟨fun i m H => m = xs.length - i ∧ i ≤ xs.length ∧ Pv i H, ⟨xs.length, by simp, Nat.zero_le _, h0⟩, ?_⟩
  rintro i m H ⟨rfl, hi, p⟩
  have q := hl i H hi p
  by_cases hlt : i < xs.length
  · refine .inr ⟨⟨xs, xs[i], q, by simp [hlt]⟩, Pv (i + 1), fun H' p' => ⟨xs.length - (i + 1), by omega, rfl, hlt, p'⟩, fun x H' y => ?_⟩
    obtain ⟨e, y⟩ := y
    subst e
    exact hs i x _ (y xs q) p
  · have e : i = xs.length := by omega
    subst e
    exact .inl ⟨⟨xs, q, Nat.le_refl _⟩, hd H p⟩
end Lk
/-! Rep0 -/
set_option Elab.async false
set_option maxRecDepth 100000
set_option linter.all false
set_option maxHeartbeats 4000000
namespace Lk
open PySem PySem.Spec PyProof.Rows L2
/-! ### text * int, from 0 on -/
def rStrRep0 : R2 := fun x y H Q => ∃ (a : Str) (k : Nat), x = .str a ∧ y = .int (k : Int) ∧ k ≤ 5000 ∧ a.length ≤ 1000 ∧ ∀ z : Str, TL.tl z = (List.replicate k (TL.tl a)).flatten → Q (.str z) H
theorem op_strRep0 {X : Cx} : OpR X (binaryOp .Mult) rStrRep0 := by
  intro pins s σ H x y v u Q I rx ry h
  obtain ⟨a, k, rfl, rfl, k2, ha, q⟩ := h
  by_cases h0 : k = 0
  · subst h0
    obtain ⟨t, rfl⟩ := rx
    obtain ⟨t', rfl⟩ := ry
    exact PySem.P.mul_str_none (by decide) (by decide) ⟨.str Str.empty, H, I.tok _, ⟨_, rfl⟩, q _ rfl⟩
  · exact op_strRep1 pins s σ H _ _ v u Q I rx ry ⟨a, k, rfl, rfl, by omega, k2, ha, q⟩
/-! ### data that repr shows: tuples of such -/
structure Pl (k : Nat) (d : PyData) : Prop where
  sh : d.showable = true
  lv : d.leavesShort 13 = true
  dp : d.depth ≤ k
  hd : d.hasDict = false
theorem pl_all {k : Nat} : ∀ {ds : List PyData}, (∀ d ∈ ds, Pl k d) → PyData.showableAll ds = true ∧ PyData.leavesShortAll 13 ds = true ∧ PyData.depthAll ds ≤ k ∧ PyData.hasDictAll ds = false
  | [], _ => ⟨rfl, rfl, Nat.zero_le _, rfl⟩
  | d :: ds, h => by
    obtain ⟨a, b, c, e⟩ := pl_all fun x m => h x (List.mem_cons_of_mem _ m)
    have q := h d List.mem_cons_self
    refine ⟨?_, ?_, ?_, ?_⟩
    · rw [PyData.showableAll, q.sh, a]
      rfl
    · rw [PyData.leavesShortAll, q.lv, b]
      rfl
    · rw [PyData.depthAll]
      have z := q.dp
      omega
    · rw [PyData.hasDictAll, q.hd, e]
      rfl
theorem pl_tup {k : Nat} {ds : List PyData} (h : ∀ d ∈ ds, Pl k d) : Pl (k + 1) (.tuple ds) := by
  obtain ⟨a, b, c, e⟩ := pl_all h
  refine ⟨?_, ?_, ?_, ?_⟩
  · rw [PyData.showable]
    exact a
  · rw [PyData.leavesShort]
    exact b
  · rw [PyData.depth]
    omega
  · rw [PyData.hasDict]
    exact e
theorem Pl.le {k j : Nat} {d : PyData} (h : Pl k d) (le : k ≤ j) : Pl j d := ⟨h.sh, h.lv, Nat.le_trans h.dp le, h.hd⟩
end Lk
/-! Clr1 -/
set_option Elab.async false
set_option maxRecDepth 100000
set_option linter.all false
set_option maxHeartbeats 4000000
namespace Lk
open PySem PySem.Spec PyProof.Rows L2
/-! ### repr of a tuple of whatever many things -/
inductive ClrAll (K : PySem.W.Frag) (H : Hp) : List V → List PyData → Prop
  | nil : ClrAll K H [] []
  | cons {v : V} {d : PyData} {vs : List V} {ds : List PyData} : Clr K H v d → ClrAll K H vs ds → ClrAll K H (v :: vs) (d :: ds)
theorem ClrAll.same {K : PySem.W.Frag} {H H' : Hp} (s : Same H H') : ∀ {vs : List V} {ds : List PyData}, ClrAll K H vs ds → ClrAll K H' vs ds
  | _, _, .nil => .nil
  | _, _, .cons h t => .cons (h.same s) (t.same s)
section
variable {X : Cx} {pins : List (Addr × Obj)} {σ : L2.St} {H : Hp} {s : Shared}
theorem clrAll_reads (I : Inv X pins σ H s) : ∀ {vs : List V} {ds : List PyData}, ClrAll X.K H vs ds → ∀ us, Vals vs us → ∃ as, ReadsAll s.heap us ds as ∧ sysModules ∉ as
  | _, _, .nil, us, r => by
    cases r
    exact ⟨_, ReadsAll.nil, fun h => nomatch h⟩
  | _ :: _, _, .cons h t, us, r => by
    cases r with
    | cons r1 r2 =>
      obtain ⟨as, a1, a2⟩ := clr_reads I h _ r1
      obtain ⟨bs, c1, c2⟩ := clrAll_reads I t _ r2
      exact ⟨_, ReadsAll.cons a1 c1, fun m => (List.mem_append.mp m).elim a2 c2⟩
def rReprE (K : PySem.W.Frag) : List V → Hp → VK → Prop := fun xs H Q => ∃ (q : Addr) (vs : List V) (ds : List PyData), xs = [.ref q] ∧ SqT K H q vs ∧ ThAll K H vs ds ∧ Wf0 (.tuple ds) ∧ ((PyData.tuple ds).hasDict = true → ClrAll K H vs ds) ∧ Q (.str (PyData.tuple ds).shown) H
theorem call_reprE (hg : X.A.guards = some []) (hu : X.A.units + 64 < cLine) : CallR X (.builtin "repr") (rReprE X.K) := by
  intro pins s σ H xs us Q I r h
  obtain ⟨a, vs, ds, rfl, hq, ht, hw, hc, q⟩ := h
  cases r with
  | cons r1 rr =>
    cases rr
    have hz : (PyData.tuple ds).shown.length ≤ sizeLine := PyData.shown_fits_bulk (B := 13) (by decide) (by decide) hw.lv (Nat.le_trans hw.bk (by decide))
    have done : ∀ (h' : Heap) (u tk : Nat), (∀ b o, s.heap.get? b = some o → h'.get? b = some o) → EP X pins σ Q (.str (PyData.tuple ds).shown u) { s with heap := h', toks := tk } := fun h' u tk k =>
      ⟨.str (PyData.tuple ds).shown, H, I.kept (t' := tk) k, ⟨u, rfl⟩, q⟩
    have hd := hw.dp
    by_cases e : (PyData.tuple ds).hasDict = true
    · cases r1
      obtain ⟨its, rv, ⟨o, ho, hk, n, hdt⟩, _⟩ := I.tuple hq
      obtain ⟨as, hr, hm⟩ := clrAll_reads I (hc e) _ rv
      exact repr_of_reads' (.tuple ho hk hdt hr) hw.sh (fun _ => hm) hg (by omega) (fun _ _ z => z) (fun h' u tk k => done h' u tk k) hz
    · obtain ⟨as, hr, _⟩ := th_reads I (.tup hq ht) _ r1
      cases r1
      exact repr_of_reads' hr hw.sh (fun z => absurd z e) hg (by omega) (fun _ _ z => z) (fun h' u tk k => done h' u tk k) hz
end
end Lk
/-! Eq0 -/
set_option Elab.async false
set_option maxRecDepth 100000
set_option linter.all false
set_option maxHeartbeats 4000000
namespace PySem
open PySem.SeqAt
end PySem
namespace PySem
open PySem.SeqAt
end PySem
/-! K36t -/
set_option Elab.async false
set_option linter.all false
set_option maxRecDepth 100000
set_option maxHeartbeats 4000000
namespace Lk
open PySem PySem.Spec PyProof.Rows L2
def top (i : Nat) : Stmt := PySem.Challenge.pw_stemrules_k36_tables_refused.main.body.getD i (.Pass ⟨0, 0, 0, 0⟩)
abbrev s_p__wall : Stmt := top 0
abbrev s_p_is_name : Stmt := top 11
abbrev s_p_is_pattern : Stmt := top 12
abbrev s_p_is_end : Stmt := top 13
abbrev s_p_need_name : Stmt := top 14
abbrev s_p_stem_within : Stmt := top 15
abbrev s_p_filled : Stmt := top 16
abbrev s_p_ascending : Stmt := top 17
abbrev s_p_is_rule : Stmt := top 24
abbrev s_p_is_label : Stmt := top 25
abbrev s_p_are_sources : Stmt := top 26
abbrev s_p_is_rule_source : Stmt := top 27
abbrev s_p_is_book : Stmt := top 28
abbrev s_p_are_files : Stmt := top 29
abbrev s_p_fitted : Stmt := top 30
abbrev s_p_need_book : Stmt := top 31
abbrev s_p_need_files : Stmt := top 32
abbrev s_p_need_things : Stmt := top 33
abbrev s_p_is_number_in : Stmt := top 34
abbrev s_p_table : Stmt := top 37
abbrev s_p_row_for : Stmt := top 38
abbrev s_p_parting : Stmt := top 39
abbrev s_p_lean : Stmt := top 40
abbrev s_p_open_ways : Stmt := top 41
abbrev s_p_choices : Stmt := top 42
abbrev s_p_joined : Stmt := top 43
abbrev s_p_need_few : Stmt := top 44
abbrev s_p_meeting : Stmt := top 45
abbrev s_p_together : Stmt := top 46
abbrev s_p_one_begins : Stmt := top 47
abbrev s_p_one_ends : Stmt := top 48
abbrev s_p_ahead : Stmt := top 49
abbrev s_p_widened : Stmt := top 50
abbrev s_p_different : Stmt := top 51
abbrev s_p_source_text : Stmt := top 52
abbrev s_p_row_text : Stmt := top 53
abbrev s_p_lies_under : Stmt := top 54
abbrev s_p_parted : Stmt := top 55
abbrev s_p_block : Stmt := top 58
abbrev s_p_shows_block : Stmt := top 59
abbrev s_p_with_one_more : Stmt := top 60
abbrev s_p_rows_behind : Stmt := top 61
abbrev s_p_is_row : Stmt := top 62
abbrev s_p_holds_out : Stmt := top 63
abbrev s_kneaded : Stmt := top 65
abbrev s_pot_of : Stmt := top 66
abbrev s_below : Stmt := top 67
abbrev s_pick : Stmt := top 68
abbrev s_some_name : Stmt := top 69
abbrev s_whole : Stmt := top 72
abbrev s_some_source : Stmt := top 73
abbrev s_some_rule : Stmt := top 74
abbrev s_some_book : Stmt := top 75
abbrev s_do : Stmt := top 77
abbrev s_word : Stmt := top 78
abbrev s_edge_right : Stmt := top 79
abbrev s_law : Stmt := top 80
abbrev s_Search_init : Stmt := L2.inClass (top 57) 0
abbrev s_Search_told : Stmt := L2.inClass (top 57) 1
abbrev s_Search_forget : Stmt := L2.inClass (top 57) 2
abbrev s_Search_first_right : Stmt := L2.inClass (top 57) 3
abbrev s_Search_missing : Stmt := L2.inClass (top 57) 4
end Lk
/-! K36s -/
set_option Elab.async false
set_option linter.all false
set_option maxRecDepth 100000
set_option maxHeartbeats 4000000
namespace Lk
open PySem PySem.Spec PyProof.Rows L2
section
variable {P : Program} {w : World} {K : PySem.W.Frag} {mg : Str → Option Value} {base : Heap}
def spSW (K : PySem.W.Frag) : Sp := fun vs H Q _ => ∃ (q : Addr) (b e z : Str), vs = [.ref q, .str z] ∧ SqT K H q [.str b, .str e] ∧ (∀ c ∈ TL.tl b, upB c = true) ∧ (∀ c ∈ TL.tl e, loB c = true) ∧ b.length ≤ 1000000 ∧ e.length ≤ 1000000 ∧ z.length ≤ 1000000 ∧
  (∀ m : Str, TL.tl z = TL.tl b ++ TL.tl m ++ TL.tl e → Q (.str m) H) ∧ ((¬ ∃ m : Str, TL.tl z = TL.tl b ++ TL.tl m ++ TL.tl e) → Q .non H)
theorem sc_p_stem_within : FnScope ["pattern", "name", "begin", "end"] ["pattern", "name"] (defScope s_p_stem_within) := ⟨rfl, rfl, rfl, by decide +kernel, rfl, by decide +kernel, by decide +kernel⟩
theorem cal_p_stem_within (D : Def1 K mg "stem_within" s_p_stem_within) (G : Glb mg) : Cal P w K mg base 1 "stem_within" (spSW K) := by
  refine mkCal D sc_p_stem_within (fun _ _ _ _ _ _ us hl => match us, hl with | [_, _], _ => rfl) (fun vs H Q E h => ?_) (fun f cdv A outer s H vs Q E hr h => ?_)
  · obtain ⟨q, b, e, z, rfl, _⟩ := h
    rfl
  · obtain ⟨q, b, e, z, rfl, hq, hb, he, lb, le, lz, yes, no⟩ := h
    refine ⟨_, pss_cons (ps_asg (pv 0) (pg_tup rfl (pgs_cons (pg_name (i := 2) sc_p_stem_within.nd rfl (.inl rfl)) (pgs_cons (pg_name (i := 3) sc_p_stem_within.nd rfl (.inl rfl)) pgs_nil))))
      (pss_cons (ps_if (PW.pt (pw_and (pt_val (pe_m1 PySem.F.slot_str_startswith PySem.F.type_str_startswith mt_startswith (pv 1) (pv 2))) (pw_and1 (pt_val (pe_m1 PySem.F.slot_str_endswith PySem.F.type_str_endswith mt_endswith (pv 1) (pv 3))))))
        (pss_one (ps_ret (pe_slice sl_str (pv 1) (po_some (pe_callB call_len_str (by rfl) G.len PySem.boot_len (pa_cons (pv 2) pa_nil))) (po_some (pe_op op_sub (pe_callB call_len_str (by rfl) G.len PySem.boot_len (pa_cons (pv 1) pa_nil)) (pe_callB call_len_str (by rfl) G.len PySem.boot_len (pa_cons (pv 3) pa_nil))))))) pss_nil)
      (pss_one (ps_ret pe_non))), ?_⟩
    have big : ∀ n : Nat, n ≤ 1000000 → n ≤ sizeLine := fun n h => Nat.le_trans h (by decide)
    refine ⟨_, rfl, q, _, rfl, hq, rfl, _, _, rfl, _, _, rfl, rfl, ?_⟩
    refine ⟨_, rfl, ⟨z, rfl⟩, _, rfl, z, b, rfl, rfl, _, rfl, ?_⟩
    by_cases hs : Txt.startswith z b = true
    · refine iteT' hs ⟨_, rfl, ⟨z, rfl⟩, _, rfl, z, e, rfl, rfl, _, rfl, ?_⟩
      by_cases hn : Txt.endswith z e = true
      · refine iteT' hn ?_
        obtain ⟨m, hm⟩ := mid_of hb he (starts_tl.mp hs) (ends_tl.mp hn)
        refine ⟨_, rfl, _, rfl, b, rfl, big _ lb, _, rfl, _, rfl, z, rfl, big _ lz, _, rfl, e, rfl, big _ le, _, _, rfl, rfl, _, rfl, z, rfl, big _ lz, yes _ ?_⟩
        have c := cut_mid hm
        rw [← TL.len_tl, ← TL.len_tl] at c
        rw [c]
        exact hm
      · refine iteF' (Bool.eq_false_iff.mpr hn) (no ?_)
        rintro ⟨m, hm⟩
        exact hn (ends_tl.mpr ⟨_, hm⟩)
    · refine iteF' (Bool.eq_false_iff.mpr hs) ?_
      refine iteF (no ?_)
      rintro ⟨m, hm⟩
      exact hs (starts_tl.mpr ⟨TL.tl m ++ TL.tl e, by rw [hm, List.append_assoc]⟩)
end
end Lk
/-! K36q -/
set_option Elab.async false
set_option linter.all false
set_option maxRecDepth 100000
set_option maxHeartbeats 4000000
namespace Lk
open PySem PySem.Spec PyProof.Rows L2
section
variable {P : Program} {w : World} {K : PySem.W.Frag} {mg : Str → Option Value} {base : Heap}
theorem sc_p_is_name : FnScope ["thing"] ["thing"] (defScope s_p_is_name) := ⟨rfl, rfl, rfl, by decide +kernel, rfl, by decide +kernel, by decide +kernel⟩
theorem cal_p_is_name (D : Def1 K mg "is_name" s_p_is_name) (T : Glc mg) : Cal P w K mg base 1 "is_name" (spIsName K) := by
  refine mkCal D sc_p_is_name (fun _ _ _ _ _ _ us hl => match us, hl with | [_], _ => rfl) (fun vs H Q E h => ?_) (fun f cdv A outer s H vs Q E hr h => ?_)
  · obtain ⟨v, d, rfl, _⟩ := h
    rfl
  · obtain ⟨v, d, rfl, ht, hb, k⟩ := h
    refine ⟨_, pss_one (ps_ret (pe_and (pe_isi (T := "str") (pv 0) T.isinst T.str (by decide +kernel)) (pe_and (pe_cmpR op_ne (pv 0) pe_str (nomark _))
      (pe_one (pe_cmpR op_eq (pe_m1 PySem.F.slot_str_lstrip PySem.F.type_str_lstrip mt_lstripChars (pe_m1 PySem.F.slot_str_lstrip PySem.F.type_str_lstrip mt_lstripChars (pv 0) (pe_con1 T.caps)) (pe_con1 T.smalls)) pe_str (nomark _)))))), ?_⟩
    refine ⟨_, rfl, v, _, _, _, _, rfl, .ty _, th_ty ht, kit_str d, _, rfl, ?_⟩
    cases e : isStr d with
    | false =>
      rw [(not_str e).1] at k
      exact iteF k
    | true =>
      obtain ⟨x, rfl, rfl⟩ := th_str ht e
      refine iteT ⟨_, rfl, rfl, _, rfl, ?_⟩
      have hx : x.length ≤ sizeLine := Nat.le_trans hb (by decide)
      have e1 : TL.tl (Txt.lstripChars (Txt.lstripChars x capS) smaS) = ((TL.tl x).dropWhile upB).dropWhile loB := by
        rw [Txt.lstripChars, tl_lstrip, Txt.lstripChars, tl_lstrip, funext cap_has, funext sma_has]
      have h2 : (Txt.lstripChars x capS).length ≤ sizeLine := by
        rw [TL.len_tl, Txt.lstripChars, tl_lstrip]
        refine Nat.le_trans ?_ hx
        rw [TL.len_tl, ← drop_tw, List.length_drop]
        omega
      refine ite2 (fun hne => ?_) (fun hne => ?_)
      · have hn : TL.tl x ≠ [] := fun z => by
          rw [tl_nil_iff.mp z] at hne
          exact absurd hne (by decide)
        refine ⟨_, rfl, ⟨x, rfl⟩, x, capS, rfl, rfl, hx, ⟨_, rfl⟩, _, smaS, rfl, rfl, h2, rfl, ?_⟩
        have e2 : decide (V.str (Txt.lstripChars (Txt.lstripChars x capS) smaS) = V.str "") = dName (.str x) := by
          rw [Bool.eq_iff_iff, decide_eq_true_iff]
          show _ ↔ (!(TL.tl x).isEmpty && ((TL.tl x).dropWhile upB).all loB) = true
          rw [V.str.injEq, ← tl_nil_iff, e1, dw_all]
          cases q : TL.tl x with
          | nil => exact absurd q hn
          | cons c r => simp
        rw [e2]
        exact k
      · have hn : x = "" := by
          apply Classical.byContradiction
          intro z
          exact hne (by rw [decide_eq_false (by rw [V.str.injEq]; exact z)]; rfl)
        subst hn
        exact k
theorem sc_p_is_end : FnScope ["thing", "letters"] ["thing", "letters"] (defScope s_p_is_end) := ⟨rfl, rfl, rfl, by decide +kernel, rfl, by decide +kernel, by decide +kernel⟩
theorem cal_p_is_end (D : Def1 K mg "is_end" s_p_is_end) (T : Glc mg) (G : Glb mg) : Cal P w K mg base 1 "is_end" (spIsEnd K) := by
  refine mkCal D sc_p_is_end (fun _ _ _ _ _ _ us hl => match us, hl with | [_, _], _ => rfl) (fun vs H Q E h => ?_) (fun f cdv A outer s H vs Q E hr h => ?_)
  · obtain ⟨v, d, L, p, rfl, _⟩ := h
    rfl
  · obtain ⟨v, d, L, p, rfl, ht, hb, hL, k⟩ := h
    refine ⟨_, pss_one (ps_ret (pe_and (pe_isi (T := "str") (pv 0) T.isinst T.str (by decide +kernel)) (pe_and (pe_cmpR op_le (pe_callB call_len_str (by rfl) G.len PySem.boot_len (pa_cons (pv 0) pa_nil)) (pe_con1 T.ends) (nomark _))
      (pe_one (pe_cmpR op_eq (pe_m1 PySem.F.slot_str_strip PySem.F.type_str_strip mt_stripChars (pv 0) (pv 1)) pe_str (nomark _)))))), ?_⟩
    refine ⟨_, rfl, v, _, _, _, _, rfl, .ty _, th_ty ht, kit_str d, _, rfl, ?_⟩
    cases e : isStr d with
    | false =>
      rw [(not_str e).2.1] at k
      exact iteF k
    | true =>
      obtain ⟨x, rfl, rfl⟩ := th_str ht e
      have hx : x.length ≤ sizeLine := Nat.le_trans hb (by decide)
      refine iteT ⟨_, rfl, x, rfl, hx, _, _, rfl, rfl, _, rfl, ?_⟩
      refine ite2 (fun hne => ?_) (fun hne => ?_)
      · have h3 : x.length ≤ 3 := by
          have := of_decide_eq_true hne
          omega
        refine ⟨_, rfl, ⟨x, rfl⟩, _, rfl, x, L, rfl, rfl, hx, rfl, ?_⟩
        have e2 : decide (V.str (Txt.stripChars x L) = V.str "") = dEnd p (.str x) := by
          rw [Bool.eq_iff_iff, decide_eq_true_iff]
          show _ ↔ (decide (x.length ≤ 3) && (TL.tl x).all p) = true
          rw [V.str.injEq, ← tl_nil_iff, Txt.stripChars, tl_strip, funext hL, decide_eq_true h3, Bool.true_and]
        rw [e2]
        exact k
      · have e2 : dEnd p (.str x) = false := by
          show (decide (x.length ≤ 3) && (TL.tl x).all p) = false
          rw [decide_eq_false (fun z => hne (decide_eq_true (by omega))), Bool.false_and]
        rw [e2] at k
        exact k
theorem sc_p_is_pattern : FnScope ["thing", "begin", "end"] ["thing"] (defScope s_p_is_pattern) := ⟨rfl, rfl, rfl, by decide +kernel, rfl, by decide +kernel, by decide +kernel⟩
theorem cal_p_is_pattern (D : Def1 K mg "is_pattern" s_p_is_pattern) (T : Glc mg) (G : Glb mg) (CE : Cal P w K mg base 1 "is_end" (spIsEnd K)) : Cal P w K mg base 2 "is_pattern" (spIsPat K) := by
  refine mkCal D sc_p_is_pattern (fun _ _ _ _ _ _ us hl => match us, hl with | [_], _ => rfl) (fun vs H Q E h => ?_) (fun f cdv A outer s H vs Q E hr h => ?_)
  · obtain ⟨v, d, rfl, _⟩ := h
    rfl
  · obtain ⟨v, d, rfl, ht, hb, k⟩ := h
    refine ⟨_, pss_cons (ps_if (PW.pt (pw_or (pt_not (pt_val (pe_isi (T := "tuple") (pv 0) T.isinst T.tuple (by decide +kernel)))) (pw_or1 (pt_cmpR op_ne (pe_callB call_len_seq (by rfl) G.len PySem.boot_len (pa_cons (pv 0) pa_nil)) pe_int (nomark _))))) (pss_one (ps_ret pe_bl)) pss_nil)
      (pss_cons (ps_asg (pv 0) (pg_tup rfl (pgs_cons (pg_name (i := 1) sc_p_is_pattern.nd rfl (.inl rfl)) (pgs_cons (pg_name (i := 2) sc_p_is_pattern.nd rfl (.inl rfl)) pgs_nil))))
      (pss_one (ps_ret (pe_and (pe_cal CE hr (by decide) (pa_cons (pv 1) (pa_cons (pe_con1 T.caps) pa_nil))) (pe_and (pe_cal CE hr (by decide) (pa_cons (pv 2) (pa_cons (pe_con1 T.smalls) pa_nil))) (pe_one (pe_cmpR op_ne (pe_op op_add_str (pv 1) (pv 2)) pe_str (nomark _)))))))), ?_⟩
    refine ⟨_, rfl, v, _, _, _, _, rfl, .ty _, th_ty ht, kit_tup d, _, rfl, ?_⟩
    cases e : isTup d with
    | false =>
      rw [not_pat e] at k
      exact iteT (iteT k)
    | true =>
      obtain ⟨a, xs, ds, rfl, rfl, hs, ha⟩ := th_tup ht e
      have hl := thAll_len ha
      refine iteF ⟨_, rfl, a, xs, rfl, .inr hs, rfl, _, rfl, ?_⟩
      refine ite2 (fun hne => ?_) (fun hne => ?_)
      · have h2 : ds.length ≠ 2 := fun z => by
          rw [hl, z] at hne
          exact absurd hne (by decide)
        rw [not_pat2 h2] at k
        exact k
      · have h2 : xs.length = 2 := by
          apply Classical.byContradiction
          intro z
          refine hne ?_
          rw [decide_eq_false (by rw [V.int.injEq]; omega)]
          rfl
        obtain ⟨b, c, db, dc, rfl, rfl, hb1, hc1⟩ := th_two ha h2
        have hbk : db.bulk ≤ 1000000 ∧ dc.bulk ≤ 1000000 := by
          simp only [PyData.bulk, PyData.bulkAll] at hb
          omega
        refine ⟨_, rfl, a, _, rfl, hs, rfl, b, [c], rfl, c, [], rfl, rfl, ?_⟩
        refine ⟨_, rfl, b, db, capS, upB, rfl, hb1, hbk.1, cap_has, _, rfl, ?_⟩
        have ep : dPat (.tuple [db, dc]) = (dEnd upB db && (dEnd loB dc && !(isE db && isE dc))) := rfl
        cases e1 : dEnd upB db with
        | false =>
          rw [ep, e1, Bool.false_and] at k
          exact iteF k
        | true =>
          refine iteT ⟨_, rfl, c, dc, smaS, loB, rfl, hc1, hbk.2, sma_has, _, rfl, ?_⟩
          cases e2 : dEnd loB dc with
          | false =>
            rw [ep, e1, e2, Bool.true_and, Bool.false_and] at k
            exact iteF k
          | true =>
            obtain ⟨x, rfl, rfl⟩ := th_str hb1 (end_str e1)
            obtain ⟨y, rfl, rfl⟩ := th_str hc1 (end_str e2)
            refine iteT ⟨_, rfl, _, rfl, x, y, rfl, rfl, ?_, rfl, ?_⟩
            · have l1 : x.length ≤ 1000000 := hbk.1
              have l2 : y.length ≤ 1000000 := hbk.2
              exact Nat.le_trans (Nat.add_le_add l1 l2) (by decide)
            · have e3 : (!decide (V.str (x ++ y) = V.str "")) = dPat (.tuple [.str x, .str y]) := by
                rw [ep, e1, e2, Bool.true_and, Bool.true_and]
                congr 1
                rw [Bool.eq_iff_iff, decide_eq_true_iff]
                show _ ↔ (decide (x = "") && decide (y = "")) = true
                rw [V.str.injEq, ← tl_nil_iff, TL.tl_append, Bool.and_eq_true, decide_eq_true_iff, decide_eq_true_iff, List.append_eq_nil_iff, tl_nil_iff, tl_nil_iff]
              rw [e3]
              exact k
end
end Lk
/-! K36a -/
set_option Elab.async false
set_option linter.all false
set_option maxRecDepth 100000
set_option maxHeartbeats 4000000
namespace Lk
open PySem PySem.Spec PyProof.Rows L2
section
variable {P : Program} {w : World} {K : PySem.W.Frag} {mg : Str → Option Value} {base : Heap}
structure Gla (mg : Str → Option Value) : Prop where
  tuple : mg "tuple" = none
  sorted : mg "sorted" = none
  set : mg "set" = none
  len : mg "len" = none
def spAsc (K : PySem.W.Frag) : Sp := fun vs H Q _ => ∃ (l : Addr) (ss : List Str), vs = [.ref l] ∧ (SqL K H l (ss.map V.str) ∨ SqT K H l (ss.map V.str)) ∧ ss.length + 1 < scanBound ∧ (∀ y ∈ ss, y.length ≤ sizeLine) ∧
  ∀ (cs : List Str) (p : Addr) (H' : Hp), Same H H' → H' p = some (.tup (cs.map V.str)) → IsAsc cs ss → Q (.ref p) H'
theorem sc_p_ascending : FnScope ["names"] ["names"] (defScope s_p_ascending) := ⟨rfl, rfl, rfl, by decide +kernel, rfl, by decide +kernel, by decide +kernel⟩
theorem cal_p_ascending (D : Def1 K mg "ascending" s_p_ascending) (T : Gla mg) : Cal P w K mg base 1 "ascending" (spAsc K) := by
  refine mkCal D sc_p_ascending (fun _ _ _ _ _ _ us hl => match us, hl with | [_], _ => rfl) (fun vs H Q E h => ?_) (fun f cdv A outer s H vs Q E hr h => ?_)
  · obtain ⟨l, ss, rfl, _⟩ := h
    rfl
  · obtain ⟨l, ss, rfl, hl, room, small, k⟩ := h
    refine ⟨_, pss_one (ps_ret (pe_callTy call_tuple_of (by rfl) T.tuple (by decide +kernel) (pa_cons (pe_sortLen (pe_callB (call_sortedS rfl hr.units) (by rfl) T.sorted (by decide +kernel) (pa_cons (pe_callTy (call_setS rfl) (by rfl) T.set (by decide +kernel) (pa_cons (pv 0) pa_nil)) pa_nil)) T.sorted T.len hr.units) pa_nil))), ?_⟩
    exact ⟨_, rfl, l, ss, rfl, hl, room, fun p us np nd mem => ⟨p, us, rfl, upd_same, fun p2 cs n2 pm pw => ⟨p2, cs, rfl, SqL.of upd_same, fun y hy => small y ((mem y).mp (pm.mem_iff.mp hy)), fun p3 n3 => ⟨p3, _, rfl, .inl ⟨SqL.of upd_same, fun t nt =>
      k _ t _ ((((same_upd np).trans (same_upd n2)).trans (same_upd n3)).trans (same_upd nt)) upd_same (asc_of nd mem pm pw)⟩⟩⟩⟩⟩
end
end Lk
/-! K36u -/
set_option Elab.async false
set_option linter.all false
set_option maxRecDepth 100000
set_option maxHeartbeats 4000000
namespace Lk
open PySem PySem.Spec PyProof.Rows L2
section
variable {P : Program} {w : World} {K : PySem.W.Frag} {mg : Str → Option Value} {base : Heap}
def spFill (K : PySem.W.Frag) : Sp := fun vs H Q _ => ∃ (v : V) (m : Str), vs = [v, .str m] ∧ m.length ≤ 1000000 ∧ ((∃ x, v = .str x ∧ Q (.str x) H) ∨ ∃ q b e, v = .ref q ∧ SqT K H q [.str b, .str e] ∧ b.length ≤ 1000000 ∧ e.length ≤ 1000000 ∧ Q (.str (b ++ m ++ e)) H)
theorem sc_p_filled : FnScope ["source", "within", "begin", "end"] ["source", "within"] (defScope s_p_filled) := ⟨rfl, rfl, rfl, by decide +kernel, rfl, by decide +kernel, by decide +kernel⟩
theorem cal_p_filled (D : Def1 K mg "filled" s_p_filled) (T : Glc mg) : Cal P w K mg base 1 "filled" (spFill K) := by
  refine mkCal D sc_p_filled (fun _ _ _ _ _ _ us hl => match us, hl with | [_, _], _ => rfl) (fun vs H Q E h => ?_) (fun f cdv A outer s H vs Q E hr h => ?_)
  · obtain ⟨v, m, rfl, _⟩ := h
    rfl
  · obtain ⟨v, m, rfl, lm, how⟩ := h
    refine ⟨_, pss_cons (ps_if (pt_val (pe_isi (T := "str") (pv 0) T.isinst T.str (by decide +kernel))) (pss_one (ps_ret (pv 0))) pss_nil)
      (pss_cons (ps_asg (pv 0) (pg_tup rfl (pgs_cons (pg_name (i := 2) sc_p_filled.nd rfl (.inl rfl)) (pgs_cons (pg_name (i := 3) sc_p_filled.nd rfl (.inl rfl)) pgs_nil))))
      (pss_one (ps_ret (pe_op op_add_str (pe_op op_add_str (pv 2) (pv 1)) (pv 3))))), ?_⟩
    have big : ∀ n : Nat, n ≤ 4000000 → n ≤ sizeLine := fun n h => Nat.le_trans h (by decide)
    rcases how with ⟨x, rfl, k⟩ | ⟨q, b, e, rfl, hq, lb, le, k⟩
    · exact ⟨_, rfl, .str x, _, _, _, _, rfl, .ty _, th_ty (.str x : Th K H (.str x) (.str x)), kit_str (.str x), _, rfl, iteT ⟨_, rfl, k⟩⟩
    · have th : Th K H (.ref q) (.tuple [.str b, .str e]) := .tup hq (.cons (.str b) (.cons (.str e) .nil))
      refine ⟨_, rfl, .ref q, _, _, _, _, rfl, .ty _, th_ty th, kit_str (.tuple [.str b, .str e]), _, rfl, iteF ?_⟩
      refine ⟨_, rfl, q, _, rfl, hq, rfl, _, _, rfl, _, _, rfl, rfl, ?_⟩
      exact ⟨_, rfl, _, rfl, b, m, rfl, rfl, big _ (by omega), _, rfl, b ++ m, e, rfl, rfl, big _ (by rw [len_add]; omega), k⟩
theorem pat_ends {b e : Str} (h : dPat (.tuple [.str b, .str e]) = true) : (∀ c ∈ TL.tl b, upB c = true) ∧ (∀ c ∈ TL.tl e, loB c = true) ∧ b.length ≤ 3 ∧ e.length ≤ 3 := by
  have h2 : (dEnd upB (.str b) && (dEnd loB (.str e) && !(isE (.str b) && isE (.str e)))) = true := h
  rw [Bool.and_eq_true, Bool.and_eq_true] at h2
  obtain ⟨h3, h4, _⟩ := h2
  have h5 : (decide (b.length ≤ 3) && (TL.tl b).all upB) = true := h3
  have h6 : (decide (e.length ≤ 3) && (TL.tl e).all loB) = true := h4
  rw [Bool.and_eq_true, decide_eq_true_eq, List.all_eq_true] at h5 h6
  exact ⟨h5.2, h6.2, h5.1, h6.1⟩
end
end Lk
/-! K36b -/
set_option Elab.async false
set_option linter.all false
set_option maxRecDepth 100000
set_option maxHeartbeats 4000000
namespace Lk
open PySem PySem.Spec PyProof.Rows L2
def sLen : PyData → Nat
  | .str x => x.length
  | _ => 0
def dLabel : PyData → Bool
  | .str x => decide (1 ≤ x.length) && (decide (x.length ≤ 8) && (TL.tl x).all loB)
  | _ => false
def dSrc1 (d : PyData) : Bool := dPat d || (dName d && decide (sLen d ≤ 6))
def dSrcs : PyData → Bool
  | .tuple ds => decide (ds.length ≤ 3) && ds.all dSrc1
  | _ => false
def dRule : PyData → Bool
  | .tuple [l, p, s] => dLabel l && (dPat p && dSrcs s)
  | _ => false
def dBook : PyData → Bool
  | .tuple ds => decide (ds.length ≤ 6) && ds.all dRule
  | _ => false
section
variable {P : Program} {w : World} {K : PySem.W.Frag} {mg : Str → Option Value} {base : Heap}
structure Glk (mg : Str → Option Value) : Prop where
  all : mg "all" = none
  label : Con1 mg "MOST_LABEL_LETTERS" (.int 8)
  name : Con1 mg "MOST_NAME_LETTERS" (.int 6)
  sources : Con1 mg "MOST_SOURCES" (.int 3)
  rules : Con1 mg "MOST_RULES" (.int 6)
def spOne (K : PySem.W.Frag) (p : PyData → Bool) : Sp := fun vs H Q _ => ∃ v d, vs = [v] ∧ Th K H v d ∧ d.bulk ≤ 1000000 ∧ Q (.bl (p d)) H
def spOneS (K : PySem.W.Frag) (p : PyData → Bool) : Sp := fun vs H Q _ => ∃ v d, vs = [v] ∧ Th K H v d ∧ d.bulk ≤ 1000000 ∧ ∀ H', Same H H' → Q (.bl (p d)) H'
theorem name_str {d : PyData} (h : dName d = true) : isStr d = true := by
  cases d with
  | str x => rfl
  | _ => cases h
theorem th_at {H : Hp} : ∀ {xs : List V} {ds : List PyData} {i : Nat} {x : V}, ThAll K H xs ds → xs[i]? = some x → ∃ d, ds[i]? = some d ∧ Th K H x d
  | _, _, _, _, .nil, h => by simp at h
  | _, _, 0, _, .cons h _, e => by
    simp at e
    subst e
    exact ⟨_, rfl, h⟩
  | _, _, i + 1, x, .cons _ tl, e => by
    obtain ⟨d, m, h⟩ := th_at (i := i) (x := x) tl (by simpa using e)
    exact ⟨d, by simpa using m, h⟩
theorem bulk_in : ∀ {ds : List PyData} {d : PyData}, d ∈ ds → d.bulk ≤ PyData.bulkAll ds
  | e :: r, d, h => by
    rw [PyData.bulkAll]
    rcases List.mem_cons.mp h with rfl | h
    · omega
    · have := bulk_in h
      omega
/-- all([f(x) for x in t]), t a tuple -/
theorem all_read {σ : L2.St} {H : Hp} {a : Addr} {xs : List V} {ds : List PyData} {p : PyData → Bool} {n iv : Nat} {te : TE} {Q : VK} (hv : σ[0]? = some (some (.ref a))) (hs : SqT K H a xs) (ha : ThAll K H xs ds) (small : ds.length ≤ 1000)
    (wp : ∀ (x : V), wipe ((wipe σ [iv]).set iv (some x)) [iv] = wipe σ [iv])
    (call : ∀ (x : V) (d : PyData) (H' : Hp) (R : VK), d ∈ ds → Th K H' x d → Same H H' → (∀ H2, Same H' H2 → R (.bl (p d)) H2) → te ((wipe σ [iv]).set iv (some x)) H' R) (k : ∀ H', Same H H' → Q (.bl (ds.all p)) H') :
    tCB (rAll K) (tCons (tLc (iTup K (tVar 0)) (gName iv) tYes te [iv]) tNil) σ H Q := by
  have hl := thAll_len ha
  refine ⟨_, hv, a, rfl, ⟨_, hs⟩, fun D nD => ?_⟩
  refine lc_tup (K := K) (a := a) (xs := xs) (fun i H' => H' D = some (.lst (((ds.take i).map p).map V.bl)) ∧ Same H H') ⟨upd_same, same_upd nD⟩ (fun i H' _ h => Same.seqT h.2 hs) ?_ ?_
  · rintro i x H' hx ⟨hD, s⟩
    obtain ⟨d, hd, th⟩ := th_at ha hx
    have hi : i < ds.length := (List.getElem?_eq_some_iff.mp hd).1
    refine ⟨wp x, call x d H' _ (List.mem_of_getElem? hd) (th_same s th) s fun H2 s2 => ⟨_, s2 _ _ hD, ?_, ?_, same_mut (s.trans s2) nD⟩⟩
    · rw [List.length_map, List.length_map, List.length_take]
      exact small1000 (by omega)
    · rw [upd_same, List.take_add_one, hd, List.map_append, List.map_append]
      rfl
  · rintro H' ⟨hD, s⟩
    rw [hl, List.take_length] at hD
    refine ⟨D, ds.map p, rfl, SqL.of hD, ?_⟩
    have e : (ds.map p).all id = ds.all p := by rw [List.all_map]; rfl
    rw [e]
    exact k H' s
theorem sc_p_is_label : FnScope ["thing"] ["thing"] (defScope s_p_is_label) := ⟨rfl, rfl, rfl, by decide +kernel, rfl, by decide +kernel, by decide +kernel⟩
theorem cal_p_is_label (D : Def1 K mg "is_label" s_p_is_label) (T : Glc mg) (G : Glb mg) (B : Glk mg) : Cal P w K mg base 1 "is_label" (spOne K dLabel) := by
  refine mkCal D sc_p_is_label (fun _ _ _ _ _ _ us hl => match us, hl with | [_], _ => rfl) (fun vs H Q E h => ?_) (fun f cdv A outer s H vs Q E hr h => ?_)
  · obtain ⟨v, d, rfl, _⟩ := h
    rfl
  · obtain ⟨v, d, rfl, ht, hb, k⟩ := h
    refine ⟨_, pss_one (ps_ret (pe_and (pe_isi (T := "str") (pv 0) T.isinst T.str (by decide +kernel)) (pe_and (pe_chain op_le op_le pe_int (pe_callB call_len_str (by rfl) G.len PySem.boot_len (pa_cons (pv 0) pa_nil)) (pe_con1 B.label))
      (pe_one (pe_cmpR op_eq (pe_m1 PySem.F.slot_str_strip PySem.F.type_str_strip mt_stripChars (pv 0) (pe_con1 T.smalls)) pe_str (nomark _)))))), ?_⟩
    refine ⟨_, rfl, v, _, _, _, _, rfl, .ty _, th_ty ht, kit_str d, _, rfl, ?_⟩
    cases e : isStr d with
    | false =>
      have z : dLabel d = false := by
        cases d with
        | str x => cases e
        | _ => rfl
      rw [z] at k
      exact iteF k
    | true =>
      obtain ⟨x, rfl, rfl⟩ := th_str ht e
      have hx : x.length ≤ sizeLine := Nat.le_trans hb (by decide)
      have ed : dLabel (.str x) = (decide (1 ≤ x.length) && (decide (x.length ≤ 8) && (TL.tl x).all loB)) := rfl
      refine iteT ⟨_, rfl, x, rfl, hx, _, _, rfl, rfl, _, rfl, ?_⟩
      refine ite2 (fun h1 => ?_) (fun h1 => ?_)
      · have g1 : 1 ≤ x.length := by
          have := of_decide_eq_true h1
          omega
        refine ⟨_, _, rfl, rfl, _, rfl, ?_⟩
        refine ite2 (fun h2 => ?_) (fun h2 => ?_)
        · have g2 : x.length ≤ 8 := by
            have := of_decide_eq_true h2
            omega
          refine ⟨_, rfl, ⟨x, rfl⟩, x, smaS, rfl, rfl, hx, rfl, ?_⟩
          have e2 : decide (V.str (Txt.stripChars x smaS) = V.str "") = dLabel (.str x) := by
            rw [ed, decide_eq_true g1, decide_eq_true g2, Bool.true_and, Bool.true_and, Bool.eq_iff_iff, decide_eq_true_iff, V.str.injEq, ← tl_nil_iff, Txt.stripChars, tl_strip, funext sma_has]
          rw [e2]
          exact k
        · have z : dLabel (.str x) = false := by
            rw [ed, decide_eq_false (p := x.length ≤ 8) (fun q => h2 (decide_eq_true (by omega))), Bool.false_and, Bool.and_false]
          rw [z] at k
          exact k
      · have z : dLabel (.str x) = false := by
          rw [ed, decide_eq_false (p := 1 ≤ x.length) (fun q => h1 (decide_eq_true (by omega))), Bool.false_and]
        rw [z] at k
        exact ⟨_, rfl, iteF k⟩
theorem sc_p_is_rule_source : FnScope ["thing"] ["thing"] (defScope s_p_is_rule_source) := ⟨rfl, rfl, rfl, by decide +kernel, rfl, by decide +kernel, by decide +kernel⟩
theorem cal_p_is_rule_source (D : Def1 K mg "is_rule_source" s_p_is_rule_source) (G : Glb mg) (B : Glk mg) (CN : Cal P w K mg base 1 "is_name" (spIsName K)) (CP : Cal P w K mg base 2 "is_pattern" (spIsPat K)) : Cal P w K mg base 3 "is_rule_source" (spOne K dSrc1) := by
  refine mkCal D sc_p_is_rule_source (fun _ _ _ _ _ _ us hl => match us, hl with | [_], _ => rfl) (fun vs H Q E h => ?_) (fun f cdv A outer s H vs Q E hr h => ?_)
  · obtain ⟨v, d, rfl, _⟩ := h
    rfl
  · obtain ⟨v, d, rfl, ht, hb, k⟩ := h
    refine ⟨_, pss_one (ps_ret (pe_or (pe_cal CP hr (by decide) (pa_cons (pv 0) pa_nil)) (pe_one (pe_and (pe_cal CN hr (by decide) (pa_cons (pv 0) pa_nil)) (pe_one (pe_cmpR op_le (pe_callB call_len_str (by rfl) G.len PySem.boot_len (pa_cons (pv 0) pa_nil)) (pe_con1 B.name) (nomark _))))))), ?_⟩
    refine ⟨_, rfl, v, d, rfl, ht, hb, _, rfl, ?_⟩
    unfold dSrc1 at k
    cases e : dPat d with
    | true =>
      rw [e, Bool.true_or] at k
      exact iteT k
    | false =>
      rw [e, Bool.false_or] at k
      refine iteF ⟨_, rfl, v, d, rfl, ht, hb, _, rfl, ?_⟩
      cases e2 : dName d with
      | false =>
        rw [e2, Bool.false_and] at k
        exact iteF k
      | true =>
        rw [e2, Bool.true_and] at k
        obtain ⟨x, rfl, rfl⟩ := th_str ht (name_str e2)
        refine iteT ⟨_, rfl, x, rfl, Nat.le_trans hb (by decide), _, _, rfl, rfl, ?_⟩
        have z : decide ((x.length : Int) ≤ 6) = decide (sLen (.str x) ≤ 6) := by
          rw [Bool.eq_iff_iff, decide_eq_true_iff, decide_eq_true_iff]
          show (x.length : Int) ≤ 6 ↔ x.length ≤ 6
          omega
        rw [← z] at k
        exact k
theorem tup_no {d : PyData} (h : isTup d = false) : dSrcs d = false ∧ dRule d = false ∧ dBook d = false := by
  cases d with
  | tuple ds => cases h
  | _ => exact ⟨rfl, rfl, rfl⟩
theorem rule_no : ∀ {ds : List PyData}, ds.length ≠ 3 → dRule (.tuple ds) = false
  | [], _ => rfl
  | [_], _ => rfl
  | [_, _], _ => rfl
  | [_, _, _], h => absurd rfl h
  | _ :: _ :: _ :: _ :: _, _ => rfl
theorem sc_p_are_sources : FnScope ["thing", "source"] ["thing"] (defScope s_p_are_sources) := ⟨rfl, rfl, rfl, by decide +kernel, rfl, by decide +kernel, by decide +kernel⟩
theorem cal_p_are_sources (D : Def1 K mg "are_sources" s_p_are_sources) (T : Glc mg) (G : Glb mg) (B : Glk mg) (C1 : Cal P w K mg base 3 "is_rule_source" (spOne K dSrc1)) : Cal P w K mg base 4 "are_sources" (spOneS K dSrcs) := by
  refine mkCal D sc_p_are_sources (fun _ _ _ _ _ _ us hl => match us, hl with | [_], _ => rfl) (fun vs H Q E h => ?_) (fun f cdv A outer s H vs Q E hr h => ?_)
  · obtain ⟨v, d, rfl, _⟩ := h
    rfl
  · obtain ⟨v, d, rfl, ht, hb, k⟩ := h
    refine ⟨_, pss_cons (ps_if (PW.pt (pw_or (pt_not (pt_val (pe_isi (T := "tuple") (pv 0) T.isinst T.tuple (by decide +kernel)))) (pw_or1 (pt_cmpR op_gt (pe_callB call_len_seq (by rfl) G.len PySem.boot_len (pa_cons (pv 0) pa_nil)) (pe_con1 B.sources) (nomark _))))) (pss_one (ps_ret pe_bl)) pss_nil)
      (pss_one (ps_ret (pe_callB (cr_all rfl) (by rfl) B.all (by decide +kernel) (pa_cons (pe_lc (own := [("source", 1)]) (g := gName 1) (tt := tYes) (by rfl) sc_p_are_sources.nd (pi_tup (pv 0))
        (blkOk_by (own := [("source", 1)]) (N := ["thing", "source"]) (sc := defScope s_p_are_sources) (by decide +kernel)) (fun _ _ _ _ _ => pg_name (i := 1) sc_p_are_sources.nd rfl (Or.inl rfl)) (fun _ _ _ _ _ => pts_nil)
        (fun _ _ _ _ _ => pe_cal C1 hr (by decide) (pa_cons (pv 1) pa_nil))) pa_nil)))), ?_⟩
    refine ⟨_, rfl, v, _, _, _, _, rfl, .ty _, th_ty ht, kit_tup d, _, rfl, ?_⟩
    cases e : isTup d with
    | false =>
      rw [(tup_no e).1] at k
      exact iteT (iteT (k H (Same.refl H)))
    | true =>
      obtain ⟨a, xs, ds, rfl, rfl, hs, ha⟩ := th_tup ht e
      have hl := thAll_len ha
      have ed : dSrcs (.tuple ds) = (decide (ds.length ≤ 3) && ds.all dSrc1) := rfl
      refine iteF ⟨_, rfl, a, xs, rfl, .inr hs, _, _, rfl, rfl, _, rfl, ?_⟩
      refine ite2 (fun h1 => ?_) (fun h1 => ?_)
      · have g : ¬ ds.length ≤ 3 := by
          have := of_decide_eq_true h1
          omega
        rw [ed, decide_eq_false g, Bool.false_and] at k
        exact k H (Same.refl H)
      · have g : ds.length ≤ 3 := by
          apply Classical.byContradiction
          intro z
          exact h1 (decide_eq_true (by omega))
        rw [ed, decide_eq_true g, Bool.true_and] at k
        exact all_read (n := 2) rfl hs ha (by omega) (fun _ => rfl) (fun x d H' R hd th s q => ⟨_, rfl, x, d, rfl, th, Nat.le_trans (bulk_in hd) hb, q H' (Same.refl H')⟩) k
theorem sc_p_is_rule : FnScope ["thing", "label", "pattern", "sources"] ["thing"] (defScope s_p_is_rule) := ⟨rfl, rfl, rfl, by decide +kernel, rfl, by decide +kernel, by decide +kernel⟩
theorem cal_p_is_rule (D : Def1 K mg "is_rule" s_p_is_rule) (T : Glc mg) (G : Glb mg) (C1 : Cal P w K mg base 1 "is_label" (spOne K dLabel)) (C2 : Cal P w K mg base 2 "is_pattern" (spIsPat K)) (C3 : Cal P w K mg base 4 "are_sources" (spOneS K dSrcs)) : Cal P w K mg base 5 "is_rule" (spOneS K dRule) := by
  refine mkCal D sc_p_is_rule (fun _ _ _ _ _ _ us hl => match us, hl with | [_], _ => rfl) (fun vs H Q E h => ?_) (fun f cdv A outer s H vs Q E hr h => ?_)
  · obtain ⟨v, d, rfl, _⟩ := h
    rfl
  · obtain ⟨v, d, rfl, ht, hb, k⟩ := h
    refine ⟨_, pss_cons (ps_if (PW.pt (pw_or (pt_not (pt_val (pe_isi (T := "tuple") (pv 0) T.isinst T.tuple (by decide +kernel)))) (pw_or1 (pt_cmpR op_ne (pe_callB call_len_seq (by rfl) G.len PySem.boot_len (pa_cons (pv 0) pa_nil)) pe_int (nomark _))))) (pss_one (ps_ret pe_bl)) pss_nil)
      (pss_cons (ps_asg (pv 0) (pg_tup rfl (pgs_cons (pg_name (i := 1) sc_p_is_rule.nd rfl (.inl rfl)) (pgs_cons (pg_name (i := 2) sc_p_is_rule.nd rfl (.inl rfl)) (pgs_cons (pg_name (i := 3) sc_p_is_rule.nd rfl (.inl rfl)) pgs_nil)))))
      (pss_one (ps_ret (pe_and (pe_cal C1 hr (by decide) (pa_cons (pv 1) pa_nil)) (pe_and (pe_cal C2 hr (by decide) (pa_cons (pv 2) pa_nil)) (pe_one (pe_cal C3 hr (by decide) (pa_cons (pv 3) pa_nil)))))))), ?_⟩
    refine ⟨_, rfl, v, _, _, _, _, rfl, .ty _, th_ty ht, kit_tup d, _, rfl, ?_⟩
    cases e : isTup d with
    | false =>
      rw [(tup_no e).2.1] at k
      exact iteT (iteT (k H (Same.refl H)))
    | true =>
      obtain ⟨a, xs, ds, rfl, rfl, hs, ha⟩ := th_tup ht e
      have hl := thAll_len ha
      refine iteF ⟨_, rfl, a, xs, rfl, .inr hs, rfl, _, rfl, ?_⟩
      refine ite2 (fun hne => ?_) (fun hne => ?_)
      · have h3 : ds.length ≠ 3 := fun z => by
          rw [hl, z] at hne
          exact absurd hne (by decide)
        rw [rule_no h3] at k
        exact k H (Same.refl H)
      · have h3 : xs.length = 3 := by
          apply Classical.byContradiction
          intro z
          refine hne ?_
          rw [decide_eq_false (by rw [V.int.injEq]; omega)]
          rfl
        obtain ⟨x, y, z, dx, dy, dz, rfl, rfl, hx, hy, hz⟩ := th_three ha h3
        have bk : dx.bulk ≤ 1000000 ∧ dy.bulk ≤ 1000000 ∧ dz.bulk ≤ 1000000 := by
          simp only [PyData.bulk, PyData.bulkAll] at hb
          omega
        have ed : dRule (.tuple [dx, dy, dz]) = (dLabel dx && (dPat dy && dSrcs dz)) := rfl
        refine ⟨_, rfl, a, _, rfl, hs, rfl, x, [y, z], rfl, y, [z], rfl, z, [], rfl, rfl, ?_⟩
        refine ⟨_, rfl, x, dx, rfl, hx, bk.1, _, rfl, ?_⟩
        cases e1 : dLabel dx with
        | false =>
          rw [ed, e1, Bool.false_and] at k
          exact iteF (k H (Same.refl H))
        | true =>
          refine iteT ⟨_, rfl, y, dy, rfl, hy, bk.2.1, _, rfl, ?_⟩
          cases e2 : dPat dy with
          | false =>
            rw [ed, e1, e2, Bool.true_and, Bool.false_and] at k
            exact iteF (k H (Same.refl H))
          | true =>
            rw [ed, e1, e2, Bool.true_and, Bool.true_and] at k
            exact iteT ⟨_, rfl, z, dz, rfl, hz, bk.2.2, k⟩
theorem sc_p_is_book : FnScope ["thing", "rule"] ["thing"] (defScope s_p_is_book) := ⟨rfl, rfl, rfl, by decide +kernel, rfl, by decide +kernel, by decide +kernel⟩
theorem cal_p_is_book (D : Def1 K mg "is_book" s_p_is_book) (T : Glc mg) (G : Glb mg) (B : Glk mg) (C1 : Cal P w K mg base 5 "is_rule" (spOneS K dRule)) : Cal P w K mg base 6 "is_book" (spOneS K dBook) := by
  refine mkCal D sc_p_is_book (fun _ _ _ _ _ _ us hl => match us, hl with | [_], _ => rfl) (fun vs H Q E h => ?_) (fun f cdv A outer s H vs Q E hr h => ?_)
  · obtain ⟨v, d, rfl, _⟩ := h
    rfl
  · obtain ⟨v, d, rfl, ht, hb, k⟩ := h
    refine ⟨_, pss_cons (ps_if (PW.pt (pw_or (pt_not (pt_val (pe_isi (T := "tuple") (pv 0) T.isinst T.tuple (by decide +kernel)))) (pw_or1 (pt_cmpR op_gt (pe_callB call_len_seq (by rfl) G.len PySem.boot_len (pa_cons (pv 0) pa_nil)) (pe_con1 B.rules) (nomark _))))) (pss_one (ps_ret pe_bl)) pss_nil)
      (pss_one (ps_ret (pe_callB (cr_all rfl) (by rfl) B.all (by decide +kernel) (pa_cons (pe_lc (own := [("rule", 1)]) (g := gName 1) (tt := tYes) (by rfl) sc_p_is_book.nd (pi_tup (pv 0))
        (blkOk_by (own := [("rule", 1)]) (N := ["thing", "rule"]) (sc := defScope s_p_is_book) (by decide +kernel)) (fun _ _ _ _ _ => pg_name (i := 1) sc_p_is_book.nd rfl (Or.inl rfl)) (fun _ _ _ _ _ => pts_nil)
        (fun _ _ _ _ _ => pe_cal C1 hr (by decide) (pa_cons (pv 1) pa_nil))) pa_nil)))), ?_⟩
    refine ⟨_, rfl, v, _, _, _, _, rfl, .ty _, th_ty ht, kit_tup d, _, rfl, ?_⟩
    cases e : isTup d with
    | false =>
      rw [(tup_no e).2.2] at k
      exact iteT (iteT (k H (Same.refl H)))
    | true =>
      obtain ⟨a, xs, ds, rfl, rfl, hs, ha⟩ := th_tup ht e
      have hl := thAll_len ha
      have ed : dBook (.tuple ds) = (decide (ds.length ≤ 6) && ds.all dRule) := rfl
      refine iteF ⟨_, rfl, a, xs, rfl, .inr hs, _, _, rfl, rfl, _, rfl, ?_⟩
      refine ite2 (fun h1 => ?_) (fun h1 => ?_)
      · have g : ¬ ds.length ≤ 6 := by
          have := of_decide_eq_true h1
          omega
        rw [ed, decide_eq_false g, Bool.false_and] at k
        exact k H (Same.refl H)
      · have g : ds.length ≤ 6 := by
          apply Classical.byContradiction
          intro z
          exact h1 (decide_eq_true (by omega))
        rw [ed, decide_eq_true g, Bool.true_and] at k
        exact all_read (n := 2) rfl hs ha (by omega) (fun _ => rfl) (fun x d H' R hd th s q => ⟨_, rfl, x, d, rfl, th, Nat.le_trans (bulk_in hd) hb, q⟩) k
end
end Lk
/-! K36p -/
set_option Elab.async false
set_option linter.all false
set_option maxRecDepth 100000
set_option maxHeartbeats 4000000
namespace Lk
open PySem PySem.Spec PyProof.Rows L2
/-! ### the pot of numbers -/
section
variable {P : Program} {w : World} {K : PySem.W.Frag} {mg : Str → Option Value} {base : Heap}
theorem sc_kneaded : FnScope ["seed", "lap", "prime", "amount", "again"] ["seed", "lap"] (defScope s_kneaded) := ⟨rfl, rfl, rfl, by decide +kernel, rfl, by decide +kernel, by decide +kernel⟩
theorem cal_kneaded (D : Def1 K mg "_law_kneaded" s_kneaded) (T : Glb mg) : Cal P w K mg base 1 "_law_kneaded" spKneaded := by
  refine mkCal D sc_kneaded (fun _ _ _ _ _ _ us hl => match us, hl with | [_, _], _ => rfl) (fun vs H Q E h => ?_) (fun f cdv A outer s H vs Q E hr h => ?_)
  · obtain ⟨s, l, rfl, _⟩ := h
    rfl
  · obtain ⟨s, l, rfl, k⟩ := h
    refine ⟨_, pss_cons (ps_set (i := 2) sc_kneaded.nd rfl (.inl rfl) pe_int)
      (pss_cons (ps_set (i := 3) sc_kneaded.nd rfl (.inl rfl) (pe_op op_mod (pe_callTy call_int1 (by rfl) T.int (by decide +kernel)
        (pa_cons (pe_op op_add (pe_op op_add (pe_op op_mul (pv 0) pe_int) (pe_op op_mul (pv 1) pe_int)) pe_int) pa_nil)) (pv 2)))
      (pss_cons (ps_for PassesOwn.never rfl (pi_range1 (by rfl) T.range (pa_cons pe_int pa_nil)) (pg_name (i := 4) sc_kneaded.nd rfl (.inl rfl))
        (pss_one (ps_set (i := 3) sc_kneaded.nd rfl (.inl rfl) (pe_op op_mod (pe_callTy call_int1 (by rfl) T.int (by decide +kernel)
          (pa_cons (pe_op op_add (pe_op op_add (pe_op op_add (pe_op op_mul (pv 3) (pv 3)) (pe_op op_mul pe_int (pv 3))) (pe_op op_mul pe_int (pv 4))) (pv 1)) pa_nil)) (pv 2)))))
      (pss_one (ps_ret (pe_op op_add (pe_op op_mul (pv 3) (pv 2)) (pe_op op_mod (pe_callTy call_int1 (by rfl) T.int (by decide +kernel)
          (pa_cons (pe_op op_add (pe_op op_mul (pv 3) pe_int) (pv 1)) pa_nil)) (pv 2))))))), ?_⟩
    refine ⟨_, rfl, _, _, rfl, rfl, .inr (by decide), _, rfl, _, _, rfl, rfl, .inr (by decide), _, _, rfl, rfl, _, _, rfl, rfl, .inl ⟨_, rfl, _, rfl, _, _, rfl, rfl, (by show (0 : Int) < 2305843009213693907; decide), ?_⟩⟩
    refine ⟨4, rfl, by decide, by decide, for_range (n := 4) (fun i σ H' => ∃ (m : Int) (v : Option V), σ = [some (.int s), some (.int l), some (.int 2305843009213693907), some (.int m), v] ∧ 0 ≤ m ∧ m < 2305843009213693907 ∧ H' = H)
      ⟨_, none, rfl, Int.emod_nonneg _ (by decide), Int.emod_lt_of_pos _ (by decide), rfl⟩ ?_ ?_⟩
    · rintro i σ H' hi ⟨m, v, rfl, m0, m1, rfl⟩
      refine ⟨_, rfl, _, rfl, _, _, rfl, rfl, .inl ⟨by omega, by omega⟩, _, rfl, _, _, rfl, rfl, .inr ⟨by omega, by omega⟩, _, _, rfl, rfl, _, rfl, _, _, rfl, rfl, .inl ⟨by decide, by decide⟩, _, _, rfl, rfl, _, rfl, _, _, rfl, rfl,
        .inl ⟨_, rfl, _, rfl, _, _, rfl, rfl, (by show (0 : Int) < 2305843009213693907; decide), ?_⟩⟩
      exact ⟨_, _, rfl, Int.emod_nonneg _ (by decide), Int.emod_lt_of_pos _ (by decide), rfl⟩
    · rintro σ H' ⟨m, v, rfl, m0, m1, rfl⟩
      refine ⟨_, rfl, _, rfl, _, _, rfl, rfl, .inl ⟨by omega, by omega⟩, _, rfl, _, _, rfl, rfl, .inl ⟨by omega, by omega⟩, _, rfl, _, _, rfl, rfl, .inl ⟨_, rfl, _, rfl, _, _, rfl, rfl, (by show (0 : Int) < 2305843009213693907; decide), ?_⟩⟩
      exact ⟨_, _, rfl, rfl, k _⟩
theorem sc_pot_of : FnScope ["script", "cells", "place", "cell"] ["script"] (defScope s_pot_of) := ⟨rfl, rfl, rfl, by decide +kernel, rfl, by decide +kernel, by decide +kernel⟩
theorem cal_pot_of (D : Def1 K mg "_law_pot_of" s_pot_of) (T : Glb mg) : Cal P w K mg base 1 "_law_pot_of" (spPotOf K) := by
  refine mkCal D sc_pot_of (fun _ _ _ _ _ _ us hl => match us, hl with | [_], _ => rfl) (fun vs H Q E h => ?_) (fun f cdv A outer s H vs Q E hr h => ?_)
  · obtain ⟨a, ns, rfl, _⟩ := h
    rfl
  · obtain ⟨a, ns, rfl, hS, hlen, k⟩ := h
    refine ⟨_, pss_cons (ps_setLc (i := 1) (own := [("cell", 3)]) (g := gName 3) (tt := tYes) (by rfl) sc_pot_of.nd rfl rfl (sw_true rfl rfl rfl (by decide +kernel)) (pi_list (pe_slice sl_list (pv 0) po_none (po_some pe_int)))
        (blkOk_by (own := [("cell", 3)]) (N := ["script", "cells", "place", "cell"]) (sc := defScope s_pot_of) (by decide +kernel)) (fun _ _ _ _ _ => pg_name (i := 3) sc_pot_of.nd rfl (Or.inl rfl)) (fun _ _ _ _ _ => pts_nil)
        (fun _ _ _ _ _ => pe_callB call_abs (by rfl) T.abs (by decide +kernel) (pa_cons (pv 3) pa_nil)))
      (pss_cons (ps_for PassesOwn.never rfl (pi_enum (by rfl) T.enumerate (pa_cons (pe_slice sl_list (pv 0) (po_some pe_int) (po_some pe_int)) pa_nil)) (pg_tup rfl (pgs_cons (pg_name (i := 2) sc_pot_of.nd rfl (.inl rfl)) (pgs_cons (pg_name (i := 3) sc_pot_of.nd rfl (.inl rfl)) pgs_nil)))
        (pss_one (ps_asg (pe_op op_add (pe_ix ix_list (pv 1) (pe_op op_mod (pv 2) pe_int) (fun _ _ => rfl)) (pe_callB call_abs (by rfl) T.abs (by decide +kernel) (pa_cons (pv 3) pa_nil))) (pg_sub (pv 1) (pe_op op_mod (pv 2) pe_int) set_list))))
      (pss_one (ps_ret (pe_lst (pa_cons (pv 1) (pa_cons pe_int (pa_cons pe_int (pa_cons pe_int pa_nil)))))))), ?_⟩
    refine ⟨_, rfl, 17, rfl, a, _, rfl, hS, fun q nq => ⟨q, rfl, ⟨_, SqL.of upd_same⟩, fun D nD => ?_⟩⟩
    have e17 : cutV (ns.map V.int) none (some 17) = (ns.take 17).map V.int := by
      rw [cut_to (by decide), List.map_take]
      rfl
    have sq : Same H (upd H q (.lst (cutV (ns.map V.int) none (some 17)))) := same_upd nq
    have nDq : D ≠ q := fun z => by
      rw [z, upd_same] at nD
      cases nD
    have nD0 : H D = none := sq.free nD
    refine lc_list (K := K) (a := q) (xs := (ns.take 17).map V.int) (fun i H' => Same H H' ∧ H' q = some (.lst ((ns.take 17).map V.int)) ∧ ∃ ms : List Int, H' D = some (.lst (ms.map V.int)) ∧ ms.length = i)
      ⟨same_mut sq nD0, by rw [upd_ne nDq.symm, upd_same, e17], [], upd_same, rfl⟩ (fun i H' _ h => SqL.of h.2.1) ?_ ?_
    · rintro i x H' hx ⟨sH, hq, ms, hD, hm⟩
      obtain ⟨z, rfl, hz⟩ := map_item hx
      have hi : i < 17 := by
        have := (List.getElem?_eq_some_iff.mp hx).1
        rw [List.length_map, List.length_take] at this
        omega
      refine ⟨rfl, _, rfl, z, rfl, _, hD, ?_, same_mut sH nD0, ?_, ms ++ [if z < 0 then -z else z], ?_, ?_⟩
      · rw [List.length_map, hm]
        exact small1000 (by omega)
      · rw [upd_ne nDq.symm]
        exact hq
      · rw [upd_same, List.map_append]
        rfl
      · rw [List.length_append, List.length_singleton, hm]
    · rintro H1 ⟨sH, hq, ms, hD, hm⟩
      rw [List.length_map, List.length_take] at hm
      refine ⟨_, rfl, 17, rfl, 60, rfl, a, _, rfl, sH.seq hS, fun r nr => ⟨r, _, rfl, SqL.of upd_same, ?_⟩⟩
      have e60 : cutV (ns.map V.int) (some 17) (some 60) = ((ns.drop 17).take 43).map V.int := by
        rw [cut_from_to (by decide) (by decide), List.map_take, List.map_drop]
        rfl
      have sr : Same H1 (upd H1 r (.lst (cutV (ns.map V.int) (some 17) (some 60)))) := same_upd nr
      have nrD : D ≠ r := ne_of_none hD nr
      refine for_enum (K := K) (a := r) (xs := ((ns.drop 17).take 43).map V.int) (fun i σ H' => ∃ (v2 v3 : Option V) (ms : List Int), σ = [some (.ref a), some (.ref D), v2, v3] ∧ Same H H' ∧ H' r = some (.lst (((ns.drop 17).take 43).map V.int)) ∧ H' D = some (.lst (ms.map V.int)) ∧ ms.length = min 17 ns.length)
        ⟨none, none, ms, rfl, sH.trans sr, by rw [upd_same, e60], by rw [upd_ne nrD]; exact hD, hm⟩ (fun i σ H' ⟨_, _, _, _, _, h, _⟩ => SqL.of h) ?_ ?_
      · rintro i x σ H' t hx nt ⟨v2, v3, ms, rfl, sH', hr', hD', hm'⟩
        obtain ⟨z, rfl, hz⟩ := map_item hx
        have hl : 17 < ns.length := by
          have := (List.getElem?_eq_some_iff.mp hz).1
          rw [List.length_take, List.length_drop] at this
          omega
        have ml : ms.length = 17 := by omega
        have ntD : D ≠ t := ne_of_none hD' nt
        have ntr : r ≠ t := ne_of_none hr' nt
        obtain ⟨y, hy⟩ := atI_ints (ns := ms) (k := (i : Int) % 17) (Int.emod_nonneg _ (by decide)) (by rw [ml]; exact Int.emod_lt_of_pos _ (by decide))
        refine ⟨t, _, rfl, .inl (.inl upd_same), rfl, _, _, rfl, _, _, rfl, rfl, ?_⟩
        refine ⟨_, rfl, _, rfl, _, _, rfl, rfl, (by show (0 : Int) < 17; decide), D, ms.map V.int, _, .int y, rfl, rfl, SqL.of (by rw [upd_ne ntD]; exact hD'), hy, _, rfl, z, rfl, y, _, rfl, rfl, ?_⟩
        refine ⟨_, rfl, _, rfl, _, _, rfl, rfl, (by show (0 : Int) < 17; decide), D, ms.map V.int, _, _, rfl, rfl, (by rw [upd_ne ntD]; exact hD'), ixN_lt (Int.emod_nonneg _ (by decide)) (by rw [List.length_map, ml]; exact Int.emod_lt_of_pos _ (by decide)), ?_⟩
        refine ⟨_, _, ms.set ((i : Int) % 17).toNat (y + if z < 0 then -z else z), rfl, same_mut (sH'.trans (same_upd nt)) nD0, ?_, ?_, ?_⟩
        · rw [upd_ne nrD.symm, upd_ne ntr]
          exact hr'
        · rw [upd_same, List.map_set]
        · rw [List.length_set]
          exact hm'
      · rintro σ H' ⟨v2, v3, ms, rfl, sH', hr', hD', hm'⟩
        refine ⟨_, rfl, (by show 4 ≤ sizeLine; decide), fun l nl => ?_⟩
        exact k l D _ (sH'.trans (same_upd nl)) (sH'.free nl) ⟨(ne_of_none hD' nl).symm, ⟨0, 0, 0, upd_same⟩, ms, by rw [upd_ne (ne_of_none hD' nl)]; exact hD', by omega⟩
theorem sc_below : FnScope ["pot", "bound", "cells", "place", "amount", "found"] ["pot", "bound"] (defScope s_below) := ⟨rfl, rfl, rfl, by decide +kernel, rfl, by decide +kernel, by decide +kernel⟩
theorem cal_below (D : Def1 K mg "_law_below" s_below) (T : Glb mg) (CK : Cal P w K mg base 1 "_law_kneaded" spKneaded) : Cal P w K mg base 2 "_law_below" spBelow := by
  refine mkCal D sc_below (fun _ _ _ _ _ _ us hl => match us, hl with | [_, _], _ => rfl) (fun vs H Q E h => ?_) (fun f cdv A outer s H vs Q E hr h => ?_)
  · obtain ⟨p, c, n, rfl, _⟩ := h
    rfl
  · obtain ⟨p, c, n, rfl, hP, n0, n1, k⟩ := h
    have hu := hu_of hr
    refine ⟨_, pss_cons (ps_if (pt_cmpR op_lt (pe_ix ix_list (pv 0) pe_int (fun _ _ => rfl)) (pv 1) (nomark _))
        (pss_cons (ps_par (i := 2) (j := 3) (by rfl) sc_below.nd rfl rfl (by decide) rfl rfl (pa_cons (pe_ix ix_list (pv 0) pe_int (fun _ _ => rfl)) (pa_cons (pe_ix ix_list (pv 0) pe_int (fun _ _ => rfl)) pa_nil)) (by rfl))
        (pss_cons (ps_set (i := 4) sc_below.nd rfl (.inl rfl) (pe_ifExp (pt_cmpR (op_neD hr.units) (pv 2) (pe_lst pa_nil) (nomark _))
            (pe_ix ix_list (pv 2) (pe_op op_modN (pv 3) (pe_callB call_len_seq (by rfl) T.len PySem.boot_len (pa_cons (pv 2) pa_nil))) (fun _ _ => rfl)) pe_int))
        (pss_cons (ps_if (PW.pt (pw_or (pt_cmpR op_ge (pv 3) (pe_callB call_len_seq (by rfl) T.len PySem.boot_len (pa_cons (pv 2) pa_nil)) (nomark _)) (pw_or1 (pt_cmpR op_lt (pv 4) (pe_op op_pow pe_int pe_int) (nomark _)))))
            (pss_one (ps_set (i := 4) sc_below.nd rfl (.inl rfl) (pe_cal CK hr (by decide) (pa_cons (pe_op op_mod (pe_callTy call_int1 (by rfl) T.int (by decide +kernel) (pa_cons (pv 4) pa_nil)) pe_int) (pa_cons (pv 3) pa_nil))))) pss_nil)
        (pss_cons (ps_asg (pe_op op_add (pv 3) pe_int) (pg_sub (pv 0) pe_int set_list))
        (pss_cons (ps_asg (pv 4) (pg_sub (pv 0) pe_int set_list))
        (pss_one (ps_asg (pv 4) (pg_sub (pv 0) pe_int set_list)))))))) pss_nil)
      (pss_cons (ps_set (i := 5) sc_below.nd rfl (.inl rfl) (pe_op op_mod (pe_callTy call_int1 (by rfl) T.int (by decide +kernel) (pa_cons (pe_ix ix_list (pv 0) pe_int (fun _ _ => rfl)) pa_nil)) (pv 1)))
      (pss_cons (ps_asg (pe_op op_fdivN (pe_ix ix_list (pv 0) pe_int (fun _ _ => rfl)) (pv 1)) (pg_sub (pv 0) pe_int set_list))
      (pss_cons (ps_asg (pe_op op_fdivN (pe_ix ix_list (pv 0) pe_int (fun _ _ => rfl)) (pv 1)) (pg_sub (pv 0) pe_int set_list))
      (pss_one (ps_ret (pv 5)))))), ?_⟩
    -- the end, from any pot
    have tail : ∀ (v2 v3 v4 : Option V) (H1 : Hp), Ext p c H H1 → ∀ (t : TS), t = tSeq (tAsg (tOp (rI (fun _ j => 0 < j) fun i j => V.int (i % j)) (tCB (fun xs H Q => (∃ i, xs = [V.int i] ∧ Q (.int i) H) ∨ ∃ k, xs = [V.bl k] ∧ Q (.int (if k then 1 else 0)) H) (tCons (tOp (rIxL K) (tVar 0) (tC (.int 2))) tNil)) (tVar 1)) (gName 5))
        (tSeq (tAsg (tOp (rI CDivN fun i j => V.int (i.fdiv j)) (tOp (rIxL K) (tVar 0) (tC (.int 2))) (tVar 1)) (gSub (tVar 0) (tC (.int 2)) rSetL)) (tSeq (tAsg (tOp (rI CDivN fun i j => V.int (i.fdiv j)) (tOp (rIxL K) (tVar 0) (tC (.int 3))) (tVar 1)) (gSub (tVar 0) (tC (.int 3)) rSetL)) (tRet (tVar 5)))) →
        t { nx := fun _ H' => Q .non H', rt := Q } [some (.ref p), some (.int n), v2, v3, v4, none] H1 := by
      rintro v2 v3 v4 H1 e t rfl
      obtain ⟨npc, ⟨i, a, b, hp⟩, _⟩ := id e.pot
      refine ⟨_, rfl, p, _, 2, .int a, rfl, rfl, SqL.of hp, atI_nat (j := 2) rfl, .inl ⟨_, rfl, _, rfl, _, _, rfl, rfl, n0, ?_⟩⟩
      refine ⟨_, rfl, p, _, 2, .int a, rfl, rfl, SqL.of hp, atI_nat (j := 2) rfl, _, rfl, _, _, rfl, rfl, ⟨by omega, by omega⟩, ?_⟩
      refine ⟨_, rfl, p, _, 2, 2, rfl, rfl, hp, rfl, ?_⟩
      refine ⟨_, rfl, p, _, 3, .int b, rfl, rfl, SqL.of upd_same, atI_nat (j := 3) rfl, _, rfl, _, _, rfl, rfl, ⟨by omega, by omega⟩, ?_⟩
      refine ⟨_, rfl, p, _, 3, 3, rfl, rfl, upd_same, rfl, ?_⟩
      refine ⟨_, rfl, k _ _ (Int.emod_nonneg _ (by omega)) (Int.emod_lt_of_pos _ n0) ?_⟩
      exact pot_put hP (pot_put hP e)
    obtain ⟨npc, ⟨i, a, b, hp⟩, ns, hc, hl⟩ := id hP
    refine ⟨_, rfl, p, _, 3, .int b, rfl, rfl, SqL.of hp, atI_nat (j := 3) rfl, _, rfl, _, _, rfl, rfl, _, rfl, ?_⟩
    refine ite2 (fun _ => ?_) (fun _ => tail _ _ _ H hP.ref _ rfl)
    refine ⟨_, rfl, p, _, 0, .ref c, rfl, rfl, SqL.of hp, atI_nat (j := 0) rfl, _, rfl, p, _, 1, .int i, rfl, rfl, SqL.of hp, atI_nat (j := 1) rfl, _, _, rfl, ?_⟩
    refine ⟨_, rfl, Nat.zero_le _, fun q nq => ⟨_, _, .lst (SqL.of (by rw [upd_ne (ne_of_none hc nq)]; exact hc)) (dp_ints ns), .lst (SqL.of upd_same) .nil, shaped_ints ns, rfl, _, rfl, ?_⟩⟩
    rw [eqv_ints_nil]
    have e1 : Ext p c H (upd H q (.lst [])) := hP.ref.new nq
    have hc1 : (upd H q (.lst [])) c = some (.lst (ns.map V.int)) := by rw [upd_ne (ne_of_none hc nq)]; exact hc
    have hp1 : (upd H q (.lst [])) p = some (.lst [.ref c, .int i, .int a, .int b]) := by rw [upd_ne (ne_of_none hp nq)]; exact hp
    refine ite2 (fun hn => ?wayA) (fun hn => ?wayB)
    case' wayA =>
      have hn2 : 0 < ns.length := List.length_pos_iff.mpr fun z => by
        rw [z] at hn
        exact absurd hn (by decide)
      obtain ⟨z, hz⟩ := atI_ints (ns := ns) (k := Int.fmod i (((ns.map V.int).length : Nat) : Int)) (Int.fmod_nonneg_of_pos _ (by rw [List.length_map]; omega)) (by
        rw [List.length_map]
        exact Int.fmod_lt_of_pos _ (by omega))
      refine ⟨_, rfl, _, rfl, _, rfl, c, _, rfl, .inl (SqL.of hc1), _, _, rfl, rfl, (by rw [List.length_map]; show ((ns.length : Nat) : Int) ≠ 0; omega), c, _, _, .int z, rfl, rfl, SqL.of hc1, hz, ?_⟩
    all_goals
      refine ⟨_, rfl, _, rfl, c, _, rfl, .inl (SqL.of hc1), _, _, rfl, rfl, _, rfl, ?_⟩
      refine ite2 (fun _ => iteT ?_) (fun _ => ⟨_, rfl, _, _, rfl, rfl, ⟨by decide, by decide, by decide⟩, _, _, rfl, rfl, _, rfl, ite2 (fun _ => ?_) (fun _ => ?_)⟩)
      all_goals try refine ⟨_, rfl, .inl ⟨_, rfl, _, _, rfl, rfl, (by show (0 : Int) < 982451629; decide), _, rfl, _, _, rfl, fun r => ?_⟩⟩
      all_goals
        refine ⟨_, rfl, _, _, rfl, rfl, _, rfl, p, _, 1, 1, rfl, rfl, hp1, rfl, ?_⟩
        refine ⟨_, rfl, _, rfl, p, _, 2, 2, rfl, rfl, upd_same, rfl, ?_⟩
        refine ⟨_, rfl, _, rfl, p, _, 3, 3, rfl, rfl, upd_same, rfl, ?_⟩
        exact tail _ _ _ _ (pot_put hP (pot_put hP (pot_put hP e1))) _ rfl
end
end Lk
/-! K36n -/
set_option Elab.async false
set_option linter.all false
set_option maxRecDepth 100000
set_option maxHeartbeats 4000000
namespace Lk
open PySem PySem.Spec PyProof.Rows L2
section
variable {P : Program} {w : World} {K : PySem.W.Frag} {mg : Str → Option Value} {base : Heap}
theorem sc_pick : FnScope ["pot", "items"] ["pot", "items"] (defScope s_pick) := ⟨rfl, rfl, rfl, by decide +kernel, rfl, by decide +kernel, by decide +kernel⟩
theorem cal_pick (D : Def1 K mg "_law_pick" s_pick) (T : Glb mg) (CB : Cal P w K mg base 2 "_law_below" spBelow) : Cal P w K mg base 3 "_law_pick" (spPick K) := by
  refine mkCal D sc_pick (fun _ _ _ _ _ _ us hl => match us, hl with | [_, _], _ => rfl) (fun vs H Q E h => ?_) (fun f cdv A outer s H vs Q E hr h => ?_)
  · obtain ⟨p, c, l, xs, rfl, _⟩ := h
    rfl
  · obtain ⟨p, c, l, xs, rfl, hP, hS, nl, h0, h1, k⟩ := h
    refine ⟨_, pss_one (ps_ret (pe_ix ix_list (pv 1) (pe_cal CB hr (by decide) (pa_cons (pv 0) (pa_cons (pe_callB call_len_seq (by rfl) T.len PySem.boot_len (pa_cons (pv 1) pa_nil)) pa_nil))) (fun _ _ => rfl))), ?_⟩
    refine ⟨_, rfl, _, rfl, _, rfl, l, xs, rfl, .inl hS, p, c, _, rfl, hP, by omega, by omega, fun r H' r0 r1 e => ?_⟩
    obtain ⟨v, hv, hg⟩ := atI_lt (xs := xs) r0 r1
    exact ⟨l, xs, r, v, rfl, rfl, e.seq nl hS, hv, k v H' (List.mem_of_getElem? hg) e⟩
theorem sc_some_name : FnScope ["pot", "head", "tail", "lap"] ["pot"] (defScope s_some_name) := ⟨rfl, rfl, rfl, by decide +kernel, rfl, by decide +kernel, by decide +kernel⟩
theorem cal_some_name (D : Def1 K mg "_law_some_name" s_some_name) (T : Glb mg) (CB : Cal P w K mg base 2 "_law_below" spBelow) (CP : Cal P w K mg base 3 "_law_pick" (spPick K)) : Cal P w K mg base 4 "_law_some_name" spName := by
  refine mkCal D sc_some_name (fun _ _ _ _ _ _ us hl => match us, hl with | [_], _ => rfl) (fun vs H Q E h => ?_) (fun f cdv A outer s H vs Q E hr h => ?_)
  · obtain ⟨p, c, rfl, _⟩ := h
    rfl
  · obtain ⟨p, c, rfl, hP, k⟩ := h
    refine ⟨_, pss_cons (ps_set (i := 1) sc_some_name.nd rfl (.inl rfl) (pe_join pe_str (pe_lc (own := [("lap", 3)]) (g := gName 3) (tt := tYes) (by rfl) sc_some_name.nd (pi_range1 (by rfl) T.range (pa_cons (pe_cal CB hr (by decide) (pa_cons (pv 0) (pa_cons pe_int pa_nil))) pa_nil))
          (blkOk_by (own := [("lap", 3)]) (N := ["pot", "head", "tail", "lap"]) (sc := defScope s_some_name) (by decide +kernel)) (fun _ _ _ _ _ => pg_name (i := 3) sc_some_name.nd rfl (Or.inl rfl)) (fun _ _ _ _ _ => pts_nil)
          (fun _ _ _ _ _ => pe_cal CP hr (by decide) (pa_cons (pv 0) (pa_cons (pe_lst (pa_cons pe_str (pa_cons pe_str (pa_cons pe_str (pa_cons pe_str pa_nil))))) pa_nil))))))
      (pss_cons (ps_set (i := 2) sc_some_name.nd rfl (.inl rfl) (pe_join pe_str (pe_lc (own := [("lap", 3)]) (g := gName 3) (tt := tYes) (by rfl) sc_some_name.nd (pi_range1 (by rfl) T.range (pa_cons (pe_cal CB hr (by decide) (pa_cons (pv 0) (pa_cons pe_int pa_nil))) pa_nil))
          (blkOk_by (own := [("lap", 3)]) (N := ["pot", "head", "tail", "lap"]) (sc := defScope s_some_name) (by decide +kernel)) (fun _ _ _ _ _ => pg_name (i := 3) sc_some_name.nd rfl (Or.inl rfl)) (fun _ _ _ _ _ => pts_nil)
          (fun _ _ _ _ _ => pe_cal CP hr (by decide) (pa_cons (pv 0) (pa_cons (pe_lst (pa_cons pe_str (pa_cons pe_str (pa_cons pe_str (pa_cons pe_str pa_nil))))) pa_nil))))))
      (pss_one (ps_ret (pe_ifExp (pt_cmpR op_ne (pe_op op_add_str (pv 1) (pv 2)) pe_str (nomark _)) (pe_op op_add_str (pv 1) (pv 2)) (pe_cal CP hr (by decide) (pa_cons (pv 0) (pa_cons (pe_lst (pa_cons pe_str (pa_cons pe_str (pa_cons pe_str pa_nil)))) pa_nil))))))), ?_⟩
    have hU : ∀ y : Str, y ∈ ([("A" : Str), "A", "B", "Z"] : List Str) → (TL.tl y).length ≤ 1 ∧ ∀ c ∈ TL.tl y, Up c := by decide +kernel
    have hL : ∀ y : Str, y ∈ ([("c" : Str), "o", "o", "s"] : List Str) → (TL.tl y).length ≤ 1 ∧ ∀ c ∈ TL.tl y, Lo c := by decide +kernel
    have e0 : TL.tl ("" : Str) = [] := by decide +kernel
    refine set_read ?_
    refine word_read (K := K) (σ := [some (.ref p), none, none, none]) (n := 4) (iv := 3) (p := p) (c := c) (letters := [("A" : Str), "A", "B", "Z"]) ?hL (by decide) (by decide) (fun y h => (hU y h).1) (by rfl) (fun _ => by rfl) (fun _ => by rfl) hP (by decide) (by decide) fun hs H1 mh lh e1 => ?_
    case hL => exact fun σ H Q q => q
    refine set_read ?_
    refine word_read (K := K) (σ := [some (.ref p), some (.str (Txt.join "" hs)), none, none]) (n := 4) (iv := 3) (p := p) (c := c) (letters := [("c" : Str), "o", "o", "s"]) ?hL (by decide) (by decide) (fun y h => (hL y h).1) (by rfl) (fun _ => by rfl) (fun _ => by rfl) e1.pot (by decide) (by decide) fun ts H2 mt lt e2 => ?_
    case hL => exact fun σ H Q q => q
    have e := e1.trans e2
    have th : TL.tl (Txt.join "" hs) = (hs.map TL.tl).flatten := tl_join0 e0 hs
    have tt : TL.tl (Txt.join "" ts) = (ts.map TL.tl).flatten := tl_join0 e0 ts
    have lh1 := flat_len (k := 1) (ys := hs) fun y h => (hU y (mh y h)).1
    have lt1 := flat_len (k := 1) (ys := ts) fun y h => (hL y (mt y h)).1
    have ll : (Txt.join "" hs).length + (Txt.join "" ts).length ≤ sizeLine := by
      rw [TL.len_tl, TL.len_tl, th, tt]
      exact Nat.le_of_lt (small1000 (by omega))
    refine ⟨_, rfl, _, rfl, _, _, rfl, rfl, ll, rfl, _, rfl, ?_⟩
    refine ite2 (fun hne => ?_) (fun hne => ?_)
    · refine ⟨_, rfl, _, rfl, _, _, rfl, rfl, ll, k _ (hs.map TL.tl).flatten (ts.map TL.tl).flatten H2 ⟨by rw [TL.tl_append, th, tt], flat_all fun y h => (hU y (mh y h)).2, flat_all fun y h => (hL y (mt y h)).2, fun z => ?_, by omega, by omega⟩ e⟩
      have z2 : Txt.join "" hs ++ Txt.join "" ts = ("" : Str) := TL.ext_tl (by rw [TL.tl_append, th, tt, z, e0])
      rw [z2] at hne
      exact absurd hne (by decide)
    · refine ⟨_, rfl, (by show 3 ≤ sizeLine; decide), fun l nl => ?_⟩
      refine ⟨p, c, l, _, rfl, e.pot.same (same_upd nl), SqL.of upd_same, e.pot.nep nl, by decide, by decide, fun v H3 hv e3 => ?_⟩
      have e4 := e.trans (Ext.pre (same_upd nl) e3)
      have h3 : v = .str "A" ∨ v = .str "o" ∨ v = .str "Z" := by simpa using hv
      rcases h3 with rfl | rfl | rfl
      · exact k _ [65] [] _ ⟨by decide +kernel, by decide, by decide, by decide, by decide, by decide⟩ e4
      · exact k _ [] [111] _ ⟨by decide +kernel, by decide, by decide, by decide, by decide, by decide⟩ e4
      · exact k _ [90] [] _ ⟨by decide +kernel, by decide, by decide, by decide, by decide, by decide⟩ e4
end
end Lk
/-! K36h -/
set_option Elab.async false
set_option linter.all false
set_option maxRecDepth 100000
set_option maxHeartbeats 4000000
namespace Lk
open PySem PySem.Spec PyProof.Rows L2
inductive Src
  | pat (b e : Str)
  | nm (x : Str)
def Src.d : Src → PyData
  | .pat b e => .tuple [.str b, .str e]
  | .nm x => .str x
/-- the drawn sources -/
def SrcOk : Src → Prop
  | .pat b e => b ∈ (["", "A", "B", "AB"] : List Str) ∧ e ∈ (["", "c", "o", "s", "co"] : List Str) ∧ ¬ (b = "" ∧ e = "")
  | .nm x => x ∈ (["A", "Ac", "Bo", "s", "Ao"] : List Str)
section
variable {P : Program} {w : World} {K : PySem.W.Frag} {mg : Str → Option Value} {base : Heap}
def spWhole (K : PySem.W.Frag) : Sp := fun vs H Q _ => ∃ b e : Str, vs = [.str b, .str e] ∧ b.length + e.length ≤ 1000 ∧ ∀ p H' b' e', Same H H' → H' p = some (.tup [.str b', .str e']) → ((b' = b ∧ e' = e ∧ ¬ (b = "" ∧ e = "")) ∨ (b' = "" ∧ e' = "c")) → Q (.ref p) H'
theorem sc_whole : FnScope ["begin", "end"] ["begin", "end"] (defScope s_whole) := ⟨rfl, rfl, rfl, by decide +kernel, rfl, by decide +kernel, by decide +kernel⟩
theorem cal_whole (D : Def1 K mg "_law_whole" s_whole) : Cal P w K mg base 1 "_law_whole" (spWhole K) := by
  refine mkCal D sc_whole (fun _ _ _ _ _ _ us hl => match us, hl with | [_, _], _ => rfl) (fun vs H Q E h => ?_) (fun f cdv A outer s H vs Q E hr h => ?_)
  · obtain ⟨b, e, rfl, _⟩ := h
    rfl
  · obtain ⟨b, e, rfl, l, k⟩ := h
    refine ⟨_, pss_one (ps_ret (pe_ifExp (pt_cmpR op_ne (pe_op op_add_str (pv 0) (pv 1)) pe_str (nomark _)) (pe_tup (pa_cons (pv 0) (pa_cons (pv 1) pa_nil))) (pe_tup (pa_cons pe_str (pa_cons pe_str pa_nil))))), ?_⟩
    refine ⟨_, rfl, _, rfl, b, e, rfl, rfl, Nat.le_trans l (by decide), rfl, _, rfl, ?_⟩
    have eb : b ++ e = "" ↔ (b = "" ∧ e = "") := by
      rw [← tl_nil_iff, TL.tl_append, List.append_eq_nil_iff, tl_nil_iff, tl_nil_iff]
    refine ite2 (fun hne => ?_) (fun hne => ?_)
    · refine ⟨_, rfl, _, rfl, (by show 2 ≤ sizeLine; decide), fun p np => k p _ b e (same_upd np) upd_same (.inl ⟨rfl, rfl, fun z => ?_⟩)⟩
      rw [eb.mpr z] at hne
      exact absurd hne (by decide)
    · exact ⟨(by show 2 ≤ sizeLine; decide), fun p np => k p _ "" "c" (same_upd np) upd_same (.inr ⟨rfl, rfl⟩)⟩
def spSrc (K : PySem.W.Frag) : Sp := fun vs H Q _ => ∃ (p c : Addr), vs = [.ref p] ∧ PotAt p c H ∧ ∀ (v : V) (s : Src) (H' : Hp), SrcOk s → Ext p c H H' → Th K H' v s.d → Q v H'
theorem sc_some_source : FnScope ["pot"] ["pot"] (defScope s_some_source) := ⟨rfl, rfl, rfl, by decide +kernel, rfl, by decide +kernel, by decide +kernel⟩
theorem cal_some_source (D : Def1 K mg "_law_some_source" s_some_source) (CB : Cal P w K mg base 2 "_law_below" spBelow) (CP : Cal P w K mg base 3 "_law_pick" (spPick K)) (CW : Cal P w K mg base 1 "_law_whole" (spWhole K)) : Cal P w K mg base 4 "_law_some_source" (spSrc K) := by
  refine mkCal D sc_some_source (fun _ _ _ _ _ _ us hl => match us, hl with | [_], _ => rfl) (fun vs H Q E h => ?_) (fun f cdv A outer s H vs Q E hr h => ?_)
  · obtain ⟨p, c, rfl, _⟩ := h
    rfl
  · obtain ⟨p, c, rfl, hP, k⟩ := h
    refine ⟨_, pss_cons (ps_if (pt_cmpR op_eq (pe_cal CB hr (by decide) (pa_cons (pv 0) (pa_cons pe_int pa_nil))) pe_int (nomark _)) (pss_one (ps_ret (pe_cal CP hr (by decide) (pa_cons (pv 0) (pa_cons (pe_lst (pa_cons pe_str (pa_cons pe_str (pa_cons pe_str (pa_cons pe_str (pa_cons pe_str pa_nil)))))) pa_nil))))) pss_nil)
      (pss_one (ps_ret (pe_cal CW hr (by decide) (pa_cons (pe_cal CP hr (by decide) (pa_cons (pv 0) (pa_cons (pe_lst (pa_cons pe_str (pa_cons pe_str (pa_cons pe_str (pa_cons pe_str (pa_cons pe_str pa_nil)))))) pa_nil)))
        (pa_cons (pe_cal CP hr (by decide) (pa_cons (pv 0) (pa_cons (pe_lst (pa_cons pe_str (pa_cons pe_str (pa_cons pe_str (pa_cons pe_str (pa_cons pe_str (pa_cons pe_str pa_nil))))))) pa_nil))) pa_nil))))), ?_⟩
    refine ⟨_, rfl, p, c, 5, rfl, hP, by decide, by decide, fun r H1 r0 r1 e1 => ⟨rfl, _, rfl, ?_⟩⟩
    have one : ∀ {H : Hp} {v : V} {x : Str}, Th K H v (.str x) → v = .str x := fun h => by
      cases h
      rfl
    refine ite2 (fun _ => ?_) (fun _ => ?_)
    · refine pick_new (K := K) (p := p) (c := c) (i := 0) (mk_cons mk_str (mk_cons mk_str (mk_cons mk_str (mk_cons mk_str (mk_cons mk_str mk_nil))))) rfl (by show 0 < 5; decide) (by show 5 ≤ 1000; decide) e1.pot rfl fun v d H2 hd ht e2 => ?_
      obtain ⟨x, hx, rfl⟩ : ∃ x, x ∈ (["A", "Ac", "Bo", "s", "Ao"] : List Str) ∧ d = .str x := by
        simp only [List.mem_cons, List.mem_nil_iff, or_false] at hd
        rcases hd with rfl | rfl | rfl | rfl | rfl <;> exact ⟨_, by simp, rfl⟩
      exact k v (.nm x) H2 hx (e1.trans e2) ht
    · refine pick_new (K := K) (p := p) (c := c) (i := 0) (mk_cons mk_str (mk_cons mk_str (mk_cons mk_str (mk_cons mk_str (mk_cons mk_str mk_nil))))) rfl (by show 0 < 5; decide) (by show 5 ≤ 1000; decide) e1.pot rfl fun v d H2 hd ht e2 => ?_
      obtain ⟨b, hb, rfl⟩ : ∃ x, x ∈ (["", "A", "B", "AB"] : List Str) ∧ d = .str x := by
        simp only [List.mem_cons, List.mem_nil_iff, or_false] at hd
        rcases hd with rfl | rfl | rfl | rfl | rfl <;> exact ⟨_, by simp, rfl⟩
      obtain rfl := one ht
      refine pick_new (K := K) (p := p) (c := c) (i := 0) (mk_cons mk_str (mk_cons mk_str (mk_cons mk_str (mk_cons mk_str (mk_cons mk_str (mk_cons mk_str mk_nil)))))) rfl (by show 0 < 6; decide) (by show 6 ≤ 1000; decide) e2.pot rfl fun v2 d2 H3 hd2 ht2 e3 => ?_
      obtain ⟨e, he, rfl⟩ : ∃ x, x ∈ (["", "c", "o", "s", "co"] : List Str) ∧ d2 = .str x := by
        simp only [List.mem_cons, List.mem_nil_iff, or_false] at hd2
        rcases hd2 with rfl | rfl | rfl | rfl | rfl | rfl <;> exact ⟨_, by simp, rfl⟩
      obtain rfl := one ht2
      have l1 : ∀ x : Str, x ∈ (["", "A", "B", "AB"] : List Str) → x.length ≤ 2 := by decide +kernel
      have l2 : ∀ x : Str, x ∈ (["", "c", "o", "s", "co"] : List Str) → x.length ≤ 2 := by decide +kernel
      have l3 := l1 b hb
      have l4 := l2 e he
      refine ⟨b, e, rfl, by omega, fun q H4 b' e' s4 hq how => ?_⟩
      refine k (.ref q) (.pat b' e') H4 ?_ (((e1.trans e2).trans e3).same s4) (.tup (.inl (.inl hq)) (.cons (.str _) (.cons (.str _) .nil)))
      rcases how with ⟨rfl, rfl, n⟩ | ⟨rfl, rfl⟩
      · exact ⟨hb, he, n⟩
      · exact ⟨by simp, by simp, by decide⟩
structure Rl where
  lab : Str
  b : Str
  e : Str
  ss : List Src
def Rl.d (r : Rl) : PyData := .tuple [.str r.lab, .tuple [.str r.b, .str r.e], .tuple (r.ss.map Src.d)]
structure RlOk (most : Nat) (r : Rl) : Prop where
  lab : r.lab ∈ (["cc", "as", "link"] : List Str)
  b : r.b ∈ (["", "A", "B"] : List Str)
  e : r.e ∈ (["o", "c", "", "s"] : List Str)
  ne : ¬ (r.b = "" ∧ r.e = "")
  ss : ∀ s ∈ r.ss, SrcOk s
  len : r.ss.length ≤ most
theorem src_flat (s : Src) : noLst s.d = true ∧ noPot s.d = true := by
  cases s <;> exact ⟨rfl, rfl⟩
theorem srcs_flat : ∀ ss : List Src, noLstAll (ss.map Src.d) = true ∧ noPotAll (ss.map Src.d) = true
  | [] => ⟨rfl, rfl⟩
  | s :: r => ⟨by rw [List.map_cons, noLstAll, (src_flat s).1, (srcs_flat r).1]; rfl, by rw [List.map_cons, noPotAll, (src_flat s).2, (srcs_flat r).2]; rfl⟩
theorem rl_flat (r : Rl) : noLst r.d = true ∧ noPot r.d = true := by
  obtain ⟨a, b⟩ := srcs_flat r.ss
  refine ⟨?_, ?_⟩
  · simp [Rl.d, noLst, noLstAll, a]
  · simp [Rl.d, noPot, noPotAll, b]
def spRule (K : PySem.W.Frag) : Sp := fun vs H Q _ => ∃ (p c : Addr) (m : Nat), vs = [.ref p, .int (m : Int)] ∧ m ≤ 100 ∧ PotAt p c H ∧ ∀ (v : V) (r : Rl) (H' : Hp), RlOk m r → Ext p c H H' → Th K H' v r.d → Q v H'
theorem sc_some_rule : FnScope ["pot", "most", "pattern", "sources", "lap"] ["pot", "most"] (defScope s_some_rule) := ⟨rfl, rfl, rfl, by decide +kernel, rfl, by decide +kernel, by decide +kernel⟩
theorem cal_some_rule (D : Def1 K mg "_law_some_rule" s_some_rule) (G : Glb mg) (ht : mg "tuple" = none) (CB : Cal P w K mg base 2 "_law_below" spBelow) (CP : Cal P w K mg base 3 "_law_pick" (spPick K)) (CW : Cal P w K mg base 1 "_law_whole" (spWhole K)) (CS : Cal P w K mg base 4 "_law_some_source" (spSrc K)) :
    Cal P w K mg base 5 "_law_some_rule" (spRule K) := by
  refine mkCal D sc_some_rule (fun _ _ _ _ _ _ us hl => match us, hl with | [_, _], _ => rfl) (fun vs H Q E h => ?_) (fun f cdv A outer s H vs Q E hr h => ?_)
  · obtain ⟨p, c, m, rfl, _⟩ := h
    rfl
  · obtain ⟨p, c, m, rfl, hm, hP, k⟩ := h
    refine ⟨_, pss_cons (ps_set (i := 2) sc_some_rule.nd rfl (.inl rfl) (pe_cal CW hr (by decide) (pa_cons (pe_cal CP hr (by decide) (pa_cons (pv 0) (pa_cons (pe_lst (pa_cons pe_str (pa_cons pe_str (pa_cons pe_str (pa_cons pe_str (pa_cons pe_str pa_nil)))))) pa_nil)))
        (pa_cons (pe_cal CP hr (by decide) (pa_cons (pv 0) (pa_cons (pe_lst (pa_cons pe_str (pa_cons pe_str (pa_cons pe_str (pa_cons pe_str (pa_cons pe_str pa_nil)))))) pa_nil))) pa_nil))))
      (pss_cons (ps_set (i := 3) sc_some_rule.nd rfl (.inl rfl) (pe_callTy call_tuple_of (by rfl) ht (by decide +kernel) (pa_cons (pe_lc (own := [("lap", 4)]) (g := gName 4) (tt := tYes) (by rfl) sc_some_rule.nd (pi_range1 (by rfl) G.range (pa_cons (pe_cal CB hr (by decide) (pa_cons (pv 0) (pa_cons (pe_op op_add (pv 1) pe_int) pa_nil))) pa_nil))
          (blkOk_by (own := [("lap", 4)]) (N := ["pot", "most", "pattern", "sources", "lap"]) (sc := defScope s_some_rule) (by decide +kernel)) (fun _ _ _ _ _ => pg_name (i := 4) sc_some_rule.nd rfl (Or.inl rfl)) (fun _ _ _ _ _ => pts_nil)
          (fun _ _ _ _ _ => pe_cal CS hr (by decide) (pa_cons (pv 0) pa_nil))) pa_nil)))
      (pss_one (ps_ret (pe_tup (pa_cons (pe_cal CP hr (by decide) (pa_cons (pv 0) (pa_cons (pe_lst (pa_cons pe_str (pa_cons pe_str (pa_cons pe_str pa_nil)))) pa_nil))) (pa_cons (pv 2) (pa_cons (pv 3) pa_nil))))))), ?_⟩
    have one : ∀ {H : Hp} {v : V} {x : Str}, Th K H v (.str x) → v = .str x := fun h => by
      cases h
      rfl
    refine set_read ?_
    refine pick_new (K := K) (p := p) (c := c) (i := 0) (mk_cons mk_str (mk_cons mk_str (mk_cons mk_str (mk_cons mk_str (mk_cons mk_str mk_nil))))) rfl (by show 0 < 5; decide) (by show 5 ≤ 1000; decide) hP rfl fun v d H1 hd ht1 e1 => ?_
    obtain ⟨b, hb, rfl⟩ : ∃ x, x ∈ (["", "A", "B"] : List Str) ∧ d = .str x := by
      simp only [List.mem_cons, List.mem_nil_iff, or_false] at hd
      rcases hd with rfl | rfl | rfl | rfl | rfl <;> exact ⟨_, by simp, rfl⟩
    obtain rfl := one ht1
    refine pick_new (K := K) (p := p) (c := c) (i := 0) (mk_cons mk_str (mk_cons mk_str (mk_cons mk_str (mk_cons mk_str (mk_cons mk_str mk_nil))))) rfl (by show 0 < 5; decide) (by show 5 ≤ 1000; decide) e1.pot rfl fun v2 d2 H2 hd2 ht2 e2 => ?_
    obtain ⟨e, he, rfl⟩ : ∃ x, x ∈ (["o", "c", "", "s"] : List Str) ∧ d2 = .str x := by
      simp only [List.mem_cons, List.mem_nil_iff, or_false] at hd2
      rcases hd2 with rfl | rfl | rfl | rfl | rfl <;> exact ⟨_, by simp, rfl⟩
    obtain rfl := one ht2
    have l1 : ∀ x : Str, x ∈ (["", "A", "B"] : List Str) → x.length ≤ 2 := by decide +kernel
    have l2 : ∀ x : Str, x ∈ (["o", "c", "", "s"] : List Str) → x.length ≤ 2 := by decide +kernel
    have l3 := l1 b hb
    have l4 := l2 e he
    refine ⟨b, e, rfl, by omega, fun q H3 b' e' s3 hq how => ?_⟩
    have ok : b' ∈ (["", "A", "B"] : List Str) ∧ e' ∈ (["o", "c", "", "s"] : List Str) ∧ ¬ (b' = "" ∧ e' = "") := by
      rcases how with ⟨rfl, rfl, n⟩ | ⟨rfl, rfl⟩
      · exact ⟨hb, he, n⟩
      · exact ⟨by simp, by simp, by decide⟩
    have x3 := (e1.trans e2).same s3
    have tq : Th K H3 (.ref q) (.tuple [.str b', .str e']) := .tup (.inl (.inl hq)) (.cons (.str _) (.cons (.str _) .nil))
    refine ⟨_, rfl, _, rfl, _, _, rfl, rfl, ?_⟩
    refine ⟨p, c, (m : Int) + 1, rfl, x3.pot, by omega, by omega, fun r H4 r0 r1 e4 => ⟨r, rfl, by omega, by omega, fun L nL => ?_⟩⟩
    refine grow (K := K) (p := p) (c := c) (σ := [some (.ref p), some (.int (m : Int)), some (.ref q), none, none]) (te := tCall (spSrc K) [] E0 (tCons (tVar 0) tNil)) (α := Src) (f := Src.d) (Ok := SrcOk) (n := r.toNat) (iv := 4) src_flat e4.pot nL (by omega) (fun _ => rfl) (fun x H' R hp q => ⟨_, rfl, p, c, rfl, hp, fun v s H2 ok e th => q v s H2 ok e th⟩) fun vs as H5 hD ta ok2 len e5 => ?_
    refine ⟨L, vs, rfl, .inl ⟨SqL.of hD, fun t nt => ?_⟩⟩
    have s6 : Same H5 (upd H5 t (.tup vs)) := same_upd nt
    have t6 : Th K (upd H5 t (.tup vs)) (.ref t) (.tuple (as.map Src.d)) := .tup (.inl (.inl upd_same)) (thAll_same s6 ta)
    generalize upd H5 t (.tup vs) = H6 at s6 t6 ⊢
    have x6 : Ext p c H H6 := ((x3.trans e4).trans e5).same s6
    have q6 : Th K H6 (.ref q) (.tuple [.str b', .str e']) := th_same s6 (th_ext e4.pot e5 (th_ext x3.pot e4 tq rfl) rfl)
    refine pick_new (K := K) (p := p) (c := c) (i := 0) (mk_cons mk_str (mk_cons mk_str (mk_cons mk_str mk_nil))) rfl (by show 0 < 3; decide) (by show 3 ≤ 1000; decide) x6.pot rfl fun v3 d3 H7 hd3 ht3 e7 => ?_
    obtain ⟨lab, hlab, rfl⟩ : ∃ x, x ∈ (["cc", "as", "link"] : List Str) ∧ d3 = .str x := by
      simp only [List.mem_cons, List.mem_nil_iff, or_false] at hd3
      rcases hd3 with rfl | rfl | rfl <;> exact ⟨_, by simp, rfl⟩
    obtain rfl := one ht3
    have q7 := th_ext x6.pot e7 q6 rfl
    have t7 := th_ext x6.pot e7 t6 (by simpa only [noPot] using (srcs_flat as).2)
    refine ⟨_, rfl, _, rfl, (by show 3 ≤ sizeLine; decide), fun z nz => ?_⟩
    have s8 : Same H7 (upd H7 z (.tup [.str lab, .ref q, .ref t])) := same_upd nz
    exact k (.ref z) ⟨lab, b', e', as⟩ _ ⟨hlab, ok.1, ok.2.1, ok.2.2, ok2, by rw [len]; omega⟩ ((x6.trans e7).same s8) (.tup (.inl (.inl upd_same)) (.cons (.str lab) (.cons (th_same s8 q7) (.cons (th_same s8 t7) .nil))))
def spBook (K : PySem.W.Frag) : Sp := fun vs H Q _ => ∃ (p c : Addr) (n m : Nat), vs = [.ref p, .int (n : Int), .int (m : Int)] ∧ n ≤ 100 ∧ m ≤ 100 ∧ PotAt p c H ∧ ∀ (q : Addr) (vs : List V) (rs : List Rl) (H' : Hp), (∀ r ∈ rs, RlOk m r) → rs.length ≤ n → Ext p c H H' → H' q = some (.tup vs) → ThAll K H' vs (rs.map Rl.d) → Q (.ref q) H'
theorem sc_some_book : FnScope ["pot", "many", "most", "lap"] ["pot", "many", "most"] (defScope s_some_book) := ⟨rfl, rfl, rfl, by decide +kernel, rfl, by decide +kernel, by decide +kernel⟩
theorem cal_some_book (D : Def1 K mg "_law_some_book" s_some_book) (G : Glb mg) (ht : mg "tuple" = none) (CB : Cal P w K mg base 2 "_law_below" spBelow) (CR : Cal P w K mg base 5 "_law_some_rule" (spRule K)) : Cal P w K mg base 6 "_law_some_book" (spBook K) := by
  refine mkCal D sc_some_book (fun _ _ _ _ _ _ us hl => match us, hl with | [_, _, _], _ => rfl) (fun vs H Q E h => ?_) (fun f cdv A outer s H vs Q E hr h => ?_)
  · obtain ⟨p, c, n, m, rfl, _⟩ := h
    rfl
  · obtain ⟨p, c, n, m, rfl, hn, hm, hP, k⟩ := h
    refine ⟨_, pss_one (ps_ret (pe_callTy call_tuple_of (by rfl) ht (by decide +kernel) (pa_cons (pe_lc (own := [("lap", 3)]) (g := gName 3) (tt := tYes) (by rfl) sc_some_book.nd (pi_range1 (by rfl) G.range (pa_cons (pe_cal CB hr (by decide) (pa_cons (pv 0) (pa_cons (pe_op op_add (pv 1) pe_int) pa_nil))) pa_nil))
          (blkOk_by (own := [("lap", 3)]) (N := ["pot", "many", "most", "lap"]) (sc := defScope s_some_book) (by decide +kernel)) (fun _ _ _ _ _ => pg_name (i := 3) sc_some_book.nd rfl (Or.inl rfl)) (fun _ _ _ _ _ => pts_nil)
          (fun _ _ _ _ _ => pe_cal CR hr (by decide) (pa_cons (pv 0) (pa_cons (pv 2) pa_nil)))) pa_nil))), ?_⟩
    refine ⟨_, rfl, _, rfl, _, _, rfl, rfl, ?_⟩
    refine ⟨p, c, (n : Int) + 1, rfl, hP, by omega, by omega, fun r H4 r0 r1 e4 => ⟨r, rfl, by omega, by omega, fun L nL => ?_⟩⟩
    refine grow (K := K) (p := p) (c := c) (σ := [some (.ref p), some (.int (n : Int)), some (.int (m : Int)), none]) (te := tCall (spRule K) [] E0 (tCons (tVar 0) (tCons (tVar 2) tNil))) (α := Rl) (f := Rl.d) (Ok := RlOk m) (n := r.toNat) (iv := 3) rl_flat e4.pot nL (by omega) (fun _ => rfl) (fun x H' R hp q => ⟨_, rfl, _, rfl, p, c, m, rfl, hm, hp, fun v s H2 ok e th => q v s H2 ok e th⟩) fun vs as H5 hD ta ok2 len e5 => ?_
    exact ⟨L, vs, rfl, .inl ⟨SqL.of hD, fun t nt => k t vs as _ ok2 (by omega) ((e4.trans e5).same (same_upd nt)) upd_same (thAll_same (same_upd nt) ta)⟩⟩
end
end Lk
/-! K36f -/
set_option Elab.async false
set_option linter.all false
set_option maxRecDepth 100000
set_option maxHeartbeats 4000000
namespace Lk
open PySem PySem.Spec PyProof.Rows L2
open Classical in
/-- the stem of a name by the ends of a pattern -/
noncomputable def stemO (b e z : Str) : Option Str := if h : ∃ m : Str, TL.tl z = TL.tl b ++ TL.tl m ++ TL.tl e then some (choose h) else none
theorem stemO_some {b e z m : Str} (h : TL.tl z = TL.tl b ++ TL.tl m ++ TL.tl e) : stemO b e z = some m := by
  have x : ∃ m : Str, TL.tl z = TL.tl b ++ TL.tl m ++ TL.tl e := ⟨m, h⟩
  unfold stemO
  rw [dif_pos x]
  exact congrArg some (TL.ext_tl (List.append_cancel_left (List.append_cancel_right ((Classical.choose_spec x).symm.trans h))))
theorem stemO_none {b e z : Str} (h : ¬ ∃ m : Str, TL.tl z = TL.tl b ++ TL.tl m ++ TL.tl e) : stemO b e z = none := dif_neg h
theorem stemO_eq {b e z m : Str} (h : stemO b e z = some m) : TL.tl z = TL.tl b ++ TL.tl m ++ TL.tl e := by
  apply Classical.byContradiction
  intro n
  by_cases x : ∃ m : Str, TL.tl z = TL.tl b ++ TL.tl m ++ TL.tl e
  · obtain ⟨m', hm⟩ := x
    rw [stemO_some hm] at h
    cases h
    exact n hm
  · rw [stemO_none x] at h
    cases h
theorem stemO_len {b e z m : Str} (h : stemO b e z = some m) : m.length ≤ z.length := by
  have l := congrArg List.length (stemO_eq h)
  rw [List.length_append, List.length_append, ← TL.len_tl, ← TL.len_tl, ← TL.len_tl, ← TL.len_tl] at l
  omega
def vO : Option Str → V
  | some m => .str m
  | none => .non
/-- the name that a source is with a stem -/
def Src.put (m : Str) : Src → Str
  | .pat b e => b ++ m ++ e
  | .nm x => x
noncomputable def Rl.to (r : Rl) (z : Str) : Option (List Str) := (stemO r.b r.e z).map fun m => r.ss.map (Src.put m)
def SrcLen : Src → Prop
  | .pat b e => b.length ≤ 3 ∧ e.length ≤ 3
  | .nm x => x.length ≤ 6
structure RlLen (r : Rl) : Prop where
  b : ∀ c ∈ TL.tl r.b, upB c = true
  e : ∀ c ∈ TL.tl r.e, loB c = true
  lb : r.b.length ≤ 3
  le : r.e.length ≤ 3
  ls : r.ss.length ≤ 3
  each : ∀ s ∈ r.ss, SrcLen s
theorem rl_len {r : Rl} (h : dRule r.d = true) : RlLen r := by
  have h2 : (dLabel (.str r.lab) && (dPat (.tuple [.str r.b, .str r.e]) && (decide ((r.ss.map Src.d).length ≤ 3) && (r.ss.map Src.d).all dSrc1))) = true := h
  rw [Bool.and_eq_true, Bool.and_eq_true, Bool.and_eq_true, decide_eq_true_eq, List.length_map, List.all_eq_true] at h2
  obtain ⟨_, hp, hl, hs⟩ := h2
  obtain ⟨a1, a2, a3, a4⟩ := pat_ends hp
  refine ⟨a1, a2, a3, a4, hl, fun s m => ?_⟩
  have q := hs _ (List.mem_map.mpr ⟨s, m, rfl⟩)
  unfold dSrc1 at q
  cases s with
  | pat b e =>
    have q2 : (dPat (.tuple [.str b, .str e]) || (false && decide (0 ≤ 6))) = true := q
    rw [Bool.false_and, Bool.or_false] at q2
    obtain ⟨_, _, b3, b4⟩ := pat_ends q2
    exact ⟨b3, b4⟩
  | nm x =>
    have q2 : (false || (dName (.str x) && decide (x.length ≤ 6))) = true := q
    rw [Bool.false_or, Bool.and_eq_true, decide_eq_true_eq] at q2
    exact q2.2
theorem book_len {rs : List Rl} (h : dBook (.tuple (rs.map Rl.d)) = true) : rs.length ≤ 6 ∧ ∀ r ∈ rs, RlLen r := by
  have h2 : (decide ((rs.map Rl.d).length ≤ 6) && (rs.map Rl.d).all dRule) = true := h
  rw [Bool.and_eq_true, decide_eq_true_eq, List.length_map, List.all_eq_true] at h2
  exact ⟨h2.1, fun r m => rl_len (h2.2 _ (List.mem_map.mpr ⟨r, m, rfl⟩))⟩
section
variable {P : Program} {w : World} {K : PySem.W.Frag} {mg : Str → Option Value} {base : Heap}
theorem th_pair {H : Hp} {v : V} {b e : Str} (h : Th K H v (.tuple [.str b, .str e])) : ∃ q, v = .ref q ∧ SqT K H q [.str b, .str e] := by
  cases h with
  | tup hs ha =>
    cases ha with
    | cons h1 t =>
      cases t with
      | cons h2 t =>
        cases t
        cases h1
        cases h2
        exact ⟨_, rfl, hs⟩
theorem th_rule {H : Hp} {v : V} {r : Rl} (h : Th K H v r.d) : ∃ q p s xs, v = .ref q ∧ SqT K H q [.str r.lab, .ref p, .ref s] ∧ SqT K H p [.str r.b, .str r.e] ∧ SqT K H s xs ∧ ThAll K H xs (r.ss.map Src.d) := by
  unfold Rl.d at h
  cases h with
  | tup hs ha =>
    cases ha with
    | cons h1 t =>
      cases t with
      | cons h2 t =>
        cases t with
        | cons h3 t =>
          cases t
          cases h1
          obtain ⟨p, rfl, hp⟩ := th_pair h2
          cases h3 with
          | tup hs3 ha3 => exact ⟨_, p, _, _, rfl, hs, hp, hs3, ha3⟩
theorem th_src {H : Hp} {v : V} {s : Src} (h : Th K H v s.d) : (∃ x, s = .nm x ∧ v = .str x) ∨ ∃ q b e, s = .pat b e ∧ v = .ref q ∧ SqT K H q [.str b, .str e] := by
  cases s with
  | pat b e =>
    obtain ⟨q, rfl, hq⟩ := th_pair h
    exact .inr ⟨q, b, e, rfl, rfl, hq⟩
  | nm x =>
    cases h
    exact .inl ⟨x, rfl, rfl⟩
/-- [filled(source, within) for source in sources] -/
theorem fills_read {σ : L2.St} {H : Hp} {a : Addr} {xs : List V} {ss : List Src} {m : Str} {j jm iv : Nat} {Q : VK} (hv : σ[j]? = some (some (.ref a))) (hs : SqT K H a xs) (ha : ThAll K H xs (ss.map Src.d)) (small : ss.length ≤ 1000) (len : ∀ s ∈ ss, SrcLen s) (lm : m.length ≤ 1000000)
    (wp : ∀ x : V, wipe ((wipe σ [iv]).set iv (some x)) [iv] = wipe σ [iv]) (hi : ∀ x : V, ((wipe σ [iv]).set iv (some x))[iv]? = some (some x)) (hm : ∀ x : V, ((wipe σ [iv]).set iv (some x))[jm]? = some (some (.str m)))
    (k : ∀ D H', H D = none → Same H H' → H' D = some (.lst ((ss.map (Src.put m)).map V.str)) → Q (.ref D) H') :
    tLc (iTup K (tVar j)) (gName iv) tYes (tCall (spFill K) [] E0 (tCons (tVar iv) (tCons (tVar jm) tNil))) [iv] σ H Q := by
  have hl := thAll_len ha
  rw [List.length_map] at hl
  refine ⟨_, hv, a, rfl, ⟨_, hs⟩, fun D nD => ?_⟩
  refine lc_tup (K := K) (a := a) (xs := xs) (fun i H' => H' D = some (.lst (((ss.take i).map (Src.put m)).map V.str)) ∧ Same H H') ⟨upd_same, same_upd nD⟩ (fun i H' _ h => Same.seqT h.2 hs) ?_ ?_
  · rintro i x H' hx ⟨hD, s⟩
    obtain ⟨d, hd, th⟩ := th_at ha hx
    rw [List.getElem?_map, Option.map_eq_some_iff] at hd
    obtain ⟨c, hc, rfl⟩ := hd
    have lc := len c (List.mem_of_getElem? hc)
    have hlt : i < ss.length := (List.getElem?_eq_some_iff.mp hc).1
    have fin : ∃ acc, H' D = some (.lst acc) ∧ acc.length < sizeLine ∧ (upd H' D (.lst (acc ++ [V.str (c.put m)]))) D = some (.lst (((ss.take (i + 1)).map (Src.put m)).map V.str)) ∧ Same H (upd H' D (.lst (acc ++ [V.str (c.put m)]))) := by
      refine ⟨_, hD, ?_, ?_, same_mut s nD⟩
      · rw [List.length_map, List.length_map, List.length_take, sizeLine_eq]
        omega
      · rw [upd_same, List.take_add_one, hc, List.map_append, List.map_append]
        rfl
    refine ⟨wp x, _, hi x, _, hm x, x, m, rfl, lm, ?_⟩
    rcases th_src (th_same s th) with ⟨y, rfl, rfl⟩ | ⟨q, b, e, rfl, rfl, hq⟩
    · exact .inl ⟨y, rfl, fin⟩
    · exact .inr ⟨q, b, e, rfl, hq, Nat.le_trans lc.1 (by decide), Nat.le_trans lc.2 (by decide), fin⟩
  · rintro H' ⟨hD, s⟩
    rw [hl, List.take_length] at hD
    exact k D H' nD s hD
/-- the rows of the rules that fit a name and are not spent -/
noncomputable def rowOf (z : Str) (ns : List Nat) (c : Rl × Nat) : Option (Nat × List Str) := if c.2 ∈ ns then none else (c.1.to z).map fun ss => (c.2, ss)
noncomputable def fitD (rs : List Rl) (z : Str) (ns : List Nat) : List (Nat × List Str) := rs.zipIdx.filterMap (rowOf z ns)
theorem row_no {z : Str} {ns : List Nat} {r : Rl} {i : Nat} (h : stemO r.b r.e z = none ∨ i ∈ ns) : rowOf z ns (r, i) = none := by
  unfold rowOf Rl.to
  by_cases c : i ∈ ns
  · exact if_pos c
  · rw [if_neg c, h.resolve_right c]
    rfl
theorem row_yes {z : Str} {ns : List Nat} {r : Rl} {i : Nat} {m : Str} (h : stemO r.b r.e z = some m) (n : i ∉ ns) : rowOf z ns (r, i) = some (i, r.ss.map (Src.put m)) := by
  unfold rowOf Rl.to
  rw [if_neg n, h]
  rfl
theorem fm_step {α β : Type} {f : α → Option β} {l : List α} {i : Nat} {x : α} (h : l[i]? = some x) : (l.take (i + 1)).filterMap f = (l.take i).filterMap f ++ (f x).toList := by
  rw [List.take_add_one, h, List.filterMap_append]
  cases e : f x with
  | none => simp [List.filterMap_cons, e]
  | some y => simp [List.filterMap_cons, e]
theorem in_ints {i : Nat} : ∀ {ns : List Nat}, inV (V.int (i : Int)) (ns.map fun n : Nat => V.int (n : Int)) = decide (i ∈ ns)
  | [] => rfl
  | n :: ns => by
    have z := in_ints (i := i) (ns := ns)
    unfold inV at z ⊢
    rw [List.map_cons, List.any_cons, z]
    have e : eqV (V.int (n : Int)) (V.int (i : Int)) = decide (i = n) := by
      show decide ((n : Int) = (i : Int)) = _
      rw [Bool.eq_iff_iff, decide_eq_true_iff, decide_eq_true_iff]
      omega
    rw [e, Bool.eq_iff_iff, Bool.or_eq_true, decide_eq_true_iff, decide_eq_true_iff, decide_eq_true_iff, List.mem_cons]
theorem flat_ints {ns : List Nat} : (ns.map fun n : Nat => V.int (n : Int)).all flatV = true := by
  rw [List.all_eq_true]
  intro v m
  obtain ⟨n, _, rfl⟩ := List.mem_map.mp m
  rfl
/-- a row as it lies on the heap: its pair, its list, its number, its names -/
abbrev Cell := Addr × Addr × Nat × List Str
def CellOk (H : Hp) (c : Cell) : Prop := H c.1 = some (.tup [.int (c.2.2.1 : Int), .ref c.2.1]) ∧ H c.2.1 = some (.lst (c.2.2.2.map V.str))
theorem CellOk.same {H H' : Hp} {c : Cell} (h : CellOk H c) (s : Same H H') : CellOk H' c := ⟨s _ _ h.1, s _ _ h.2⟩
def spFit (K : PySem.W.Frag) : Sp := fun vs H Q _ => ∃ (q : Addr) (xs : List V) (rs : List Rl) (z : Str) (t : Addr) (ns : List Nat), vs = [.ref q, .str z, .ref t] ∧ SqT K H q xs ∧ ThAll K H xs (rs.map Rl.d) ∧ dBook (.tuple (rs.map Rl.d)) = true ∧ z.length ≤ 1000 ∧ SqT K H t (ns.map fun n : Nat => V.int (n : Int)) ∧
  ∀ (p : Addr) (L : List Cell) (H' : Hp), Same H H' → H' p = some (.lst (L.map fun c => V.ref c.1)) → (∀ c ∈ L, CellOk H' c) → L.map (·.2.2) = fitD rs z ns → Q (.ref p) H'
theorem sc_p_fitted : FnScope ["book", "name", "spent", "found", "number", "rule", "_", "pattern", "sources", "within", "source"] ["book", "name", "spent"] (defScope s_p_fitted) := ⟨rfl, rfl, rfl, by decide +kernel, rfl, by decide +kernel, by decide +kernel⟩
theorem cal_p_fitted (D : Def1 K mg "fitted" s_p_fitted) (G : Glb mg) (CW : Cal P w K mg base 1 "stem_within" (spSW K)) (CF : Cal P w K mg base 1 "filled" (spFill K)) : Cal P w K mg base 2 "fitted" (spFit K) := by
  refine mkCal D sc_p_fitted (fun _ _ _ _ _ _ us hl => match us, hl with | [_, _, _], _ => rfl) (fun vs H Q E h => ?_) (fun f cdv A outer s H vs Q E hr h => ?_)
  · obtain ⟨q, xs, rs, z, t, ns, rfl, _⟩ := h
    rfl
  · obtain ⟨q, xs, rs, z, t, ns, rfl, hq, ha, hB, lz, ht, k⟩ := h
    refine ⟨_, (pss_cons (ps_set (i := 3) sc_p_fitted.nd rfl (.inl rfl) (pe_lst pa_nil))
    (pss_cons (ps_for PassesOwn.never rfl (pi_enT (by rfl) G.enumerate (pa_cons (pv 0) pa_nil)) (pg_tup rfl (pgs_cons (pg_name (i := 4) sc_p_fitted.nd rfl (.inl rfl)) (pgs_cons (pg_name (i := 5) sc_p_fitted.nd rfl (.inl rfl)) pgs_nil)))
    (pss_cons (ps_asg (pv 5) (pg_tup rfl (pgs_cons (pg_name (i := 6) sc_p_fitted.nd rfl (.inl rfl)) (pgs_cons (pg_name (i := 7) sc_p_fitted.nd rfl (.inl rfl)) (pgs_cons (pg_name (i := 8) sc_p_fitted.nd rfl (.inl rfl)) pgs_nil)))))
    (pss_cons (ps_set (i := 9) sc_p_fitted.nd rfl (.inr rfl) (pe_cal CW hr (by decide) (pa_cons (pv 7) (pa_cons (pv 1) pa_nil))))
    (pss_one (ps_if (PW.pt (pw_and (pt_cmpR op_notN (pv 9) pe_non (nomark _)) (pw_and1 (pt_cmpR op_notIn_seq (pv 4) (pv 2) (by rfl))))) (pss_one (ps_expr (pe_bm PySem.F.plainAttrs_list PySem.F.slot_list_append PySem.F.type_list_append mt_append (pv 3) (pa_cons (pe_tup (pa_cons (pv 4) (pa_cons (pe_lc (own := [("source", 10)]) (g := gName 10) (tt := tYes) (by rfl) sc_p_fitted.nd (pi_tup (pv 8)) (blkOk_by (own := [("source", 10)]) (N := ["book", "name", "spent", "found", "number", "rule", "_", "pattern", "sources", "within", "source"]) (sc := defScope s_p_fitted) (by decide +kernel)) (fun _ _ _ _ _ => pg_name (i := 10) sc_p_fitted.nd rfl (Or.inl rfl)) (fun _ _ _ _ _ => pts_nil) (fun _ _ _ _ _ => (pe_cal CF hr (by decide) (pa_cons (pv 10) (pa_cons (pv 9) pa_nil))))) pa_nil))) pa_nil)))) pss_nil)))))
    (pss_one (ps_ret (pv 3))))), ?_⟩
    obtain ⟨many, len⟩ := book_len hB
    have hl := thAll_len ha
    rw [List.length_map] at hl
    refine ⟨(by show 0 ≤ sizeLine; decide), fun D nD => ?_⟩
    refine ⟨_, rfl, q, _, rfl, Same.seqT (same_upd nD) hq, for_enT (K := K) (a := q) (xs := xs) (fun i σ H' => ∃ v4 v5 v6 v7 v8 v9 v10 : Option V, σ = [some (.ref q), some (.str z), some (.ref t), some (.ref D), v4, v5, v6, v7, v8, v9, v10] ∧ Same H H' ∧
      ∃ L : List Cell, H' D = some (.lst (L.map fun c => V.ref c.1)) ∧ (∀ c ∈ L, CellOk H' c ∧ c.2.1 ≠ D ∧ c.1 ≠ D) ∧ L.map (·.2.2) = ((rs.zipIdx).take i).filterMap (rowOf z ns))
      ⟨_, _, _, _, _, _, _, rfl, same_upd nD, [], upd_same, (fun _ m => nomatch m), rfl⟩ (fun i σ H' ⟨_, _, _, _, _, _, _, _, s, _⟩ => Same.seqT s hq) ?_ ?_⟩
    · rintro i x σ H' T hx nT ⟨v4, v5, v6, v7, v8, v9, v10, rfl, sH, L, hD, cells, eL⟩
      obtain ⟨d, hd, th⟩ := th_at ha hx
      rw [List.getElem?_map, Option.map_eq_some_iff] at hd
      obtain ⟨r, hr2, rfl⟩ := hd
      have R := len r (List.mem_of_getElem? hr2)
      have hz : (rs.zipIdx)[i]? = some (r, i) := by rw [List.getElem?_zipIdx, hr2]; simp
      have hlt : i < rs.length := (List.getElem?_eq_some_iff.mp hr2).1
      have nTD : D ≠ T := ne_of_none hD nT
      have s1 : Same H' (upd H' T (.tup [.int (i : Int), x])) := same_upd nT
      refine ⟨T, _, rfl, .inl (.inl upd_same), rfl, _, _, rfl, _, _, rfl, rfl, ?_⟩
      generalize upd H' T (.tup [.int (i : Int), x]) = H1 at s1 ⊢
      have sH1 := sH.trans s1
      have hD1 := s1 _ _ hD
      obtain ⟨a, p, s, ys, rfl, ha3, hp, hs, hys⟩ := th_rule (th_same sH1 th)
      refine ⟨_, rfl, a, _, rfl, ha3, rfl, _, _, rfl, _, _, rfl, _, _, rfl, rfl, ?_⟩
      refine ⟨_, rfl, _, rfl, p, r.b, r.e, z, rfl, hp, R.b, R.e, Nat.le_trans R.lb (by decide), Nat.le_trans R.le (by decide), Nat.le_trans lz (by decide), ?_⟩
      have cells1 : ∀ c ∈ L, CellOk H1 c ∧ c.2.1 ≠ D ∧ c.1 ≠ D := fun c m => ⟨(cells c m).1.same s1, (cells c m).2⟩
      have skip : stemO r.b r.e z = none ∨ i ∈ ns → L.map (·.2.2) = ((rs.zipIdx).take (i + 1)).filterMap (rowOf z ns) := fun h => by
        rw [fm_step hz, row_no h, ← eL]
        simp
      cases hst : stemO r.b r.e z with
      | none =>
        refine ⟨fun m hm => ?_, fun _ => ?_⟩
        · rw [stemO_some hm] at hst
          cases hst
        · refine ⟨_, rfl, rfl, _, rfl, ?_⟩
          refine iteF' rfl ?_
          exact ⟨_, _, _, _, _, _, _, rfl, sH1, L, hD1, cells1, skip (.inl hst)⟩
      | some m =>
        refine ⟨fun m' hm => ?_, fun no => absurd ⟨m, stemO_eq hst⟩ no⟩
        rw [stemO_some hm] at hst
        obtain rfl := Option.some.inj hst
        replace hst := stemO_some hm
        refine ⟨_, rfl, rfl, _, rfl, iteT' rfl ?_⟩
        refine ⟨_, rfl, _, rfl, t, _, rfl, .inr (Same.seqT sH1 ht), rfl, flat_ints, _, rfl, ?_⟩
        by_cases hin : i ∈ ns
        · refine iteF' ?_ ?_
          · show (!inV (V.int (i : Int)) _) = false
            rw [in_ints, decide_eq_true hin]
            rfl
          · exact ⟨_, _, _, _, _, _, _, rfl, sH1, L, hD1, cells1, skip (.inr hin)⟩
        · refine iteT' ?_ ?_
          · show (!inV (V.int (i : Int)) _) = true
            rw [in_ints, decide_eq_false hin]
            rfl
          · have lm := stemO_len hst
            refine ⟨_, rfl, .inl ⟨rfl, _, SqL.of hD1⟩, ?_⟩
            refine ⟨_, rfl, ?_⟩
            refine fills_read (K := K) (a := s) (xs := ys) (ss := r.ss) (m := m') rfl hs hys (Nat.le_trans R.ls (by decide)) R.each (by omega) (fun _ => rfl) (fun _ => rfl) (fun _ => rfl) fun l H2 nl s2 hl2 => ?_
            refine ⟨(by show 2 ≤ sizeLine; decide), fun p2 np2 => ?_⟩
            have s3 : Same H2 (upd H2 p2 (.tup [.int (i : Int), .ref l])) := same_upd np2
            have at2 : upd H2 p2 (.tup [.int (i : Int), .ref l]) p2 = some (.tup [.int (i : Int), .ref l]) := upd_same
            have hl3 := s3 _ _ hl2
            have hD3 := s3 _ _ (s2 _ _ hD1)
            have s13 := s2.trans s3
            generalize upd H2 p2 (.tup [.int (i : Int), .ref l]) = H3 at s3 at2 hl3 hD3 s13 ⊢
            have nlD : l ≠ D := fun z => by
              rw [z, hD1] at nl
              cases nl
            have np2D : p2 ≠ D := fun z => by
              rw [z, hD3] at at2
              cases at2
            have few : L.length ≤ 6 := by
              have z1 := congrArg List.length eL
              have z2 := List.length_filterMap_le (rowOf z ns) ((rs.zipIdx).take i)
              rw [List.length_map] at z1
              rw [List.length_take, List.length_zipIdx] at z2
              omega
            refine ⟨D, _, _, rfl, rfl, hD3, by rw [List.length_map, sizeLine_eq]; omega, ?_⟩
            refine ⟨_, _, _, _, _, _, _, rfl, same_mut (sH1.trans s13) nD, L ++ [(p2, l, i, r.ss.map (Src.put m'))], by rw [upd_same, List.map_append]; rfl, fun c mc => ?_, ?_⟩
            · have ok : CellOk H3 c ∧ c.2.1 ≠ D ∧ c.1 ≠ D := by
                rcases List.mem_append.mp mc with mc | mc
                · exact ⟨(cells1 c mc).1.same s13, (cells1 c mc).2⟩
                · rw [List.mem_singleton.mp mc]
                  exact ⟨⟨at2, hl3⟩, nlD, np2D⟩
              refine ⟨⟨?_, ?_⟩, ok.2⟩
              · rw [upd_ne ok.2.2]
                exact ok.1.1
              · rw [upd_ne ok.2.1]
                exact ok.1.2
            · rw [fm_step hz, row_yes hst hin, List.map_append, eL]
              rfl
    · rintro σ H' ⟨v4, v5, v6, v7, v8, v9, v10, rfl, sH, L, hD, cells, eL⟩
      rw [hl, List.take_of_length_le (by rw [List.length_zipIdx]; exact Nat.le_refl _)] at eL
      exact ⟨_, rfl, k D L H' sH hD (fun c m => (cells c m).1) eL⟩
theorem bulkAll_le {c : Nat} : ∀ {ds : List PyData}, (∀ d ∈ ds, d.bulk ≤ c) → PyData.bulkAll ds ≤ ds.length * (c + 1)
  | [], _ => by simp [PyData.bulkAll]
  | d :: ds, h => by
    have z := bulkAll_le fun e m => h e (List.mem_cons_of_mem _ m)
    have y := h d List.mem_cons_self
    rw [PyData.bulkAll, List.length_cons, Nat.add_mul]
    omega
theorem rl_bulk {r : Rl} (h : dRule r.d = true) : r.d.bulk ≤ 100 := by
  have L := rl_len h
  have h2 : ((decide (1 ≤ r.lab.length) && (decide (r.lab.length ≤ 8) && (TL.tl r.lab).all loB)) && (dPat (.tuple [.str r.b, .str r.e]) && dSrcs (.tuple (r.ss.map Src.d)))) = true := h
  rw [Bool.and_eq_true, Bool.and_eq_true, Bool.and_eq_true, decide_eq_true_eq, decide_eq_true_eq] at h2
  have l8 := h2.1.2.1
  have b := L.lb
  have e := L.le
  have s : PyData.bulkAll (r.ss.map Src.d) ≤ (r.ss.map Src.d).length * (8 + 1) := bulkAll_le fun d m => by
    obtain ⟨s, ms, rfl⟩ := List.mem_map.mp m
    have q := L.each s ms
    cases s with
    | pat b e =>
      have q2 : b.length ≤ 3 ∧ e.length ≤ 3 := q
      show b.length + 1 + (e.length + 1 + 0) ≤ 8
      omega
    | nm x =>
      have q2 : x.length ≤ 6 := q
      show x.length ≤ 8
      omega
  rw [List.length_map] at s
  have n := L.ls
  show r.lab.length + 1 + ((r.b.length + 1 + (r.e.length + 1 + 0)) + 1 + (PyData.bulkAll (r.ss.map Src.d) + 1 + 0)) ≤ 100
  omega
theorem book_bulk {rs : List Rl} (h : dBook (.tuple (rs.map Rl.d)) = true) : (PyData.tuple (rs.map Rl.d)).bulk ≤ 1000000 := by
  have h2 : (decide ((rs.map Rl.d).length ≤ 6) && (rs.map Rl.d).all dRule) = true := h
  rw [Bool.and_eq_true, decide_eq_true_eq, List.all_eq_true] at h2
  have s : PyData.bulkAll (rs.map Rl.d) ≤ (rs.map Rl.d).length * (100 + 1) := bulkAll_le fun d m => by
    have q := h2.2 d m
    obtain ⟨r, _, rfl⟩ := List.mem_map.mp m
    exact rl_bulk q
  show PyData.bulkAll (rs.map Rl.d) ≤ 1000000
  have n := h2.1
  omega
end
end Lk
/-! K36k -/
set_option Elab.async false
set_option linter.all false
set_option maxRecDepth 100000
set_option maxHeartbeats 4000000
namespace Lk
open PySem PySem.Spec PyProof.Rows L2
section
variable {P : Program} {w : World} {K : PySem.W.Frag} {mg : Str → Option Value} {base : Heap}
/-- the sources of a rule for a name, none if it doesn't fit -/
noncomputable def Rl.of (r : Rl) (z : Str) : List Str := (r.to z).getD []
theorem of_none {r : Rl} {z : Str} (h : stemO r.b r.e z = none) : r.of z = [] := by
  unfold Rl.of Rl.to
  rw [h]
  rfl
theorem of_some {r : Rl} {z m : Str} (h : stemO r.b r.e z = some m) : r.of z = r.ss.map (Src.put m) := by
  unfold Rl.of Rl.to
  rw [h]
  rfl
theorem of_few {r : Rl} (R : RlLen r) (z : Str) : (r.of z).length ≤ 3 := by
  cases h : stemO r.b r.e z with
  | none =>
    rw [of_none h]
    exact Nat.zero_le _
  | some m =>
    rw [of_some h, List.length_map]
    exact R.ls
theorem put_len {s : Src} (L : SrcLen s) {m : Str} : (s.put m).length ≤ m.length + 6 := by
  cases s with
  | pat b e =>
    have q : b.length ≤ 3 ∧ e.length ≤ 3 := L
    show (b ++ m ++ e).length ≤ _
    rw [len_add, len_add]
    omega
  | nm x =>
    have q : x.length ≤ 6 := L
    show x.length ≤ _
    omega
theorem of_len {r : Rl} (R : RlLen r) {z y : Str} (h : y ∈ r.of z) : y.length ≤ z.length + 6 := by
  cases e : stemO r.b r.e z with
  | none =>
    rw [of_none e] at h
    cases h
  | some m =>
    rw [of_some e] at h
    obtain ⟨s, hs, rfl⟩ := List.mem_map.mp h
    have a := put_len (R.each s hs) (m := m)
    have b := stemO_len e
    omega
end
theorem gN_eq {i : Nat} {x y : V} {σ : L2.St} {H : Hp} {q : L2.St → Hp → Prop} (e : x = y) (h : gName i y σ H q) : gName i x σ H q := e ▸ h
theorem units1 {n : Nat} (h : n + 64 < cLine) : n + 1 < cLine := by omega
/-! the keys of a dict whose values are all True -/
def insK (ks : List Str) (y : Str) : List Str := if y ∈ ks then ks else ks ++ [y]
def dk (ks : List Str) : List (Key × V) := ks.map fun y => ((Sum.inr y : Key), V.bl true)
theorem dk_put {ks : List Str} {y : Str} : putK (dk ks) (Sum.inr y) (V.bl true) = dk (insK ks y) := by
  unfold putK insK
  by_cases h : y ∈ ks
  · have e : ((dk ks).any fun kv => decide (kv.1 = (Sum.inr y : Key))) = true := by
      rw [List.any_eq_true]
      exact ⟨(Sum.inr y, V.bl true), List.mem_map.mpr ⟨y, h, rfl⟩, decide_eq_true rfl⟩
    rw [if_pos e, if_pos h]
    unfold dk
    rw [List.map_map]
    refine List.map_congr_left fun x _ => ?_
    show (if (Sum.inr x : Key) = Sum.inr y then ((Sum.inr x : Key), V.bl true) else (Sum.inr x, V.bl true)) = _
    split <;> rfl
  · have e : ¬ ((dk ks).any fun kv => decide (kv.1 = (Sum.inr y : Key))) = true := by
      rw [List.any_eq_true]
      rintro ⟨p, hp, e⟩
      obtain ⟨x, hx, rfl⟩ := List.mem_map.mp hp
      have z : (Sum.inr x : Key) = Sum.inr y := of_decide_eq_true e
      injection z with z
      exact h (z ▸ hx)
    rw [if_neg e, if_neg h]
    unfold dk
    rw [List.map_append]
    rfl
theorem dk_len (ks : List Str) : (dk ks).length = ks.length := List.length_map ..
/-! ### what is gathered: just the names that chains come to -/
/-- a chain, its rules the last one first, and the name that it comes to -/
inductive Chain (rs : List Rl) (z0 : Str) : List Nat → Str → Prop
  | start : Chain rs z0 [] z0
  | step {ks : List Nat} {z y : Str} {k : Nat} {r : Rl} : Chain rs z0 ks z → rs[k]? = some r → k ∉ ks → y ∈ r.of z → Chain rs z0 (k :: ks) y
section
variable {rs : List Rl} {z0 : Str}
theorem chain_lt {ks : List Nat} {y : Str} (h : Chain rs z0 ks y) : (∀ k ∈ ks, k < rs.length) ∧ ks.Nodup := by
  induction h with
  | start => exact ⟨(fun _ m => nomatch m), List.nodup_nil⟩
  | step c hr n _ ih =>
    refine ⟨fun j m => ?_, List.nodup_cons.mpr ⟨n, ih.2⟩⟩
    rcases List.mem_cons.mp m with e | m
    · rw [e]
      exact (List.getElem?_eq_some_iff.mp hr).1
    · exact ih.1 j m
end
/-- the names that chains come to all stand in a short list -/
structure Short (rs : List Rl) (z : Str) (L0 : List Str) : Prop where
  in_ : ∀ ks y, Chain rs z ks y → y ∈ L0
  few : L0.length ≤ 4000
  short : ∀ y ∈ L0, y.length ≤ 1000
end Lk
/-! K36m -/
set_option Elab.async false
set_option linter.all false
set_option maxRecDepth 100000
set_option maxHeartbeats 4000000
namespace Lk
open PySem PySem.Spec PyProof.Rows L2
/-! ### the law's walk of the chains, as lists -/
def srt (l : List Nat) : List Nat := l.mergeSort fun a b => decide (a ≤ b)
theorem srt_perm (l : List Nat) : (srt l).Perm l := List.mergeSort_perm _ _
theorem srt_nil : srt [] = [] := List.eq_nil_of_length_eq_zero (srt_perm []).length_eq
theorem srt_le (l : List Nat) : (srt l).Pairwise (· ≤ ·) := by
  have z := List.pairwise_mergeSort (le := fun a b : Nat => decide (a ≤ b)) (fun a b c h1 h2 => by simp at h1 h2 ⊢; omega) (fun a b => by simp; omega) l
  exact z.imp fun h => of_decide_eq_true h
theorem srt_eq {l m : List Nat} (h : m.Perm l) (s : m.Pairwise (· ≤ ·)) : m = srt l :=
  List.Perm.eq_of_pairwise (le := (· ≤ ·)) (fun a b _ _ h1 h2 => Nat.le_antisymm h1 h2) s (srt_le l) (h.trans (srt_perm l).symm)
theorem srt_same {l m : List Nat} (h : l.Perm m) : srt l = srt m := srt_eq ((srt_perm l).trans h) (srt_le l)
theorem mem_srt {l : List Nat} {k : Nat} : k ∈ srt l ↔ k ∈ l := (srt_perm l).mem_iff
abbrev Place := Str × List Nat
def Succ (rs : List Rl) (p p' : Place) : Prop := ∃ k r, rs[k]? = some r ∧ k ∉ p.2 ∧ p'.1 ∈ r.of p.1 ∧ p'.2 = srt (p.2 ++ [k])
def Snds (rs : List Rl) (z0 : Str) (p : Place) : Prop := ∃ ks, Chain rs z0 ks p.1 ∧ p.2 = srt ks
theorem snds_succ {rs : List Rl} {z0 : Str} {p p' : Place} (h : Snds rs z0 p) (s : Succ rs p p') : Snds rs z0 p' := by
  obtain ⟨ks, c, e⟩ := h
  obtain ⟨k, r, hr, n, hy, e2⟩ := s
  refine ⟨k :: ks, .step c hr (fun m => n (by rw [e, mem_srt]; exact m)) hy, ?_⟩
  rw [e2, e]
  refine srt_same ?_
  have z1 : (srt ks ++ [k]).Perm (k :: srt ks) := List.perm_append_singleton k _
  exact z1.trans ((srt_perm ks).cons k)
/-- what stands at each step of the walk; p0: the place that is gone through, its rules below i are done -/
structure LK (rs : List Rl) (z0 : Str) (fs : List Str) (rest seen : List Place) (op : Place → Prop) : Prop where
  snd : ∀ p ∈ seen, Snds rs z0 p
  sub : ∀ p ∈ rest, p ∈ seen
  st : (z0, []) ∈ seen
  f1 : ∀ y ∈ fs, ∃ p ∈ seen, p.1 = y
  f2 : ∀ p ∈ seen, p.1 ∈ fs
  clo : ∀ p ∈ seen, p ∈ rest ∨ op p ∨ ∀ p', Succ rs p p' → p' ∈ seen
section
variable {rs : List Rl} {z0 : Str} {fs : List Str} {rest seen : List Place} {op : Place → Prop}
theorem LK.start : LK rs z0 [z0] [(z0, [])] [(z0, [])] (fun _ => False) := by
  refine ⟨fun p m => ?_, fun p m => m, List.mem_singleton.mpr rfl, fun y m => ⟨_, List.mem_singleton.mpr rfl, (List.mem_singleton.mp m).symm⟩, fun p m => ?_, fun p m => .inl m⟩
  · rw [List.mem_singleton.mp m]
    exact ⟨[], .start, srt_nil.symm⟩
  · rw [List.mem_singleton.mp m]
    exact List.mem_singleton.mpr rfl
/-- one more name, its place seen or new -/
theorem LK.more (h : LK rs z0 fs rest seen op) {p : Place} (s : Snds rs z0 p) : LK rs z0 (fs ++ [p.1]) (if p ∈ seen then rest else rest ++ [p]) (if p ∈ seen then seen else seen ++ [p]) op := by
  by_cases m : p ∈ seen
  · rw [if_pos m, if_pos m]
    refine ⟨h.snd, h.sub, h.st, fun y my => ?_, fun q mq => List.mem_append_left _ (h.f2 q mq), h.clo⟩
    rcases List.mem_append.mp my with my | my
    · exact h.f1 y my
    · exact ⟨p, m, (List.mem_singleton.mp my).symm⟩
  · rw [if_neg m, if_neg m]
    refine ⟨fun q mq => ?_, fun q mq => ?_, List.mem_append_left _ h.st, fun y my => ?_, fun q mq => ?_, fun q mq => ?_⟩
    · rcases List.mem_append.mp mq with mq | mq
      · exact h.snd q mq
      · rw [List.mem_singleton.mp mq]
        exact s
    · rcases List.mem_append.mp mq with mq | mq
      · exact List.mem_append_left _ (h.sub q mq)
      · exact List.mem_append_right _ mq
    · rcases List.mem_append.mp my with my | my
      · obtain ⟨q, a, b⟩ := h.f1 y my
        exact ⟨q, List.mem_append_left _ a, b⟩
      · exact ⟨p, List.mem_append_right _ (List.mem_singleton.mpr rfl), (List.mem_singleton.mp my).symm⟩
    · rcases List.mem_append.mp mq with mq | mq
      · exact List.mem_append_left _ (h.f2 q mq)
      · rw [List.mem_singleton.mp mq]
        exact List.mem_append_right _ (List.mem_singleton.mpr rfl)
    · rcases List.mem_append.mp mq with mq | mq
      · rcases h.clo q mq with z | z | z
        · exact .inl (List.mem_append_left _ z)
        · exact .inr (.inl z)
        · exact .inr (.inr fun p' s' => List.mem_append_left _ (z p' s'))
      · exact .inl (List.mem_append_right _ mq)
/-- and is done -/
theorem LK.done {p0 : Place} (h : LK rs z0 fs rest seen (fun p => p = p0)) (all : ∀ p', Succ rs p0 p' → p' ∈ seen) : LK rs z0 fs rest seen (fun _ => False) := by
  refine ⟨h.snd, h.sub, h.st, h.f1, h.f2, fun q m => ?_⟩
  rcases h.clo q m with z | z | z
  · exact .inl z
  · exact .inr (.inr (z ▸ all))
  · exact .inr (.inr z)
end
/-! how many chains go on from a place, with so many rules left -/
def wgt (m : Nat) : Nat → Nat
  | 0 => 1
  | j + 1 => 1 + (j + 1) * m * wgt m j
def left (n : Nat) (ns : List Nat) : Nat := n - ns.length
def load (m n : Nat) (rest : List Place) : Nat := (rest.map fun p => wgt m (left n p.2)).sum
end Lk
/-! K36l -/
set_option Elab.async false
set_option linter.all false
set_option maxRecDepth 100000
set_option maxHeartbeats 4000000
/-! K36v -/
set_option Elab.async false
set_option linter.all false
set_option maxRecDepth 100000
set_option maxHeartbeats 4000000
namespace Lk
open PySem PySem.Spec PyProof.Rows L2
theorem units65 {k : Nat} {A : Around} (h : Room k A) : A.units + 65 < cLine := by
  have := h.un
  omega
def PAt (H : Hp) (a : Addr) (p : Place) : Prop := ∃ t, H a = some (.tup [.str p.1, .ref t]) ∧ H t = some (.tup (p.2.map fun n : Nat => V.int (n : Int)))
theorem PAt.mut {H : Hp} {a D : Addr} {p : Place} {ys : List V} {o : HO} (h : PAt H a p) (hD : H D = some (.lst ys)) : PAt (upd H D o) a p := by
  obtain ⟨t, h1, h2⟩ := h
  have n1 : a ≠ D := fun e => by
    rw [e, hD] at h1
    cases h1
  have n2 : t ≠ D := fun e => by
    rw [e, hD] at h2
    cases h2
  exact ⟨t, (upd_ne n1).trans h1, (upd_ne n2).trans h2⟩
/-! a place as data -/
def pD (p : Place) : PyData := .tuple [.str p.1, .tuple (p.2.map fun n : Nat => PyData.int (n : Int))]
theorem dp_nats {K : PySem.W.Frag} {H : Hp} : ∀ ns : List Nat, DpAll K H (ns.map fun n : Nat => V.int (n : Int)) (ns.map fun n : Nat => PyData.int (n : Int))
  | [] => .nil
  | n :: ns => .cons (.int _) (dp_nats ns)
theorem PAt.dp {K : PySem.W.Frag} {H : Hp} {a : Addr} {p : Place} (h : PAt H a p) : Dp K H (.ref a) (pD p) := by
  obtain ⟨t, h1, h2⟩ := h
  exact .tup (SqT.of h1) (.cons (.str _) (.cons (.tup (SqT.of h2) (dp_nats _)) .nil))
end Lk
/-! K36o -/
set_option Elab.async false
set_option linter.all false
set_option maxRecDepth 100000
set_option maxHeartbeats 4000000
namespace Lk
open PySem PySem.Spec PyProof.Rows L2
theorem nodup_len {α : Type} : ∀ {l m : List α}, l.Nodup → (∀ x ∈ l, x ∈ m) → l.length ≤ m.length
  | [], _, _, _ => Nat.zero_le _
  | x :: l, m, nd, sub => by
    obtain ⟨n1, n2⟩ := List.nodup_cons.mp nd
    obtain ⟨a, b, e⟩ := List.append_of_mem (sub x List.mem_cons_self)
    have z : l.length ≤ (a ++ b).length := nodup_len n2 fun y my => by
      have q := sub y (List.mem_cons_of_mem _ my)
      rw [e] at q
      rcases List.mem_append.mp q with q | q
      · exact List.mem_append.mpr (.inl q)
      · rcases List.mem_cons.mp q with q | q
        · rw [q] at my
          exact absurd my n1
        · exact List.mem_append.mpr (.inr q)
    rw [e]
    simp only [List.length_append, List.length_cons] at z ⊢
    omega
end Lk
/-! K36w -/
set_option Elab.async false
set_option linter.all false
set_option maxRecDepth 100000
set_option maxHeartbeats 4000000
namespace Lk
open PySem PySem.Spec PyProof.Rows L2
/-- the rules below i that are not spent -/
def cnt (ns : List Nat) (i : Nat) : Nat := ((List.range i).filter fun k => decide (k ∉ ns)).length
theorem cnt_in {ns : List Nat} {i : Nat} (h : i ∈ ns) : cnt ns (i + 1) = cnt ns i := by
  unfold cnt
  rw [List.range_succ, List.filter_append, List.length_append]
  simp [h]
theorem cnt_out {ns : List Nat} {i : Nat} (h : i ∉ ns) : cnt ns (i + 1) = cnt ns i + 1 := by
  unfold cnt
  rw [List.range_succ, List.filter_append, List.length_append]
  simp [h]
theorem cnt_all {ns : List Nat} {n : Nat} (nd : ns.Nodup) (lt : ∀ k ∈ ns, k < n) : cnt ns n + ns.length ≤ n := by
  have z : ((List.range n).filter fun k => decide (k ∉ ns)) ++ ns |>.Nodup := by
    rw [List.nodup_append]
    refine ⟨List.Pairwise.filter _ List.nodup_range, nd, fun a ha b hb e => ?_⟩
    have q := (List.mem_filter.mp ha).2
    rw [decide_eq_true_eq] at q
    exact q (e ▸ hb)
  have y := nodup_len (m := List.range n) z fun x m => by
    rcases List.mem_append.mp m with m | m
    · exact (List.mem_filter.mp m).1
    · exact List.mem_range.mpr (lt x m)
  rw [List.length_append, List.length_range] at y
  exact y
/-- within a turn: p0 is gone through; n0 names were found before it, Lr0 waited; at most x names more by now -/
structure Mid (rs : List Rl) (z0 : Str) (p0 : Place) (n0 : Nat) (Lr0 : List (Addr × Place)) (fs : List Str) (Lr Ls : List (Addr × Place)) (x : Nat) : Prop where
  lk : LK rs z0 fs (Lr.map (·.2)) (Ls.map (·.2)) (fun p => p = p0)
  most : fs.length ≤ n0 + x
  new : ∃ Ln, Lr = Lr0 ++ Ln ∧ Ln.length + n0 ≤ fs.length ∧ ∀ c ∈ Ln, c.2.2.length = p0.2.length + 1
  ls : Ls.length ≤ fs.length
  rl : Lr.length ≤ Ls.length
section
variable {rs : List Rl} {z0 : Str} {p0 : Place} {n0 x : Nat} {Lr0 Lr Ls : List (Addr × Place)} {fs : List Str}
theorem Mid.le (h : Mid rs z0 p0 n0 Lr0 fs Lr Ls x) {y : Nat} (le : x ≤ y) : Mid rs z0 p0 n0 Lr0 fs Lr Ls y := ⟨h.lk, Nat.le_trans h.most (by omega), h.new, h.ls, h.rl⟩
theorem Mid.fresh (h : Mid rs z0 p0 n0 Lr0 fs Lr Ls x) {p : Place} {a : Addr} (s : Snds rs z0 p) (m : p ∉ Ls.map (·.2)) (e : p.2.length = p0.2.length + 1) : Mid rs z0 p0 n0 Lr0 (fs ++ [p.1]) (Lr ++ [(a, p)]) (Ls ++ [(a, p)]) (x + 1) := by
  have k := h.lk.more s
  rw [if_neg m, if_neg m] at k
  obtain ⟨Ln, e1, b, c⟩ := h.new
  have q := h.most
  have q2 := h.ls
  have q3 := h.rl
  refine ⟨by rw [List.map_append, List.map_append]; exact k, by rw [List.length_append, List.length_singleton]; omega, ⟨Ln ++ [(a, p)], by rw [e1, List.append_assoc], by rw [List.length_append, List.length_append, List.length_singleton, List.length_singleton]; omega, fun d md => ?_⟩, by rw [List.length_append, List.length_append, List.length_singleton, List.length_singleton]; omega, by rw [List.length_append, List.length_append, List.length_singleton]; omega⟩
  rcases List.mem_append.mp md with md | md
  · exact c d md
  · rw [List.mem_singleton.mp md]
    exact e
end
end Lk
/-! K36x -/
set_option Elab.async false
set_option linter.all false
set_option maxRecDepth 100000
set_option maxHeartbeats 4000000
namespace Lk
open PySem PySem.Spec PyProof.Rows L2
section
/-- the test says no, at most the pot has moved -/
def NoT (p c : Addr) (t : TT) (σ : L2.St) (H : Hp) : Prop := ∀ Q2 : Bool → Hp → Prop, (∀ H', Ext p c H H' → Q2 false H') → t σ H Q2
theorem no_if {p c : Addr} {t : TT} {ts : TS} {σ : L2.St} {D : Ends} {H : Hp} (h : NoT p c t σ H) (k : ∀ H', Ext p c H H' → D.nx σ H') : tIfS t ts tNext D σ H := h _ fun H' e => iteF (k H' e)
theorem nx_open {x : V} {i : Nat} {q : L2.St → Hp → Prop} {rt : VK} {bk ct : L2.St → Hp → Prop} {σ : L2.St} {H : Hp} (h : gName i x σ H q) : gName i x σ H (Ends.nx { nx := q, rt := rt, bk := bk, ct := ct }) := h
end
section
variable {P : Program} {w : World} {K : PySem.W.Frag} {mg : Str → Option Value} {base : Heap}
theorem nat_out {ns' : List Int} {l : List Nat} (pm : ns'.Perm (l.map fun n : Nat => (n : Int))) (pw : ns'.Pairwise (· ≤ ·)) : ns' = (srt l).map fun n : Nat => (n : Int) := by
  have e1 : ns' = (ns'.map Int.toNat).map fun n : Nat => (n : Int) := by
    rw [List.map_map]
    refine ((List.map_congr_left fun x mx => ?_).trans (List.map_id _)).symm
    obtain ⟨k, _, e⟩ := List.mem_map.mp (pm.mem_iff.mp mx)
    show ((x.toNat : Nat) : Int) = x
    omega
  have e2 : (ns'.map Int.toNat).Perm l := by
    have z := pm.map Int.toNat
    rw [List.map_map] at z
    have e3 : l.map (Int.toNat ∘ fun n : Nat => (n : Int)) = l := (List.map_congr_left fun x _ => (by show ((x : Int)).toNat = x; omega)).trans (List.map_id _)
    rw [e3] at z
    exact z
  have e4 : (ns'.map Int.toNat).Pairwise (· ≤ ·) := by
    rw [List.pairwise_map]
    exact pw.imp fun {a b} h => by omega
  rw [e1, srt_eq e2 e4]
  rw [srt_same e2] at *
end
end Lk
/-! K36y -/
set_option Elab.async false
set_option linter.all false
set_option maxRecDepth 100000
set_option maxHeartbeats 4000000
namespace Lk
open PySem PySem.Spec PyProof.Rows L2
/-! ### drawn books: they are books, and few short names come by their chains -/
theorem ok_iff {x : Str} : PyData.strOk x = true ↔ ∀ c ∈ TL.tl x, c < 0x110000 := by
  unfold PyData.strOk
  rw [← Array.all_toList, List.all_eq_true]
  exact ⟨fun h c m => of_decide_eq_true (h c m), fun h c m => decide_eq_true (h c m)⟩
def SrcTx : Src → Prop
  | .pat b e => PyData.strOk b = true ∧ PyData.strOk e = true
  | .nm x => PyData.strOk x = true
def RlTx (r : Rl) : Prop := ∀ s ∈ r.ss, SrcTx s
theorem of_tx {r : Rl} (T : RlTx r) {z y : Str} (hz : PyData.strOk z = true) (h : y ∈ r.of z) : PyData.strOk y = true := by
  cases e : stemO r.b r.e z with
  | none =>
    rw [of_none e] at h
    cases h
  | some m =>
    rw [of_some e] at h
    obtain ⟨s, hs, rfl⟩ := List.mem_map.mp h
    have t := T s hs
    have ez := stemO_eq e
    have okm : ∀ c ∈ TL.tl m, c < 0x110000 := fun c mc => ok_iff.mp hz c (by rw [ez]; exact List.mem_append_left _ (List.mem_append_right _ mc))
    cases s with
    | pat b e =>
      have q : PyData.strOk b = true ∧ PyData.strOk e = true := t
      refine ok_iff.mpr fun c mc => ?_
      have mc2 : c ∈ TL.tl (b ++ m ++ e) := mc
      rw [TL.tl_append, TL.tl_append] at mc2
      rcases List.mem_append.mp mc2 with mc2 | mc2
      · rcases List.mem_append.mp mc2 with mc2 | mc2
        · exact ok_iff.mp q.1 c mc2
        · exact okm c mc2
      · exact ok_iff.mp q.2 c mc2
    | nm x => exact t
theorem chain_tx {rs : List Rl} {z : Str} (T : ∀ r ∈ rs, RlTx r) (L : ∀ r ∈ rs, RlLen r) (hz : PyData.strOk z = true) {ks : List Nat} {y : Str} (c : Chain rs z ks y) : PyData.strOk y = true ∧ y.length ≤ z.length + 6 * ks.length := by
  induction c with
  | start => exact ⟨hz, Nat.le_add_right _ _⟩
  | step c hr n hy ih =>
    have mr := List.mem_of_getElem? hr
    have a := of_len (L _ mr) hy
    exact ⟨of_tx (T _ mr) ih.1 hy, by rw [List.length_cons]; omega⟩
theorem chain_few {rs : List Rl} {z : Str} {ks : List Nat} {y : Str} (c : Chain rs z ks y) : ks.length ≤ rs.length := by
  have h := chain_lt c
  have q := nodup_len (m := List.range rs.length) h.2 fun k m => List.mem_range.mpr (h.1 k m)
  rwa [List.length_range] at q
/-! all chains with so many rules -/
noncomputable def nextsK (rs : List Rl) (c : List Nat × Str) (k : Nat) : List (List Nat × Str) := if k ∈ c.1 then [] else match rs[k]? with
  | some r => (r.of c.2).map fun y => (k :: c.1, y)
  | none => []
noncomputable def lv (rs : List Rl) (z : Str) : Nat → List (List Nat × Str)
  | 0 => [([], z)]
  | c + 1 => (lv rs z c).flatMap fun p => (List.range rs.length).flatMap (nextsK rs p)
theorem lv_of {rs : List Rl} {z : Str} {ks : List Nat} {y : Str} (c : Chain rs z ks y) : (ks, y) ∈ lv rs z ks.length := by
  induction c with
  | start => exact List.mem_singleton.mpr rfl
  | @step ks z y k r c hr n hy ih =>
    refine List.mem_flatMap.mpr ⟨(ks, z), ih, List.mem_flatMap.mpr ⟨k, List.mem_range.mpr (List.getElem?_eq_some_iff.mp hr).1, ?_⟩⟩
    show (k :: ks, y) ∈ nextsK rs (ks, z) k
    unfold nextsK
    rw [if_neg n, hr]
    exact List.mem_map.mpr ⟨y, hy, rfl⟩
theorem of_le (r : Rl) (z : Str) : (r.of z).length ≤ r.ss.length := by
  cases e : stemO r.b r.e z with
  | none =>
    rw [of_none e]
    exact Nat.zero_le _
  | some m =>
    rw [of_some e, List.length_map]
    exact Nat.le_refl _
theorem nexts_len {rs : List Rl} {m : Nat} (hm : ∀ r ∈ rs, r.ss.length ≤ m) (p : List Nat × Str) : ∀ i, ((List.range i).flatMap (nextsK rs p)).length ≤ cnt p.1 i * m
  | 0 => Nat.zero_le _
  | i + 1 => by
    have ih := nexts_len hm p i
    rw [List.range_succ, List.flatMap_append, List.length_append]
    have one : ([i].flatMap (nextsK rs p)) = nextsK rs p i := by simp
    rw [one]
    by_cases h : i ∈ p.1
    · have e : nextsK rs p i = [] := if_pos h
      rw [e, cnt_in h]
      exact ih
    · rw [cnt_out h, Nat.add_mul, Nat.one_mul]
      have e : (nextsK rs p i).length ≤ m := by
        unfold nextsK
        rw [if_neg h]
        split
        · rename_i r hr
          rw [List.length_map]
          exact Nat.le_trans (of_le r p.2) (hm r (List.mem_of_getElem? hr))
        · exact Nat.zero_le _
      omega
theorem lv_in {rs : List Rl} {z : Str} : ∀ (c : Nat) (p : List Nat × Str), p ∈ lv rs z c → p.1.length = c ∧ Chain rs z p.1 p.2
  | 0, p, h => by
    rw [List.mem_singleton.mp h]
    exact ⟨rfl, .start⟩
  | c + 1, p, h => by
    obtain ⟨q, hq, h2⟩ := List.mem_flatMap.mp h
    obtain ⟨k, _, h3⟩ := List.mem_flatMap.mp h2
    obtain ⟨e, ch⟩ := lv_in c q hq
    unfold nextsK at h3
    split at h3
    · cases h3
    · rename_i n
      split at h3
      · rename_i r hr
        obtain ⟨y, hy, rfl⟩ := List.mem_map.mp h3
        exact ⟨by show _ + 1 = _; rw [e], .step ch hr n hy⟩
      · cases h3
theorem flat_le {α β : Type} {f : α → List β} {b : Nat} : ∀ {l : List α}, (∀ x ∈ l, (f x).length ≤ b) → (l.flatMap f).length ≤ l.length * b
  | [], _ => Nat.zero_le _
  | x :: l, h => by
    have a := flat_le fun y m => h y (List.mem_cons_of_mem _ m)
    have c := h x List.mem_cons_self
    rw [List.flatMap_cons, List.length_append, List.length_cons, Nat.add_mul, Nat.one_mul]
    omega
/-- at most so many chains with c rules -/
def most (n m : Nat) : Nat → Nat
  | 0 => 1
  | c + 1 => most n m c * ((n - c) * m)
theorem lv_len {rs : List Rl} {z : Str} {m : Nat} (hm : ∀ r ∈ rs, r.ss.length ≤ m) : ∀ c, (lv rs z c).length ≤ most rs.length m c
  | 0 => Nat.le_refl _
  | c + 1 => by
    have ih := lv_len (z := z) hm c
    have one : ∀ p ∈ lv rs z c, ((List.range rs.length).flatMap (nextsK rs p)).length ≤ (rs.length - c) * m := fun p mp => by
      obtain ⟨e, ch⟩ := lv_in c p mp
      have lim := chain_lt ch
      have q := cnt_all lim.2 lim.1
      exact Nat.le_trans (nexts_len hm p rs.length) (Nat.mul_le_mul_right _ (by omega))
    exact Nat.le_trans (flat_le one) (Nat.mul_le_mul_right _ ih)
noncomputable def allN (rs : List Rl) (z : Str) : List Str := (List.range (rs.length + 1)).flatMap fun c => (lv rs z c).map (·.2)
theorem all_in {rs : List Rl} {z : Str} {ks : List Nat} {y : Str} (c : Chain rs z ks y) : y ∈ allN rs z :=
  List.mem_flatMap.mpr ⟨ks.length, List.mem_range.mpr (Nat.lt_succ_of_le (chain_few c)), List.mem_map.mpr ⟨_, lv_of c, rfl⟩⟩
def sumM (n m : Nat) : Nat → Nat
  | 0 => 0
  | c + 1 => sumM n m c + most n m c
theorem all_len {rs : List Rl} {z : Str} {m : Nat} (hm : ∀ r ∈ rs, r.ss.length ≤ m) : ∀ i, ((List.range i).flatMap fun c => (lv rs z c).map (·.2)).length ≤ sumM rs.length m i
  | 0 => Nat.le_refl _
  | i + 1 => by
    have ih := all_len (z := z) hm i
    have l := lv_len (z := z) hm i
    rw [List.range_succ, List.flatMap_append, List.length_append]
    have one : ([i].flatMap fun c => (lv rs z c).map (·.2)) = (lv rs z i).map (·.2) := by simp
    rw [one, List.length_map]
    show _ ≤ sumM rs.length m i + most rs.length m i
    omega
/-- what the law draws: up to four rules with two sources, or three with three -/
theorem small_books : ∀ n m, (n ≤ 4 ∧ m = 2) ∨ (n ≤ 3 ∧ m = 3) → sumM n m (n + 1) ≤ 4000 ∧ wgt m n ≤ 1200 ∧ m ≤ 3 := by
  rintro n m (⟨h, rfl⟩ | ⟨h, rfl⟩)
  · rcases n with _ | _ | _ | _ | _ | n
    all_goals first | decide | omega
  · rcases n with _ | _ | _ | _ | n
    all_goals first | decide | omega
theorem ok_draw {most : Nat} {r : Rl} (h : RlOk most r) (m3 : most ≤ 3) : dRule r.d = true ∧ RlTx r := by
  have hl : ∀ x ∈ (["cc", "as", "link"] : List Str), dLabel (.str x) = true := by decide +kernel
  have hp : ∀ b ∈ (["", "A", "B"] : List Str), ∀ e ∈ (["o", "c", "", "s"] : List Str), ¬ (b = "" ∧ e = "") → dPat (.tuple [.str b, .str e]) = true := by decide +kernel
  have h1 : ∀ b ∈ (["", "A", "B", "AB"] : List Str), ∀ e ∈ (["", "c", "o", "s", "co"] : List Str), ¬ (b = "" ∧ e = "") → dSrc1 (.tuple [.str b, .str e]) = true ∧ PyData.strOk b = true ∧ PyData.strOk e = true := by decide +kernel
  have h2 : ∀ x ∈ (["A", "Ac", "Bo", "s", "Ao"] : List Str), dSrc1 (.str x) = true ∧ PyData.strOk x = true := by decide +kernel
  refine ⟨?_, fun s ms => ?_⟩
  · show (dLabel (.str r.lab) && (dPat (.tuple [.str r.b, .str r.e]) && (decide ((r.ss.map Src.d).length ≤ 3) && (r.ss.map Src.d).all dSrc1))) = true
    rw [hl _ h.lab, hp _ h.b _ h.e h.ne, Bool.true_and, Bool.true_and, Bool.and_eq_true, decide_eq_true_eq, List.length_map, List.all_eq_true]
    refine ⟨Nat.le_trans h.len m3, fun d m => ?_⟩
    obtain ⟨s, ms, rfl⟩ := List.mem_map.mp m
    have q := h.ss s ms
    cases s with
    | pat b e =>
      obtain ⟨q1, q2, q3⟩ : b ∈ (["", "A", "B", "AB"] : List Str) ∧ e ∈ (["", "c", "o", "s", "co"] : List Str) ∧ ¬ (b = "" ∧ e = "") := q
      exact (h1 b q1 e q2 q3).1
    | nm x => exact (h2 x q).1
  · have q := h.ss s ms
    cases s with
    | pat b e =>
      obtain ⟨q1, q2, q3⟩ : b ∈ (["", "A", "B", "AB"] : List Str) ∧ e ∈ (["", "c", "o", "s", "co"] : List Str) ∧ ¬ (b = "" ∧ e = "") := q
      exact (h1 b q1 e q2 q3).2
    | nm x => exact (h2 x q).2
/-- all that the calls ask of a drawn book and a name -/
theorem drawn {n m : Nat} {rs : List Rl} {z : Str} (hn : (n = 4 ∧ m = 2) ∨ (n = 3 ∧ m = 3)) (ok : ∀ r ∈ rs, RlOk m r) (le : rs.length ≤ n) (hz : PyData.strOk z = true) (lz : z.length ≤ 900) :
    dBook (.tuple (rs.map Rl.d)) = true ∧ Short rs z (allN rs z) ∧ (∀ r ∈ rs, r.ss.length ≤ m) ∧ m ≤ 3 ∧ wgt m rs.length ≤ 1200 ∧ ∀ ks y, Chain rs z ks y → PyData.strOk y = true ∧ y.length ≤ 1000 := by
  have hm : ∀ r ∈ rs, r.ss.length ≤ m := fun r mr => (ok r mr).len
  obtain ⟨s1, s2, s3⟩ := small_books rs.length m (by omega)
  have dr : ∀ r ∈ rs, dRule r.d = true ∧ RlTx r := fun r mr => ok_draw (ok r mr) s3
  have book : dBook (.tuple (rs.map Rl.d)) = true := by
    show (decide ((rs.map Rl.d).length ≤ 6) && (rs.map Rl.d).all dRule) = true
    rw [Bool.and_eq_true, decide_eq_true_eq, List.length_map, List.all_eq_true]
    refine ⟨by omega, fun d md => ?_⟩
    obtain ⟨r, mr, rfl⟩ := List.mem_map.mp md
    exact (dr r mr).1
  have len := (book_len book).2
  have tx : ∀ ks y, Chain rs z ks y → PyData.strOk y = true ∧ y.length ≤ 1000 := fun ks y c => by
    have q := chain_tx (fun r mr => (dr r mr).2) len hz c
    have f := chain_few c
    exact ⟨q.1, by omega⟩
  refine ⟨book, ⟨fun ks y c => all_in c, Nat.le_trans (all_len hm _) s1, fun y my => ?_⟩, hm, s3, s2, tx⟩
  obtain ⟨c, _, m2⟩ := List.mem_flatMap.mp my
  obtain ⟨p, mp, rfl⟩ := List.mem_map.mp m2
  exact (tx p.1 p.2 (lv_in c p mp).2).2
end Lk
/-! K36g -/
set_option Elab.async false
set_option linter.all false
set_option maxRecDepth 100000
set_option maxHeartbeats 4000000
namespace Lk
open PySem PySem.Spec PyProof.Rows L2
/-! ### the ways, as data -/
def allO : List (Option PyData) → Option (List PyData)
  | [] => some []
  | none :: _ => none
  | some d :: r => (allO r).map (d :: ·)
theorem allO_some : ∀ {l : List (Option PyData)} {ds : List PyData}, allO l = some ds ↔ l = ds.map some
  | [], ds => by
    cases ds with
    | nil => exact ⟨fun _ => rfl, fun _ => rfl⟩
    | cons d ds => exact ⟨(fun h => nomatch (Option.some.inj h)), (fun h => nomatch h)⟩
  | none :: r, ds => by
    cases ds with
    | nil => exact ⟨(fun h => nomatch h), (fun h => nomatch h)⟩
    | cons d ds => exact ⟨fun h => (nomatch h), fun h => by rw [List.map_cons] at h; injection h with h _; cases h⟩
  | some d :: r, ds => by
    show (allO r).map (d :: ·) = some ds ↔ _
    rw [Option.map_eq_some_iff]
    constructor
    · rintro ⟨es, h, rfl⟩
      rw [allO_some.mp h, List.map_cons]
    · intro h
      cases ds with
      | nil => cases h
      | cons e es =>
        rw [List.map_cons] at h
        injection h with h1 h2
        injection h1 with h1
        exact ⟨es, allO_some.mpr h2, by rw [h1]⟩
theorem allO_none : ∀ {l : List (Option PyData)}, allO l = none ↔ none ∈ l
  | [] => ⟨(fun h => nomatch h), (fun h => nomatch h)⟩
  | none :: r => ⟨fun _ => List.mem_cons_self, fun _ => rfl⟩
  | some d :: r => by
    show (allO r).map (d :: ·) = none ↔ _
    rw [Option.map_eq_none_iff, allO_none, List.mem_cons]
    exact ⟨.inr, fun h => h.resolve_left (fun z => nomatch z)⟩
def leafD (z : Str) : PyData := .tuple [.str z]
def nodeD (z lab : Str) (ds : List PyData) : PyData := .tuple (.str z :: .str lab :: ds)
noncomputable def labO (rs : List Rl) (k : Nat) : Str := match rs[k]? with
  | some r => r.lab
  | none => ""
abbrev WRow := Nat × List Str
/-- the rules that are tried, in order -/
noncomputable def tryL (rs : List Rl) (F : List Str) (z : Str) (sp : List Nat) : List WRow := (fitD rs z sp).filter (fun c => decide (∀ s ∈ c.2, s ∈ F)) ++ fitD rs z sp
noncomputable def wayM (rs : List Rl) (F : List Str) : Nat → Str → List Nat → Option PyData
  | 0, z, _ => if z ∈ F then some (leafD z) else none
  | n + 1, z, sp => if z ∈ F then some (leafD z) else (tryL rs F z sp).findSome? fun c => (allO (c.2.map fun s => wayM rs F n s (c.1 :: sp))).map (nodeD z (labO rs c.1))
/-- the way of a name without the spent rules -/
noncomputable def way (rs : List Rl) (F : List Str) (z : Str) (sp : List Nat) : Option PyData := wayM rs F (rs.length - sp.length) z sp
theorem fit_perm {rs : List Rl} {z : Str} {sp sp' : List Nat} (h : ∀ k, k ∈ sp ↔ k ∈ sp') : fitD rs z sp = fitD rs z sp' := by
  unfold fitD
  congr 1
  funext c
  unfold rowOf
  by_cases e : c.2 ∈ sp
  · rw [if_pos e, if_pos ((h _).mp e)]
  · rw [if_neg e, if_neg (fun z => e ((h _).mpr z))]
theorem try_perm {rs : List Rl} {F : List Str} {z : Str} {sp sp' : List Nat} (h : ∀ k, k ∈ sp ↔ k ∈ sp') : tryL rs F z sp = tryL rs F z sp' := by
  unfold tryL
  rw [fit_perm h]
theorem wayM_perm {rs : List Rl} {F : List Str} : ∀ (n : Nat) {z : Str} {sp sp' : List Nat}, (∀ k, k ∈ sp ↔ k ∈ sp') → wayM rs F n z sp = wayM rs F n z sp'
  | 0, _, _, _, _ => rfl
  | n + 1, z, sp, sp', h => by
    unfold wayM
    rw [try_perm h]
    congr 2
    funext c
    congr 2
    refine List.map_congr_left fun s _ => wayM_perm n fun k => ?_
    rw [List.mem_cons, List.mem_cons, h]
theorem way_perm {rs : List Rl} {F : List Str} {z : Str} {sp sp' : List Nat} (h : sp.Perm sp') : way rs F z sp = way rs F z sp' := by
  unfold way
  rw [h.length_eq]
  exact wayM_perm _ fun k => h.mem_iff
theorem fit_row {rs : List Rl} {z : Str} {sp : List Nat} {c : WRow} (h : c ∈ fitD rs z sp) : ∃ r, rs[c.1]? = some r ∧ c.1 ∉ sp ∧ (∃ m, stemO r.b r.e z = some m ∧ c.2 = r.ss.map (Src.put m)) ∧ c.2 = r.of z := by
  obtain ⟨p, hp, e⟩ := List.mem_filterMap.mp h
  obtain ⟨r, i⟩ := p
  have z1 := List.mem_zipIdx_iff_getElem?.mp hp
  by_cases hi : i ∈ sp
  · rw [row_no (.inr hi)] at e
    cases e
  · cases hst : stemO r.b r.e z with
    | none =>
      rw [row_no (.inl hst)] at e
      cases e
    | some m =>
      rw [row_yes hst hi] at e
      cases e
      exact ⟨r, z1, hi, ⟨m, hst, rfl⟩, (of_some hst).symm⟩
theorem mem_full {n : Nat} {sp : List Nat} (nd : sp.Nodup) (lt : ∀ k ∈ sp, k < n) (h : n ≤ sp.length) {k : Nat} (hk : k < n) : k ∈ sp := by
  apply Classical.byContradiction
  intro no
  have z := nodup_len (l := k :: sp) (m := List.range n) (List.nodup_cons.mpr ⟨no, nd⟩) fun j m => by
    rcases List.mem_cons.mp m with e | m
    · rw [e]
      exact List.mem_range.mpr hk
    · exact List.mem_range.mpr (lt j m)
  rw [List.length_cons, List.length_range] at z
  omega
theorem fit_full {rs : List Rl} {z : Str} {sp : List Nat} (nd : sp.Nodup) (lt : ∀ k ∈ sp, k < rs.length) (h : rs.length ≤ sp.length) : fitD rs z sp = [] := by
  cases e : fitD rs z sp with
  | nil => rfl
  | cons c l =>
    obtain ⟨r, hr, n, _⟩ := fit_row (show c ∈ fitD rs z sp by rw [e]; exact List.mem_cons_self)
    exact absurd (mem_full nd lt h (List.getElem?_eq_some_iff.mp hr).1) n
theorem way_in {rs : List Rl} {F : List Str} {z : Str} {sp : List Nat} (h : z ∈ F) : way rs F z sp = some (leafD z) := by
  unfold way
  cases rs.length - sp.length with
  | zero => exact if_pos h
  | succ n => exact if_pos h
/-- what a row gives -/
noncomputable def rowW (rs : List Rl) (F : List Str) (z : Str) (sp : List Nat) (c : WRow) : Option PyData := (allO (c.2.map fun s => way rs F s (c.1 :: sp))).map (nodeD z (labO rs c.1))
theorem way_out {rs : List Rl} {F : List Str} {z : Str} {sp : List Nat} (nd : sp.Nodup) (lt : ∀ k ∈ sp, k < rs.length) (h : z ∉ F) : way rs F z sp = (tryL rs F z sp).findSome? (rowW rs F z sp) := by
  cases e : rs.length - sp.length with
  | zero =>
    have f := fit_full (z := z) nd lt (by omega)
    unfold way tryL
    rw [e, f]
    exact if_neg h
  | succ n =>
    unfold way
    rw [e]
    show (if z ∈ F then _ else _) = _
    rw [if_neg h]
    congr 1
    funext c
    unfold rowW way
    congr 2
    refine List.map_congr_left fun s _ => ?_
    have e2 : rs.length - (c.1 :: sp).length = n := by
      rw [List.length_cons]
      omega
    rw [e2]
theorem first_at {α β : Type} {f : α → Option β} {L : List α} {i : Nat} {c : α} {d : β} (hc : L[i]? = some c) (no : (L.take i).findSome? f = none) (hd : f c = some d) : L.findSome? f = some d := by
  have e : L = L.take i ++ c :: L.drop (i + 1) := by
    obtain ⟨q1, q2⟩ := List.getElem?_eq_some_iff.mp hc
    rw [← q2, List.getElem_cons_drop, List.take_append_drop]
  rw [e, List.findSome?_append, no, List.findSome?_cons, hd]
  rfl
theorem first_no {α β : Type} {f : α → Option β} {L : List α} {i : Nat} {c : α} (hc : L[i]? = some c) (no : (L.take i).findSome? f = none) (hd : f c = none) : (L.take (i + 1)).findSome? f = none := by
  rw [List.take_add_one, hc, List.findSome?_append, no]
  show ([c] : List α).findSome? f = none
  rw [List.findSome?_cons, hd]
  rfl
end Lk
/-! K36r -/
set_option Elab.async false
set_option linter.all false
set_option maxRecDepth 100000
set_option maxHeartbeats 4000000
namespace Lk
open PySem PySem.Spec PyProof.Rows L2
/-! ### the program's search -/
def flds (q d1 kd : Addr) : List (Str × V) := putF "known" (.ref kd) (putF "there" (.ref d1) (putF "book" (.ref q) []))
theorem kbt : ¬ (("book" : Str) = "there") := by decide +kernel
theorem kbk : ¬ (("book" : Str) = "known") := by decide +kernel
theorem ktk : ¬ (("there" : Str) = "known") := by decide +kernel
theorem flds_known (q d1 kd : Addr) : (flds q d1 kd).lookup ("known" : Str) = some (.ref kd) := by
  unfold flds
  rw [lookup_putF, if_pos rfl]
theorem flds_there (q d1 kd : Addr) : (flds q d1 kd).lookup ("there" : Str) = some (.ref d1) := by
  unfold flds
  rw [lookup_putF, if_neg ktk, lookup_putF, if_pos rfl]
theorem flds_book (q d1 kd : Addr) : (flds q d1 kd).lookup ("book" : Str) = some (.ref q) := by
  unfold flds
  rw [lookup_putF, if_neg kbk, lookup_putF, if_neg kbt, lookup_putF, if_pos rfl]
theorem flds_no (q d1 kd : Addr) {m : Str} (h1 : ¬ m = "known") (h2 : ¬ m = "there") (h3 : ¬ m = "book") : (flds q d1 kd).lookup m = none := by
  unfold flds
  rw [lookup_putF, if_neg h1, lookup_putF, if_neg h2, lookup_putF, if_neg h3]
  all_goals rfl
structure SCls (K : PySem.W.Frag) (C : Addr) : Prop where
  cl : Cls K C
  nB : NoAttr K C "book"
  nT : NoAttr K C "there"
  nK : NoAttr K C "known"
/-- what a value tells: a way, or None -/
def RW (K : PySem.W.Frag) (H : Hp) (v : V) : Option PyData → Prop
  | none => v = .non
  | some d => Th K H v d ∧ onlyT d = true
theorem RW.tups {K : PySem.W.Frag} {H H' : Hp} {v : V} {o : Option PyData} (h : RW K H v o) (t : Tups H H') : RW K H' v o := by
  cases o with
  | none => exact h
  | some d => exact ⟨th_tups t h.1 h.2, h.2⟩
/-- the places that are asked for: few, of short names -/
structure OkR (rs : List Rl) (Ok : Place → Prop) : Prop where
  bk : dBook (.tuple (rs.map Rl.d)) = true
  tx : ∀ p, Ok p → PyData.strOk p.1 = true ∧ p.1.length ≤ 1000
  nd : ∀ p, Ok p → p.2.Nodup ∧ ∀ k ∈ p.2, k < rs.length
  cl : ∀ p p', Ok p → Succ rs p p' → Ok p'
  fin : ∃ L : List Place, L.length ≤ 100000 ∧ ∀ p, Ok p → p ∈ L
structure SAt (P : Program) (w : World) (K : PySem.W.Frag) (C : Addr) (H : Hp) (o q d1 kd : Addr) (rs : List Rl) (F : List Str) (Ok : Place → Prop) : Prop where
  ob : ∃ dx, H o = some (.ins C dx (flds q d1 kd))
  bk : ∃ xs, SqT K H q xs ∧ ThAll K H xs (rs.map Rl.d)
  th : H d1 = some (.dK (dk F))
  ne : d1 ≠ kd
  kn : ∃ kvs, NAt P w H kd kvs ∧ (kvs.map (·.1)).Nodup ∧ ∀ p v, (p, v) ∈ kvs → Ok p ∧ RW K H v (way rs F p.1 p.2)
theorem book_onlyT {rs : List Rl} : onlyTs (rs.map Rl.d) = true := onlyTs_all.mpr fun d m => by
  obtain ⟨r, _, rfl⟩ := List.mem_map.mp m
  have z : onlyTs (r.ss.map Src.d) = true := onlyTs_all.mpr fun d m => by
    obtain ⟨s, _, rfl⟩ := List.mem_map.mp m
    cases s <;> rfl
  simp [Rl.d, onlyT, onlyTs, z]
section
variable {P : Program} {w : World} {K : PySem.W.Frag} {C o q d1 kd : Addr} {H H' : Hp} {rs : List Rl} {F : List Str} {Ok : Place → Prop}
theorem SAt.nkd (S : SAt P w K C H o q d1 kd rs F Ok) : (∀ ys, H kd ≠ some (.tup ys)) ∧ (∀ ob u, H kd ≠ some (.frz ob u)) ∧ (∀ c dx fs, H kd ≠ some (.ins c dx fs)) ∧ (∀ ys, H kd ≠ some (.lst ys)) ∧ ∃ u, H kd = some u := by
  obtain ⟨kvs, g, _⟩ := S.kn
  refine ⟨fun ys => g.notup, fun ob u => g.nofrz, ?_⟩
  obtain ⟨_, ⟨_, e⟩ | ⟨xs, e, _⟩⟩ := g
  · rw [e]
    exact ⟨(fun _ _ _ z => nomatch z), (fun _ z => nomatch z), _, rfl⟩
  · rw [e]
    exact ⟨(fun _ _ _ z => nomatch z), (fun _ z => nomatch z), _, rfl⟩
theorem SAt.tups (S : SAt P w K C H o q d1 kd rs F Ok) (b : But kd H H') : Tups H H' := b.tups S.nkd.1 S.nkd.2.1
theorem SAt.step (S : SAt P w K C H o q d1 kd rs F Ok) (b : But kd H H') (kn : ∃ kvs, NAt P w H' kd kvs ∧ (kvs.map (·.1)).Nodup ∧ ∀ p v, (p, v) ∈ kvs → Ok p ∧ RW K H' v (way rs F p.1 p.2)) : SAt P w K C H' o q d1 kd rs F Ok := by
  have t := S.tups b
  obtain ⟨dx, ob⟩ := S.ob
  obtain ⟨xs, h1, h2⟩ := S.bk
  exact ⟨⟨dx, b _ _ ob fun z => S.nkd.2.2.1 _ _ _ (z ▸ ob)⟩, ⟨xs, t.seqT h1, thAll_tups t h2 book_onlyT⟩, b _ _ S.th S.ne, S.ne, kn⟩
theorem SAt.same (S : SAt P w K C H o q d1 kd rs F Ok) (s : Same H H') : SAt P w K C H' o q d1 kd rs F Ok := by
  obtain ⟨kvs, g, nd, each⟩ := S.kn
  exact S.step (Same.but s) ⟨kvs, g.same (fun u h => s _ _ h) (fun b ys h => s _ _ h), nd, fun p v m => ⟨(each p v m).1, (each p v m).2.tups (Same.tups s)⟩⟩
theorem dk_val {F : List Str} {z : Str} : (valV (dk F) (Sum.inr z : Key)).isSome = decide (z ∈ F) := by
  rw [← valV_any, Bool.eq_iff_iff, List.any_eq_true, decide_eq_true_iff]
  constructor
  · rintro ⟨p, hp, e⟩
    obtain ⟨y, hy, rfl⟩ := List.mem_map.mp hp
    have e2 : (Sum.inr y : Key) = Sum.inr z := of_decide_eq_true e
    injection e2 with e2
    exact e2 ▸ hy
  · intro h
    exact ⟨_, List.mem_map.mpr ⟨z, h, rfl⟩, decide_eq_true rfl⟩
theorem ok_few (O : OkR rs Ok) {kvs : List (NK × V)} (nd : (kvs.map (·.1)).Nodup) (each : ∀ p v, (p, v) ∈ kvs → Ok p) : kvs.length ≤ 100000 := by
  obtain ⟨L, l, h⟩ := O.fin
  have z := nodup_len nd fun p m => by
    obtain ⟨e, he, rfl⟩ := List.mem_map.mp m
    exact h _ (each e.1 e.2 he)
  rw [List.length_map] at z
  omega
end
def spTold (P : Program) (w : World) (K : PySem.W.Frag) (C : Addr) (m : Nat) : Sp := fun vs H Q _ => ∃ (o q d1 kd t : Addr) (rs : List Rl) (F : List Str) (z : Str) (ns : List Nat) (Ok : Place → Prop), vs = [.ref o, .str z, .ref t] ∧ SAt P w K C H o q d1 kd rs F Ok ∧ OkR rs Ok ∧
  H t = some (.tup (ns.map fun n : Nat => V.int (n : Int))) ∧ Ok (z, ns) ∧ rs.length + 1 ≤ ns.length + m ∧ ∀ (v : V) (H' : Hp), But kd H H' → SAt P w K C H' o q d1 kd rs F Ok → RW K H' v (way rs F z ns) → Q v H'
def spFirst (P : Program) (w : World) (K : PySem.W.Frag) (C : Addr) (m : Nat) : Sp := fun vs H Q _ => ∃ (o q d1 kd t : Addr) (rs : List Rl) (F : List Str) (z : Str) (ns : List Nat) (Ok : Place → Prop), vs = [.ref o, .str z, .ref t] ∧ SAt P w K C H o q d1 kd rs F Ok ∧ OkR rs Ok ∧
  H t = some (.tup (ns.map fun n : Nat => V.int (n : Int))) ∧ Ok (z, ns) ∧ z ∉ F ∧ rs.length + 1 ≤ ns.length + m ∧ ∀ (v : V) (H' : Hp), But kd H H' → SAt P w K C H' o q d1 kd rs F Ok → RW K H' v (way rs F z ns) → Q v H'
def spMiss (P : Program) (w : World) (K : PySem.W.Frag) (C : Addr) (m : Nat) : Sp := fun vs H Q _ => ∃ (o q d1 kd t l : Addr) (rs : List Rl) (F : List Str) (ss : List Str) (ns : List Nat) (Ok : Place → Prop), vs = [.ref o, .ref l, .ref t] ∧ SAt P w K C H o q d1 kd rs F Ok ∧ OkR rs Ok ∧
  H t = some (.tup (ns.map fun n : Nat => V.int (n : Int))) ∧ H l = some (.lst (ss.map V.str)) ∧ (∀ s ∈ ss, Ok (s, ns)) ∧ rs.length + 1 ≤ ns.length + m ∧
  ∀ H', But kd H H' → SAt P w K C H' o q d1 kd rs F Ok → Q (vO (ss.find? fun s => (way rs F s ns).isNone)) H'
def spOneMore (K : PySem.W.Frag) : Sp := fun vs H Q _ => ∃ (t : Addr) (ns : List Nat) (k : Nat), vs = [.ref t, .int (k : Int)] ∧ SqT K H t (ns.map fun n : Nat => V.int (n : Int)) ∧ ns.length ≤ 1000 ∧
  ∀ p H', Same H H' → H p = none → H' p = some (.tup ((srt (ns ++ [k])).map fun n : Nat => V.int (n : Int))) → Q (.ref p) H'
section
variable {P : Program} {w : World} {K : PySem.W.Frag} {mg : Str → Option Value} {base : Heap} {C : Addr}
theorem sc_told : FnScope ["self", "name", "spent", "key"] ["self", "name", "spent"] (defScope s_Search_told) := ⟨rfl, rfl, rfl, by decide +kernel, rfl, by decide +kernel, by decide +kernel⟩
theorem cal_told {m j : Nat} (D : DefM K C "told" "Search.told" s_Search_told) (cl : SCls K C) (CR : MCal P w K mg base C j "first_right" (spFirst P w K C m)) : MCal P w K mg base C (j + 1) "told" (spTold P w K C m) := by
  refine mkMCal D sc_told (fun _ _ _ _ _ _ us hl => match us, hl with | [_, _, _], _ => rfl) (fun vs H Q E h => ?_) (fun f cdv A outer s H vs Q E hr h => ?_)
  · obtain ⟨o, q, d1, kd, t, rs, F, z, ns, Ok, rfl, _⟩ := h
    rfl
  · obtain ⟨o, q, d1, kd, t, rs, F, z, ns, Ok, rfl, S, O, ht, okp, le, k⟩ := h
    refine ⟨_, (pss_cons (ps_if (pt_cmp (pc_din (units1 hr.units) (pv 1) (pe_fld (pv 0) rfl))) (pss_one (ps_ret (pe_tup (pa_cons (pv 1) pa_nil)))) pss_nil)
    (pss_cons (ps_set (i := 3) sc_told.nd rfl (.inl rfl) (pe_tup (pa_cons (pv 1) (pa_cons (pv 2) pa_nil))))
    (pss_cons (ps_if (pt_cmp (pc_nnotin (u9 hr) (pv 3) (pe_fld (pv 0) rfl))) (pss_one (ps_nput (u9 hr) (pe_fld (pv 0) rfl) (pv 3) (pe_mcal CR cl.cl hr (by omega) (pv 0) (pa_cons (pv 1) (pa_cons (pv 2) pa_nil))) (by rfl))) pss_nil)
    (pss_one (ps_ret (pe_nget (u9 hr) (pe_fld (pv 0) rfl) (pv 3) (fun _ _ => rfl))))))), ?_⟩
    obtain ⟨dx, hob⟩ := S.ob
    refine ⟨_, rfl, _, rfl, o, C, dx, _, _, rfl, hob, cl.cl, cl.nT, flds_there _ _ _, d1, _, rfl, DGet.k (k := Sum.inr z) S.th, _, rfl, ?_⟩
    by_cases hz : z ∈ F
    · refine iteT' (by rw [dk_val, decide_eq_true hz]) ?_
      refine ⟨_, rfl, (by show 1 ≤ sizeLine; decide), fun p np => ?_⟩
      have s1 : Same H (upd H p (.tup [.str z])) := same_upd np
      refine k (.ref p) _ (Same.but s1) (S.same s1) ?_
      rw [way_in hz]
      exact ⟨.tup (SqT.of upd_same) (.cons (.str z) .nil), rfl⟩
    · refine iteF' (by rw [dk_val, decide_eq_false hz]) ?_
      refine ⟨_, rfl, _, rfl, (by show 2 ≤ sizeLine; decide), fun b nb => ?_⟩
      have s1 : Same H (upd H b (.tup [.str z, .ref t])) := same_upd nb
      have kb : KeyAt (upd H b (.tup [.str z, .ref t])) b (z, ns) := ⟨t, upd_same, s1 _ _ ht⟩
      have S1 := S.same s1
      have ht1 := s1 _ _ ht
      have hob1 := s1 _ _ hob
      generalize upd H b (.tup [.str z, .ref t]) = H1 at s1 kb S1 ht1 hob1 ⊢
      obtain ⟨kvs, g, nd, each⟩ := S1.kn
      refine ⟨_, rfl, _, rfl, o, C, dx, _, _, rfl, hob1, cl.cl, cl.nK, flds_known _ _ _, kd, b, (z, ns), kvs, rfl, rfl, g, kb, _, rfl, ?_⟩
      cases hv : valV kvs ((z, ns) : NK) with
      | some v =>
        refine iteF' rfl ?_
        refine ⟨_, rfl, o, C, dx, _, _, rfl, hob1, cl.cl, cl.nK, flds_known _ _ _, _, rfl, kd, b, (z, ns), kvs, v, rfl, rfl, g, kb, hv, ?_⟩
        exact k v H1 (Same.but s1) S1 (each _ _ (valV_mem hv)).2
      | none =>
        refine iteT' rfl ?_
        refine ⟨_, rfl, o, dx, _, rfl, hob1, flds_no _ _ _ (by decide +kernel) (by decide +kernel) (by decide +kernel), _, rfl, _, rfl, o, q, d1, kd, t, rs, F, z, ns, Ok, rfl, S1, O, ht1, okp, hz, le, fun v H2 but2 S2 rw2 => ?_⟩
        obtain ⟨dx2, hob2⟩ := S2.ob
        obtain ⟨kvs2, g2, nd2, each2⟩ := S2.kn
        have few := ok_few O nd2 fun p v m => (each2 p v m).1
        have kb2 : KeyAt H2 b (z, ns) := kb.keeps (S1.tups but2).1
        refine ⟨_, rfl, o, C, dx2, _, _, rfl, hob2, cl.cl, cl.nK, flds_known _ _ _, _, rfl, kd, b, (z, ns), kvs2, rfl, rfl, g2, kb2, by rw [sizeLine_eq]; omega, fun u g3 => ?_⟩
        have but3 : But kd H2 (upd H2 kd u) := (But.refl kd H2).upd
        have t3 := S2.tups but3
        have S3 : SAt P w K C (upd H2 kd u) o q d1 kd rs F Ok := S2.step but3 ⟨_, g3, putK_keys nd2, fun p v' m => by
          rcases putK_mem m with m | m
          · exact ⟨(each2 p v' m).1, (each2 p v' m).2.tups t3⟩
          · cases m
            exact ⟨okp, rw2.tups t3⟩⟩
        have kb3 := kb2.keeps t3.1
        have rw3 := rw2.tups t3
        have all : But kd H (upd H2 kd u) := ((Same.but s1).trans but2).trans but3
        generalize upd H2 kd u = H3 at g3 but3 t3 S3 kb3 rw3 all ⊢
        obtain ⟨dx3, hob3⟩ := S3.ob
        refine ⟨_, rfl, o, C, dx3, _, _, rfl, hob3, cl.cl, cl.nK, flds_known _ _ _, _, rfl, kd, b, (z, ns), _, v, rfl, rfl, g3, kb3, valV_put_self, ?_⟩
        exact k v H3 all S3 rw3
end
end Lk
/-! K36c -/
set_option Elab.async false
set_option linter.all false
set_option maxRecDepth 100000
set_option maxHeartbeats 4000000
namespace Lk
open PySem PySem.Spec PyProof.Rows L2
section
variable {P : Program} {w : World} {K : PySem.W.Frag} {C o q d1 kd D : Addr} {H H' : Hp} {rs : List Rl} {F : List Str} {Ok : Place → Prop}
theorem upd_tups {ys : List V} {u : HO} (h : H D = some (.lst ys)) : Tups H (upd H D u) :=
  ⟨fun b xs e => by rw [upd_ne (ne_of e h (fun z => nomatch z))]; exact e, fun b ob u' e => by rw [upd_ne (ne_of e h (fun z => nomatch z))]; exact e⟩
theorem SAt.mut (S : SAt P w K C H o q d1 kd rs F Ok) {ys : List V} {u : HO} (h : H D = some (.lst ys)) : SAt P w K C (upd H D u) o q d1 kd rs F Ok := by
  have t := upd_tups (u := u) h
  obtain ⟨dx, ob⟩ := S.ob
  obtain ⟨xs, h1, h2⟩ := S.bk
  obtain ⟨kvs, g, nd, each⟩ := S.kn
  have nD : kd ≠ D := fun z => S.nkd.2.2.2.1 ys (z ▸ h)
  refine ⟨⟨dx, by rw [upd_ne (ne_of ob h (fun z => nomatch z))]; exact ob⟩, ⟨xs, t.seqT h1, thAll_tups t h2 book_onlyT⟩, by rw [upd_ne (ne_of S.th h (fun z => nomatch z))]; exact S.th, S.ne, kvs, g.same (fun u' e => by rw [upd_ne nD]; exact e) t.1, nd, fun p v m => ⟨(each p v m).1, (each p v m).2.tups t⟩⟩
theorem way_tup {z : Str} {sp : List Nat} (nd : sp.Nodup) (lt : ∀ k ∈ sp, k < rs.length) {d : PyData} (h : way rs F z sp = some d) : ∃ ds, d = .tuple ds := by
  by_cases hz : z ∈ F
  · rw [way_in hz] at h
    cases h
    exact ⟨_, rfl⟩
  · rw [way_out nd lt hz] at h
    obtain ⟨c, mc, e⟩ := List.exists_of_findSome?_eq_some h
    unfold rowW at e
    obtain ⟨ds, hd, rfl⟩ := Option.map_eq_some_iff.mp e
    exact ⟨_, rfl⟩
theorem rw_non (O : OkR rs Ok) {v : V} {z : Str} {ns : List Nat} (ok : Ok (z, ns)) (h : RW K H v (way rs F z ns)) : decide (v = .non) = (way rs F z ns).isNone := by
  cases e : way rs F z ns with
  | none =>
    rw [e] at h
    have h2 : v = .non := h
    rw [h2]
    rfl
  | some d =>
    rw [e] at h
    obtain ⟨ds, rfl⟩ := way_tup (O.nd _ ok).1 (O.nd _ ok).2 e
    obtain ⟨h1, _⟩ := h
    cases h1
    rfl
theorem find_none {ss : List Str} {ns : List Nat} (h : ss.find? (fun s => (way rs F s ns).isNone) = none) : ∀ s ∈ ss, ∃ d, way rs F s ns = some d := fun s m => by
  have z := List.find?_eq_none.mp h s m
  cases e : way rs F s ns with
  | none =>
    rw [e] at z
    exact absurd rfl z
  | some d => exact ⟨d, rfl⟩
theorem find_some {ss : List Str} {ns : List Nat} {s : Str} (h : ss.find? (fun s => (way rs F s ns).isNone) = some s) : s ∈ ss ∧ way rs F s ns = none := by
  refine ⟨List.mem_of_find?_eq_some h, ?_⟩
  have z := List.find?_some h
  cases e : way rs F s ns with
  | none => rfl
  | some d =>
    rw [e] at z
    cases z
end
section
variable {P : Program} {w : World} {K : PySem.W.Frag} {mg : Str → Option Value} {base : Heap} {C : Addr}
theorem sc_onemore : FnScope ["spent", "number"] ["spent", "number"] (defScope s_p_with_one_more) := ⟨rfl, rfl, rfl, by decide +kernel, rfl, by decide +kernel, by decide +kernel⟩
theorem cal_onemore (D : Def1 K mg "with_one_more" s_p_with_one_more) (T : Glc mg) (gs : mg "sorted" = none) : Cal P w K mg base 1 "with_one_more" (spOneMore K) := by
  refine mkCal D sc_onemore (fun _ _ _ _ _ _ us hl => match us, hl with | [_, _], _ => rfl) (fun vs H Q E h => ?_) (fun f cdv A outer s H vs Q E hr h => ?_)
  · obtain ⟨t, ns, k, rfl, _⟩ := h
    rfl
  · obtain ⟨t, ns, k, rfl, ht, few, kk⟩ := h
    refine ⟨_, (pss_one (ps_ret (pe_callTy call_tuple_of (by rfl) T.tuple (by decide +kernel) (pa_cons (pe_callB (call_sortT hr.units) (by rfl) gs (by decide +kernel) (pa_cons (pe_tup (StX.pa_star (pv 0) (pa_cons (pv 1) pa_nil))) pa_nil)) pa_nil)))), ?_⟩
    refine ⟨_, rfl, t, _, rfl, .inl ht, _, rfl, ?_⟩
    have e1 : (ns.map fun n : Nat => V.int (n : Int)) ++ ([V.int (k : Int)] ++ []) = ((ns ++ [k]).map fun n : Nat => (n : Int)).map V.int := by
      rw [List.map_append, List.map_append, List.map_map]
      rfl
    refine ⟨by rw [List.length_append, List.length_map, sizeLine_eq]; show ns.length + 1 ≤ _; omega, fun u nu => ?_⟩
    refine ⟨u, (ns ++ [k]).map fun n : Nat => (n : Int), rfl, SqT.of (by rw [upd_same]; exact congrArg (fun l => some (HO.tup l)) e1), fun ns' p pm pw np => ?_⟩
    have e := nat_out pm pw
    subst e
    refine ⟨p, _, rfl, .inl ⟨SqL.of upd_same, fun b nb => ?_⟩⟩
    refine kk b _ (((same_upd nu).trans (same_upd np)).trans (same_upd nb)) ?_ ?_
    · exact (same_upd nu).free ((same_upd np).free nb)
    · rw [upd_same, List.map_map]
      rfl
theorem sc_missing : FnScope ["self", "names", "spent", "name"] ["self", "names", "spent"] (defScope s_Search_missing) := ⟨rfl, rfl, rfl, by decide +kernel, rfl, by decide +kernel, by decide +kernel⟩
theorem cal_missing {m j : Nat} (D : DefM K C "missing" "Search.missing" s_Search_missing) (cl : SCls K C) (CT : MCal P w K mg base C j "told" (spTold P w K C m)) : MCal P w K mg base C (j + 1) "missing" (spMiss P w K C m) := by
  refine mkMCal D sc_missing (fun _ _ _ _ _ _ us hl => match us, hl with | [_, _, _], _ => rfl) (fun vs H Q E h => ?_) (fun f cdv A outer s H vs Q E hr h => ?_)
  · obtain ⟨o, q, d1, kd, t, l, rs, F, ss, ns, Ok, rfl, _⟩ := h
    rfl
  · obtain ⟨o, q, d1, kd, t, l, rs, F, ss, ns, Ok, rfl, S, O, ht, hl, each, le, k⟩ := h
    refine ⟨_, (pss_cons (ps_for PassesOwn.never rfl (pi_list (pv 1)) (pg_name (i := 3) sc_missing.nd rfl (.inl rfl))
    (pss_one (ps_if (pt_cmpR op_isN (pe_mcal CT cl.cl hr (by omega) (pv 0) (pa_cons (pv 3) (pa_cons (pv 2) pa_nil))) pe_non (nomark _)) (pss_one (ps_ret (pv 3))) pss_nil)))
    (pss_one (ps_ret pe_non))), ?_⟩
    have lk : l ≠ kd := fun z => S.nkd.2.2.2.1 _ (z ▸ hl)
    have tk : t ≠ kd := fun z => S.nkd.1 _ (z ▸ ht)
    refine ⟨_, rfl, l, rfl, ⟨_, SqL.of hl⟩, for_list (K := K) (a := l) (xs := ss.map V.str) (fun i σ H' => ∃ v3 : Option V, σ = [some (.ref o), some (.ref l), some (.ref t), v3] ∧ But kd H H' ∧ SAt P w K C H' o q d1 kd rs F Ok ∧ (ss.take i).find? (fun s => (way rs F s ns).isNone) = none)
      ⟨_, rfl, But.refl kd H, S, rfl⟩ (fun i σ H' _ ⟨_, _, b, _⟩ => SqL.of (b _ _ hl lk)) ?_ ?_⟩
    · rintro i x σ H1 hx ⟨v3, rfl, b1, S1, no⟩
      obtain ⟨s, hs, rfl⟩ := Option.map_eq_some_iff.mp ((List.getElem?_map ..).symm.trans hx)
      have ms := List.mem_of_getElem? hs
      obtain ⟨dx, hob⟩ := S1.ob
      refine ⟨_, rfl, o, dx, _, rfl, hob, flds_no _ _ _ (by decide +kernel) (by decide +kernel) (by decide +kernel), _, rfl, _, rfl, o, q, d1, kd, t, rs, F, s, ns, Ok, rfl, S1, O, b1 _ _ ht tk, each s ms, le, fun v H2 b2 S2 rw2 => ⟨rfl, _, rfl, ?_⟩⟩
      have e := rw_non O (each s ms) rw2
      cases hw : way rs F s ns with
      | none =>
        refine iteT' (by rw [e, hw]; rfl) ?_
        refine ⟨_, rfl, ?_⟩
        have z : ss.find? (fun s => (way rs F s ns).isNone) = some s := by
          have es : ss = ss.take i ++ s :: ss.drop (i + 1) := by
            obtain ⟨q1, q2⟩ := List.getElem?_eq_some_iff.mp hs
            rw [← q2, List.getElem_cons_drop, List.take_append_drop]
          rw [es, List.find?_append, no, List.find?_cons, hw]
          rfl
        have y := k H2 (b1.trans b2) S2
        rw [z] at y
        exact y
      | some d =>
        refine iteF' (by rw [e, hw]; rfl) ?_
        refine ⟨_, rfl, b1.trans b2, S2, ?_⟩
        rw [List.take_add_one, hs, List.find?_append, no]
        simp [hw]
    · rintro σ H1 ⟨v3, rfl, b1, S1, no⟩
      rw [List.length_map, List.take_length] at no
      have y := k H1 b1 S1
      rw [no] at y
      exact y
end
end Lk
/-! K36d -/
set_option Elab.async false
set_option linter.all false
set_option maxRecDepth 100000
set_option maxHeartbeats 4000000
namespace Lk
open PySem PySem.Spec PyProof.Rows L2
/-- which rows have all their sources there -/
def rdy (F : List Str) (c : Cell) : Bool := decide (∀ s ∈ c.2.2.2, s ∈ F)
theorem rdy_filter {F : List Str} {L : List Cell} : (L.filter (rdy F)).map (·.2.2) = (L.map (·.2.2)).filter fun c => decide (∀ s ∈ c.2, s ∈ F) := by
  rw [List.filter_map]
  rfl
theorem filter_step {α : Type} {p : α → Bool} {l : List α} {i : Nat} {x : α} (h : l[i]? = some x) : (l.take (i + 1)).filter p = (l.take i).filter p ++ if p x = true then [x] else [] := by
  rw [List.take_add_one, h, List.filter_append]
  congr 1
  show ([x] : List α).filter p = _
  rw [List.filter_cons]
  rfl
theorem CellOk.but {kd : Addr} {H H' : Hp} {c : Cell} (h : CellOk H c) (b : But kd H H') (n1 : c.1 ≠ kd) (n2 : c.2.1 ≠ kd) : CellOk H' c := ⟨b _ _ h.1 n1, b _ _ h.2 n2⟩
theorem snoc_all {K : PySem.W.Frag} {H : Hp} {vs : List V} {ds : List PyData} {v : V} {d : PyData} (h : ThAll K H vs ds) (h2 : Th K H v d) : ThAll K H (vs ++ [v]) (ds ++ [d]) := by
  induction vs generalizing ds with
  | nil =>
    cases h
    exact .cons h2 .nil
  | cons x xs ih =>
    cases h with
    | cons a b => exact .cons a (ih b)
section
variable {P : Program} {w : World} {K : PySem.W.Frag} {mg : Str → Option Value} {base : Heap} {C : Addr}
theorem sc_first : FnScope ["self", "name", "spent", "tried", "ready", "number", "sources", "longer", "ways", "one", "source"] ["self", "name", "spent"] (defScope s_Search_first_right) := ⟨rfl, rfl, rfl, by decide +kernel, rfl, by decide +kernel, by decide +kernel⟩
set_option maxHeartbeats 0
theorem cal_first {m j : Nat} (D : DefM K C "first_right" "Search.first_right" s_Search_first_right) (cl : SCls K C) (hj : 2 ≤ j) (gall : mg "all" = none) (CF : Cal P w K mg base 2 "fitted" (spFit K)) (CO : Cal P w K mg base 1 "with_one_more" (spOneMore K))
    (CT : MCal P w K mg base C j "told" (spTold P w K C m)) (CM : MCal P w K mg base C (j + 1) "missing" (spMiss P w K C m)) : MCal P w K mg base C (j + 2) "first_right" (spFirst P w K C (m + 1)) := by
  refine mkMCal D sc_first (fun _ _ _ _ _ _ us hl => match us, hl with | [_, _, _], _ => rfl) (fun vs H Q E h => ?_) (fun f cdv A outer s H vs Q E hr h => ?_)
  · obtain ⟨o, q, d1, kd, t, rs, F, z, ns, Ok, rfl, _⟩ := h
    rfl
  · obtain ⟨o, q, d1, kd, t, rs, F, z, ns, Ok, rfl, S, O, ht, okp, hz, le, k⟩ := h
    refine ⟨_, (pss_cons (ps_set (i := 3) sc_first.nd rfl (.inl rfl) (pe_cal CF hr (by omega) (pa_cons (pe_fld (pv 0) rfl) (pa_cons (pv 1) (pa_cons (pv 2) pa_nil)))))
    (pss_cons (ps_setLc (i := 4) (own := [("one", 9)]) (g := gName 9) (by rfl) sc_first.nd rfl rfl (sw_true rfl rfl rfl (by decide +kernel)) (pi_list (pv 3)) (blkOk_by (own := [("one", 9)]) (N := ["self", "name", "spent", "tried", "ready", "number", "sources", "longer", "ways", "one", "source"]) (sc := defScope s_Search_first_right) (by decide +kernel)) (fun _ _ _ _ _ => pg_name (i := 9) sc_first.nd rfl (Or.inl rfl)) (fun _ _ _ _ _ => pts_one (pt_val (pe_callB (show CallR _ (.builtin "all") (rAll K) from cr_all rfl) (by rfl) gall (by decide +kernel) (pa_cons (pe_lc (own := [("source", 10)]) (g := gName 10) (tt := tYes) (by rfl) sc_first.nd (inL (K := K) (pe_ix (show IxR _ (rIxT K) from ix_tup) (pv 9) pe_int (fun _ _ => rfl))) (blkOk_by (own := [("source", 10)]) (N := ["self", "name", "spent", "tried", "ready", "number", "sources", "longer", "ways", "one", "source"]) (sc := { kind := ScopeKind.function, names := [ (".0", NameKind.local), ("one", NameKind.local), ("all", NameKind.globalImplicit), ("self", NameKind.cell)], isGenerator := false, isCoroutine := false }) (by decide +kernel)) (fun _ _ _ _ _ => pg_name (i := 10) sc_first.nd rfl (Or.inl rfl)) (fun _ _ _ _ _ => pts_nil) (fun _ _ _ _ _ => (pe_cmp (pc_din (units1 hr.units) (pv 10) (show PE _ _ (tFld K _ _) from pe_fld (pv 0) rfl)) rfl))) pa_nil)))) (fun _ _ _ _ _ => (pv 9)))
    (pss_cons (ps_for PassesOwn.never rfl (pi_list (pe_op op_cat (pv 4) (pv 3))) (pg_tup rfl (pgs_cons (pg_name (i := 5) sc_first.nd rfl (.inl rfl)) (pgs_cons (pg_name (i := 6) sc_first.nd rfl (.inl rfl)) pgs_nil)))
    (pss_cons (ps_set (i := 7) sc_first.nd rfl (.inr rfl) (pe_cal CO hr (by omega) (pa_cons (pv 2) (pa_cons (pv 5) pa_nil))))
    (pss_one (ps_if (pt_cmpR op_isN (pe_mcal CM cl.cl hr (by omega) (pv 0) (pa_cons (pv 6) (pa_cons (pv 7) pa_nil))) pe_non (nomark _)) (pss_cons (ps_setLc (i := 8) (own := [("source", 10)]) (g := gName 10) (tt := tYes) (by rfl) sc_first.nd rfl rfl (sw_true rfl rfl rfl (by decide +kernel)) (pi_list (pv 6)) (blkOk_by (own := [("source", 10)]) (N := ["self", "name", "spent", "tried", "ready", "number", "sources", "longer", "ways", "one", "source"]) (sc := defScope s_Search_first_right) (by decide +kernel)) (fun _ _ _ _ _ => pg_name (i := 10) sc_first.nd rfl (Or.inl rfl)) (fun _ _ _ _ _ => pts_nil) (fun _ _ _ _ _ => (pe_mcal CT cl.cl hr (by omega) (pv 0) (pa_cons (pv 10) (pa_cons (pv 7) pa_nil)))))
    (pss_one (ps_ret (pe_tup (pa_cons (pv 1) (pa_cons (pe_ix ix_tup (pe_ix ix_tup (pe_fld (pv 0) rfl) (pv 5) (fun _ _ => rfl)) pe_int (fun _ _ => rfl)) (StX.pa_star (pv 8) pa_nil))))))) pss_nil))))
    (pss_one (ps_ret pe_non))))), ?_⟩
    obtain ⟨dx, hob⟩ := S.ob
    obtain ⟨xb, hq, hx⟩ := S.bk
    obtain ⟨nd, lt⟩ := O.nd _ okp
    have lz := (O.tx _ okp).2
    have many := (book_len O.bk).1
    have blen := (book_len O.bk).2
    refine ⟨_, rfl, o, C, dx, _, _, rfl, hob, cl.cl, cl.nB, flds_book _ _ _, _, rfl, _, rfl, q, xb, rs, z, t, ns, rfl, hq, hx, O.bk, lz, SqT.of ht, fun p L H1 s1 hp cells eL => ?_⟩
    have S1 := S.same s1
    have ht1 := s1 _ _ ht
    have hob1 := s1 _ _ hob
    have few : L.length ≤ 6 := by
      have z1 := congrArg List.length eL
      have z2 := List.length_filterMap_le (rowOf z ns) rs.zipIdx
      rw [List.length_map] at z1
      rw [List.length_zipIdx] at z2
      unfold fitD at z1
      omega
    have inL : ∀ c ∈ L, c.2.2 ∈ fitD rs z ns := fun c mc => by
      rw [← eL]
      exact List.mem_map.mpr ⟨c, mc, rfl⟩
    have short : ∀ c ∈ L, c.2.2.2.length ≤ 3 := fun c mc => by
      obtain ⟨r, hr2, _, _, e⟩ := fit_row (inL c mc)
      rw [e]
      exact of_few (blen r (List.mem_of_getElem? hr2)) z
    refine ⟨_, rfl, p, rfl, ⟨_, SqL.of hp⟩, fun D nD => ?_⟩
    refine lc_list (K := K) (a := p) (xs := L.map fun c => V.ref c.1) (fun i H' => Same H1 H' ∧ H' D = some (.lst (((L.take i).filter (rdy F)).map fun c : Cell => V.ref c.1))) ⟨same_upd nD, upd_same⟩ (fun i H' _ h => h.1.seq (SqL.of hp)) ?_ ?_
    · rintro i x H2 hx2 ⟨s2, hD⟩
      obtain ⟨c, hc, rfl⟩ := Option.map_eq_some_iff.mp ((List.getElem?_map ..).symm.trans hx2)
      have mc := List.mem_of_getElem? hc
      obtain ⟨g1, g2⟩ := (cells c mc).same s2
      have hob2 := s2 _ _ hob1
      have th2 := s2 _ _ S1.th
      refine ⟨rfl, ?_⟩
      refine ⟨_, rfl, c.1, _, 1, _, rfl, rfl, SqT.of g1, atI_nat (j := 1) rfl, c.2.1, rfl, ⟨_, SqL.of g2⟩, fun D2 nD2 => ?_⟩
      refine lc_list (K := K) (a := c.2.1) (xs := c.2.2.2.map V.str) (fun j H' => Same H2 H' ∧ H' D2 = some (.lst (((c.2.2.2.take j).map fun s => decide (s ∈ F)).map V.bl))) ⟨same_upd nD2, upd_same⟩ (fun j H' _ h => h.1.seq (SqL.of g2)) ?_ ?_
      · rintro j y H3 hy ⟨s3, hD2⟩
        obtain ⟨s, hs, rfl⟩ := Option.map_eq_some_iff.mp ((List.getElem?_map ..).symm.trans hy)
        refine ⟨rfl, _, rfl, _, rfl, o, C, dx, _, _, rfl, s3 _ _ hob2, cl.cl, cl.nT, flds_there _ _ _, d1, _, rfl, DGet.k (k := Sum.inr s) (s3 _ _ th2), _, hD2, ?_, same_mut s3 nD2, ?_⟩
        · have := short c mc
          rw [List.length_map, List.length_map, List.length_take, sizeLine_eq]
          omega
        · rw [upd_same, List.take_add_one, hs, List.map_append, List.map_append, dk_val]
          rfl
      · rintro H3 ⟨s3, hD2⟩
        rw [List.length_map, List.take_length] at hD2
        have e : ((c.2.2.2.map fun s => decide (s ∈ F)).all id) = rdy F c := by
          unfold rdy
          rw [Bool.eq_iff_iff, List.all_map, List.all_eq_true, decide_eq_true_iff]
          exact ⟨fun h s m => of_decide_eq_true (h s m), fun h s m => decide_eq_true (h s m)⟩
        refine ⟨D2, _, rfl, SqL.of hD2, _, rfl, ?_⟩
        have s13 := s2.trans s3
        have hD3 := s3 _ _ hD
        have step := filter_step (p := rdy F) hc
        rw [e]
        cases hb : rdy F c with
        | true =>
          rw [hb] at step
          refine iteT' rfl ?_
          refine ⟨_, rfl, _, hD3, ?_, same_mut s13 nD, ?_⟩
          · have := List.length_filter_le (rdy F) (L.take i)
            rw [List.length_take] at this
            rw [List.length_map, sizeLine_eq]
            omega
          · rw [upd_same, step, List.map_append]
            rfl
        | false =>
          rw [hb] at step
          refine iteF' rfl ⟨s13, ?_⟩
          rw [step]
          simpa using hD3
    · rintro H2 ⟨s2, hD⟩
      rw [List.length_map, List.take_length] at hD
      have few2 := List.length_filter_le (rdy F) L
      refine ⟨_, rfl, _, rfl, _, _, _, _, rfl, rfl, hD, s2 _ _ hp, by rw [List.length_map, List.length_map, sizeLine_eq]; omega, fun l nl => ?_⟩
      have s3 : Same H2 (upd H2 l (.lst (((L.filter (rdy F)).map fun c : Cell => V.ref c.1) ++ L.map fun c => V.ref c.1))) := same_upd nl
      have hl : upd H2 l (.lst (((L.filter (rdy F)).map fun c : Cell => V.ref c.1) ++ L.map fun c => V.ref c.1)) l = some (.lst ((L.filter (rdy F) ++ L).map fun c => V.ref c.1)) := by
        rw [upd_same, List.map_append]
      have s13 := s2.trans s3
      have s03 := s1.trans s13
      generalize upd H2 l (.lst (((L.filter (rdy F)).map fun c : Cell => V.ref c.1) ++ L.map fun c => V.ref c.1)) = H3 at s3 hl s13 s03
      have S3 := S1.same s13
      have eM : (L.filter (rdy F) ++ L).map (·.2.2) = tryL rs F z ns := by
        rw [List.map_append, rdy_filter, eL]
        rfl
      have cellsM : ∀ c ∈ L.filter (rdy F) ++ L, c ∈ L := fun c mc => by
        rcases List.mem_append.mp mc with m | m
        · exact (List.mem_filter.mp m).1
        · exact m
      have cells3 : ∀ c ∈ L, CellOk H3 c ∧ c.1 ≠ kd ∧ c.2.1 ≠ kd := fun c mc => by
        have g := (cells c mc).same s13
        exact ⟨g, fun z => S3.nkd.1 _ (z ▸ g.1), fun z => S3.nkd.2.2.2.1 _ (z ▸ g.2)⟩
      have lk : l ≠ kd := fun z => S3.nkd.2.2.2.1 _ (z ▸ hl)
      have ht3 := s13 _ _ ht1
      have tk : t ≠ kd := fun z => S3.nkd.1 _ (z ▸ ht3)
      clear cells hD
      generalize L.filter (rdy F) ++ L = M at hl eM cellsM
      refine ⟨l, rfl, ⟨_, SqL.of hl⟩, for_list (K := K) (a := l) (xs := M.map fun c => V.ref c.1) (fun i σ H' => ∃ v5 v6 v7 v8 : Option V, σ = [some (.ref o), some (.str z), some (.ref t), some (.ref p), some (.ref D), v5, v6, v7, v8, none, none] ∧ But kd H3 H' ∧ SAt P w K C H' o q d1 kd rs F Ok ∧
        ((tryL rs F z ns).take i).findSome? (rowW rs F z ns) = none) ⟨_, _, _, _, rfl, But.refl kd H3, S3, rfl⟩ (fun i σ H' _ ⟨_, _, _, _, _, b, _⟩ => SqL.of (b _ _ hl lk)) ?_ ?_⟩
      · rintro i x σ H4 hx4 ⟨v5, v6, v7, v8, rfl, b4, S4, no⟩
        obtain ⟨c, hc, rfl⟩ := Option.map_eq_some_iff.mp ((List.getElem?_map ..).symm.trans hx4)
        have mc := cellsM c (List.mem_of_getElem? hc)
        have hrow : (tryL rs F z ns)[i]? = some c.2.2 := by
          rw [← eM, List.getElem?_map, hc]
          rfl
        obtain ⟨c3, n1, n2⟩ := cells3 c mc
        obtain ⟨g1, g2⟩ := c3.but b4 n1 n2
        obtain ⟨r, hr2, nin, _, eof⟩ := fit_row (inL c mc)
        have hlt := (List.getElem?_eq_some_iff.mp hr2).1
        refine ⟨c.1, _, rfl, SqT.of g1, rfl, _, _, rfl, _, _, rfl, rfl, ?_⟩
        have lns : ns.length ≤ 1000 := by
          have y := nodup_len (l := ns) (m := List.range rs.length) nd fun k m => List.mem_range.mpr (lt k m)
          rw [List.length_range] at y
          omega
        refine ⟨_, rfl, _, rfl, t, ns, c.2.2.1, rfl, SqT.of (b4 _ _ ht3 tk), lns, fun t2 H5 s5 nt2 ht2 => ?_⟩
        have S5 := S4.same s5
        have g25 := s5 _ _ g2
        have b5 := b4.same s5
        have b35 : But kd H4 H5 := Same.but s5
        obtain ⟨dx5, hob5⟩ := S5.ob
        have okn : ∀ s ∈ c.2.2.2, Ok (s, srt (ns ++ [c.2.2.1])) := fun s ms => O.cl (z, ns) _ okp ⟨c.2.2.1, r, hr2, nin, by rw [← eof]; exact ms, rfl⟩
        have perm : (srt (ns ++ [c.2.2.1])).Perm (c.2.2.1 :: ns) := (srt_perm _).trans (List.perm_append_singleton _ _)
        have le2 : rs.length + 1 ≤ (srt (ns ++ [c.2.2.1])).length + m := by
          rw [perm.length_eq, List.length_cons]
          omega
        generalize srt (ns ++ [c.2.2.1]) = ns2 at ht2 okn perm le2 ⊢
        refine ⟨_, rfl, o, dx5, _, rfl, hob5, flds_no _ _ _ (by decide +kernel) (by decide +kernel) (by decide +kernel), _, rfl, _, rfl, o, q, d1, kd, t2, c.2.1, rs, F, c.2.2.2, ns2, Ok, rfl, S5, O, ht2, g25, okn, le2, fun H6 b6 S6 => ⟨rfl, _, rfl, ?_⟩⟩
        have n2k : c.2.1 ≠ kd := n2
        have g26 := b6 _ _ g25 n2k
        have t2k : t2 ≠ kd := fun z => S5.nkd.1 _ (z ▸ ht2)
        have ht26 := b6 _ _ ht2 t2k
        have b36 := b5.trans b6
        cases hf : c.2.2.2.find? (fun s => (way rs F s ns2).isNone) with
        | some s =>
          obtain ⟨ms, hw⟩ := find_some hf
          refine iteF' rfl ?_
          refine ⟨_, _, _, _, rfl, b36, S6, first_no hrow no ?_⟩
          unfold rowW
          rw [way_perm perm] at hw
          have y : allO (c.2.2.2.map fun s => way rs F s (c.2.2.1 :: ns)) = none := allO_none.mpr (List.mem_map.mpr ⟨s, ms, hw⟩)
          rw [y]
          rfl
        | none =>
          have all := find_none hf
          refine iteT' rfl ?_
          refine ⟨_, rfl, c.2.1, rfl, ⟨_, SqL.of g26⟩, fun D7 nD7 => ?_⟩
          have D7k : D7 ≠ kd := fun z => by
            obtain ⟨u, hu⟩ := S6.nkd.2.2.2.2
            rw [z, hu] at nD7
            cases nD7
          have D7c : c.2.1 ≠ D7 := ne_of_none g26 nD7
          have D7t : t2 ≠ D7 := ne_of_none ht26 nD7
          refine lc_list (K := K) (a := c.2.1) (xs := c.2.2.2.map V.str) (fun j H' => But kd H6 H' ∧ SAt P w K C H' o q d1 kd rs F Ok ∧ ∃ vs ds, H' D7 = some (.lst vs) ∧ ThAll K H' vs ds ∧ onlyTs ds = true ∧ ds.length = j ∧ (c.2.2.2.take j).map (fun s => way rs F s ns2) = ds.map some)
            ⟨(Same.but (same_upd nD7)), S6.same (same_upd nD7), [], [], upd_same, .nil, rfl, rfl, rfl⟩ (fun j H' _ h => SqL.of (h.1 _ _ g26 n2k)) ?_ ?_
          · rintro j x H7 hx7 ⟨b7, S7, vs, ds, hD7, ta, ot, ej, ew⟩
            obtain ⟨s, hs, rfl⟩ := Option.map_eq_some_iff.mp ((List.getElem?_map ..).symm.trans hx7)
            have ms := List.mem_of_getElem? hs
            obtain ⟨dx7, hob7⟩ := S7.ob
            refine ⟨rfl, _, rfl, o, dx7, _, rfl, hob7, flds_no _ _ _ (by decide +kernel) (by decide +kernel) (by decide +kernel), _, rfl, _, rfl, o, q, d1, kd, t2, rs, F, s, ns2, Ok, rfl, S7, O, b7 _ _ ht26 t2k, okn s ms, le2, fun v H8 b8 S8 rw8 => ?_⟩
            obtain ⟨d, hw⟩ := all s ms
            rw [hw] at rw8
            have hD8 := b8 _ _ hD7 D7k
            have ta8 := thAll_tups (S7.tups b8) ta ot
            have t9 := upd_tups (u := .lst (vs ++ [v])) hD8
            have hvl := thAll_len ta8
            refine ⟨vs, hD8, ?_, (b7.trans b8).upd2 nD7, S8.mut hD8, vs ++ [v], ds ++ [d], upd_same, snoc_all (thAll_tups t9 ta8 ot) (th_tups t9 rw8.1 rw8.2), ?_, ?_, ?_⟩
            · have := (List.getElem?_eq_some_iff.mp hs).1
              have := short c mc
              rw [hvl, sizeLine_eq]
              omega
            · exact onlyTs_all.mpr fun e me => by
                rcases List.mem_append.mp me with me | me
                · exact onlyTs_all.mp ot e me
                · rw [List.mem_singleton.mp me]
                  exact rw8.2
            · rw [List.length_append, ej]
              rfl
            · rw [List.take_add_one, hs, List.map_append, List.map_append, ew]
              show _ ++ [way rs F s ns2] = _
              rw [hw]
              rfl
          · rintro H7 ⟨b7, S7, vs, ds, hD7, ta, ot, ej, ew⟩
            rw [List.length_map, List.take_length] at ew
            obtain ⟨dx7, hob7⟩ := S7.ob
            obtain ⟨xb7, hq7, hx7⟩ := S7.bk
            obtain ⟨x7, hx7i, th7⟩ : ∃ x, xb7[c.2.2.1]? = some x ∧ Th K H7 x r.d := by
              have y := thAll_len hx7
              rw [List.length_map] at y
              have e := List.getElem?_eq_getElem (show c.2.2.1 < xb7.length by omega)
              obtain ⟨d, hd, th⟩ := th_at hx7 e
              rw [List.getElem?_map, hr2] at hd
              cases hd
              exact ⟨_, e, th⟩
            obtain ⟨a7, p7, q7, y7, rfl, ha7, _⟩ := th_rule th7
            have hvl := thAll_len ta
            refine ⟨_, rfl, _, rfl, o, C, dx7, _, _, rfl, hob7, cl.cl, cl.nB, flds_book _ _ _, _, rfl, q, _, (c.2.2.1 : Int), .ref a7, rfl, rfl, hq7, atI_nat hx7i, a7, _, 0, _, rfl, rfl, ha7, atI_nat (j := 0) rfl, _, rfl, D7, vs, rfl, .inr (SqL.of hD7), ?_⟩
            refine ⟨?_, fun T nT => ?_⟩
            · have := short c mc
              have y := congrArg List.length ew
              rw [List.length_map, List.length_map] at y
              rw [List.append_nil, List.length_cons, List.length_cons, hvl, sizeLine_eq]
              omega
            · have s8 : Same H7 (upd H7 T (.tup (V.str z :: V.str r.lab :: (vs ++ [])))) := same_upd nT
              refine k (.ref T) _ (((Same.but s03).trans b36).trans (b7.same s8)) (S7.same s8) ?_
              have hw : way rs F z ns = some (nodeD z r.lab ds) := by
                rw [way_out nd lt hz]
                refine first_at hrow no ?_
                unfold rowW
                have e1 : c.2.2.2.map (fun s => way rs F s (c.2.2.1 :: ns)) = ds.map some := by
                  rw [← ew]
                  exact List.map_congr_left fun s _ => (way_perm perm).symm
                have e2 : labO rs c.2.2.1 = r.lab := by
                  unfold labO
                  rw [hr2]
                rw [allO_some.mpr e1, e2]
                rfl
              rw [hw]
              refine ⟨.tup (SqT.of upd_same) (.cons (.str z) (.cons (.str r.lab) ?_)), ?_⟩
              · have y := thAll_tups (Same.tups s8) ta ot
                simpa only [List.append_nil] using y
              · show onlyTs _ = true
                simp [onlyTs, onlyT, ot]
      · rintro σ H4 ⟨v5, v6, v7, v8, rfl, b4, S4, no⟩
        have e : (M.map fun c => V.ref c.1).length = (tryL rs F z ns).length := by
          rw [← eM, List.length_map, List.length_map]
        rw [e, List.take_length] at no
        refine k .non H4 ((Same.but s03).trans b4) S4 ?_
        rw [way_out nd lt hz, no]
        rfl
end
end Lk
/-! K36i -/
set_option Elab.async false
set_option linter.all false
set_option maxRecDepth 100000
set_option maxHeartbeats 4000000
namespace Lk
open PySem PySem.Spec PyProof.Rows L2
section
variable {P : Program} {w : World} {K : PySem.W.Frag} {mg : Str → Option Value} {base : Heap} {C : Addr}
/-- told, whatever is spent -/
theorem told_all (DT : DefM K C "told" "Search.told" s_Search_told) (DF : DefM K C "first_right" "Search.first_right" s_Search_first_right) (DM : DefM K C "missing" "Search.missing" s_Search_missing) (cl : SCls K C) (gall : mg "all" = none)
    (CF : Cal P w K mg base 2 "fitted" (spFit K)) (CO : Cal P w K mg base 1 "with_one_more" (spOneMore K)) : ∀ m, MCal P w K mg base C (3 * m + 2) "told" (spTold P w K C m)
  | 0 => mcal_never (ps := ["self", "name", "spent"]) DT (fun _ _ _ _ _ _ us hl => match us, hl with | [_, _, _], _ => rfl) fun vs H Q E h => by
    obtain ⟨o, q, d1, kd, t, rs, F, z, ns, Ok, _, _, O, _, okp, le, _⟩ := h
    obtain ⟨nd, lt⟩ := O.nd _ okp
    have y := nodup_len (l := ns) (m := List.range rs.length) nd fun k m => List.mem_range.mpr (lt k m)
    rw [List.length_range] at y
    omega
  | m + 1 => by
    have CT := told_all DT DF DM cl gall CF CO m
    have CM := cal_missing DM cl CT
    have CR := cal_first DF cl (by omega) gall CF CO CT CM
    have z := cal_told DT cl CR
    have e : 3 * m + 2 + 2 + 1 = 3 * (m + 1) + 2 := by omega
    rw [e] at z
    exact z
def spInit (P : Program) (w : World) (K : PySem.W.Frag) (C : Addr) : Sp := fun vs H Q _ => ∃ (o dx q f : Addr) (xs : List V) (rs : List Rl) (F : List Str), vs = [.ref o, .ref q, .ref f] ∧ H o = some (.ins C dx []) ∧ SqT K H q xs ∧ ThAll K H xs (rs.map Rl.d) ∧ SqT K H f (F.map V.str) ∧ F.Nodup ∧ F.length ≤ 1000000 ∧
  ∀ (d1 kd : Addr) (H' : Hp), H d1 = none → H kd = none → But o H H' → (∀ Ok, SAt P w K C H' o q d1 kd rs F Ok) → Q .non H'
theorem sc_init : FnScope ["self", "book", "files", "name"] ["self", "book", "files"] (defScope s_Search_init) := ⟨rfl, rfl, rfl, by decide +kernel, rfl, by decide +kernel, by decide +kernel⟩
theorem dk_take {F : List Str} {i : Nat} {y : Str} (h : F.Nodup) (hy : F[i]? = some y) : putK (dk (F.take i)) (Sum.inr y) (V.bl true) = dk (F.take (i + 1)) := by
  rw [dk_put]
  congr 1
  have n : y ∉ F.take i := fun m => by
    obtain ⟨j, hj, e⟩ := List.getElem_of_mem m
    rw [List.length_take] at hj
    rw [List.getElem_take] at e
    have e2 : F[j]? = some y := by rw [← e]; exact List.getElem?_eq_getElem (by omega)
    have := (List.getElem?_inj (List.getElem?_eq_some_iff.mp e2).1 h).mp (e2.trans hy.symm)
    omega
  unfold insK
  rw [if_neg n, List.take_add_one, hy]
  rfl
theorem dc_files {σ : L2.St} {H : Hp} {f : Addr} {F : List Str} {iv : Nat} {ti : TE} {Q : VK} (hi : ∀ R : VK, R (.ref f) H → ti σ H R) (hf : SqT K H f (F.map V.str)) (nd : F.Nodup) (few : F.length ≤ 1000000)
    (wp : ∀ x : V, wipe ((wipe σ [iv]).set iv (some x)) [iv] = wipe σ [iv]) (hv : ∀ x : V, ((wipe σ [iv]).set iv (some x))[iv]? = some (some x)) (k : ∀ D H', H D = none → Same H H' → H' D = some (.dK (dk F)) → Q (.ref D) H') :
    tDc (iTup K ti) (gName iv) tYes (tVar iv) (tC (.bl true)) [iv] σ H Q := by
  refine hi _ ⟨f, rfl, ⟨_, hf⟩, fun D nD => ?_⟩
  refine dc_tup (K := K) (a := f) (xs := F.map V.str) (fun i H' => Same H H' ∧ H' D = some (.dK (dk (F.take i)))) ⟨same_upd nD, by rw [upd_same]; rfl⟩ (fun i H' _ h => Same.seqT h.1 hf) ?_ ?_
  · rintro i x H' hx ⟨s, hD⟩
    obtain ⟨y, hy, rfl⟩ := Option.map_eq_some_iff.mp ((List.getElem?_map ..).symm.trans hx)
    refine ⟨wp _, _, hv _, dk (F.take i), Sum.inr y, rfl, hD, ?_, same_mut s nD, ?_⟩
    · rw [dk_len, List.length_take, sizeLine_eq]
      omega
    · rw [upd_same, dk_take nd hy]
  · rintro H' ⟨s, hD⟩
    rw [List.length_map, List.take_length] at hD
    exact k D H' nD s hD
theorem nxD_open {q : L2.St → Hp → Prop} {rt : VK} {bk ct : L2.St → Hp → Prop} {σ : L2.St} {H : Hp} (h : q σ H) : Ends.nx { nx := q, rt := rt, bk := bk, ct := ct } σ H := h
theorem seq_fld {K : PySem.W.Frag} {ta tv : TE} {f : Str} {r : TS} {D : Ends} {σ : L2.St} {H : Hp} (h : tv σ H fun y H1 => ta σ H1 fun x H2 => ∃ a C dx fs, x = .ref a ∧ H2 a = some (.ins C dx fs) ∧ Cls K C ∧ NoAttr K C f ∧ fs.length < 1000 ∧ r D σ (upd H2 a (.ins C dx (putF f y fs)))) :
    tSeq (sFld K ta tv f) r D σ H := h
theorem cal_init (D : DefM K C "__init__" "Search.__init__" s_Search_init) (cl : SCls K C) : MCal P w K mg base C 1 "__init__" (spInit P w K C) := by
  refine mkMCal D sc_init (fun _ _ _ _ _ _ us hl => match us, hl with | [_, _, _], _ => rfl) (fun vs H Q E h => ?_) (fun f cdv A outer s H vs Q E hr h => ?_)
  · obtain ⟨o, dx, q, f, xs, rs, F, rfl, _⟩ := h
    rfl
  · obtain ⟨o, dx, q, f, xs, rs, F, rfl, ho, hq, hx, hf, nd, few, k⟩ := h
    refine ⟨_, (pss_cons (ps_fld (pv 0) (pv 1) rfl)
    (pss_cons (ps_fld (pv 0) (pe_dc (own := [("name", 3)]) (g := gName 3) (tt := tYes) (by rfl) sc_init.nd (pi_tup (pv 2)) (blkOk_by (own := [("name", 3)]) (N := ["self", "book", "files", "name"]) (sc := defScope s_Search_init) (by decide +kernel)) (fun _ _ _ _ _ => pg_name (i := 3) sc_init.nd rfl (Or.inl rfl)) (fun _ _ _ _ _ => pts_nil) (fun _ _ _ _ _ => (pv 3)) (fun _ _ _ _ _ => pe_bl)) rfl)
    (pss_one (ps_fld (pv 0) pe_dnewK rfl)))), ?_⟩
    refine ⟨_, rfl, _, rfl, o, C, dx, [], rfl, ho, cl.cl, cl.nB, (by show 0 < 1000; decide), ?_⟩
    have t1 : ∀ u, Tups H (upd H o u) := fun u => ⟨fun b xs e => by rw [upd_ne (ne_of e ho (fun z => nomatch z))]; exact e, fun b ob u' e => by rw [upd_ne (ne_of e ho (fun z => nomatch z))]; exact e⟩
    have b1 : But o H (upd H o (.ins C dx (putF "book" (V.ref q) []))) := (But.refl o H).upd
    have h1 : upd H o (.ins C dx (putF "book" (V.ref q) [])) o = some (.ins C dx (putF "book" (V.ref q) [])) := upd_same
    have t1 := t1 (.ins C dx (putF "book" (V.ref q) []))
    generalize upd H o (.ins C dx (putF "book" (V.ref q) [])) = H1 at b1 h1 t1 ⊢
    refine nxD_open (seq_fld ?_)
    refine dc_files (K := K) (σ := [some (.ref o), some (.ref q), some (.ref f), none]) (ti := tVar 2) (f := f) (F := F) (iv := 3) (fun R h => ⟨_, rfl, h⟩) (t1.seqT hf) nd few (fun _ => rfl) (fun _ => rfl) fun d1 H2 nd1 s2 hd1 => ?_
    have od1 : o ≠ d1 := ne_of_none h1 nd1
    refine ⟨_, rfl, o, C, dx, _, rfl, s2 _ _ h1, cl.cl, cl.nT, (by show 1 < 1000; decide), ?_⟩
    have h2 := s2 _ _ h1
    have t3 : ∀ u, Tups H2 (upd H2 o u) := fun u => ⟨fun b xs e => by rw [upd_ne (ne_of e h2 (fun z => nomatch z))]; exact e, fun b ob u' e => by rw [upd_ne (ne_of e h2 (fun z => nomatch z))]; exact e⟩
    refine fun kd nkd => ?_
    have okd : o ≠ kd := fun z => by
      rw [← z, upd_same] at nkd
      cases nkd
    have dkd : d1 ≠ kd := fun z => by
      rw [← z, upd_ne od1.symm, hd1] at nkd
      cases nkd
    have nkd2 : H2 kd = none := by rwa [upd_ne okd.symm] at nkd
    refine ⟨_, rfl, o, C, dx, _, rfl, by rw [upd_ne okd, upd_same], cl.cl, cl.nK, (by show 2 < 1000; decide), ?_⟩
    have nd1' : H d1 = none := b1.free nd1 od1.symm
    have nkd' : H kd = none := b1.free (s2.free nkd2) okd.symm
    refine k d1 kd _ nd1' nkd' (fun c u e n => ?_) fun Ok => ⟨⟨dx, ?_⟩, ⟨xs, ?_, ?_⟩, ?_, dkd, [], ?_, List.nodup_nil, fun p v m => nomatch m⟩
    · rw [upd_ne n, upd_ne (ne_of_none e nkd'), upd_ne n]
      exact s2 _ _ (b1 _ _ e n)
    · rw [upd_same]
      rfl
    · have t4 := (t1.trans (Same.tups s2)).trans (t3 (.ins C dx (putF "there" (V.ref d1) (putF "book" (V.ref q) []))))
      refine (t4.trans (Same.tups (same_upd (o := .dK []) nkd))).trans ⟨fun b xs e => ?_, fun b ob u' e => ?_⟩ |>.seqT hq
      · have ne : b ≠ o := fun z => by
          rw [z, upd_ne okd, upd_same] at e
          cases e
        rw [upd_ne ne]
        exact e
      · have ne : b ≠ o := fun z => by
          rw [z, upd_ne okd, upd_same] at e
          cases e
        rw [upd_ne ne]
        exact e
    · have t4 := (t1.trans (Same.tups s2)).trans (t3 (.ins C dx (putF "there" (V.ref d1) (putF "book" (V.ref q) []))))
      refine thAll_tups ((t4.trans (Same.tups (same_upd (o := .dK []) nkd))).trans ⟨fun b xs e => ?_, fun b ob u' e => ?_⟩) hx book_onlyT
      · have ne : b ≠ o := fun z => by
          rw [z, upd_ne okd, upd_same] at e
          cases e
        rw [upd_ne ne]
        exact e
      · have ne : b ≠ o := fun z => by
          rw [z, upd_ne okd, upd_same] at e
          cases e
        rw [upd_ne ne]
        exact e
    · rw [upd_ne od1.symm, upd_ne dkd, upd_ne od1.symm]
      exact hd1
    · refine NAt.new ?_
      rw [upd_ne okd.symm, upd_same]
end
end Lk
/-! K36e -/
set_option Elab.async false
set_option linter.all false
set_option maxRecDepth 100000
set_option maxHeartbeats 4000000
namespace Lk
open PySem PySem.Spec PyProof.Rows L2
section
variable {P : Program} {w : World} {K : PySem.W.Frag} {mg : Str → Option Value} {base : Heap}
def ded : List Str → List Str
  | [] => []
  | x :: r => if x ∈ r then ded r else x :: ded r
theorem ded_mem : ∀ {ss : List Str} {y : Str}, y ∈ ded ss ↔ y ∈ ss
  | [], y => Iff.rfl
  | x :: r, y => by
    unfold ded
    split
    · rename_i h
      rw [ded_mem, List.mem_cons]
      exact ⟨.inr, fun z => z.elim (fun e => e ▸ h) id⟩
    · rw [List.mem_cons, List.mem_cons, ded_mem]
theorem ded_nodup : ∀ ss : List Str, (ded ss).Nodup
  | [] => List.nodup_nil
  | x :: r => by
    unfold ded
    split
    · exact ded_nodup r
    · rename_i h
      exact List.nodup_cons.mpr ⟨fun z => h (ded_mem.mp z), ded_nodup r⟩
def ascL (ss : List Str) : List Str := ((ded ss).mergeSort leT).mergeSort leL
theorem ascL_is (ss : List Str) : IsAsc (ascL ss) ss := asc_of (ded_nodup ss) (fun _ => ded_mem) (List.mergeSort_perm _ _) (List.pairwise_mergeSort leT_trans leT_total _)
def strD : PyData → Str
  | .str x => x
  | _ => ""
def dFiles : PyData → Bool
  | .tuple ds => decide (ds.length ≤ 60) && (ds.all dName && decide (ds.map strD = ascL (ds.map strD)))
  | _ => false
theorem names_strs : ∀ {ds : List PyData}, ds.all dName = true → ds = (ds.map strD).map PyData.str
  | [], _ => rfl
  | d :: r, h => by
    rw [List.all_cons, Bool.and_eq_true] at h
    have e : d = .str (strD d) := by
      cases d with
      | str x => rfl
      | _ => exact Bool.noConfusion h.1
    rw [List.map_cons, List.map_cons, ← names_strs h.2, ← e]
theorem strs_vs {H : Hp} : ∀ {xs : List V} {ss : List Str}, ThAll K H xs (ss.map PyData.str) → xs = ss.map V.str
  | [], [], _ => rfl
  | _ :: _, _ :: _, .cons (.str x) t => by rw [List.map_cons, strs_vs t]
theorem eqv_strs : ∀ ss cs : List Str, PyData.eqvAll (ss.map PyData.str) (cs.map PyData.str) = decide (ss = cs)
  | [], [] => rfl
  | [], _ :: _ => rfl
  | _ :: _, [] => rfl
  | x :: r, y :: t => by
    have e : PyData.eqvAll ((x :: r).map PyData.str) ((y :: t).map PyData.str) = ((x == y) && PyData.eqvAll (r.map PyData.str) (t.map PyData.str)) := by
      rw [List.map_cons, List.map_cons, PyData.eqvAll]
      rfl
    rw [e, eqv_strs r t, Bool.eq_iff_iff, Bool.and_eq_true, beq_iff_eq, decide_eq_true_iff, decide_eq_true_iff, List.cons.injEq]
theorem name_ok {x : Str} (h : dName (.str x) = true) : PyData.strOk x = true := by
  refine ok_of_all fun c hc => ?_
  have h2 : (!(TL.tl x).isEmpty && ((TL.tl x).dropWhile upB).all loB) = true := h
  rw [Bool.and_eq_true, List.all_eq_true] at h2
  rw [← List.takeWhile_append_dropWhile (p := upB) (l := TL.tl x)] at hc
  rcases List.mem_append.mp hc with hc | hc
  · have := List.all_eq_true.mp (List.all_takeWhile (p := upB) (l := TL.tl x)) c hc
    simp only [upB, Bool.and_eq_true, decide_eq_true_eq] at this
    omega
  · have := h2.2 c hc
    simp only [loB, Bool.and_eq_true, decide_eq_true_eq] at this
    omega
theorem shaped_tstrs {ss : List Str} (h : ∀ x ∈ ss, PyData.strOk x = true) : SeqAt.shaped (.tuple (ss.map PyData.str)) = true := by
  have h1 : ∀ l : List Str, (∀ x ∈ l, PyData.strOk x = true) → PyData.canLayAll0 (l.map PyData.str) = true ∧ PyData.depthAll (l.map PyData.str) = 0 := fun l => by
    induction l with
    | nil => exact fun _ => ⟨rfl, rfl⟩
    | cons x r ih =>
      intro h
      obtain ⟨a, b⟩ := ih fun y hy => h y (List.mem_cons_of_mem _ hy)
      refine ⟨?_, ?_⟩
      · rw [List.map_cons, PyData.canLayAll0, a, Bool.and_true]
        exact h x List.mem_cons_self
      · rw [List.map_cons, PyData.depthAll, b]
        rfl
  obtain ⟨a, b⟩ := h1 ss h
  unfold SeqAt.shaped
  rw [PyData.canLay0, a, PyData.depth, b]
  rfl
theorem dp_tstrs {H : Hp} : ∀ ss : List Str, DpAll K H (ss.map V.str) (ss.map PyData.str)
  | [] => .nil
  | x :: r => .cons (.str x) (dp_tstrs r)
theorem sc_p_are_files : FnScope ["thing", "name"] ["thing"] (defScope s_p_are_files) := ⟨rfl, rfl, rfl, by decide +kernel, rfl, by decide +kernel, by decide +kernel⟩
theorem cal_p_are_files (D : Def1 K mg "are_files" s_p_are_files) (T : Glc mg) (G : Glb mg) (B : Glk mg) (F : Con1 mg "MOST_FILES" (.int 60)) (C1 : Cal P w K mg base 1 "is_name" (spIsName K)) (C2 : Cal P w K mg base 1 "ascending" (spAsc K)) : Cal P w K mg base 2 "are_files" (spOneS K dFiles) := by
  refine mkCal D sc_p_are_files (fun _ _ _ _ _ _ us hl => match us, hl with | [_], _ => rfl) (fun vs H Q E h => ?_) (fun f cdv A outer s H vs Q E hr h => ?_)
  · obtain ⟨v, d, rfl, _⟩ := h
    rfl
  · obtain ⟨v, d, rfl, ht, hb, k⟩ := h
    refine ⟨_, pss_cons (ps_if (PW.pt (pw_or (pt_not (pt_val (pe_isi (T := "tuple") (pv 0) T.isinst T.tuple (by decide +kernel)))) (pw_or1 (pt_cmpR op_gt (pe_callB call_len_seq (by rfl) G.len PySem.boot_len (pa_cons (pv 0) pa_nil)) (pe_con1 F) (nomark _))))) (pss_one (ps_ret pe_bl)) pss_nil)
      (pss_one (ps_ret (pe_and (pe_callB (cr_all rfl) (by rfl) B.all (by decide +kernel) (pa_cons (pe_lc (own := [("name", 1)]) (g := gName 1) (tt := tYes) (by rfl) sc_p_are_files.nd (pi_tup (pv 0))
        (blkOk_by (own := [("name", 1)]) (N := ["thing", "name"]) (sc := defScope s_p_are_files) (by decide +kernel)) (fun _ _ _ _ _ => pg_name (i := 1) sc_p_are_files.nd rfl (Or.inl rfl)) (fun _ _ _ _ _ => pts_nil)
        (fun _ _ _ _ _ => pe_cal C1 hr (by decide) (pa_cons (pv 1) pa_nil))) pa_nil)) (pe_one (pe_cmpR (op_eqD hr.units) (pv 0) (pe_cal C2 hr (by decide) (pa_cons (pv 0) pa_nil)) (nomark _)))))), ?_⟩
    refine ⟨_, rfl, v, _, _, _, _, rfl, .ty _, th_ty ht, kit_tup d, _, rfl, ?_⟩
    cases e : isTup d with
    | false =>
      have z : dFiles d = false := by
        cases d with
        | tuple ds => cases e
        | _ => rfl
      rw [z] at k
      exact iteT (iteT (k H (Same.refl H)))
    | true =>
      obtain ⟨a, xs, ds, rfl, rfl, hs, ha⟩ := th_tup ht e
      have hl := thAll_len ha
      have ed : dFiles (.tuple ds) = (decide (ds.length ≤ 60) && (ds.all dName && decide (ds.map strD = ascL (ds.map strD)))) := rfl
      refine iteF ⟨_, rfl, a, xs, rfl, .inr hs, _, _, rfl, rfl, _, rfl, ?_⟩
      refine ite2 (fun h1 => ?_) (fun h1 => ?_)
      · have g : ¬ ds.length ≤ 60 := by
          have := of_decide_eq_true h1
          omega
        rw [ed, decide_eq_false g, Bool.false_and] at k
        exact k H (Same.refl H)
      · have g : ds.length ≤ 60 := by
          apply Classical.byContradiction
          intro z
          exact h1 (decide_eq_true (by omega))
        rw [ed, decide_eq_true g, Bool.true_and] at k
        refine all_read (n := 2) rfl hs ha (by omega) (fun _ => rfl) (fun x d H' R hd th s q => ⟨_, rfl, x, d, rfl, th, Nat.le_trans (bulk_in hd) hb, q H' (Same.refl H')⟩) fun H1 s1 => ⟨_, rfl, ?_⟩
        cases e2 : ds.all dName with
        | false =>
          rw [e2, Bool.false_and] at k
          exact iteF (k H1 s1)
        | true =>
          rw [e2, Bool.true_and] at k
          have en := names_strs e2
          generalize ds.map strD = ss at en k
          subst en
          have ex := strs_vs ha
          subst ex
          have ok : ∀ x ∈ ss, PyData.strOk x = true := fun x hx => name_ok (List.all_eq_true.mp e2 _ (List.mem_map.mpr ⟨x, hx, rfl⟩))
          rw [List.length_map] at g
          have small : ∀ y ∈ ss, y.length ≤ sizeLine := fun y hy => by
            have h2 := bulk_in (List.mem_map.mpr ⟨y, hy, rfl⟩ : PyData.str y ∈ ss.map PyData.str)
            have h3 : (PyData.str y).bulk ≤ 1000000 := Nat.le_trans h2 hb
            exact Nat.le_trans h3 (by decide)
          refine iteT ⟨_, rfl, _, rfl, a, ss, rfl, .inr (Same.seqT s1 hs), by show ss.length + 1 < 4096; omega, small, fun cs p H2 s2 hp asc => ?_⟩
          have ec : cs = ascL ss := asc.uniq (ascL_is ss)
          have okc : ∀ x ∈ cs, PyData.strOk x = true := fun x hx => ok x ((asc.mem x).mp hx)
          refine ⟨.tuple (ss.map .str), .tuple (cs.map .str), .tup (Same.seqT (s1.trans s2) hs) (dp_tstrs ss), .tup (.inl (.inl hp)) (dp_tstrs cs), shaped_tstrs ok, shaped_tstrs okc, ?_⟩
          have ev : PyData.eqv (.tuple (ss.map .str)) (.tuple (cs.map .str)) = decide (ss = ascL ss) := by
            rw [← ec]
            exact eqv_strs ss cs
          rw [ev]
          exact k H2 (s1.trans s2)
end
end Lk
/-! K36j -/
set_option Elab.async false
set_option linter.all false
set_option maxRecDepth 100000
set_option maxHeartbeats 4000000
namespace Lk
open PySem PySem.Spec PyProof.Rows L2
section
variable {P : Program} {w : World} {K : PySem.W.Frag} {mg : Str → Option Value} {base : Heap} {C : Addr}
/-- the names of files, ascending -/
structure Fl (F : List Str) : Prop where
  ok : dFiles (.tuple (F.map PyData.str)) = true
  len : ∀ y ∈ F, y.length ≤ 1000
theorem Fl.few {F : List Str} (h : Fl F) : F.length ≤ 60 := by
  have z := h.ok
  unfold dFiles at z
  simp only [Bool.and_eq_true, decide_eq_true_eq, List.length_map] at z
  exact z.1
theorem strD_map (F : List Str) : (F.map PyData.str).map strD = F := by
  rw [List.map_map]
  exact (List.map_congr_left fun x _ => rfl).trans (List.map_id _)
theorem Fl.asc {F : List Str} (h : Fl F) : F = ascL F := by
  have z := h.ok
  unfold dFiles at z
  simp only [Bool.and_eq_true, decide_eq_true_eq, List.length_map, strD_map] at z
  exact z.2.2
theorem Fl.nd {F : List Str} (h : Fl F) : F.Nodup := by
  rw [h.asc]
  exact (ascL_is F).1
theorem Fl.bulk {F : List Str} (h : Fl F) : (PyData.tuple (F.map PyData.str)).bulk ≤ 1000000 := by
  have s : PyData.bulkAll (F.map PyData.str) ≤ (F.map PyData.str).length * (1000 + 1) := bulkAll_le fun d m => by
    obtain ⟨y, my, rfl⟩ := List.mem_map.mp m
    exact h.len y my
  rw [List.length_map] at s
  have few := h.few
  show PyData.bulkAll (F.map PyData.str) ≤ 1000000
  omega
/-- what the calls ask of a book, files and a name -/
structure Asks (K : PySem.W.Frag) (H : Hp) (q f : Addr) (rs : List Rl) (F : List Str) (z : Str) (Ok : Place → Prop) : Prop where
  bk : ∃ xs, SqT K H q xs ∧ ThAll K H xs (rs.map Rl.d)
  fl : SqT K H f (F.map V.str)
  fok : Fl F
  nz : dName (.str z) = true
  ok : OkR rs Ok
  st : Ok (z, [])
theorem Asks.same {H H' : Hp} {q f : Addr} {rs : List Rl} {F : List Str} {z : Str} {Ok : Place → Prop} (A : Asks K H q f rs F z Ok) (s : Same H H') : Asks K H' q f rs F z Ok := by
  obtain ⟨xs, h1, h2⟩ := A.bk
  exact ⟨⟨xs, Same.seqT s h1, thAll_same s h2⟩, Same.seqT s A.fl, A.fok, A.nz, A.ok, A.st⟩
end
end Lk
/-! K36A -/
set_option Elab.async false
set_option linter.all false
set_option maxRecDepth 100000
set_option maxHeartbeats 4000000
namespace Lk
open PySem PySem.Spec PyProof.Rows L2
/-! ### what a way makes -/
def But2 (a b : Addr) (H H' : Hp) : Prop := ∀ q o, H q = some o → q ≠ a → q ≠ b → H' q = some o
theorem But2.trans {a b : Addr} {H H1 H2 : Hp} (x : But2 a b H H1) (y : But2 a b H1 H2) : But2 a b H H2 := fun q o h n1 n2 => y q o (x q o h n1 n2) n1 n2
theorem Same.but2 {a b : Addr} {H H' : Hp} (s : Same H H') : But2 a b H H' := fun q o h _ _ => s q o h
theorem But2.tups {a b : Addr} {H H' : Hp} (x : But2 a b H H') (h1 : ∀ ys, H a ≠ some (.tup ys)) (h2 : ∀ o u, H a ≠ some (.frz o u)) (g1 : ∀ ys, H b ≠ some (.tup ys)) (g2 : ∀ o u, H b ≠ some (.frz o u)) : Tups H H' :=
  ⟨fun c xs h => x _ _ h (fun z => h1 xs (z ▸ h)) fun z => g1 xs (z ▸ h), fun c o u h => x _ _ h (fun z => h2 o u (z ▸ h)) fun z => g2 o u (z ▸ h)⟩
theorem in_strs {z : Str} {ks : List Str} : inV (V.str z) (ks.map V.str) = decide (z ∈ ks) := by
  unfold inV
  rw [Bool.eq_iff_iff, List.any_eq_true, decide_eq_true_iff]
  constructor
  · rintro ⟨x, mx, e⟩
    obtain ⟨y, my, rfl⟩ := List.mem_map.mp mx
    have e2 : y = z := of_decide_eq_true (show decide (y = z) = true from e)
    exact e2 ▸ my
  · intro m
    exact ⟨_, List.mem_map.mpr ⟨z, m, rfl⟩, decide_eq_true rfl⟩
theorem flat_strs {ks : List Str} : (ks.map V.str).all flatV = true := by
  rw [List.all_eq_true]
  intro v m
  obtain ⟨n, _, rfl⟩ := List.mem_map.mp m
  rfl
end Lk
/-! K36C -/
set_option Elab.async false
set_option linter.all false
set_option maxRecDepth 100000
set_option maxHeartbeats 4000000
/-! K36D -/
set_option Elab.async false
set_option linter.all false
set_option maxRecDepth 100000
set_option maxHeartbeats 4000000
namespace Lk
open PySem PySem.Spec PyProof.Rows L2
/-! ### ways: they may be compared -/
/-- a way, or None, as data -/
def wayD : Option PyData → PyData
  | none => .none
  | some d => d
theorem RW.th {K : PySem.W.Frag} {H : Hp} {v : V} {o : Option PyData} (h : RW K H v o) : Th K H v (wayD o) := by
  cases o with
  | none =>
    have e : v = .non := h
    rw [e]
    exact .non
  | some d => exact h.1
end Lk
/-! K36E -/
set_option Elab.async false
set_option linter.all false
set_option maxRecDepth 100000
set_option maxHeartbeats 4000000
namespace Lk
open PySem PySem.Spec PyProof.Rows L2
/-- a row of the law's, as it lies on the heap: its tuple, its list, its number and names, its label -/
abbrev LCell := Addr × Addr × WRow × Str
def LCellOk (H : Hp) (c : LCell) : Prop := H c.1 = some (.tup [.int (c.2.2.1.1 : Int), .str c.2.2.2, .ref c.2.1]) ∧ H c.2.1 = some (.lst (c.2.2.1.2.map V.str))
theorem LCellOk.same {H H' : Hp} {c : LCell} (h : LCellOk H c) (s : Same H H') : LCellOk H' c := ⟨s _ _ h.1, s _ _ h.2⟩
end Lk
/-! K36F -/
set_option Elab.async false
set_option linter.all false
set_option maxRecDepth 100000
set_option maxHeartbeats 4000000
namespace Lk
open PySem PySem.Spec PyProof.Rows L2
/-! ### ways from other files -/
theorem try_mem {rs : List Rl} {F : List Str} {z : Str} {sp : List Nat} {c : WRow} : c ∈ tryL rs F z sp ↔ c ∈ fitD rs z sp := by
  unfold tryL
  rw [List.mem_append, List.mem_filter]
  exact ⟨fun h => h.elim (·.1) id, .inr⟩
end Lk
/-! K36XW -/
set_option Elab.async false
set_option linter.all false
set_option maxRecDepth 100000
set_option maxHeartbeats 4000000
namespace Lk
open PySem PySem.Spec PyProof.Rows L2
/-! ### blocks -/
noncomputable def missO (rs : List Rl) (F : List Str) (c : WRow) (ns : List Nat) : Option Str := c.2.find? fun s => (way rs F s (srt (ns ++ [c.1]))).isNone
/-- the rows that a row asks for -/
noncomputable def behind (rs : List Rl) (F : List Str) (p : NK) : List NK := (fitD rs p.1 p.2).map fun c => ((missO rs F c p.2).getD "", srt (p.2 ++ [c.1]))
structure Gone (rs : List Rl) (F : List Str) (Ok : Place → Prop) (p : NK) : Prop where
  ok : Ok p
  no : way rs F p.1 p.2 = none
theorem gone_miss {rs : List Rl} {F : List Str} {Ok : Place → Prop} (O : OkR rs Ok) {p : NK} (g : Gone rs F Ok p) {c : WRow} (mc : c ∈ fitD rs p.1 p.2) :
    ∃ s, missO rs F c p.2 = some s ∧ s ∈ c.2 ∧ Gone rs F Ok (s, srt (p.2 ++ [c.1])) := by
  obtain ⟨z, ns⟩ := p
  obtain ⟨nd, lt⟩ := O.nd _ g.ok
  have hz : z ∉ F := fun h => by
    have e := g.no
    rw [way_in h] at e
    cases e
  have e := g.no
  rw [way_out nd lt hz] at e
  have e2 := (List.findSome?_eq_none_iff.mp e) c (try_mem.mpr mc)
  unfold rowW at e2
  rw [Option.map_eq_none_iff] at e2
  obtain ⟨s, ms, es⟩ := List.mem_map.mp (allO_none.mp e2)
  have perm : (c.1 :: ns).Perm (srt (ns ++ [c.1])) := (List.perm_append_singleton c.1 ns).symm.trans (srt_perm _).symm
  rw [way_perm perm] at es
  have h : missO rs F c ns ≠ none := fun h => by
    unfold missO at h
    have z := List.find?_eq_none.mp h s ms
    rw [es] at z
    exact z rfl
  cases h2 : missO rs F c ns with
  | none => exact absurd h2 h
  | some s' =>
    obtain ⟨m1, m2⟩ := find_some h2
    obtain ⟨r, hr, no, _, eof⟩ := fit_row mc
    exact ⟨s', rfl, m1, O.cl (z, ns) _ g.ok ⟨c.1, r, hr, no, by rw [← eof]; exact m1, rfl⟩, m2⟩
theorem gone_behind {rs : List Rl} {F : List Str} {Ok : Place → Prop} (O : OkR rs Ok) {p r : NK} (g : Gone rs F Ok p) (m : r ∈ behind rs F p) : Gone rs F Ok r := by
  obtain ⟨c, mc, rfl⟩ := List.mem_map.mp m
  obtain ⟨s, e, _, g2⟩ := gone_miss O g mc
  rw [e]
  exact g2
theorem behind_len {rs : List Rl} {F : List Str} {p : NK} : (behind rs F p).length ≤ rs.length := by
  unfold behind
  rw [List.length_map]
  have z2 := List.length_filterMap_le (rowOf p.1 p.2) rs.zipIdx
  rw [List.length_zipIdx] at z2
  exact z2
/-- a block -/
structure Blk (rs : List Rl) (F : List Str) (Ok : Place → Prop) (z : Str) (Bk : List NK) : Prop where
  nd : Bk.Nodup
  st : (z, []) ∈ Bk
  all : ∀ p ∈ Bk, Gone rs F Ok p
  cl : ∀ p ∈ Bk, ∀ r ∈ behind rs F p, r ∈ Bk
def spBehind (P : Program) (w : World) (K : PySem.W.Frag) (C : Addr) : Sp := fun vs H Q _ => ∃ (o q d1 kd b : Addr) (rs : List Rl) (F : List Str) (p : NK) (Ok : Place → Prop), vs = [.ref o, .ref b] ∧ SAt P w K C H o q d1 kd rs F Ok ∧ OkR rs Ok ∧ KeyAt H b p ∧ Gone rs F Ok p ∧
  ∀ (l : Addr) (L : List (Addr × NK)) (H' : Hp), H l = none → l ≠ kd → But kd H H' → SAt P w K C H' o q d1 kd rs F Ok → H' l = some (.lst (L.map fun c => V.ref c.1)) → (∀ c ∈ L, KeyAt H' c.1 c.2) → L.map (·.2) = behind rs F p → Q (.ref l) H'
def spBlock (K : PySem.W.Frag) : Sp := fun vs H Q _ => ∃ (q f : Addr) (rs : List Rl) (F : List Str) (z : Str) (Ok : Place → Prop), vs = [.ref q, .ref f, .str z] ∧ Asks K H q f rs F z Ok ∧ ∀ (v : V) (H' : Hp), Same H H' →
  ((∃ d, way rs F z [] = some d) → v = .non) → (way rs F z [] = none → ∃ (l : Addr) (L : List (Addr × NK)), v = .ref l ∧ H l = none ∧ H' l = some (.lst (L.map fun c => V.ref c.1)) ∧ (∀ c ∈ L, KeyAt H' c.1 c.2) ∧ Blk rs F Ok z (L.map (·.2))) → Q v H'
section
variable {P : Program} {w : World} {K : PySem.W.Frag} {mg : Str → Option Value} {base : Heap} {C : Addr}
theorem sc_p_behind : FnScope ["search", "row", "name", "spent", "found", "number", "sources", "longer"] ["search", "row"] (defScope s_p_rows_behind) := ⟨rfl, rfl, rfl, by decide +kernel, rfl, by decide +kernel, by decide +kernel⟩
theorem KeyAt.tups {H H' : Hp} {b : Addr} {p : NK} (h : KeyAt H b p) (t : Tups H H') : KeyAt H' b p := h.keeps t.1
theorem nxb_set {x : V} {i : Nat} {te : TE} {g : TG} {r : TS} {D : Ends} {σ : L2.St} {H : Hp} (h : te (σ.set i (some x)) H fun y H1 => g y (σ.set i (some x)) H1 (r D)) : gName i x σ H (tSeq (tAsg te g) r D) := h
theorem But.mutN {a D : Addr} {H H' : Hp} {o : HO} (b : But a H H') (n : H D = none) : But a H (L2.upd H' D o) := fun q u e nq => by
  rw [L2.upd_ne (ne_of_none e n)]
  exact b q u e nq
theorem But.but2L {a b : Addr} {H H' : Hp} (x : But a H H') : But2 a b H H' := fun q u e n1 _ => x q u e n1
theorem But2.mutR {a b : Addr} {H H' : Hp} {o : HO} (x : But2 a b H H') : But2 a b H (L2.upd H' b o) := fun q u e n1 n2 => by
  rw [L2.upd_ne n2]
  exact x q u e n1 n2
set_option maxHeartbeats 0
theorem cal_p_behind (D : Def1 K mg "rows_behind" s_p_rows_behind) (cl : SCls K C) (CF : Cal P w K mg base 2 "fitted" (spFit K)) (CO : Cal P w K mg base 1 "with_one_more" (spOneMore K)) (CM : MCal P w K mg base C 24 "missing" (spMiss P w K C 7)) : Cal P w K mg base 25 "rows_behind" (spBehind P w K C) := by
  refine mkCal D sc_p_behind (fun _ _ _ _ _ _ us hl => match us, hl with | [_, _], _ => rfl) (fun vs H Q E h => ?_) (fun f cdv A outer s H vs Q E hr h => ?_)
  · obtain ⟨o, q, d1, kd, b, rs, F, p, Ok, rfl, _⟩ := h
    rfl
  · obtain ⟨o, q, d1, kd, b, rs, F, ⟨z, ns⟩, Ok, rfl, S, O, hb, g, k⟩ := h
    refine ⟨_, (pss_cons (ps_asg (pv 1) (pg_tup rfl (pgs_cons (pg_name (i := 2) sc_p_behind.nd rfl (.inl rfl)) (pgs_cons (pg_name (i := 3) sc_p_behind.nd rfl (.inl rfl)) pgs_nil))))
    (pss_cons (ps_set (i := 4) sc_p_behind.nd rfl (.inl rfl) (pe_lst pa_nil))
    (pss_cons (ps_for PassesOwn.never rfl (pi_list (pe_cal CF hr (by omega) (pa_cons (pe_fld (pv 0) rfl) (pa_cons (pv 2) (pa_cons (pv 3) pa_nil))))) (pg_tup rfl (pgs_cons (pg_name (i := 5) sc_p_behind.nd rfl (.inl rfl)) (pgs_cons (pg_name (i := 6) sc_p_behind.nd rfl (.inl rfl)) pgs_nil)))
    (pss_cons (ps_set (i := 7) sc_p_behind.nd rfl (.inl rfl) (pe_cal CO hr (by omega) (pa_cons (pv 3) (pa_cons (pv 5) pa_nil))))
    (pss_one (ps_expr (pe_bm PySem.F.plainAttrs_list PySem.F.slot_list_append PySem.F.type_list_append mt_append (pv 4) (pa_cons (pe_tup (pa_cons (pe_mcal CM cl.cl hr (by omega) (pv 0) (pa_cons (pv 6) (pa_cons (pv 7) pa_nil))) (pa_cons (pv 7) pa_nil))) pa_nil))))))
    (pss_one (ps_ret (pv 4)))))), ?_⟩
    obtain ⟨t, hbt, ht⟩ := hb
    obtain ⟨nd, lt⟩ := O.nd _ g.ok
    have tz := O.tx _ g.ok
    have many := (book_len O.bk).1
    have lns : ns.length ≤ 6 := by
      have y := nodup_len (l := ns) (m := List.range rs.length) nd fun k m => List.mem_range.mpr (lt k m)
      rw [List.length_range] at y
      omega
    refine ⟨_, rfl, b, _, rfl, SqT.of hbt, rfl, _, _, rfl, _, _, rfl, rfl, ?_⟩
    refine ⟨(by show 0 ≤ sizeLine; decide), fun D nD => ?_⟩
    have s1 := same_upd (o := .lst []) nD
    have hD1 : upd H D (.lst []) D = some (.lst []) := upd_same
    have S1 := S.same s1
    generalize upd H D (.lst []) = H1 at s1 hD1 S1
    obtain ⟨dx, hob⟩ := S1.ob
    obtain ⟨xb, hq, hx⟩ := S1.bk
    refine ⟨_, rfl, o, C, dx, _, _, rfl, hob, cl.cl, cl.nB, flds_book _ _ _, _, rfl, _, rfl, q, xb, rs, z, t, ns, rfl, hq, hx, O.bk, tz.2, SqT.of (s1 _ _ ht), fun p2 L H2 s2 hp2 cells eL => ?_⟩
    have S2 := S1.same s2
    have hD2 := s2 _ _ hD1
    have s02 := s1.trans s2
    have nDkd : D ≠ kd := fun e => by
      obtain ⟨u, hu⟩ := S.nkd.2.2.2.2
      rw [e, hu] at nD
      cases nD
    refine ⟨p2, rfl, ⟨_, SqL.of hp2⟩, ?_⟩
    have lL : L.length = (behind rs F (z, ns)).length := by
      unfold behind
      rw [List.length_map, ← eL, List.length_map]
    refine for_list (K := K) (a := p2) (xs := L.map fun c => V.ref c.1) (fun i σ H' => ∃ v5 v6 v7 : Option V, σ = [some (.ref o), some (.ref b), some (.str z), some (.ref t), some (.ref D), v5, v6, v7] ∧ But kd H H' ∧ But2 kd D H2 H' ∧ SAt P w K C H' o q d1 kd rs F Ok ∧ H' p2 = some (.lst (L.map fun c => V.ref c.1)) ∧
      ∃ M : List (Addr × NK), H' D = some (.lst (M.map fun c => V.ref c.1)) ∧ (∀ c ∈ M, KeyAt H' c.1 c.2) ∧ M.map (·.2) = (behind rs F (z, ns)).take i)
      ⟨_, _, _, rfl, Same.but s02, Same.but2 (Same.refl _), S2, hp2, [], hD2, (fun _ m => nomatch m), rfl⟩ (fun i σ H' _ ⟨_, _, _, _, _, _, _, h, _⟩ => SqL.of h) ?_ ?_
    · rintro i x σ H3 hx3 ⟨v5, v6, v7, rfl, b3, b23, S3, hp3, M, hD3, keys, eM⟩
      obtain ⟨cc, hcc, rfl⟩ := Option.map_eq_some_iff.mp ((List.getElem?_map ..).symm.trans hx3)
      have mcc := List.mem_of_getElem? hcc
      have mrow : cc.2.2 ∈ fitD rs z ns := by rw [← eL]; exact List.mem_map.mpr ⟨cc, mcc, rfl⟩
      obtain ⟨c1, c2⟩ := cells cc mcc
      obtain ⟨s, es, ms, gs⟩ := gone_miss O g mrow
      have es' : missO rs F cc.2.2 ns = some s := es
      have ne1 : cc.2.2.2 ≠ [] := List.ne_nil_of_mem ms
      have c13 : H3 cc.1 = some (.tup [.int (cc.2.2.1 : Int), .ref cc.2.1]) := b23 _ _ c1 (fun e => S2.nkd.1 _ (e ▸ c1)) (fun e => by rw [e, hD2] at c1; cases c1)
      have c23 : H3 cc.2.1 = some (.lst (cc.2.2.2.map V.str)) := b23 _ _ c2 (fun e => S2.nkd.2.2.2.1 _ (e ▸ c2)) (fun e => by
        rw [e, hD2] at c2
        injection c2 with c2
        injection c2 with c2
        exact ne1 (List.map_eq_nil_iff.mp c2.symm))
      have ht3 := b3 _ _ ht (fun e => S.nkd.1 _ (e ▸ ht))
      refine ⟨cc.1, _, rfl, SqT.of c13, rfl, _, _, rfl, _, _, rfl, rfl, ?_⟩
      -- longer
      refine nxb_set ?_
      refine ⟨_, rfl, _, rfl, t, ns, cc.2.2.1, rfl, SqT.of ht3, by omega, fun u H4 s4 nu hu => ?_⟩
      have S4 := S3.same s4
      refine ⟨_, rfl, .inl ⟨rfl, _, SqL.of (s4 _ _ hD3)⟩, ?_⟩
      obtain ⟨dx4, hob4⟩ := S4.ob
      have okS : ∀ y ∈ cc.2.2.2, Ok (y, srt (ns ++ [cc.2.2.1])) := fun y my => by
        obtain ⟨r, hr, no, _, eof⟩ := fit_row mrow
        exact O.cl (z, ns) _ g.ok ⟨cc.2.2.1, r, hr, no, by rw [← eof]; exact my, rfl⟩
      have le : rs.length + 1 ≤ (srt (ns ++ [cc.2.2.1])).length + 7 := by omega
      refine ⟨_, rfl, o, dx4, _, rfl, hob4, flds_no _ _ _ (by decide +kernel) (by decide +kernel) (by decide +kernel), _, rfl, _, rfl, o, q, d1, kd, u, cc.2.1, rs, F, cc.2.2.2, srt (ns ++ [cc.2.2.1]), Ok, rfl, S4, O, hu, s4 _ _ c23, okS, le, fun H5 b5 S5 => ?_⟩
      have em : (cc.2.2.2.find? fun s => (way rs F s (srt (ns ++ [cc.2.2.1]))).isNone) = some s := es'
      rw [em, show vO (some s) = V.str s from rfl]
      refine ⟨_, rfl, (by show 2 ≤ sizeLine; decide), fun y ny => ?_⟩
      have s6 := same_upd (o := .tup [.str s, .ref u]) ny
      have hy : upd H5 y (.tup [.str s, .ref u]) y = some (.tup [.str s, .ref u]) := upd_same
      have S6 := S5.same s6
      have hu5 : H5 u = some (.tup ((srt (ns ++ [cc.2.2.1])).map fun n : Nat => V.int (n : Int))) := b5 _ _ hu (fun e => S4.nkd.1 _ (e ▸ hu))
      have hu6 := s6 _ _ hu5
      have b46 : But kd H4 (upd H5 y (.tup [.str s, .ref u])) := b5.trans (Same.but s6)
      generalize upd H5 y (.tup [.str s, .ref u]) = H6 at s6 hy S6 hu6 b46
      have b36 : But kd H3 H6 := (Same.but s4).trans b46
      have hD6 := b36 _ _ hD3 nDkd
      have t36 := S3.tups b36
      have lM : M.length = min i (behind rs F (z, ns)).length := by
        have y := congrArg List.length eM
        rw [List.length_map, List.length_take] at y
        exact y
      have bl : (behind rs F (z, ns)).length ≤ rs.length := behind_len
      have t7 := upd_tups (u := .lst ((M ++ [(y, (s, srt (ns ++ [cc.2.2.1])))]).map fun c => V.ref c.1)) hD6
      have S7 := S6.mut (u := .lst ((M ++ [(y, (s, srt (ns ++ [cc.2.2.1])))]).map fun c => V.ref c.1)) hD6
      have eapp : (M.map fun c => V.ref c.1) ++ [V.ref y] = (M ++ [(y, ((s, srt (ns ++ [cc.2.2.1])) : NK))]).map fun c => V.ref c.1 := by
        rw [List.map_append]
        rfl
      refine ⟨D, _, _, rfl, rfl, hD6, by rw [List.length_map, sizeLine_eq]; omega, ?_⟩
      rw [eapp]
      refine ⟨_, _, _, rfl, (b3.trans b36).mutN nD, (b23.trans b36.but2L).mutR, S7, ?_, _, upd_same, fun c mc => ?_, ?_⟩
      · have ilt := (List.getElem?_eq_some_iff.mp hcc).1
        have nep : p2 ≠ D := fun e => by
          rw [e, hD2] at hp2
          injection hp2 with hp2
          injection hp2 with hp2
          have z := congrArg List.length hp2
          rw [List.length_map] at z
          have z0 : ([] : List V).length = 0 := rfl
          omega
        rw [upd_ne nep]
        exact b36 _ _ hp3 (fun e => S3.nkd.2.2.2.1 _ (e ▸ hp3))
      · rcases List.mem_append.mp mc with mc | mc
        · exact ((keys c mc).tups t36).tups t7
        · rw [List.mem_singleton.mp mc]
          exact KeyAt.tups ⟨u, hy, hu6⟩ t7
      · have hbi : (behind rs F (z, ns))[i]? = some ((s, srt (ns ++ [cc.2.2.1])) : NK) := by
          unfold behind
          rw [← eL, List.map_map, List.getElem?_map, hcc]
          show some ((missO rs F cc.2.2 ns).getD "", srt (ns ++ [cc.2.2.1])) = _
          rw [es']
          rfl
        rw [List.map_append, eM, List.take_add_one, hbi]
        rfl
    · rintro σ H3 ⟨v5, v6, v7, rfl, b3, b23, S3, hp3, M, hD3, keys, eM⟩
      rw [List.length_map, lL, List.take_length] at eM
      exact ⟨_, rfl, k D M H3 nD nDkd b3 S3 hD3 keys eM⟩
end
end Lk
/-! K36XA -/
set_option Elab.async false
set_option linter.all false
set_option maxRecDepth 100000
set_option maxHeartbeats 4000000
namespace Lk
open PySem PySem.Spec PyProof.Rows L2
section
variable {P : Program} {w : World} {K : PySem.W.Frag} {mg : Str → Option Value} {base : Heap}
abbrev s_init1 : Stmt := inClass (top 3) 0
/-- a class with its own __init__ -/
structure Ini (P : Program) (w : World) (K : PySem.W.Frag) (mg : Str → Option Value) (base : Heap) (x : String) (C : Addr) (sp : Sp) : Prop where
  ex : ∃ (fI : Addr) (fd : FuncData) (ps : List Str), FnOk P w K mg base CX0 1 fI fd ps sp ∧ PySem.W.findIn K (.ref C) "__init__" = some (some (.ref fI)) ∧ PySem.W.typeIn K (.ref fI) = some (.type "function") ∧ Binds K fd ps [] ∧ mg x = some (.ref C)
  ox : OexC K C
def spI1 (C : Addr) : Sp := fun vs H Q _ => ∃ (a : Addr) (y : V), vs = [.ref a, y] ∧ H a = some (exo a C none) ∧ ∀ dx, H dx = none → dx ≠ a → Q .non (upd (upd H dx (exd dx [("limit", y)])) a (exo a C (some dx)))
theorem sc_init1 : FnScope ["self", "limit"] ["self", "limit"] (defScope s_init1) := ⟨rfl, rfl, rfl, by decide +kernel, rfl, by decide +kernel, by decide +kernel⟩
theorem ini1 {fI C : Addr} {fd : FuncData} (F : L2.Fun K "__init__" "TooMany.__init__" s_init1 fI fd) (T : OexC K C) (iC : PySem.W.findIn K (.ref C) "__init__" = some (some (.ref fI))) (tI : PySem.W.typeIn K (.ref fI) = some (.type "function")) (no : PySem.W.findIn K (.ref C) "limit" = some none) (m : mg "TooMany" = some (.ref C)) :
    Ini P w K mg base "TooMany" C (spI1 C) := by
  refine ⟨⟨fI, fd, ["self", "limit"], F.ok sc_init1 (fun vs H Q E h => ?_) (fun cdv A outer s H vs Q E hr h => ?_), iC, tI, F.binds (ps := ["self", "limit"]) fun _ _ _ _ _ _ us hl => match us, hl with | [_, _], _ => rfl, m⟩, T⟩
  · obtain ⟨a, y, rfl, _⟩ := h
    rfl
  · obtain ⟨a, y, rfl, ha, k⟩ := h
    exact ⟨_, pss_one (ps_ost (pv 0) (pv 1) (by rfl)), ⟨_, rfl, _, rfl, a, C, rfl, T, no, .inl ⟨ha, fun dx n ne => k dx n ne⟩⟩⟩
end
theorem tm_raise {H : Hp} {TM : Addr} {y : V} {Q : XK} (k : ∀ dd H', Same H H' → H' dd = some (.xd [("limit", y)]) → Q (.ref TM) (some dd) H') : [y].length ≤ 1000 ∧ ∀ a, H a = none → spI1 TM (.ref a :: ([y] ++ [])) (upd H a (exo a TM none))
    (fun v H2 => v = .non ∧ ∃ (d : Addr) (fs : List (Str × V)), H2 a = some (exo a TM (some d)) ∧ H2 d = some (exd d fs) ∧ H d = none ∧ Q (.ref TM) (some d) (upd (del H2 a) d (.xd fs))) (fun _ _ _ => False) := by
  refine ⟨(by show 1 ≤ 1000; decide), fun a na => ⟨a, y, rfl, upd_same, fun d nd ne => ?_⟩⟩
  have nd' : H d = none := by rwa [upd_ne ne] at nd
  refine ⟨rfl, d, [("limit", y)], upd_same, by rw [upd_ne ne, upd_same], nd', k d _ (fun b x e => ?_) upd_same⟩
  have n1 : b ≠ a := ne_of_none e na
  have n2 : b ≠ d := ne_of_none e nd'
  rw [upd_ne n2, del_ne n1, upd_ne n1, upd_ne n2, upd_ne n1]
  exact e
end Lk
/-! K36XR -/
set_option Elab.async false
set_option linter.all false
set_option maxRecDepth 100000
set_option maxHeartbeats 4000000
namespace Lk
open PySem PySem.Spec PyProof.Rows L2
section
/-! ### where the program's first checks raise -/
/-- the classes of errors, by number: book, files, name, rule, match -/
structure E5 where
  b : Addr
  f : Addr
  n : Addr
  r : Addr
  m : Addr
def E5.at (e : E5) : Nat → Addr
  | 0 => e.b
  | 1 => e.f
  | 2 => e.n
  | 3 => e.r
  | _ => e.m
def errT (d1 d2 d3 : PyData) : Option Nat := if dBook d1 = false then some 0 else if dFiles d2 = false then some 1 else if dName d3 = false then some 2 else none
end
section
variable {P : Program} {w : World} {K : PySem.W.Frag} {mg : Str → Option Value} {base : Heap} {e : E5}
def spNeedOne (K : PySem.W.Frag) (p : PyData → Bool) (C : Addr) : Sp := fun vs H Q E => ∃ v d, vs = [v] ∧ Th K H v d ∧ d.bulk ≤ 1000000 ∧ (p d = true → ∀ H', Same H H' → Q .non H') ∧ (p d = false → ∀ H', Same H H' → E (.ref C) none H')
theorem sx_need_book : FnScope ["thing"] ["thing"] (defScope s_p_need_book) := ⟨rfl, rfl, rfl, by decide +kernel, rfl, by decide +kernel, by decide +kernel⟩
theorem calx_need_book {C : Addr} (D : Def1 K mg "need_book" s_p_need_book) (R : Err K mg "NoBook" C) (C1 : Cal P w K mg base 6 "is_book" (spOneS K dBook)) : CalX P w K mg base 7 "need_book" (spNeedOne K dBook C) := by
  refine mkCalX D sx_need_book (fun _ _ _ _ _ _ us hl => match us, hl with | [_], _ => rfl) (fun vs H Q E h => ?_) (fun f cdv A outer s H vs Q E hr h => ?_)
  · obtain ⟨v, d, rfl, _⟩ := h
    rfl
  · obtain ⟨v, d, rfl, ht, hb, yes, no⟩ := h
    refine ⟨_, pss_one (ps_if (pt_not (pt_val (pe_cal C1 hr (by decide) (pa_cons (pv 0) pa_nil)))) (pss_one (ps_err R rfl (takes_of rfl rfl rfl rfl))) pss_nil), ?_⟩
    refine ⟨_, rfl, v, d, rfl, ht, hb, fun H1 s1 => ⟨_, rfl, ?_⟩⟩
    cases z : dBook d with
    | true => exact iteF (yes z _ s1)
    | false => exact iteT (no z _ s1)
theorem sx_need_files : FnScope ["thing"] ["thing"] (defScope s_p_need_files) := ⟨rfl, rfl, rfl, by decide +kernel, rfl, by decide +kernel, by decide +kernel⟩
theorem calx_need_files {C : Addr} (D : Def1 K mg "need_files" s_p_need_files) (R : Err K mg "NoFiles" C) (C1 : Cal P w K mg base 2 "are_files" (spOneS K dFiles)) : CalX P w K mg base 7 "need_files" (spNeedOne K dFiles C) := by
  refine mkCalX D sx_need_files (fun _ _ _ _ _ _ us hl => match us, hl with | [_], _ => rfl) (fun vs H Q E h => ?_) (fun f cdv A outer s H vs Q E hr h => ?_)
  · obtain ⟨v, d, rfl, _⟩ := h
    rfl
  · obtain ⟨v, d, rfl, ht, hb, yes, no⟩ := h
    refine ⟨_, pss_one (ps_if (pt_not (pt_val (pe_cal C1 hr (by decide) (pa_cons (pv 0) pa_nil)))) (pss_one (ps_err R rfl (takes_of rfl rfl rfl rfl))) pss_nil), ?_⟩
    refine ⟨_, rfl, v, d, rfl, ht, hb, fun H1 s1 => ⟨_, rfl, ?_⟩⟩
    cases z : dFiles d with
    | true => exact iteF (yes z _ s1)
    | false => exact iteT (no z _ s1)
theorem sx_need_name : FnScope ["thing"] ["thing"] (defScope s_p_need_name) := ⟨rfl, rfl, rfl, by decide +kernel, rfl, by decide +kernel, by decide +kernel⟩
theorem calx_need_name {C : Addr} (D : Def1 K mg "need_name" s_p_need_name) (R : Err K mg "NoName" C) (C1 : Cal P w K mg base 1 "is_name" (spIsName K)) : CalX P w K mg base 7 "need_name" (spNeedOne K dName C) := by
  refine mkCalX D sx_need_name (fun _ _ _ _ _ _ us hl => match us, hl with | [_], _ => rfl) (fun vs H Q E h => ?_) (fun f cdv A outer s H vs Q E hr h => ?_)
  · obtain ⟨v, d, rfl, _⟩ := h
    rfl
  · obtain ⟨v, d, rfl, ht, hb, yes, no⟩ := h
    refine ⟨_, pss_one (ps_if (pt_not (pt_val (pe_cal C1 hr (by decide) (pa_cons (pv 0) pa_nil)))) (pss_one (ps_err R rfl (takes_of rfl rfl rfl rfl))) pss_nil), ?_⟩
    refine ⟨_, rfl, v, d, rfl, ht, hb, _, rfl, ?_⟩
    cases z : dName d with
    | true => exact iteF (yes z _ (Same.refl _))
    | false => exact iteT (no z _ (Same.refl _))
structure Nd (P : Program) (w : World) (K : PySem.W.Frag) (mg : Str → Option Value) (base : Heap) (e : E5) : Prop where
  b : CalX P w K mg base 7 "need_book" (spNeedOne K dBook e.b)
  f : CalX P w K mg base 7 "need_files" (spNeedOne K dFiles e.f)
  n : CalX P w K mg base 7 "need_name" (spNeedOne K dName e.n)
theorem tf {b : Bool} (h : b = true) : ¬ b = false := by rw [h]; decide
end
section
variable {P : Program} {w : World} {K : PySem.W.Frag} {mg : Str → Option Value} {base : Heap} {e : E5}
/-- book, files and name asked at once, all roads -/
def spThX (K : PySem.W.Frag) (e : E5) : Sp := fun vs H Q E => ∃ v1 v2 v3 d1 d2 d3, vs = [v1, v2, v3] ∧ Th K H v1 d1 ∧ Th K H v2 d2 ∧ Th K H v3 d3 ∧ d1.bulk ≤ 1000000 ∧ d2.bulk ≤ 1000000 ∧ d3.bulk ≤ 1000000 ∧
  (errT d1 d2 d3 = none → ∀ H', Same H H' → Q .non H') ∧ ∀ z, errT d1 d2 d3 = some z → ∀ H', Same H H' → E (.ref (e.at z)) none H'
theorem sx_things32 : FnScope ["book", "files", "name"] ["book", "files", "name"] (defScope s_p_need_things) := ⟨rfl, rfl, rfl, by decide +kernel, rfl, by decide +kernel, by decide +kernel⟩
theorem calx_things32 (D : Def1 K mg "need_things" s_p_need_things) (C : Nd P w K mg base e) : CalX P w K mg base 8 "need_things" (spThX K e) := by
  refine mkCalX D sx_things32 (fun _ _ _ _ _ _ us hl => match us, hl with | [_, _, _], _ => rfl) (fun vs H Q E h => ?_) (fun f cdv A outer s H vs Q E hr h => ?_)
  · obtain ⟨v1, v2, v3, d1, d2, d3, rfl, _⟩ := h
    rfl
  · obtain ⟨v1, v2, v3, d1, d2, d3, rfl, h1, h2, h3, b1, b2, b3, kn, ks⟩ := h
    refine ⟨_, pss_cons (ps_expr (pe_calX C.b hr (by decide) (takes_of rfl rfl rfl rfl) (pa_cons (pv 0) pa_nil))) (pss_cons (ps_expr (pe_calX C.f hr (by decide) (takes_of rfl rfl rfl rfl) (pa_cons (pv 1) pa_nil))) (pss_one (ps_expr (pe_calX C.n hr (by decide) (takes_of rfl rfl rfl rfl) (pa_cons (pv 2) pa_nil))))), ?_⟩
    refine ⟨_, rfl, v1, d1, rfl, h1, b1, fun y H1 s1 => ?_, fun y H1 s1 => ?_⟩
    · refine ⟨_, rfl, v2, d2, rfl, th_same s1 h2, b2, fun y2 H2 s2 => ?_, fun y2 H2 s2 => ?_⟩
      · refine ⟨_, rfl, v3, d3, rfl, th_same (s1.trans s2) h3, b3, fun y3 H3 s3 => ?_, fun y3 H3 s3 => ?_⟩
        · exact kn (by unfold errT; rw [if_neg (tf y), if_neg (tf y2), if_neg (tf y3)]) _ ((s1.trans s2).trans s3)
        · exact ks 2 (by unfold errT; rw [if_neg (tf y), if_neg (tf y2), if_pos y3]) _ ((s1.trans s2).trans s3)
      · exact ks 1 (by unfold errT; rw [if_neg (tf y), if_pos y2]) _ (s1.trans s2)
    · exact ks 0 (by unfold errT; rw [if_pos y]) _ s1
end
end Lk
/-! K36XX -/
set_option Elab.async false
set_option linter.all false
set_option maxRecDepth 100000
set_option maxHeartbeats 4000000
namespace Lk
open PySem PySem.Spec PyProof.Rows L2
/-- what goes round while a block is sought -/
structure BAt (P : Program) (w : World) (K : PySem.W.Frag) (C : Addr) (H H' : Hp) (o q d1 kd R Wl : Addr) (rs : List Rl) (F : List Str) (z : Str) (Ok : Place → Prop) (kvs : List (NK × V)) (Wt : List (Addr × NK)) : Prop where
  same : Same H H'
  s : SAt P w K C H' o q d1 kd rs F Ok
  n : NAt P w H' R kvs
  nd : (kvs.map (·.1)).Nodup
  w : H' Wl = some (.lst (Wt.map fun c => V.ref c.1))
  ks : ∀ c ∈ Wt, KeyAt H' c.1 c.2 ∧ Gone rs F Ok c.2
  gs : ∀ p ∈ kvs.map (·.1), Gone rs F Ok p
  st : (z, []) ∈ kvs.map (·.1) ∨ (z, []) ∈ Wt.map (·.2)
  cl : ∀ p ∈ kvs.map (·.1), ∀ r ∈ behind rs F p, r ∈ kvs.map (·.1) ∨ r ∈ Wt.map (·.2)
  f1 : H kd = none
  f2 : H R = none
  f3 : H Wl = none
  n1 : R ≠ kd
  n2 : Wl ≠ kd
  n3 : R ≠ Wl
  n4 : R ≠ d1
theorem NAt.noins {P : Program} {w : World} {H : Hp} {d : Addr} {kvs : List (NK × V)} (g : NAt P w H d kvs) {c dx : Addr} {fs : List (Str × V)} : H d ≠ some (.ins c dx fs) := by
  obtain ⟨_, ⟨_, e⟩ | ⟨xs, e, _⟩⟩ := g
  · rw [e]
    exact fun z => nomatch z
  · rw [e]
    exact fun z => nomatch z
theorem NAt.tupsR {P : Program} {w : World} {H H' : Hp} {d : Addr} {kvs : List (NK × V)} (g : NAt P w H d kvs) (t : Tups H H') (e : H' d = H d) : NAt P w H' d kvs := g.same (fun o h => by rw [e]; exact h) t.1
section
variable {P : Program} {w : World} {K : PySem.W.Frag} {mg : Str → Option Value} {base : Heap} {C : Addr} {e : E5}
theorem sc_p_block : FnScope ["book", "files", "name", "search", "rows", "waiting", "row"] ["book", "files", "name"] (defScope s_p_block) := ⟨rfl, rfl, rfl, by decide +kernel, rfl, by decide +kernel, by decide +kernel⟩
theorem keys_snd {H : Hp} : ∀ {kvs : List (NK × V)} {bs : List Addr}, IsKeysN H kvs bs → ∃ L : List (Addr × NK), L.map (·.1) = bs ∧ L.map (·.2) = kvs.map (·.1) ∧ ∀ c ∈ L, KeyAt H c.1 c.2 := by
  intro kvs bs h
  unfold IsKeysN at h
  induction h with
  | nil => exact ⟨[], rfl, rfl, fun _ m => nomatch m⟩
  | @cons p b kvs bs hb _ ih =>
    obtain ⟨L, e1, e2, e3⟩ := ih
    refine ⟨(b, p.1) :: L, by rw [List.map_cons, e1], by rw [List.map_cons, List.map_cons, e2], fun c mc => ?_⟩
    rcases List.mem_cons.mp mc with e | mc
    · rw [e]
      exact hb
    · exact e3 c mc
theorem keyAt_same {H H' : Hp} {b : Addr} {p : NK} (h : KeyAt H b p) (s : Same H H') : KeyAt H' b p := h.keeps fun c xs e => s _ _ e
theorem nxc_set {te : TE} {g : TG} {r : TS} {D : Ends} {rt : VK} {bk ct : L2.St → Hp → Prop} {σ : L2.St} {H : Hp} (h : te σ H fun x H1 => g x σ H1 (r D)) : tNext { nx := tSeq (tAsg te g) r D, rt := rt, bk := bk, ct := ct } σ H := h
theorem nxc_ifS {x : V} {i : Nat} {t : TT} {ts r : TS} {D : Ends} {σ : L2.St} {H : Hp} (h : tSeq (tIfS t ts tNext) r D (σ.set i (some x)) H) : gName i x σ H (tSeq (tIfS t ts tNext) r D) := h
theorem nxc_while {x : V} {i : Nat} {t : TT} {tb r : TS} {D : Ends} {σ : L2.St} {H : Hp} (h : tWhile t tb { D with nx := r D } (σ.set i (some x)) H) : gName i x σ H (tSeq (tWhile t tb) r D) := h
theorem nxc_if {x : V} {i : Nat} {t : TT} {ts : TS} {D : Ends} {σ : L2.St} {H : Hp} (h : tIfS t ts tNext D (σ.set i (some x)) H) : gName i x σ H (tIfS t ts tNext D) := h
set_option maxHeartbeats 0
def spBlockX (K : PySem.W.Frag) (e : E5) : Sp := fun vs H Q E => ∃ (v1 v2 v3 : V) (d1 d2 d3 : PyData), vs = [v1, v2, v3] ∧ Th K H v1 d1 ∧ Th K H v2 d2 ∧ Th K H v3 d3 ∧ d1.bulk ≤ 1000000 ∧ d2.bulk ≤ 1000000 ∧ d3.bulk ≤ 1000000 ∧
  ((∃ z, errT d1 d2 d3 = some z ∧ ∀ H', Same H H' → E (.ref (e.at z)) none H') ∨ (errT d1 d2 d3 = none ∧ spBlock K vs H Q E))
theorem calx_block (D : Def1 K mg "block" s_p_block) (gl : mg "list" = none) (Z : Kls K mg "Search" C) (cl : SCls K C) (CH : CalX P w K mg base 8 "need_things" (spThX K e)) (CI : MCal P w K mg base C 1 "__init__" (spInit P w K C)) (CT : MCal P w K mg base C 23 "told" (spTold P w K C 7)) (CB : Cal P w K mg base 25 "rows_behind" (spBehind P w K C)) :
    CalX P w K mg base 26 "block" (spBlockX K e) := by
  refine mkCalX D sc_p_block (fun _ _ _ _ _ _ us hl => match us, hl with | [_, _, _], _ => rfl) (fun vs H Q E h => ?_) (fun f' cdv A outer s H vs Q E hr h => ?_)
  · obtain ⟨v1, v2, v3, d1, d2, d3, rfl, _⟩ := h
    rfl
  · obtain ⟨v1, v2, v3, d1, d2, d3, e0, h1, h2, h3, b1, b2, b3, ⟨z, ez, ke⟩ | ⟨en, q, f, rs, F, z, Ok, e1, As, k⟩⟩ := h
    · subst e0
      refine ⟨_, (pss_cons (ps_expr (pe_calX CH hr (by omega) (takes_of rfl rfl rfl rfl) (pa_cons (pv 0) (pa_cons (pv 1) (pa_cons (pv 2) pa_nil)))))
    (pss_cons (ps_set (i := 3) sc_p_block.nd rfl (.inl rfl) (pe_new CI Z hr (by decide) (pa_cons (pv 0) (pa_cons (pv 1) pa_nil))))
    (pss_cons (ps_if (pt_cmpR op_notN (pe_mcal CT cl.cl hr (by omega) (pv 3) (pa_cons (pv 2) (pa_cons (pe_tup pa_nil) pa_nil))) pe_non (nomark _)) (pss_one (ps_ret pe_non)) pss_nil)
    (pss_cons (ps_set (i := 4) sc_p_block.nd rfl (.inl rfl) pe_dnewK)
    (pss_cons (ps_set (i := 5) sc_p_block.nd rfl (.inl rfl) (pe_lst (pa_cons (pe_tup (pa_cons (pv 2) (pa_cons (pe_tup pa_nil) pa_nil))) pa_nil)))
    (pss_cons (ps_while (passes_of rfl) (pt_truth (pv 5) (by intro _; rfl))
    (pss_cons (ps_set (i := 6) sc_p_block.nd rfl (.inl rfl) (pe_bm0 PySem.F.plainAttrs_list PySem.F.slot_list_pop PySem.F.type_list_pop mt_pop (pv 5)))
    (pss_one (ps_if (pt_cmp (pc_nnotin (u9 hr) (pv 6) (pv 4))) (pss_cons (ps_nput (u9 hr) (pv 4) (pv 6) pe_bl (by rfl))
    (pss_one (ps_expr (pe_bm PySem.F.plainAttrs_list PySem.F.slot_list_extend PySem.F.type_list_extend mt_extend (pv 5) (pa_cons (pe_cal CB hr (by omega) (pa_cons (pv 3) (pa_cons (pv 6) pa_nil))) pa_nil))))) pss_nil))))
    (pss_one (ps_ret (pe_callTy (call_list_N rfl) (by rfl) gl (by decide +kernel) (pa_cons (pv 4) pa_nil)))))))))), ?_⟩
      refine sq_drop ?_
      exact ⟨_, rfl, _, rfl, _, rfl, v1, v2, v3, d1, d2, d3, rfl, h1, h2, h3, b1, b2, b3, fun y => absurd y (by rw [ez]; exact fun z => nomatch z), fun z' ez' H1 s1 => by
        rw [ez] at ez'
        cases ez'
        exact ke H1 s1⟩
    rw [e1] at e0
    cases e0
    subst e1
    refine ⟨_, (pss_cons (ps_expr (pe_calX CH hr (by omega) (takes_of rfl rfl rfl rfl) (pa_cons (pv 0) (pa_cons (pv 1) (pa_cons (pv 2) pa_nil)))))
    (pss_cons (ps_set (i := 3) sc_p_block.nd rfl (.inl rfl) (pe_new CI Z hr (by decide) (pa_cons (pv 0) (pa_cons (pv 1) pa_nil))))
    (pss_cons (ps_if (pt_cmpR op_notN (pe_mcal CT cl.cl hr (by omega) (pv 3) (pa_cons (pv 2) (pa_cons (pe_tup pa_nil) pa_nil))) pe_non (nomark _)) (pss_one (ps_ret pe_non)) pss_nil)
    (pss_cons (ps_set (i := 4) sc_p_block.nd rfl (.inl rfl) pe_dnewK)
    (pss_cons (ps_set (i := 5) sc_p_block.nd rfl (.inl rfl) (pe_lst (pa_cons (pe_tup (pa_cons (pv 2) (pa_cons (pe_tup pa_nil) pa_nil))) pa_nil)))
    (pss_cons (ps_while (passes_of rfl) (pt_truth (pv 5) (by intro _; rfl))
    (pss_cons (ps_set (i := 6) sc_p_block.nd rfl (.inl rfl) (pe_bm0 PySem.F.plainAttrs_list PySem.F.slot_list_pop PySem.F.type_list_pop mt_pop (pv 5)))
    (pss_one (ps_if (pt_cmp (pc_nnotin (u9 hr) (pv 6) (pv 4))) (pss_cons (ps_nput (u9 hr) (pv 4) (pv 6) pe_bl (by rfl))
    (pss_one (ps_expr (pe_bm PySem.F.plainAttrs_list PySem.F.slot_list_extend PySem.F.type_list_extend mt_extend (pv 5) (pa_cons (pe_cal CB hr (by omega) (pa_cons (pv 3) (pa_cons (pv 6) pa_nil))) pa_nil))))) pss_nil))))
    (pss_one (ps_ret (pe_callTy (call_list_N rfl) (by rfl) gl (by decide +kernel) (pa_cons (pv 4) pa_nil)))))))))), ?_⟩
    obtain ⟨xs, hq, hx⟩ := As.bk
    have lz := (As.ok.tx _ As.st).2
    refine ⟨_, rfl, _, rfl, _, rfl, .ref q, .ref f, .str z, d1, d2, d3, rfl, h1, h2, h3, b1, b2, b3, fun _ H1 s1 => ?_, fun z' ez' => absurd ez' (by rw [en]; exact fun z => nomatch z)⟩
    refine ⟨_, rfl, _, rfl, fun o dx no nd ne => ?_⟩
    have s2 : Same H1 (upd (upd H1 dx (.own o)) o (.ins C dx [])) := fun b u e => by
      rw [upd_ne (ne_of_none e no), upd_ne (ne_of_none e nd)]
      exact e
    have ho : upd (upd H1 dx (.own o)) o (.ins C dx []) o = some (.ins C dx []) := upd_same
    have s12 := s1.trans s2
    generalize upd (upd H1 dx (.own o)) o (.ins C dx []) = H2 at s2 ho s12
    refine ⟨o, dx, q, f, xs, rs, F, rfl, ho, Same.seqT s12 hq, thAll_same s12 hx, Same.seqT s12 As.fl, As.fok.nd, Nat.le_trans As.fok.few (by decide), fun d1 kd H3 n1 n2 b3 mk => ⟨rfl, ?_⟩⟩
    have S3 := mk Ok
    obtain ⟨dx3, hob3⟩ := S3.ob
    have s03 : Same H H3 := fun b u e => b3 _ _ (s12 _ _ e) (ne_of_none (s1 _ _ e) no)
    have kd0 : H kd = none := s12.free n2
    refine nx_open (nxc_ifS ?_)
    refine ⟨_, rfl, o, dx3, _, rfl, hob3, flds_no _ _ _ (by decide +kernel) (by decide +kernel) (by decide +kernel), _, rfl, (by show 0 ≤ sizeLine; decide), fun t nt => ?_⟩
    have s4 := same_upd (o := .tup []) nt
    have t4 : upd H3 t (.tup []) t = some (.tup (([] : List Nat).map fun n : Nat => V.int (n : Int))) := upd_same
    have S4 := S3.same s4
    have many := (book_len As.ok.bk).1
    have s04 := s03.trans s4
    generalize upd H3 t (.tup []) = H4 at s4 t4 S4 s04
    refine ⟨o, q, d1, kd, t, rs, F, z, [], Ok, rfl, S4, As.ok, t4, As.st, by show rs.length + 1 ≤ 0 + 7; omega, fun v H5 b5 S5 rw5 => ?_⟩
    have s05 : Same H H5 := fun b u e => b5 _ _ (s04 _ _ e) (ne_of_none e kd0)
    have en := rw_non As.ok As.st rw5
    refine ⟨rfl, _, rfl, ?_⟩
    cases hw : way rs F z [] with
    | some d =>
      rw [hw] at en
      refine iteT' (by rw [en]; rfl) (k .non H5 s05 (fun _ => rfl) fun e => ?_)
      rw [hw] at e
      cases e
    | none =>
      rw [hw] at en
      refine iteF' (by rw [en]; rfl) ?_
      -- rows
      refine nxc_set ?_
      refine fun R nR => ?_
      have s6 := same_upd (o := .dK []) nR
      have hR6 : upd H5 R (.dK []) R = some (.dK []) := upd_same
      have S6 := S5.same s6
      have nRkd : R ≠ kd := fun e => by
        obtain ⟨u, hu⟩ := S5.nkd.2.2.2.2
        rw [e, hu] at nR
        cases nR
      have nRd1 : R ≠ d1 := fun e => by
        rw [e, S5.th] at nR
        cases nR
      have R0 := s05.free nR
      generalize upd H5 R (.dK []) = H6 at s6 hR6 S6
      have s06 := s05.trans s6
      -- waiting
      refine nxb_set ?_
      refine ⟨_, rfl, (by show 0 ≤ sizeLine; decide), fun t7 nt7 => ?_⟩
      have s7 := same_upd (o := .tup []) nt7
      have ht7 : upd H6 t7 (.tup []) t7 = some (.tup (([] : List Nat).map fun n : Nat => V.int (n : Int))) := upd_same
      generalize upd H6 t7 (.tup []) = H7 at s7 ht7
      refine ⟨(by show 2 ≤ sizeLine; decide), fun b8 nb8 => ?_⟩
      have s8 := same_upd (o := .tup [.str z, .ref t7]) nb8
      have hb8 : upd H7 b8 (.tup [.str z, .ref t7]) b8 = some (.tup [.str z, .ref t7]) := upd_same
      have ht8 := s8 _ _ ht7
      generalize upd H7 b8 (.tup [.str z, .ref t7]) = H8 at s8 hb8 ht8
      refine ⟨(by show 1 ≤ sizeLine; decide), fun Wl nWl => ?_⟩
      have s9 := same_upd (o := .lst [.ref b8]) nWl
      have hW9 : upd H8 Wl (.lst [.ref b8]) Wl = some (.lst [.ref b8]) := upd_same
      have s68 := s7.trans s8
      have S8 := S6.same s68
      have nWkd : Wl ≠ kd := fun e => by
        obtain ⟨u, hu⟩ := S8.nkd.2.2.2.2
        rw [e, hu] at nWl
        cases nWl
      have nRW : R ≠ Wl := ne_of_none (s68 _ _ hR6) nWl
      have W0 := (s06.trans s68).free nWl
      generalize upd H8 Wl (.lst [.ref b8]) = H9 at s9 hW9
      have s69 := s68.trans s9
      have g0 : Gone rs F Ok (z, []) := ⟨As.st, hw⟩
      have A0 : BAt P w K C H H9 o q d1 kd R Wl rs F z Ok [] [(b8, (z, []))] := ⟨s06.trans s69, S6.same s69, NAt.new (s69 _ _ hR6), List.nodup_nil, hW9, fun c mc => by
          rw [List.mem_singleton.mp mc]
          exact ⟨⟨t7, s9 _ _ hb8, s9 _ _ ht8⟩, g0⟩, (fun _ m => nomatch m), .inr (List.mem_singleton.mpr rfl), (fun _ m => nomatch m), kd0, R0, W0, nRkd, nWkd, nRW, nRd1⟩
      -- while waiting
      refine nxc_while ?_
      refine ⟨fun g σ H' => ∃ (kvs : List (NK × V)) (Wt : List (Addr × NK)) (v6 : Option V), σ = [some (.ref q), some (.ref f), some (.str z), some (.ref o), some (.ref R), some (.ref Wl), v6] ∧ BAt P w K C H H' o q d1 kd R Wl rs F z Ok kvs Wt ∧ Wt.length ≤ 1 + 6 * kvs.length ∧ g = 8 * (100001 - kvs.length) + Wt.length, ⟨_, [], _, _, rfl, A0, Nat.le_refl _, rfl⟩, ?_⟩
      rintro g σ H10 ⟨kvs, Wt, v6, rfl, A10, lW, rfl⟩
      refine ⟨_, rfl, _, .inl ⟨_, SqL.of A10.w, rfl⟩, ?_⟩
      have few := ok_few As.ok A10.nd fun p v m => (A10.gs p (List.mem_map.mpr ⟨(p, v), m, rfl⟩)).ok
      rcases List.eq_nil_or_concat Wt with rfl | ⟨Wt0, c0, eW⟩
      · refine iteF' rfl ?_
        refine ⟨_, rfl, R, kvs, rfl, A10.n, fun l bs nl keys => ?_⟩
        obtain ⟨L, e1, e2, e3⟩ := keys_snd keys
        have s11 := same_upd (o := .lst (bs.map V.ref)) nl
        refine k _ _ (A10.same.trans s11) (fun ⟨d, e⟩ => by rw [hw] at e; cases e) fun _ => ⟨l, L, rfl, A10.same.free nl, ?_, fun c mc => keyAt_same (e3 c mc) s11, ?_⟩
        · rw [upd_same, ← e1, List.map_map]
          rfl
        · rw [e2]
          refine ⟨A10.nd, A10.st.resolve_right (fun m => nomatch m), A10.gs, fun p mp r mr => (A10.cl p mp r mr).resolve_right (fun m => nomatch m)⟩
      rw [List.concat_eq_append] at eW
      subst eW
      rw [List.length_append] at lW
      have l1 : ([c0] : List (Addr × NK)).length = 1 := rfl
      refine iteT' (by simp) ⟨fun σ' H' => ∃ g' < 8 * (100001 - kvs.length) + (Wt0 ++ [c0]).length, ∃ (kvs : List (NK × V)) (Wt : List (Addr × NK)) (v6 : Option V), σ' = [some (.ref q), some (.ref f), some (.str z), some (.ref o), some (.ref R), some (.ref Wl), v6] ∧ BAt P w K C H H' o q d1 kd R Wl rs F z Ok kvs Wt ∧ Wt.length ≤ 1 + 6 * kvs.length ∧ g' = 8 * (100001 - kvs.length) + Wt.length, fun σ' H' h => h, ?_⟩
      -- pop
      refine ⟨_, rfl, .inl ⟨rfl, _, SqL.of A10.w⟩, Wl, _, .ref c0.1, rfl, rfl, A10.w, by simp, ?_⟩
      have el : ((Wt0 ++ [c0]).map fun c => V.ref c.1).dropLast = Wt0.map fun c => V.ref c.1 := by simp
      rw [el]
      have t11 := upd_tups (u := .lst (Wt0.map fun c => V.ref c.1)) A10.w
      have S11 := A10.s.mut (u := .lst (Wt0.map fun c => V.ref c.1)) A10.w
      have N11 : NAt P w (upd H10 Wl (.lst (Wt0.map fun c => V.ref c.1))) R kvs := A10.n.tupsR t11 (upd_ne A10.n3)
      obtain ⟨kc0, gc0⟩ := A10.ks c0 (List.mem_append_right _ (List.mem_singleton.mpr rfl))
      have kc11 := kc0.tups t11
      have k11 : ∀ c ∈ Wt0, KeyAt (upd H10 Wl (.lst (Wt0.map fun c => V.ref c.1))) c.1 c.2 ∧ Gone rs F Ok c.2 := fun c mc => ⟨(A10.ks c (List.mem_append_left _ mc)).1.tups t11, (A10.ks c (List.mem_append_left _ mc)).2⟩
      have w11 : upd H10 Wl (.lst (Wt0.map fun c => V.ref c.1)) Wl = some (.lst (Wt0.map fun c => V.ref c.1)) := upd_same
      have s11 : Same H (upd H10 Wl (.lst (Wt0.map fun c => V.ref c.1))) := same_mut A10.same A10.f3
      generalize upd H10 Wl (.lst (Wt0.map fun c => V.ref c.1)) = H11 at t11 S11 N11 kc11 k11 w11 s11
      refine nx_open (nxc_if ?_)
      refine ⟨_, rfl, _, rfl, R, c0.1, c0.2, kvs, rfl, rfl, N11, kc11, _, rfl, ?_⟩
      have inW : ∀ r : NK, r ∈ (Wt0 ++ [c0]).map (·.2) → r ∈ Wt0.map (·.2) ∨ r = c0.2 := fun r m => by
        rw [List.map_append] at m
        rcases List.mem_append.mp m with m | m
        · exact .inl m
        · exact .inr (List.mem_singleton.mp m)
      cases hv : valV kvs c0.2 with
      | some v0 =>
        have inK : c0.2 ∈ kvs.map (·.1) := List.mem_map.mpr ⟨(c0.2, v0), valV_mem hv, rfl⟩
        refine iteF' rfl ⟨_, ?_, kvs, Wt0, _, rfl, ⟨s11, S11, N11, A10.nd, w11, k11, A10.gs, ?_, fun p mp r mr => ?_, A10.f1, A10.f2, A10.f3, A10.n1, A10.n2, A10.n3, A10.n4⟩, by omega, rfl⟩
        · rw [List.length_append]
          omega
        · rcases A10.st with h | h
          · exact .inl h
          · rcases inW _ h with h | h
            · exact .inr h
            · rw [h]
              exact .inl inK
        · rcases A10.cl p mp r mr with h | h
          · exact .inl h
          · rcases inW _ h with h | h
            · exact .inr h
            · rw [h]
              exact .inl inK
      | none =>
        have notK : c0.2 ∉ kvs.map (·.1) := fun m => by
          obtain ⟨e, me, e2⟩ := List.mem_map.mp m
          have z : (valV kvs c0.2).isSome = true := by
            rw [← valV_any, List.any_eq_true]
            exact ⟨e, me, decide_eq_true e2⟩
          rw [hv] at z
          cases z
        refine iteT' rfl ?_
        refine ⟨_, rfl, _, rfl, R, c0.1, c0.2, kvs, rfl, rfl, N11, kc11, by rw [sizeLine_eq]; omega, fun u g12 => ?_⟩
        have b12 : But R H11 (upd H11 R u) := (But.refl R H11).upd
        have t12 : Tups H11 (upd H11 R u) := b12.tups (fun ys => N11.notup) (fun ob u' => N11.nofrz)
        have kdR : kd ≠ R := fun e => A10.n1 e.symm
        have S12 : SAt P w K C (upd H11 R u) o q d1 kd rs F Ok := by
          obtain ⟨dx6, ob6⟩ := S11.ob
          obtain ⟨xs6, h1, h2⟩ := S11.bk
          obtain ⟨kv6, g6, nd6, each6⟩ := S11.kn
          refine ⟨⟨dx6, b12 _ _ ob6 fun e => N11.noins (e ▸ ob6)⟩, ⟨xs6, t12.seqT h1, thAll_tups t12 h2 book_onlyT⟩, b12 _ _ S11.th fun e => A10.n4 e.symm, S11.ne, kv6, g6.same (fun u' e => by rw [upd_ne kdR]; exact e) t12.1, nd6, fun p v m => ⟨(each6 p v m).1, (each6 p v m).2.tups t12⟩⟩
        have kc12 := kc11.tups t12
        have k12 : ∀ c ∈ Wt0, KeyAt (upd H11 R u) c.1 c.2 ∧ Gone rs F Ok c.2 := fun c mc => ⟨(k11 c mc).1.tups t12, (k11 c mc).2⟩
        have w12 : upd H11 R u Wl = some (.lst (Wt0.map fun c => V.ref c.1)) := by rw [upd_ne (fun e => A10.n3 e.symm)]; exact w11
        have s12' : Same H (upd H11 R u) := same_mut s11 A10.f2
        generalize upd H11 R u = H12 at g12 b12 t12 S12 kc12 k12 w12 s12'
        -- waiting.extend(..)
        refine ⟨_, rfl, .inl ⟨rfl, _, SqL.of w12⟩, _, rfl, _, rfl, o, q, d1, kd, c0.1, rs, F, c0.2, Ok, rfl, S12, As.ok, kc12, gc0, fun l L H13 nl lkd b13 S13 hl keys eL => ?_⟩
        have t13 := S12.tups b13
        have w13 := b13 _ _ w12 A10.n2
        have g13 : NAt P w H13 R (putK kvs c0.2 (V.bl true)) := g12.same (fun u' e => b13 _ _ e A10.n1) t13.1
        have lL : L.length ≤ 6 := by
          have y := congrArg List.length eL
          rw [List.length_map] at y
          have y2 := behind_len (rs := rs) (F := F) (p := c0.2)
          omega
        have eapp : (Wt0.map fun c => V.ref c.1) ++ (L.map fun c => V.ref c.1) = (Wt0 ++ L).map fun c => V.ref c.1 := (List.map_append ..).symm
        have s13 : Same H H13 := fun b u e => b13 _ _ (s12' _ _ e) (ne_of_none e A10.f1)
        refine ⟨Wl, l, _, _, rfl, rfl, w13, hl, by rw [List.length_map, List.length_map, sizeLine_eq]; omega, ?_⟩
        rw [eapp]
        have t14 := upd_tups (u := .lst ((Wt0 ++ L).map fun c => V.ref c.1)) w13
        have kk : ∀ p : NK, p ∈ (putK kvs c0.2 (V.bl true)).map (·.1) ↔ p ∈ kvs.map (·.1) ∨ p = c0.2 := fun p => by
          rw [putK_new _ hv, List.map_append, List.mem_append]
          exact or_congr_right List.mem_singleton
        have lk : (putK kvs c0.2 (V.bl true)).length = kvs.length + 1 := by rw [putK_new _ hv, List.length_append]; rfl
        have inB : ∀ r, r ∈ behind rs F c0.2 → r ∈ (Wt0 ++ L).map (·.2) := fun r mr => by
          rw [List.map_append, eL]
          exact List.mem_append_right _ mr
        have inW0 : ∀ r, r ∈ Wt0.map (·.2) → r ∈ (Wt0 ++ L).map (·.2) := fun r mr => by
          rw [List.map_append]
          exact List.mem_append_left _ mr
        refine ⟨_, ?_, putK kvs c0.2 (V.bl true), Wt0 ++ L, _, rfl, ⟨same_mut s13 A10.f3, S13.mut w13, g13.tupsR t14 (upd_ne A10.n3), putK_keys A10.nd, upd_same, fun c mc => ?_, fun p mp => ?_, ?_, fun p mp r mr => ?_, A10.f1, A10.f2, A10.f3, A10.n1, A10.n2, A10.n3, A10.n4⟩, ?_, rfl⟩
        · rw [lk, List.length_append, List.length_append]
          omega
        · rcases List.mem_append.mp mc with mc | mc
          · exact ⟨((k12 c mc).1.tups t13).tups t14, (k12 c mc).2⟩
          · refine ⟨(keys c mc).tups t14, gone_behind As.ok gc0 ?_⟩
            rw [← eL]
            exact List.mem_map.mpr ⟨c, mc, rfl⟩
        · rcases (kk p).mp mp with mp | rfl
          · exact A10.gs p mp
          · exact gc0
        · rcases A10.st with h | h
          · exact .inl ((kk _).mpr (.inl h))
          · rcases inW _ h with h | h
            · exact .inr (inW0 _ h)
            · exact .inl ((kk _).mpr (.inr h))
        · rcases (kk p).mp mp with mp | rfl
          · rcases A10.cl p mp r mr with h | h
            · exact .inl ((kk r).mpr (.inl h))
            · rcases inW _ h with h | h
              · exact .inr (inW0 _ h)
              · exact .inl ((kk r).mpr (.inr h))
          · exact .inr (inB r mr)
        · rw [lk, List.length_append]
          omega
end
end Lk
/-! K36XY -/
set_option Elab.async false
set_option linter.all false
set_option maxRecDepth 100000
set_option maxHeartbeats 4000000
namespace Lk
open PySem PySem.Spec PyProof.Rows L2
theorem pt_never {X : Cx} {e : Expr} : PT X e (fun _ _ _ => False) := ⟨fun _ _ _ _ _ _ h => h.elim⟩
section
variable {P : Program} {w : World} {K : PySem.W.Frag} {mg : Str → Option Value} {base : Heap} {e : E5}
/-! ### shows_block of None -/
def spShowsX (K : PySem.W.Frag) (e : E5) : Sp := fun vs H Q E => ∃ (v1 v2 v3 : V) (d1 d2 d3 : PyData), vs = [v1, v2, v3, .non] ∧ Th K H v1 d1 ∧ Th K H v2 d2 ∧ Th K H v3 d3 ∧ d1.bulk ≤ 1000000 ∧ d2.bulk ≤ 1000000 ∧ d3.bulk ≤ 1000000 ∧
  (∀ z, errT d1 d2 d3 = some z → ∀ H', Same H H' → E (.ref (e.at z)) none H') ∧ (errT d1 d2 d3 = none → ∀ H', Same H H' → Q (.bl false) H')
theorem sx_shows_block : FnScope ["book", "files", "name", "thing", "rows", "there", "row", "file"] ["book", "files", "name", "thing"] (defScope s_p_shows_block) := ⟨rfl, rfl, rfl, by decide +kernel, rfl, by decide +kernel, by decide +kernel⟩
theorem calx_shows_block (D : Def1 K mg "shows_block" s_p_shows_block) (T : Glc mg) (tl : mg "list" = none) (CH : CalX P w K mg base 8 "need_things" (spThX K e)) : CalX P w K mg base 9 "shows_block" (spShowsX K e) := by
  refine mkCalX D sx_shows_block (fun _ _ _ _ _ _ us hl => match us, hl with | [_, _, _, _], _ => rfl) (fun vs H Q E h => by obtain ⟨_, _, _, _, _, _, rfl, _⟩ := h; rfl) (fun g cdv A outer s H vs Q E hr h => ?_)
  obtain ⟨v1, v2, v3, d1, d2, d3, rfl, h1, h2, h3, b1, b2, b3, ke, k⟩ := h
  refine ⟨_, (pss_cons (ps_expr (pe_calX CH hr (by omega) (takes_of rfl rfl rfl rfl) (pa_cons (pv 0) (pa_cons (pv 1) (pa_cons (pv 2) pa_nil)))))
    (pss_cons (ps_if (PW.pt (pw_or (pt_not (pt_val (pe_isi (T := "list") (pv 3) T.isinst tl (by decide +kernel)))) (pw_or1 pt_never))) (pss_one (ps_ret pe_bl)) pss_nil)
    (pss_cons ps_never (pss_cons ps_never (pss_cons ps_never (pss_one ps_never)))))), ?_⟩
  refine sq_drop ?_
  refine ⟨_, rfl, _, rfl, _, rfl, v1, v2, v3, d1, d2, d3, rfl, h1, h2, h3, b1, b2, b3, fun en H1 s1 => ?_, ke⟩
  refine sq_if (go_if ?_)
  refine ⟨_, rfl, .non, _, _, _, _, rfl, .ty _, th_ty (K := K) (H := H1) .non, kit_lst _, _, rfl, ?_⟩
  exact iteT' rfl (iteT' rfl (go_ret (k en H1 s1)))
end
end Lk
/-! K36TA -/
set_option Elab.async false
set_option linter.all false
set_option maxRecDepth 100000
set_option maxHeartbeats 4000000
namespace Lk
open PySem PySem.Spec PyProof.Rows L2
section
variable {P : Program} {w : World} {K : PySem.W.Frag} {mg : Str → Option Value} {base : Heap}
/-! ### open ways, as the program makes them -/
def begB (a b : Str) : Bool := Txt.startswith a b || Txt.startswith b a
def endB (a b : Str) : Bool := Txt.endswith a b || Txt.endswith b a
def ahd (a b : Str) : Str := cutS a none (some ((a.length - b.length : Nat) : Int))
def drp (a b : Str) : Str := cutS a (some (b.length : Int)) none
def wdn (ml mr : Str) : Src → Src
  | .pat b e => .pat (b ++ ml) (mr ++ e)
  | .nm x => .nm x
def SrcB (n : Nat) : Src → Prop
  | .pat b e => b.length ≤ n ∧ e.length ≤ n
  | .nm x => x.length ≤ n
structure OW where
  l : Str
  r : Str
  vs : List Src
def OW.d (w : OW) : PyData := .tuple [.str w.l, .str w.r, .tuple (w.vs.map Src.d)]
def spBB (f : Str → Str → Bool) : Sp := fun vs H Q _ => ∃ a b : Str, vs = [.str a, .str b] ∧ Q (.bl (f a b)) H
theorem sc_p_one_begins : FnScope ["one", "other"] ["one", "other"] (defScope s_p_one_begins) := ⟨rfl, rfl, rfl, by decide +kernel, rfl, by decide +kernel, by decide +kernel⟩
theorem sc_p_one_ends : FnScope ["one", "other"] ["one", "other"] (defScope s_p_one_ends) := ⟨rfl, rfl, rfl, by decide +kernel, rfl, by decide +kernel, by decide +kernel⟩
theorem cal_p_one_begins (D : Def1 K mg "one_begins" s_p_one_begins) : Cal P w K mg base 1 "one_begins" (spBB begB) := by
  refine mkCal D sc_p_one_begins (fun _ _ _ _ _ _ us hl => match us, hl with | [_, _], _ => rfl) (fun vs H Q E h => ?_) (fun f cdv A outer s H vs Q E hr h => ?_)
  · obtain ⟨a, b, rfl, _⟩ := h
    rfl
  · obtain ⟨a, b, rfl, k⟩ := h
    refine ⟨_, (pss_one (ps_ret (pe_or (pe_m1 PySem.F.slot_str_startswith PySem.F.type_str_startswith mt_startswith (pv 0) (pv 1)) (pe_one (pe_m1 PySem.F.slot_str_startswith PySem.F.type_str_startswith mt_startswith (pv 1) (pv 0)))))), ?_⟩
    refine go_ret ?_
    refine ⟨_, rfl, ⟨a, rfl⟩, _, rfl, a, b, rfl, rfl, _, rfl, ?_⟩
    unfold begB at k
    by_cases z : Txt.startswith a b = true
    · rw [z, Bool.true_or] at k
      exact iteT' z k
    · rw [Bool.eq_false_iff.mpr z, Bool.false_or] at k
      exact iteF' (Bool.eq_false_iff.mpr z) ⟨_, rfl, ⟨b, rfl⟩, _, rfl, b, a, rfl, rfl, k⟩
theorem cal_p_one_ends (D : Def1 K mg "one_ends" s_p_one_ends) : Cal P w K mg base 1 "one_ends" (spBB endB) := by
  refine mkCal D sc_p_one_ends (fun _ _ _ _ _ _ us hl => match us, hl with | [_, _], _ => rfl) (fun vs H Q E h => ?_) (fun f cdv A outer s H vs Q E hr h => ?_)
  · obtain ⟨a, b, rfl, _⟩ := h
    rfl
  · obtain ⟨a, b, rfl, k⟩ := h
    refine ⟨_, (pss_one (ps_ret (pe_or (pe_m1 PySem.F.slot_str_endswith PySem.F.type_str_endswith mt_endswith (pv 0) (pv 1)) (pe_one (pe_m1 PySem.F.slot_str_endswith PySem.F.type_str_endswith mt_endswith (pv 1) (pv 0)))))), ?_⟩
    refine go_ret ?_
    refine ⟨_, rfl, ⟨a, rfl⟩, _, rfl, a, b, rfl, rfl, _, rfl, ?_⟩
    unfold endB at k
    by_cases z : Txt.endswith a b = true
    · rw [z, Bool.true_or] at k
      exact iteT' z k
    · rw [Bool.eq_false_iff.mpr z, Bool.false_or] at k
      exact iteF' (Bool.eq_false_iff.mpr z) ⟨_, rfl, ⟨b, rfl⟩, _, rfl, b, a, rfl, rfl, k⟩
def spAhead : Sp := fun vs H Q _ => ∃ a b : Str, vs = [.str a, .str b] ∧ a.length ≤ sizeLine ∧ b.length ≤ sizeLine ∧ Q (.str (ahd a b)) H
theorem sc_p_ahead : FnScope ["one", "other"] ["one", "other"] (defScope s_p_ahead) := ⟨rfl, rfl, rfl, by decide +kernel, rfl, by decide +kernel, by decide +kernel⟩
theorem cal_p_ahead (D : Def1 K mg "ahead" s_p_ahead) (G : Glb mg) (gmax : mg "max" = none) : Cal P w K mg base 1 "ahead" spAhead := by
  refine mkCal D sc_p_ahead (fun _ _ _ _ _ _ us hl => match us, hl with | [_, _], _ => rfl) (fun vs H Q E h => ?_) (fun f cdv A outer s H vs Q E hr h => ?_)
  · obtain ⟨a, b, rfl, _⟩ := h
    rfl
  · obtain ⟨a, b, rfl, la, lb, k⟩ := h
    refine ⟨_, (pss_one (ps_ret (pe_slice sl_str (pv 0) po_none (po_some (pe_callB (call_max2 rfl) (by rfl) gmax (by decide +kernel) (pa_cons pe_int (pa_cons (pe_op op_sub (pe_callB call_len_str (by rfl) G.len PySem.boot_len (pa_cons (pv 0) pa_nil)) (pe_callB call_len_str (by rfl) G.len PySem.boot_len (pa_cons (pv 1) pa_nil))) pa_nil))))))), ?_⟩
    refine go_ret ?_
    refine ⟨_, rfl, _, rfl, a, rfl, la, _, rfl, b, rfl, lb, _, _, rfl, rfl, _, _, rfl, _, rfl, a, rfl, la, ?_⟩
    have e : (if ((a.length : Int) - b.length) > 0 then ((a.length : Int) - b.length) else 0) = ((a.length - b.length : Nat) : Int) := by
      split <;> omega
    rw [e]
    exact k
def spWid (K : PySem.W.Frag) : Sp := fun vs H Q _ => ∃ (v : V) (t : Addr) (s : Src) (ml mr : Str), vs = [v, .ref t] ∧ Th K H v s.d ∧ SqT K H t [.str ml, .str mr] ∧ SrcB 100000 s ∧ ml.length ≤ 100000 ∧ mr.length ≤ 100000 ∧ ∀ u H', Same H H' → Th K H' u (wdn ml mr s).d → Q u H'
theorem sc_p_widened : FnScope ["source", "more", "begin", "end", "left", "right"] ["source", "more"] (defScope s_p_widened) := ⟨rfl, rfl, rfl, by decide +kernel, rfl, by decide +kernel, by decide +kernel⟩
theorem cal_p_widened (D : Def1 K mg "widened" s_p_widened) (T : Glc mg) : Cal P w K mg base 1 "widened" (spWid K) := by
  refine mkCal D sc_p_widened (fun _ _ _ _ _ _ us hl => match us, hl with | [_, _], _ => rfl) (fun vs H Q E h => ?_) (fun f cdv A outer s H vs Q E hr h => ?_)
  · obtain ⟨v, t, s, ml, mr, rfl, _⟩ := h
    rfl
  · obtain ⟨v, t, s, ml, mr, rfl, th, ht, hs, l1, l2, k⟩ := h
    refine ⟨_, (pss_cons (ps_if (pt_val (pe_isi (T := "str") (pv 0) T.isinst T.str (by decide +kernel))) (pss_one (ps_ret (pv 0))) pss_nil)
    (pss_cons (ps_asg (pv 0) (pg_tup rfl (pgs_cons (pg_name (i := 2) sc_p_widened.nd rfl (.inl rfl)) (pgs_cons (pg_name (i := 3) sc_p_widened.nd rfl (.inl rfl)) pgs_nil))))
    (pss_cons (ps_asg (pv 1) (pg_tup rfl (pgs_cons (pg_name (i := 4) sc_p_widened.nd rfl (.inl rfl)) (pgs_cons (pg_name (i := 5) sc_p_widened.nd rfl (.inl rfl)) pgs_nil))))
    (pss_one (ps_ret (pe_tup (pa_cons (pe_op op_add_str (pv 2) (pv 4)) (pa_cons (pe_op op_add_str (pv 5) (pv 3)) pa_nil)))))))), ?_⟩
    refine sq_if (go_if ?_)
    refine ⟨_, rfl, v, _, _, _, _, rfl, .ty _, th_ty th, kit_str _, _, rfl, ?_⟩
    cases s with
    | nm x => exact iteT' rfl (go_ret ⟨_, rfl, k _ _ (Same.refl _) th⟩)
    | pat b e =>
      refine iteF' rfl (nxt_go (sq_asg ?_))
      obtain ⟨q, rfl, hq⟩ := th_pair th
      have lb : b.length ≤ 100000 ∧ e.length ≤ 100000 := hs
      refine ⟨_, rfl, q, _, rfl, hq, rfl, _, _, rfl, _, _, rfl, rfl, sq_asg ?_⟩
      refine ⟨_, rfl, t, _, rfl, ht, rfl, _, _, rfl, _, _, rfl, rfl, go_ret ?_⟩
      refine ⟨_, rfl, _, rfl, b, ml, rfl, rfl, Nat.le_trans (Nat.add_le_add lb.1 l1) (by decide), _, rfl, _, rfl, mr, e, rfl, rfl, Nat.le_trans (Nat.add_le_add l2 lb.2) (by decide), (by show 2 ≤ sizeLine; decide), fun p np => ?_⟩
      exact k _ _ (same_upd np) (.tup (SqT.of upd_same) (.cons (.str _) (.cons (.str _) .nil)))
end
end Lk
/-! K36TB -/
set_option Elab.async false
set_option linter.all false
set_option maxRecDepth 100000
set_option maxHeartbeats 4000000
namespace Lk
open PySem PySem.Spec PyProof.Rows L2
section
variable {P : Program} {w : World} {K : PySem.W.Frag} {mg : Str → Option Value} {base : Heap}
/-! ### what meets, what goes together -/
noncomputable def meetS (r : Rl) : Src → Option (Str × Str × List Src)
  | .nm x => (stemO r.b r.e x).map fun m => ("", "", r.ss.map fun s => .nm (s.put m))
  | .pat b e => if (begB r.b b && endB r.e e) = true then some (drp r.b b, ahd r.e e, r.ss.map (wdn (drp b r.b) (ahd e r.e))) else none
theorem meetS_nm (r : Rl) (x : Str) : meetS r (.nm x) = (stemO r.b r.e x).map fun m : Str => (("" : Str), ("" : Str), r.ss.map fun s => Src.nm (s.put m)) := rfl
theorem meetS_pat (r : Rl) (b e : Str) : meetS r (.pat b e) = if (begB r.b b && endB r.e e) = true then some (drp r.b b, ahd r.e e, r.ss.map (wdn (drp b r.b) (ahd e r.e))) else none := rfl
def metD : Option (Str × Str × List Src) → PyData
  | none => .none
  | some m => .tuple [.str m.1, .str m.2.1, .list (m.2.2.map Src.d)]
def mxl (a b : Str) : Str := if b.length > a.length then b else a
def togS (x y : OW) : Option OW :=
  if (begB x.l y.l && endB x.r y.r) = true then some ⟨mxl x.l y.l, mxl x.r y.r, x.vs.map (wdn (drp y.l x.l) (ahd y.r x.r)) ++ y.vs.map (wdn (drp x.l y.l) (ahd x.r y.r))⟩ else none
def togD : Option OW → PyData
  | none => .none
  | some w => w.d
theorem drp_len (a b : Str) : (drp a b).length ≤ a.length := cutS_length _ _ _
theorem ahd_len (a b : Str) : (ahd a b).length ≤ a.length := cutS_length _ _ _
theorem src_nl (s : Src) : noLst s.d = true := (src_flat s).1
section
variable {σ : L2.St} {H0 : Hp}
theorem mk_lcA {α : Type} {l : Addr} {xs : List V} {j iv : Nat} {te : TE} {ss : List α} {d e : α → PyData} (hv : σ[j]? = some (some (.ref l))) (hs : SqT K H0 l xs) (hx : ThAll K H0 xs (ss.map d)) (wp : ∀ x : V, wipe ((wipe σ [iv]).set iv (some x)) [iv] = wipe σ [iv]) (small : ss.length ≤ 1000000) (no : ∀ s ∈ ss, noLst (e s) = true)
    (el : ∀ s ∈ ss, ∀ (x : V) (H : Hp), Same H0 H → Th K H x (d s) → Mk1 K te ((wipe σ [iv]).set iv (some x)) H (e s)) : MkL K (tLc (iTup K (tVar j)) (gName iv) tYes te [iv]) σ H0 (ss.map e) := by
  intro H s Q q
  have lx := thAll_len hx
  rw [List.length_map] at lx
  refine ⟨_, hv, l, rfl, ⟨_, Same.seqT s hs⟩, fun D nD => ?_⟩
  refine lc_tup (K := K) (a := l) (xs := xs) (fun i H' => Same H H' ∧ ∃ vs : List V, H' D = some (.lst vs) ∧ vs.length = i ∧ ThAll K H' vs ((ss.take i).map e)) ⟨same_upd nD, [], upd_same, rfl, .nil⟩ (fun i H' _ h => Same.seqT (s.trans h.1) hs) ?_ ?_
  · rintro i x H1 hxi ⟨s1, vs, hD, lv, th⟩
    obtain ⟨dd, hd, thx⟩ := th_at (thAll_same (s.trans s1) hx) hxi
    obtain ⟨r, hr, rfl⟩ := Option.map_eq_some_iff.mp ((List.getElem?_map ..).symm.trans hd)
    have mr := List.mem_of_getElem? hr
    have il := (List.getElem?_eq_some_iff.mp hr).1
    refine ⟨wp _, el r mr x H1 (s.trans s1) thx H1 (Same.refl H1) _ fun v H2 s2 thv => ?_⟩
    have hD2 := s2 _ _ hD
    refine ⟨_, hD2, by rw [lv, sizeLine_eq]; omega, same_mut (s1.trans s2) nD, vs ++ [v], upd_same, by rw [List.length_append, lv]; rfl, ?_⟩
    rw [List.take_add_one, hr, List.map_append]
    have nl : noLstAll ((ss.take i).map e) = true := by
      have go : ∀ l : List α, (∀ s ∈ l, s ∈ ss) → noLstAll (l.map e) = true := fun l => by
        induction l with
        | nil => exact fun _ => rfl
        | cons a l ih =>
          intro h
          show (noLst (e a) && noLstAll (l.map e)) = true
          rw [no a (h a List.mem_cons_self), ih fun x m => h x (List.mem_cons_of_mem _ m)]
          rfl
      exact go _ fun x m => List.mem_of_mem_take m
    exact thAll_app (thAll_mutL hD2 (thAll_same s2 th) nl) (.cons (th_mutL hD2 thv (no r mr)) .nil)
  · rintro H1 ⟨s1, vs, hD, lv, th⟩
    rw [lx, List.take_length] at th
    exact q D vs H1 s1 hD th
theorem mk_wid {i j : Nat} {v : V} {t : Addr} {s : Src} {ml mr : Str} (hi : σ[i]? = some (some v)) (hj : σ[j]? = some (some (.ref t))) (th : Th K H0 v s.d) (ht : SqT K H0 t [.str ml, .str mr]) (b : SrcB 100000 s) (l1 : ml.length ≤ 100000) (l2 : mr.length ≤ 100000) :
    Mk1 K (tCall (spWid K) [] E0 (tCons (tVar i) (tCons (tVar j) tNil))) σ H0 (wdn ml mr s).d := fun H s' Q q => ⟨_, hi, _, hj, v, t, s, ml, mr, rfl, th_same s' th, Same.seqT s' ht, b, l1, l2, q⟩
theorem mk_fil {i j : Nat} {v : V} {s : Src} {m : Str} (hi : σ[i]? = some (some v)) (hj : σ[j]? = some (some (.str m))) (th : Th K H0 v s.d) (b : SrcB 100000 s) (l1 : m.length ≤ 100000) :
    Mk1 K (tCall (spFill K) [] E0 (tCons (tVar i) (tCons (tVar j) tNil))) σ H0 (Src.nm (s.put m)).d := fun H s' Q q => by
  refine ⟨_, hi, _, hj, v, m, rfl, Nat.le_trans l1 (by decide), ?_⟩
  cases s with
  | nm x =>
    cases th
    exact .inl ⟨x, rfl, q _ _ (Same.refl H) (.str x)⟩
  | pat b' e =>
    obtain ⟨p, rfl, hp⟩ := th_pair th
    have lb : b'.length ≤ 100000 ∧ e.length ≤ 100000 := b
    exact .inr ⟨p, b', e, rfl, Same.seqT s' hp, Nat.le_trans lb.1 (by decide), Nat.le_trans lb.2 (by decide), q _ _ (Same.refl H) (.str _)⟩
theorem mk_cat2 {x y : Str} {te tf : TE} (h : Mk1 K te σ H0 (.str x)) (g : Mk1 K tf σ H0 (.str y)) (hl : x.length + y.length ≤ sizeLine) :
    Mk1 K (tOp (fun x y H Q => ∃ i j, x = .str i ∧ y = .str j ∧ i.length + j.length ≤ sizeLine ∧ Q (.str (i ++ j)) H) te tf) σ H0 (.str (x ++ y)) := fun H s Q q =>
  h H s _ fun v H1 s1 h1 => g H1 (s.trans s1) _ fun u H2 s2 h2 => by
    cases h1
    cases h2
    exact ⟨x, y, rfl, rfl, hl, q _ H2 (s1.trans s2) (.str _)⟩
theorem mk_drp {i j : Nat} {a b : Str} (hi : σ[i]? = some (some (.str a))) (hj : σ[j]? = some (some (.str b))) (la : a.length ≤ sizeLine) (lb : b.length ≤ sizeLine) :
    Mk1 K (tSl rSlS (tVar i) (tPart (tCB (fun xs H Q => ∃ z, xs = [V.str z] ∧ z.length ≤ sizeLine ∧ Q (V.int z.length) H) (tCons (tVar j) tNil))) tNoPart) σ H0 (.str (drp a b)) := fun H _ Q q => ⟨_, hi, _, hj, b, rfl, lb, _, rfl, a, rfl, la, q _ H (Same.refl H) (.str _)⟩
theorem no_both {H : Hp} {i1 i2 i3 i4 : Nat} {a b c d : Str} {Q2 : Bool → Hp → Prop} (h1 : σ[i1]? = some (some (.str a))) (h2 : σ[i2]? = some (some (.str b))) (h3 : σ[i3]? = some (some (.str c))) (h4 : σ[i4]? = some (some (.str d))) (q : Q2 (!(begB a b && endB c d)) H) :
    tNot (tAnd (tB (tCall (spBB begB) [] E0 (tCons (tVar i1) (tCons (tVar i2) tNil)))) (tB (tCall (spBB endB) [] E0 (tCons (tVar i3) (tCons (tVar i4) tNil))))) σ H Q2 := by
  refine ⟨_, h1, _, h2, a, b, rfl, _, rfl, ?_⟩
  cases z : begB a b with
  | false =>
    rw [z] at q
    exact iteF' rfl q
  | true =>
    rw [z] at q
    exact iteT' rfl ⟨_, h3, _, h4, c, d, rfl, _, rfl, q⟩
theorem mk_ahd {i j : Nat} {a b : Str} (hi : σ[i]? = some (some (.str a))) (hj : σ[j]? = some (some (.str b))) (la : a.length ≤ sizeLine) (lb : b.length ≤ sizeLine) :
    Mk1 K (tCall spAhead [] E0 (tCons (tVar i) (tCons (tVar j) tNil))) σ H0 (.str (ahd a b)) := fun H _ Q q => ⟨_, hi, _, hj, a, b, rfl, la, lb, q _ H (Same.refl H) (.str _)⟩
theorem mk_mxl {i j : Nat} {a b : Str} (hi : σ[i]? = some (some (.str a))) (hj : σ[j]? = some (some (.str b))) (la : a.length ≤ sizeLine) (lb : b.length ≤ sizeLine) : Mk1 K (tMaxLen (tVar i) (tVar j)) σ H0 (.str (mxl a b)) := fun H _ Q q => ⟨_, hi, _, hj, a, b, rfl, rfl, la, lb, q _ H (Same.refl H) (.str _)⟩
end
theorem srcb_len {s : Src} (h : SrcLen s) : SrcB 100000 s := by
  cases s with
  | pat b e =>
    have q : b.length ≤ 3 ∧ e.length ≤ 3 := h
    exact ⟨Nat.le_trans q.1 (by decide), Nat.le_trans q.2 (by decide)⟩
  | nm x =>
    have q : x.length ≤ 6 := h
    exact Nat.le_trans q (by decide)
def spMeet (K : PySem.W.Frag) : Sp := fun vs H Q _ => ∃ (v1 v2 : V) (r : Rl) (a : Src), vs = [v1, v2] ∧ Th K H v1 r.d ∧ Th K H v2 a.d ∧ RlLen r ∧ SrcB 50000 a ∧ ∀ u H', Same H H' → Th K H' u (metD (meetS r a)) → Q u H'
theorem sc_p_meeting : FnScope ["rule", "asked", "_", "pattern", "sources", "within", "target_begin", "target_end", "begin", "end", "left_over", "source"] ["rule", "asked"] (defScope s_p_meeting) := ⟨rfl, rfl, rfl, by decide +kernel, rfl, by decide +kernel, by decide +kernel⟩
theorem cal_p_meeting (D : Def1 K mg "meeting" s_p_meeting) (G : Glb mg) (T : Glc mg) (CB : Cal P w K mg base 1 "one_begins" (spBB begB)) (CE : Cal P w K mg base 1 "one_ends" (spBB endB)) (CH : Cal P w K mg base 1 "ahead" spAhead) (CW : Cal P w K mg base 1 "widened" (spWid K)) (CS : Cal P w K mg base 1 "stem_within" (spSW K)) (CF : Cal P w K mg base 1 "filled" (spFill K)) :
    Cal P w K mg base 2 "meeting" (spMeet K) := by
  refine mkCal D sc_p_meeting (fun _ _ _ _ _ _ us hl => match us, hl with | [_, _], _ => rfl) (fun vs H Q E h => ?_) (fun f cdv A outer s H vs Q E hr h => ?_)
  · obtain ⟨v1, v2, r, a, rfl, _⟩ := h
    rfl
  · obtain ⟨v1, v2, r, a, rfl, h1, h2, R, hb, k⟩ := h
    refine ⟨_, (pss_cons (ps_asg (pv 0) (pg_tup rfl (pgs_cons (pg_name (i := 2) sc_p_meeting.nd rfl (.inl rfl)) (pgs_cons (pg_name (i := 3) sc_p_meeting.nd rfl (.inl rfl)) (pgs_cons (pg_name (i := 4) sc_p_meeting.nd rfl (.inl rfl)) pgs_nil)))))
    (pss_cons (ps_if (pt_val (pe_isi (T := "str") (pv 1) T.isinst T.str (by decide +kernel))) (pss_cons (ps_set (i := 5) sc_p_meeting.nd rfl (.inr rfl) (pe_cal CS hr (by omega) (pa_cons (pv 3) (pa_cons (pv 1) pa_nil))))
    (pss_one (ps_ret (pe_ifExp (pt_cmpR op_isN (pv 5) pe_non (nomark _)) pe_non (pe_tup (pa_cons pe_str (pa_cons pe_str (pa_cons (pe_lc (own := [("source", 11)]) (g := gName 11) (tt := tYes) (by rfl) sc_p_meeting.nd (pi_tup (pv 4)) (blkOk_by (own := [("source", 11)]) (N := ["rule", "asked", "_", "pattern", "sources", "within", "target_begin", "target_end", "begin", "end", "left_over", "source"]) (sc := defScope s_p_meeting) (by decide +kernel)) (fun _ _ _ _ _ => pg_name (i := 11) sc_p_meeting.nd rfl (Or.inl rfl)) (fun _ _ _ _ _ => pts_nil) (fun _ _ _ _ _ => (pe_cal CF hr (by omega) (pa_cons (pv 11) (pa_cons (pv 5) pa_nil))))) pa_nil)))))))) pss_nil)
    (pss_cons (ps_asg (pe_tup (pa_cons (pv 3) (pa_cons (pv 1) pa_nil))) (pg_tup rfl (pgs_cons (pg_tup rfl (pgs_cons (pg_name (i := 6) sc_p_meeting.nd rfl (.inl rfl)) (pgs_cons (pg_name (i := 7) sc_p_meeting.nd rfl (.inl rfl)) pgs_nil))) (pgs_cons (pg_tup rfl (pgs_cons (pg_name (i := 8) sc_p_meeting.nd rfl (.inl rfl)) (pgs_cons (pg_name (i := 9) sc_p_meeting.nd rfl (.inl rfl)) pgs_nil))) pgs_nil))))
    (pss_cons (ps_if (pt_not (PW.pt (pw_and (pt_val (pe_cal CB hr (by omega) (pa_cons (pv 6) (pa_cons (pv 8) pa_nil)))) (pw_and1 (pt_val (pe_cal CE hr (by omega) (pa_cons (pv 7) (pa_cons (pv 9) pa_nil)))))))) (pss_one (ps_ret pe_non)) pss_nil)
    (pss_cons (ps_set (i := 10) sc_p_meeting.nd rfl (.inr rfl) (pe_tup (pa_cons (pe_slice sl_str (pv 8) (po_some (pe_callB call_len_str (by rfl) G.len PySem.boot_len (pa_cons (pv 6) pa_nil))) po_none) (pa_cons (pe_cal CH hr (by omega) (pa_cons (pv 9) (pa_cons (pv 7) pa_nil))) pa_nil))))
    (pss_one (ps_ret (pe_tup (pa_cons (pe_slice sl_str (pv 6) (po_some (pe_callB call_len_str (by rfl) G.len PySem.boot_len (pa_cons (pv 8) pa_nil))) po_none) (pa_cons (pe_cal CH hr (by omega) (pa_cons (pv 7) (pa_cons (pv 9) pa_nil))) (pa_cons (pe_lc (own := [("source", 11)]) (g := gName 11) (tt := tYes) (by rfl) sc_p_meeting.nd (pi_tup (pv 4)) (blkOk_by (own := [("source", 11)]) (N := ["rule", "asked", "_", "pattern", "sources", "within", "target_begin", "target_end", "begin", "end", "left_over", "source"]) (sc := defScope s_p_meeting) (by decide +kernel)) (fun _ _ _ _ _ => pg_name (i := 11) sc_p_meeting.nd rfl (Or.inl rfl)) (fun _ _ _ _ _ => pts_nil) (fun _ _ _ _ _ => (pe_cal CW hr (by omega) (pa_cons (pv 11) (pa_cons (pv 10) pa_nil))))) pa_nil))))))))))), ?_⟩
    obtain ⟨q, pt, sr, xs, rfl, hq, hp, hs, hx⟩ := th_rule h1
    refine sq_asg ?_
    refine ⟨_, rfl, q, _, rfl, hq, rfl, _, _, rfl, _, _, rfl, _, _, rfl, rfl, ?_⟩
    refine sq_if (go_if ?_)
    refine ⟨_, rfl, v2, _, _, _, _, rfl, .ty _, th_ty h2, kit_str _, _, rfl, ?_⟩
    have lb3 := R.lb
    have le3 := R.le
    have ls3 := R.ls
    cases a with
    | nm x =>
      cases h2
      have lx : x.length ≤ 50000 := hb
      refine iteT' rfl (sq_asg ?_)
      refine ⟨_, rfl, _, rfl, pt, r.b, r.e, x, rfl, hp, R.b, R.e, Nat.le_trans lb3 (by decide), Nat.le_trans le3 (by decide), Nat.le_trans lx (by decide), fun m hm => ?_, fun no => ?_⟩
      · have hst := stemO_some hm
        have lm := stemO_len hst
        refine on_go (go_ret ?_)
        refine ⟨_, rfl, rfl, _, rfl, iteF' rfl ?_⟩
        refine mk_tup (K := K) (ds := [.str "", .str "", .list (r.ss.map fun s => (Src.nm (s.put m)).d)]) (mk_cons mk_str (mk_cons mk_str (mk_cons (mk_lcA (d := Src.d) (e := fun s => (Src.nm (s.put m)).d) rfl hs hx (fun _ => rfl) (by omega) (fun s _ => src_nl _) fun s ms y H' s' th' => mk_fil rfl rfl th' (srcb_len (R.each s ms)) (by omega)).mk mk_nil))) (by show (3 : Nat) ≤ 1000; decide) H (Same.refl H) _ fun u H' s' thu => k u H' s' ?_
        have e : metD (meetS r (.nm x)) = .tuple [.str "", .str "", .list (r.ss.map fun s => (Src.nm (s.put m)).d)] := by
          rw [meetS_nm, hst]
          show PyData.tuple [.str "", .str "", .list ((r.ss.map fun s => Src.nm (s.put m)).map Src.d)] = _
          rw [List.map_map]
          rfl
        rw [e]
        exact thu
      · have hst := stemO_none no
        refine on_go (go_ret ?_)
        refine ⟨_, rfl, rfl, _, rfl, iteT' rfl ?_⟩
        refine k _ _ (Same.refl _) ?_
        have e : metD (meetS r (.nm x)) = .none := by
          rw [meetS_nm, hst]
          rfl
        rw [e]
        exact .non
    | pat b e =>
      obtain ⟨aq, rfl, haq⟩ := th_pair h2
      have lbe : b.length ≤ 50000 ∧ e.length ≤ 50000 := hb
      have big : ∀ n : Nat, n ≤ 100000 → n ≤ sizeLine := fun n h => Nat.le_trans h (by decide)
      refine iteF' rfl (nxt_go (sq_asg ?_))
      refine ⟨_, rfl, _, rfl, (by show 2 ≤ sizeLine; decide), fun t nt => ⟨t, _, rfl, SqT.of upd_same, rfl, _, _, rfl, ?_⟩⟩
      have s1 := same_upd (o := .tup [.ref pt, .ref aq]) nt
      generalize upd H t (.tup [.ref pt, .ref aq]) = H1 at s1 ⊢
      refine ⟨pt, _, rfl, Same.seqT s1 hp, rfl, _, _, rfl, _, _, rfl, rfl, _, _, rfl, ?_⟩
      refine ⟨aq, _, rfl, Same.seqT s1 haq, rfl, _, _, rfl, _, _, rfl, rfl, rfl, ?_⟩
      refine sq_if (go_if ?_)
      refine no_both (a := r.b) (b := b) (c := r.e) (d := e) rfl rfl rfl rfl ?_
      cases z : (begB r.b b && endB r.e e) with
      | false =>
        refine iteT' rfl (go_ret (k _ _ s1 ?_))
        have em : metD (meetS r (.pat b e)) = .none := by
          rw [meetS_pat, z]
          rfl
        rw [em]
        exact .non
      | true =>
        refine iteF' rfl (nxt_go (sq_asg ?_))
        have wl := drp_len b r.b
        have wr := ahd_len e r.e
        refine mk_tup (K := K) (ds := [.str (drp b r.b), .str (ahd e r.e)]) (mk_cons (mk_drp rfl rfl (big _ (by omega)) (big _ (by omega))) (mk_cons (mk_ahd rfl rfl (big _ (by omega)) (big _ (by omega))) mk_nil)) (by show (2 : Nat) ≤ 1000; decide) H1 (Same.refl H1) _ fun lo H2 s2 thl => ?_
        obtain ⟨lq, rfl, hlq⟩ := th_pair thl
        refine on_go (go_ret ?_)
        have hx2 := thAll_same (s1.trans s2) hx
        refine mk_tup (K := K) (ds := [.str (drp r.b b), .str (ahd r.e e), .list (r.ss.map fun s => (wdn (drp b r.b) (ahd e r.e) s).d)]) (mk_cons (mk_drp rfl rfl (big _ (by omega)) (big _ (by omega))) (mk_cons (mk_ahd rfl rfl (big _ (by omega)) (big _ (by omega)))
          (mk_cons (mk_lcA (d := Src.d) (e := fun s => (wdn (drp b r.b) (ahd e r.e) s).d) rfl (Same.seqT (s1.trans s2) hs) hx2 (fun _ => rfl) (by omega) (fun s _ => src_nl _) fun s ms y H' s' th' => mk_wid rfl rfl th' (Same.seqT s' hlq) (srcb_len (R.each s ms)) (by omega) (by omega)).mk mk_nil))) (by show (3 : Nat) ≤ 1000; decide) H2 (Same.refl H2) _ fun u H' s' thu => k u H' ((s1.trans s2).trans s') ?_
        have em : metD (meetS r (.pat b e)) = .tuple [.str (drp r.b b), .str (ahd r.e e), .list (r.ss.map fun s => (wdn (drp b r.b) (ahd e r.e) s).d)] := by
          rw [meetS_pat, z]
          show PyData.tuple [.str _, .str _, .list ((r.ss.map (wdn (drp b r.b) (ahd e r.e))).map Src.d)] = _
          rw [List.map_map]
          rfl
        rw [em]
        exact thu
def OWB (n : Nat) (w : OW) : Prop := w.l.length ≤ n ∧ w.r.length ≤ n ∧ ∀ s ∈ w.vs, SrcB n s
theorem SrcB.le {n m : Nat} {s : Src} (h : SrcB n s) (l : n ≤ m) : SrcB m s := by
  cases s with
  | pat b e => exact ⟨Nat.le_trans h.1 l, Nat.le_trans h.2 l⟩
  | nm x => exact Nat.le_trans (show x.length ≤ n from h) l
theorem th_ow {H : Hp} {v : V} {w : OW} (h : Th K H v w.d) : ∃ q t xs, v = .ref q ∧ SqT K H q [.str w.l, .str w.r, .ref t] ∧ SqT K H t xs ∧ ThAll K H xs (w.vs.map Src.d) := by
  cases h with
  | tup hs ha =>
    cases ha with
    | cons h1 t1 =>
      cases t1 with
      | cons h2 t2 =>
        cases t2 with
        | cons h3 t3 =>
          cases t3
          cases h1
          cases h2
          obtain ⟨t, xs, rfl, ht, hx⟩ := th_of_tup h3
          exact ⟨_, t, xs, rfl, hs, ht, hx⟩
def spTog (K : PySem.W.Frag) : Sp := fun vs H Q _ => ∃ (v1 v2 : V) (x y : OW), vs = [v1, v2] ∧ Th K H v1 x.d ∧ Th K H v2 y.d ∧ OWB 50000 x ∧ OWB 50000 y ∧ x.vs.length + y.vs.length ≤ 1000 ∧ ∀ u H', Same H H' → Th K H' u (togD (togS x y)) → Q u H'
theorem sc_p_together : FnScope ["one", "other", "left", "right", "leaves", "other_left", "other_right", "other_leaves", "more", "other_more", "sources", "leaf"] ["one", "other"] (defScope s_p_together) := ⟨rfl, rfl, rfl, by decide +kernel, rfl, by decide +kernel, by decide +kernel⟩
theorem cal_p_together (D : Def1 K mg "together" s_p_together) (G : Glb mg) (T : Glc mg) (gmax : mg "max" = none) (CB : Cal P w K mg base 1 "one_begins" (spBB begB)) (CE : Cal P w K mg base 1 "one_ends" (spBB endB)) (CH : Cal P w K mg base 1 "ahead" spAhead) (CW : Cal P w K mg base 1 "widened" (spWid K)) :
    Cal P w K mg base 2 "together" (spTog K) := by
  refine mkCal D sc_p_together (fun _ _ _ _ _ _ us hl => match us, hl with | [_, _], _ => rfl) (fun vs H Q E h => ?_) (fun f cdv A outer s H vs Q E hr h => ?_)
  · obtain ⟨v1, v2, x, y, rfl, _⟩ := h
    rfl
  · obtain ⟨v1, v2, x, y, rfl, h1, h2, bx, by', lxy, k⟩ := h
    refine ⟨_, (pss_cons (ps_asg (pv 0) (pg_tup rfl (pgs_cons (pg_name (i := 2) sc_p_together.nd rfl (.inl rfl)) (pgs_cons (pg_name (i := 3) sc_p_together.nd rfl (.inl rfl)) (pgs_cons (pg_name (i := 4) sc_p_together.nd rfl (.inl rfl)) pgs_nil)))))
    (pss_cons (ps_asg (pv 1) (pg_tup rfl (pgs_cons (pg_name (i := 5) sc_p_together.nd rfl (.inl rfl)) (pgs_cons (pg_name (i := 6) sc_p_together.nd rfl (.inl rfl)) (pgs_cons (pg_name (i := 7) sc_p_together.nd rfl (.inl rfl)) pgs_nil)))))
    (pss_cons (ps_if (pt_not (PW.pt (pw_and (pt_val (pe_cal CB hr (by omega) (pa_cons (pv 2) (pa_cons (pv 5) pa_nil)))) (pw_and1 (pt_val (pe_cal CE hr (by omega) (pa_cons (pv 3) (pa_cons (pv 6) pa_nil)))))))) (pss_one (ps_ret pe_non)) pss_nil)
    (pss_cons (ps_set (i := 8) sc_p_together.nd rfl (.inr rfl) (pe_tup (pa_cons (pe_slice sl_str (pv 5) (po_some (pe_callB call_len_str (by rfl) G.len PySem.boot_len (pa_cons (pv 2) pa_nil))) po_none) (pa_cons (pe_cal CH hr (by omega) (pa_cons (pv 6) (pa_cons (pv 3) pa_nil))) pa_nil))))
    (pss_cons (ps_set (i := 9) sc_p_together.nd rfl (.inr rfl) (pe_tup (pa_cons (pe_slice sl_str (pv 2) (po_some (pe_callB call_len_str (by rfl) G.len PySem.boot_len (pa_cons (pv 5) pa_nil))) po_none) (pa_cons (pe_cal CH hr (by omega) (pa_cons (pv 3) (pa_cons (pv 6) pa_nil))) pa_nil))))
    (pss_cons (ps_set (i := 10) sc_p_together.nd rfl (.inl rfl) (pe_op op_cat (pe_lc (own := [("leaf", 11)]) (g := gName 11) (tt := tYes) (by rfl) sc_p_together.nd (pi_tup (pv 4)) (blkOk_by (own := [("leaf", 11)]) (N := ["one", "other", "left", "right", "leaves", "other_left", "other_right", "other_leaves", "more", "other_more", "sources", "leaf"]) (sc := defScope s_p_together) (by decide +kernel)) (fun _ _ _ _ _ => pg_name (i := 11) sc_p_together.nd rfl (Or.inl rfl)) (fun _ _ _ _ _ => pts_nil) (fun _ _ _ _ _ => (pe_cal CW hr (by omega) (pa_cons (pv 11) (pa_cons (pv 8) pa_nil))))) (pe_lc (own := [("leaf", 11)]) (g := gName 11) (tt := tYes) (by rfl) sc_p_together.nd (pi_tup (pv 7)) (blkOk_by (own := [("leaf", 11)]) (N := ["one", "other", "left", "right", "leaves", "other_left", "other_right", "other_leaves", "more", "other_more", "sources", "leaf"]) (sc := defScope s_p_together) (by decide +kernel)) (fun _ _ _ _ _ => pg_name (i := 11) sc_p_together.nd rfl (Or.inl rfl)) (fun _ _ _ _ _ => pts_nil) (fun _ _ _ _ _ => (pe_cal CW hr (by omega) (pa_cons (pv 11) (pa_cons (pv 9) pa_nil)))))))
    (pss_one (ps_ret (pe_tup (pa_cons (pe_maxLen (pv 2) (pv 5) rfl gmax G.len) (pa_cons (pe_maxLen (pv 3) (pv 6) rfl gmax G.len) (pa_cons (pe_callTy call_tuple_of (by rfl) T.tuple (by decide +kernel) (pa_cons (pv 10) pa_nil)) pa_nil)))))))))))), ?_⟩
    obtain ⟨q1, t1, xs, rfl, hq1, ht1, hx⟩ := th_ow h1
    obtain ⟨q2, t2, ys, rfl, hq2, ht2, hy⟩ := th_ow h2
    have big : ∀ n : Nat, n ≤ 100000 → n ≤ sizeLine := fun n h => Nat.le_trans h (by decide)
    have b1 := bx.1
    have b2 := bx.2.1
    have b3 := by'.1
    have b4 := by'.2.1
    refine sq_asg ?_
    refine ⟨_, rfl, q1, _, rfl, hq1, rfl, _, _, rfl, _, _, rfl, _, _, rfl, rfl, sq_asg ?_⟩
    refine ⟨_, rfl, q2, _, rfl, hq2, rfl, _, _, rfl, _, _, rfl, _, _, rfl, rfl, ?_⟩
    refine sq_if (go_if ?_)
    refine no_both (a := x.l) (b := y.l) (c := x.r) (d := y.r) rfl rfl rfl rfl ?_
    cases z : (begB x.l y.l && endB x.r y.r) with
    | false =>
      refine iteT' rfl (go_ret (k _ _ (Same.refl _) ?_))
      have em : togD (togS x y) = .none := by
        unfold togS
        rw [z]
        rfl
      rw [em]
      exact .non
    | true =>
      refine iteF' rfl (nxt_go (sq_asg ?_))
      have d1 := drp_len y.l x.l
      have d2 := drp_len x.l y.l
      have a1 := ahd_len y.r x.r
      have a2 := ahd_len x.r y.r
      refine mk_tup (K := K) (ds := [.str (drp y.l x.l), .str (ahd y.r x.r)]) (mk_cons (mk_drp rfl rfl (big _ (by omega)) (big _ (by omega))) (mk_cons (mk_ahd rfl rfl (big _ (by omega)) (big _ (by omega))) mk_nil)) (by show (2 : Nat) ≤ 1000; decide) H (Same.refl H) _ fun m1 H1 s1 thm1 => ?_
      obtain ⟨mq1, rfl, hm1⟩ := th_pair thm1
      refine on_go (sq_asg ?_)
      refine mk_tup (K := K) (ds := [.str (drp x.l y.l), .str (ahd x.r y.r)]) (mk_cons (mk_drp rfl rfl (big _ (by omega)) (big _ (by omega))) (mk_cons (mk_ahd rfl rfl (big _ (by omega)) (big _ (by omega))) mk_nil)) (by show (2 : Nat) ≤ 1000; decide) H1 (Same.refl H1) _ fun m2 H2 s2 thm2 => ?_
      obtain ⟨mq2, rfl, hm2⟩ := th_pair thm2
      refine on_go (sq_asg ?_)
      have s12 := s1.trans s2
      refine mk_cat (K := K) (ds := x.vs.map fun s => (wdn (drp y.l x.l) (ahd y.r x.r) s).d) (es := y.vs.map fun s => (wdn (drp x.l y.l) (ahd x.r y.r) s).d)
        (mk_lcA (d := Src.d) (e := fun s => (wdn (drp y.l x.l) (ahd y.r x.r) s).d) rfl (Same.seqT s12 ht1) (thAll_same s12 hx) (fun _ => rfl) (by omega) (fun s _ => src_nl _) fun s ms v H' s' th' => mk_wid rfl rfl th' (Same.seqT (s2.trans s') hm1) ((bx.2.2 s ms).le (by decide)) (by omega) (by omega))
        (mk_lcA (d := Src.d) (e := fun s => (wdn (drp x.l y.l) (ahd x.r y.r) s).d) rfl (Same.seqT s12 ht2) (thAll_same s12 hy) (fun _ => rfl) (by omega) (fun s _ => src_nl _) fun s ms v H' s' th' => mk_wid rfl rfl th' (Same.seqT s' hm2) ((by'.2.2 s ms).le (by decide)) (by omega) (by omega))
        ?_ H2 (Same.refl H2) _ fun L xL H3 s3 hL thL => ?_
      · rw [List.length_map, List.length_map]
        exact lxy
      refine on_go (go_ret ?_)
      refine mk_tup (K := K) (ds := [.str (mxl x.l y.l), .str (mxl x.r y.r), .tuple ((x.vs.map fun s => (wdn (drp y.l x.l) (ahd y.r x.r) s).d) ++ y.vs.map fun s => (wdn (drp x.l y.l) (ahd x.r y.r) s).d)])
        (mk_cons (mk_mxl rfl rfl (big _ (by omega)) (big _ (by omega))) (mk_cons (mk_mxl rfl rfl (big _ (by omega)) (big _ (by omega))) (mk_cons (mk_tupL (mk_varL rfl hL thL)) mk_nil))) (by show (3 : Nat) ≤ 1000; decide) H3 (Same.refl H3) _ fun u H' s' thu => k u H' ((s12.trans s3).trans s') ?_
      have em : togD (togS x y) = .tuple [.str (mxl x.l y.l), .str (mxl x.r y.r), .tuple ((x.vs.map fun s => (wdn (drp y.l x.l) (ahd y.r x.r) s).d) ++ y.vs.map fun s => (wdn (drp x.l y.l) (ahd x.r y.r) s).d)] := by
        unfold togS
        rw [z]
        show PyData.tuple [.str _, .str _, .tuple ((x.vs.map (wdn (drp y.l x.l) (ahd y.r x.r)) ++ y.vs.map (wdn (drp x.l y.l) (ahd x.r y.r))).map Src.d)] = _
        rw [List.map_append, List.map_map, List.map_map]
        rfl
      rw [em]
      exact thu
end
end Lk
/-! K36TC -/
set_option Elab.async false
set_option linter.all false
set_option maxRecDepth 100000
set_option maxHeartbeats 4000000
namespace Lk
open PySem PySem.Spec PyProof.Rows L2
section
variable {P : Program} {w : World} {K : PySem.W.Frag} {mg : Str → Option Value} {base : Heap}
/-! ### open ways joined -/
def joinS (ws os : List OW) : List OW := ws.flatMap fun x => os.filterMap (togS x)
theorem sc_p_need_few : FnScope ["ways"] ["ways"] (defScope s_p_need_few) := ⟨rfl, rfl, rfl, by decide +kernel, rfl, by decide +kernel, by decide +kernel⟩
theorem ow_nl (w : OW) : noLst w.d = true := by
  have z := (srcs_flat w.vs).1
  have e : noLst (.tuple (w.vs.map Src.d)) = true := by
    rw [noLst]
    exact z
  unfold OW.d
  rw [noLst, noLstAll, noLstAll, noLstAll, e]
  rfl
theorem ows_nl (ws : List OW) : noLstAll (ws.map OW.d) = true := by
  induction ws with
  | nil => rfl
  | cons w ws ih =>
    show (noLst w.d && noLstAll (ws.map OW.d)) = true
    rw [ow_nl, ih]
    rfl
theorem join_snoc {ws os : List OW} {i : Nat} {x : OW} (h : ws[i]? = some x) : joinS (ws.take (i + 1)) os = joinS (ws.take i) os ++ os.filterMap (togS x) := by
  unfold joinS
  rw [List.take_add_one, h, List.flatMap_append]
  simp
theorem join_part (ws os : List OW) (i : Nat) : (joinS (ws.take i) os).length ≤ (joinS ws os).length := by
  conv => rhs; rw [← List.take_append_drop i ws]
  unfold joinS
  rw [List.flatMap_append, List.length_append]
  omega
theorem fm_part {α β : Type} (f : α → Option β) (l : List α) (j : Nat) : ((l.take j).filterMap f).length ≤ (l.filterMap f).length := by
  conv => rhs; rw [← List.take_append_drop j l]
  rw [List.filterMap_append, List.length_append]
  omega
theorem fm_snoc {α β : Type} {f : α → Option β} {l : List α} {j : Nat} {x : α} (h : l[j]? = some x) : (l.take (j + 1)).filterMap f = (l.take j).filterMap f ++ (f x).toList := by
  rw [List.take_add_one, h, List.filterMap_append]
  cases e : f x <;> simp [e]
theorem sc_p_joined : FnScope ["ways", "others", "found", "one", "other", "both"] ["ways", "others"] (defScope s_p_joined) := ⟨rfl, rfl, rfl, by decide +kernel, rfl, by decide +kernel, by decide +kernel⟩
end
end Lk
/-! K36TD -/
set_option Elab.async false
set_option linter.all false
set_option maxRecDepth 100000
set_option maxHeartbeats 4000000
namespace Lk
open PySem PySem.Spec PyProof.Rows L2
section
variable {P : Program} {w : World} {K : PySem.W.Frag} {mg : Str → Option Value} {base : Heap}
/-! ### all open ways -/
def chS (f : Src → List OW) (ss : List Src) : List OW := ss.foldl (fun acc a => joinS acc (f a)) [⟨"", "", []⟩]
noncomputable def owR (f : Src → List Nat → List OW) (a : Src) (sp : List Nat) (c : Rl × Nat) : List OW :=
  if c.2 ∈ sp then [] else match meetS c.1 a with
    | none => []
    | some m => (chS (fun s => f s (sp ++ [c.2])) m.2.2).map fun w => ⟨m.1 ++ w.l, w.r ++ m.2.1, w.vs⟩
noncomputable def owM (rs : List Rl) : Nat → Src → List Nat → List OW
  | 0, a, _ => [⟨"", "", [a]⟩]
  | n + 1, a, sp => ⟨"", "", [a]⟩ :: rs.zipIdx.flatMap (owR (owM rs n) a sp)
/-- what is made by the first rules -/
noncomputable def owG (rs : List Rl) (n : Nat) (a : Src) (sp : List Nat) (i : Nat) : List OW :=
  ⟨"", "", [a]⟩ :: match n with
    | 0 => []
    | n + 1 => (rs.zipIdx.take i).flatMap (owR (owM rs n) a sp)
/-- nowhere more than three hundred -/
def FewW (rs : List Rl) : Nat → Src → List Nat → Prop
  | 0, _, _ => True
  | n + 1, a, sp => (owM rs (n + 1) a sp).length ≤ 300 ∧ ∀ k r m, rs[k]? = some r → k ∉ sp → meetS r a = some m → (∀ s ∈ m.2.2, FewW rs n s (sp ++ [k])) ∧ ∀ j, j ≤ m.2.2.length → (chS (fun s => owM rs n s (sp ++ [k])) (m.2.2.take j)).length ≤ 300
theorem owG_s (rs : List Rl) (n : Nat) (a : Src) (sp : List Nat) (i : Nat) : owG rs (n + 1) a sp i = ⟨"", "", [a]⟩ :: (rs.zipIdx.take i).flatMap (owR (owM rs n) a sp) := rfl
theorem owM_s (rs : List Rl) (n : Nat) (a : Src) (sp : List Nat) : owM rs (n + 1) a sp = ⟨"", "", [a]⟩ :: rs.zipIdx.flatMap (owR (owM rs n) a sp) := rfl
theorem owG_end (rs : List Rl) (n : Nat) (a : Src) (sp : List Nat) : owG rs n a sp rs.length = owM rs n a sp := by
  cases n with
  | zero => rfl
  | succ n =>
    rw [owG_s, owM_s, List.take_of_length_le (by rw [List.length_zipIdx]; exact Nat.le_refl _)]
theorem owG_zero (rs : List Rl) (n : Nat) (a : Src) (sp : List Nat) : owG rs n a sp 0 = [⟨"", "", [a]⟩] := by
  cases n <;> rfl
theorem owG_part (rs : List Rl) (n : Nat) (a : Src) (sp : List Nat) (i : Nat) : (owG rs n a sp i).length ≤ (owM rs n a sp).length := by
  cases n with
  | zero => exact Nat.le_refl _
  | succ n =>
    rw [owG_s, owM_s, List.length_cons, List.length_cons]
    conv => rhs; rw [← List.take_append_drop i rs.zipIdx]
    rw [List.flatMap_append, List.length_append]
    omega
theorem owG_succ {rs : List Rl} {n : Nat} {a : Src} {sp : List Nat} {i : Nat} {r : Rl} (h : rs[i]? = some r) : owG rs (n + 1) a sp (i + 1) = owG rs (n + 1) a sp i ++ owR (owM rs n) a sp (r, i) := by
  have hz : (rs.zipIdx)[i]? = some (r, i) := by rw [List.getElem?_zipIdx, h]; simp
  rw [owG_s, owG_s, List.cons_append, List.take_add_one, hz, List.flatMap_append]
  simp
theorem owG_skip {rs : List Rl} {n : Nat} {a : Src} {sp : List Nat} {i : Nat} {r : Rl} (h : rs[i]? = some r) (no : i ∈ sp ∨ meetS r a = none) : owG rs n a sp (i + 1) = owG rs n a sp i := by
  cases n with
  | zero => rfl
  | succ n =>
    rw [owG_succ h]
    have e : owR (owM rs n) a sp (r, i) = [] := by
      unfold owR
      by_cases m : i ∈ sp
      · exact if_pos m
      · rw [if_neg m, show meetS (r, i).1 a = none from no.resolve_left m]
    rw [e, List.append_nil]
theorem owG_row {rs : List Rl} {n : Nat} {a : Src} {sp : List Nat} {i : Nat} {r : Rl} {m : Str × Str × List Src} (h : rs[i]? = some r) (ni : i ∉ sp) (hm : meetS r a = some m) :
    owG rs (n + 1) a sp (i + 1) = owG rs (n + 1) a sp i ++ (chS (fun s => owM rs n s (sp ++ [i])) m.2.2).map fun w => ⟨m.1 ++ w.l, w.r ++ m.2.1, w.vs⟩ := by
  rw [owG_succ h]
  congr 1
  unfold owR
  rw [if_neg ni, show meetS (r, i).1 a = some m from hm]
/-! sizes -/
structure OWN (n c B : Nat) (w : OW) : Prop where
  l : w.l.length ≤ 3 * n
  r : w.r.length ≤ 3 * n
  each : ∀ s ∈ w.vs, SrcB B s
  len : w.vs.length ≤ c
theorem wid_b {n k : Nat} {s : Src} {ml mr : Str} (h : SrcB n s) (l : ml.length ≤ k) (r : mr.length ≤ k) : SrcB (n + k) (wdn ml mr s) := by
  cases s with
  | pat b e =>
    have q : b.length ≤ n ∧ e.length ≤ n := h
    show (b ++ ml).length ≤ n + k ∧ (mr ++ e).length ≤ n + k
    rw [len_add, len_add]
    omega
  | nm x => exact Nat.le_trans (show x.length ≤ n from h) (Nat.le_add_right _ _)
theorem mxl_len {a b : Str} {n : Nat} (ha : a.length ≤ n) (hb : b.length ≤ n) : (mxl a b).length ≤ n := by
  unfold mxl
  split
  · exact hb
  · exact ha
theorem tog_own {n c1 c2 B1 B2 : Nat} {x y z : OW} (hx : OWN n c1 B1 x) (hy : OWN n c2 B2 y) (h : togS x y = some z) : OWN n (c1 + c2) (max B1 B2 + 3 * n) z := by
  unfold togS at h
  split at h
  · cases h
    refine ⟨mxl_len hx.l hy.l, mxl_len hx.r hy.r, fun s ms => ?_, ?_⟩
    · rcases List.mem_append.mp ms with ms | ms
      · obtain ⟨t, mt, rfl⟩ := List.mem_map.mp ms
        exact (wid_b (hx.each t mt) (Nat.le_trans (drp_len _ _) hy.l) (Nat.le_trans (ahd_len _ _) hy.r)).le (by omega)
      · obtain ⟨t, mt, rfl⟩ := List.mem_map.mp ms
        exact (wid_b (hy.each t mt) (Nat.le_trans (drp_len _ _) hx.l) (Nat.le_trans (ahd_len _ _) hx.r)).le (by omega)
    · show (List.map _ _ ++ List.map _ _).length ≤ _
      rw [List.length_append, List.length_map, List.length_map]
      have := hx.len
      have := hy.len
      omega
  · cases h
theorem join_own {n c1 c2 B1 B2 : Nat} {ws os : List OW} (hx : ∀ x ∈ ws, OWN n c1 B1 x) (hy : ∀ y ∈ os, OWN n c2 B2 y) : ∀ z ∈ joinS ws os, OWN n (c1 + c2) (max B1 B2 + 3 * n) z := by
  intro z mz
  obtain ⟨x, mx, mz⟩ := List.mem_flatMap.mp mz
  obtain ⟨y, my, e⟩ := List.mem_filterMap.mp mz
  exact tog_own (hx x mx) (hy y my) e
theorem OWN.le {n c c' B B' : Nat} {w : OW} (h : OWN n c B w) (hc : c ≤ c') (hB : B ≤ B') : OWN n c' B' w := ⟨h.l, h.r, fun s m => (h.each s m).le hB, Nat.le_trans h.len hc⟩
theorem ch_snoc (f : Src → List OW) {ss : List Src} {j : Nat} {s : Src} (h : ss[j]? = some s) : chS f (ss.take (j + 1)) = joinS (chS f (ss.take j)) (f s) := by
  unfold chS
  rw [List.take_add_one, h, List.foldl_append]
  rfl
theorem ch_own {n c B : Nat} {f : Src → List OW} {ss : List Src} (hf : ∀ s ∈ ss, ∀ w ∈ f s, OWN n c B w) : ∀ j, j ≤ ss.length → ∀ w ∈ chS f (ss.take j), OWN n (j * c) (B + 3 * n * j) w
  | 0, _, w, m => by
    rw [List.take_zero] at m
    rw [List.mem_singleton.mp m]
    exact ⟨Nat.zero_le _, Nat.zero_le _, (fun _ m => nomatch m), Nat.zero_le _⟩
  | j + 1, hj, w, m => by
    obtain ⟨s, hs⟩ : ∃ s, ss[j]? = some s := ⟨ss[j], List.getElem?_eq_getElem (by omega)⟩
    rw [ch_snoc f hs] at m
    refine (join_own (ch_own hf j (by omega)) (hf s (List.mem_of_getElem? hs)) w m).le (by rw [Nat.add_mul, Nat.one_mul]; exact Nat.le_refl _) ?_
    have e : 3 * n * (j + 1) = 3 * n * j + 3 * n := Nat.mul_succ _ _
    rw [e]
    omega
theorem meet_b {r : Rl} (R : RlLen r) {a : Src} {B : Nat} (h : SrcB B a) {m : Str × Str × List Src} (e : meetS r a = some m) : m.1.length ≤ 3 ∧ m.2.1.length ≤ 3 ∧ (∀ s ∈ m.2.2, SrcB (B + 6) s) ∧ m.2.2.length ≤ 3 := by
  cases a with
  | nm x =>
    rw [meetS_nm] at e
    obtain ⟨t, ht, rfl⟩ := Option.map_eq_some_iff.mp e
    have lt := stemO_len ht
    have lx : x.length ≤ B := h
    refine ⟨by show (0 : Nat) ≤ 3; decide, by show (0 : Nat) ≤ 3; decide, fun s ms => ?_, by show (List.map _ _).length ≤ 3; rw [List.length_map]; exact R.ls⟩
    obtain ⟨u, mu, rfl⟩ := List.mem_map.mp ms
    have y := put_len (R.each u mu) (m := t)
    show (u.put t).length ≤ B + 6
    omega
  | pat b e' =>
    rw [meetS_pat] at e
    split at e
    · cases e
      have lb : b.length ≤ B ∧ e'.length ≤ B := h
      refine ⟨Nat.le_trans (drp_len _ _) R.lb, Nat.le_trans (ahd_len _ _) R.le, fun s ms => ?_, by show (List.map _ _).length ≤ 3; rw [List.length_map]; exact R.ls⟩
      obtain ⟨u, mu, rfl⟩ := List.mem_map.mp ms
      have bu : SrcB 6 u := by
        have q := R.each u mu
        cases u with
        | pat c d =>
          have q : c.length ≤ 3 ∧ d.length ≤ 3 := q
          exact ⟨by omega, by omega⟩
        | nm y => exact q
      exact (wid_b bu (Nat.le_trans (drp_len _ _) lb.1) (Nat.le_trans (ahd_len _ _) lb.2)).le (by omega)
    · cases e
theorem ow_own {rs : List Rl} (R : ∀ r ∈ rs, RlLen r) : ∀ (n : Nat) (a : Src) (sp : List Nat) (B : Nat), n ≤ 6 → SrcB B a → ∀ w ∈ owM rs n a sp, OWN n (3 ^ n) (B + 100 * n) w
  | 0, a, sp, B, _, h, w, m => by
    rw [List.mem_singleton.mp (show w ∈ [(⟨"", "", [a]⟩ : OW)] from m)]
    exact ⟨Nat.zero_le _, Nat.zero_le _, fun s ms => by rw [List.mem_singleton.mp ms]; exact h, Nat.le_refl _⟩
  | n + 1, a, sp, B, hn, h, w, m => by
    rcases List.mem_cons.mp (show w ∈ (⟨"", "", [a]⟩ : OW) :: rs.zipIdx.flatMap (owR (owM rs n) a sp) from m) with rfl | m
    · exact ⟨Nat.zero_le _, Nat.zero_le _, fun s ms => by rw [List.mem_singleton.mp ms]; exact h.le (by omega), Nat.one_le_pow _ _ (by decide)⟩
    · obtain ⟨c, mc, mw⟩ := List.mem_flatMap.mp m
      have mr : c.1 ∈ rs := by
        have z := List.mem_zipIdx_iff_getElem?.mp (show (c.1, c.2) ∈ rs.zipIdx from mc)
        exact List.mem_of_getElem? z
      unfold owR at mw
      split at mw
      · cases mw
      · split at mw
        · cases mw
        · rename_i mm hm
          obtain ⟨b1, b2, b3, b4⟩ := meet_b (R _ mr) h hm
          obtain ⟨v, mv, rfl⟩ := List.mem_map.mp mw
          have q := ch_own (n := n) (c := 3 ^ n) (B := B + 6 + 100 * n) (f := fun s => owM rs n s (sp ++ [c.2])) (ss := mm.2.2) (fun s ms => ow_own R n s _ (B + 6) (by omega) (b3 s ms)) mm.2.2.length (Nat.le_refl _) v (by rw [List.take_length]; exact mv)
          have e3 : 3 * n * mm.2.2.length ≤ 3 * n * 3 := Nat.mul_le_mul_left _ b4
          have e4 : mm.2.2.length * 3 ^ n ≤ 3 * 3 ^ n := Nat.mul_le_mul_right _ b4
          refine ⟨?_, ?_, fun s ms => (q.each s ms).le (by omega), Nat.le_trans q.len (by rw [Nat.pow_succ]; omega)⟩
          · show (mm.1 ++ v.l).length ≤ _
            rw [len_add]
            have := q.l
            omega
          · show (v.r ++ mm.2.1).length ≤ _
            rw [len_add]
            have := q.r
            omega
theorem OWN.b {n c B : Nat} {w : OW} (h : OWN n c B w) (hn : 3 * n ≤ 50000) (hB : B ≤ 50000) : OWB 50000 w := ⟨Nat.le_trans h.l hn, Nat.le_trans h.r hn, fun s m => (h.each s m).le hB⟩
end
end Lk
/-! K36TE -/
set_option Elab.async false
set_option linter.all false
set_option maxRecDepth 100000
set_option maxHeartbeats 4000000
namespace Lk
open PySem PySem.Spec PyProof.Rows L2
section
variable {P : Program} {w : World} {K : PySem.W.Frag} {mg : Str → Option Value} {base : Heap}
def intsV (sp : List Nat) : List V := sp.map fun n : Nat => V.int (n : Int)
theorem sc_p_choices : FnScope ["book", "asked", "spent", "found", "one"] ["book", "asked", "spent"] (defScope s_p_choices) := ⟨rfl, rfl, rfl, by decide +kernel, rfl, by decide +kernel, by decide +kernel⟩
end
end Lk
/-! K36XC -/
set_option Elab.async false
set_option linter.all false
set_option maxRecDepth 100000
set_option maxHeartbeats 4000000
namespace Lk
open PySem PySem.Spec PyProof.Rows L2
section
variable {P : Program} {w : World} {K : PySem.W.Frag} {mg : Str → Option Value} {base : Heap}
/-! ### open ways joined, or too many of them -/
def lim300 : HO := .xd [("limit", .int 300)]
def spNeedFewX (K : PySem.W.Frag) (TM : Addr) : Sp := fun vs H Q E => ∃ (l : Addr) (xs : List V), vs = [.ref l] ∧ SqL K H l xs ∧ (xs.length ≤ 300 → Q .non H) ∧ (¬ xs.length ≤ 300 → ∀ (dd : Addr) (H' : Hp), Same H H' → H' dd = some lim300 → E (.ref TM) (some dd) H')
theorem calx_need_few {TM : Addr} (D : Def1 K mg "need_few" s_p_need_few) (G : Glb mg) (km : Con1 mg "MOST_WAYS" (.int 300)) (TR : Ini P w K mg base "TooMany" TM (spI1 TM)) : CalX P w K mg base 3 "need_few" (spNeedFewX K TM) := by
  obtain ⟨fI, fd, ps, F, iC, tI, b, m⟩ := TR.ex
  refine mkCalX D sc_p_need_few (fun _ _ _ _ _ _ us hl => match us, hl with | [_], _ => rfl) (fun vs H Q E h => ?_) (fun f cdv A outer s H vs Q E hr h => ?_)
  · obtain ⟨l, xs, rfl, _⟩ := h
    rfl
  · obtain ⟨l, xs, rfl, hl, k, kx⟩ := h
    refine ⟨_, (pss_one (ps_if (pt_cmpR op_gt (pe_callB call_len_seq (by rfl) G.len PySem.boot_len (pa_cons (pv 0) pa_nil)) (pe_con1 km) (nomark _)) (pss_one (ps_raise rfl (takes_of rfl rfl rfl rfl) (pmk_oex (ds := []) (dvs := []) TR.ox iC tI F (hr.mono (by decide)) b .nil pass0 (by rfl) m (pa_cons (pe_con1 km) pa_nil)))) pss_nil)), ?_⟩
    refine go_if ?_
    refine ⟨_, rfl, l, xs, rfl, .inl hl, _, _, rfl, rfl, _, rfl, ?_⟩
    by_cases few : xs.length ≤ 300
    · exact iteF' (decide_eq_false (by omega)) (nxt_go (k few))
    · exact iteT' (decide_eq_true (by omega)) (tm_raise fun dd H' s' h' => kx few dd H' s' h')
def spJoinX (K : PySem.W.Frag) (TM : Addr) : Sp := fun vs H Q E => ∃ (a b : Addr) (xs ys : List V) (ws os : List OW), vs = [.ref a, .ref b] ∧ SqL K H a xs ∧ SqL K H b ys ∧ ThAll K H xs (ws.map OW.d) ∧ ThAll K H ys (os.map OW.d) ∧ (∀ x ∈ ws, OWB 50000 x) ∧ (∀ y ∈ os, OWB 50000 y) ∧ (∀ x ∈ ws, ∀ y ∈ os, x.vs.length + y.vs.length ≤ 1000) ∧
  os.length ≤ 300 ∧ (¬ (joinS ws os).length ≤ 300 → ∀ (dd : Addr) (H' : Hp), Same H H' → H' dd = some lim300 → E (.ref TM) (some dd) H') ∧ ((joinS ws os).length ≤ 300 → ∀ (p : Addr) (zs : List V) (H' : Hp), Same H H' → H p = none → H' p = some (.lst zs) → ThAll K H' zs ((joinS ws os).map OW.d) → Q (.ref p) H')
theorem calx_joined {TM : Addr} (D : Def1 K mg "joined" s_p_joined) (CT : Cal P w K mg base 2 "together" (spTog K)) (CN : CalX P w K mg base 3 "need_few" (spNeedFewX K TM)) : CalX P w K mg base 4 "joined" (spJoinX K TM) := by
  refine mkCalX D sc_p_joined (fun _ _ _ _ _ _ us hl => match us, hl with | [_, _], _ => rfl) (fun vs H Q E h => ?_) (fun f cdv A outer s H vs Q E hr h => ?_)
  · obtain ⟨a, b, xs, ys, ws, os, rfl, _⟩ := h
    rfl
  · obtain ⟨a, b, xs, ys, ws, os, rfl, ha, hb, tx, ty, bx, by', lv, o300, kx, k⟩ := h
    refine ⟨_, (pss_cons (ps_set (i := 2) sc_p_joined.nd rfl (.inl rfl) (pe_lst pa_nil))
    (pss_cons (ps_for (passes_of rfl) rfl (pi_list (pv 0)) (pg_name (i := 3) sc_p_joined.nd rfl (.inl rfl))
    (pss_cons (ps_for (passes_of rfl) rfl (pi_list (pv 1)) (pg_name (i := 4) sc_p_joined.nd rfl (.inl rfl))
    (pss_cons (ps_set (i := 5) sc_p_joined.nd rfl (.inl rfl) (pe_cal CT hr (by omega) (pa_cons (pv 3) (pa_cons (pv 4) pa_nil))))
    (pss_one (ps_if (pt_cmpR op_notN (pv 5) pe_non (nomark _)) (pss_one (ps_expr (pe_bm PySem.F.plainAttrs_list PySem.F.slot_list_append PySem.F.type_list_append mt_append (pv 2) (pa_cons (pv 5) pa_nil)))) pss_nil))))
    (pss_one (ps_expr (pe_calX CN hr (by omega) (takes_of rfl rfl rfl rfl) (pa_cons (pv 2) pa_nil))))))
    (pss_one (ps_ret (pv 2))))), ?_⟩
    have lx := thAll_len tx
    have ly := thAll_len ty
    rw [List.length_map] at lx ly
    refine sq_asg (lst_nil fun Dl nD => ?_)
    refine on_go (sq_for ?_)
    refine ⟨_, rfl, a, rfl, ⟨_, Same.seq (same_upd nD) ha⟩, for_list (K := K) (a := a) (xs := xs) (fun i σ H' => ∃ v3 v4 v5 : Option V, σ = [some (.ref a), some (.ref b), some (.ref Dl), v3, v4, v5] ∧ Same H H' ∧ ∃ zs : List V, H' Dl = some (.lst zs) ∧ ThAll K H' zs ((joinS (ws.take i) os).map OW.d) ∧ (joinS (ws.take i) os).length ≤ 300)
      ⟨_, _, _, rfl, same_upd nD, [], upd_same, .nil, Nat.zero_le _⟩ (fun i σ H' _ ⟨_, _, _, _, s, _⟩ => Same.seq s ha) ?_ ?_⟩
    · rintro i x σ H1 hx ⟨v3, v4, v5, rfl, s1, zs, hD, th, l300⟩
      obtain ⟨d, hd, thx⟩ := th_at tx hx
      obtain ⟨x', hx', rfl⟩ := Option.map_eq_some_iff.mp ((List.getElem?_map ..).symm.trans hd)
      have mx := List.mem_of_getElem? hx'
      refine on_go (sq_for ?_)
      refine ⟨_, rfl, b, rfl, ⟨_, Same.seq s1 hb⟩, for_list (K := K) (a := b) (xs := ys) (fun j σ H' => ∃ v4 v5 : Option V, σ = [some (.ref a), some (.ref b), some (.ref Dl), some x, v4, v5] ∧ Same H H' ∧ ∃ zs : List V, H' Dl = some (.lst zs) ∧ ThAll K H' zs ((joinS (ws.take i) os ++ (os.take j).filterMap (togS x')).map OW.d))
        ⟨_, _, rfl, s1, zs, hD, by rw [List.take_zero, List.filterMap_nil, List.append_nil]; exact th⟩ (fun j σ H' _ ⟨_, _, _, s, _⟩ => Same.seq s hb) ?_ ?_⟩
      · rintro j y σ H2 hy ⟨v4, v5, rfl, s2, zs2, hD2, th2⟩
        obtain ⟨d2, hd2, thy⟩ := th_at ty hy
        obtain ⟨y', hy', rfl⟩ := Option.map_eq_some_iff.mp ((List.getElem?_map ..).symm.trans hd2)
        have my := List.mem_of_getElem? hy'
        refine on_go (sq_asg ?_)
        refine ⟨_, rfl, _, rfl, x, y, x', y', rfl, th_same s2 thx, th_same s2 thy, bx x' mx, by' y' my, lv x' mx y' my, fun u H3 s3 thu => ?_⟩
        have hD3 := s3 _ _ hD2
        have l2 := thAll_len th2
        rw [List.length_map, List.length_append] at l2
        have p2 := fm_part (togS x') os j
        have p3 := List.length_filterMap_le (togS x') os
        have hD0 : H Dl = none := nD
        refine on_go (go_if ?_)
        cases e : togS x' y' with
        | none =>
          rw [e] at thu
          cases thu
          refine ⟨_, rfl, rfl, _, rfl, iteF' rfl (nxt_go ⟨_, _, rfl, s2.trans s3, zs2, hD3, ?_⟩)⟩
          rw [fm_snoc hy', e]
          simp only [Option.toList, List.append_nil]
          exact thAll_same s3 th2
        | some z =>
          rw [e] at thu
          obtain ⟨q, t, zz, rfl, hq, ht, hz⟩ := th_ow thu
          refine ⟨_, rfl, rfl, _, rfl, iteT' rfl ?_⟩
          refine ⟨_, rfl, .inl ⟨rfl, _, SqL.of hD3⟩, _, rfl, Dl, _, _, rfl, rfl, hD3, by rw [sizeLine_eq]; omega, ?_⟩
          refine ⟨_, _, rfl, same_mut (s2.trans s3) hD0, zs2 ++ [.ref q], upd_same, ?_⟩
          rw [fm_snoc hy', e, ← List.append_assoc, List.map_append]
          exact thAll_app (thAll_mutL hD3 (thAll_same s3 th2) (ows_nl _)) (.cons (th_mutL hD3 thu (ow_nl z)) .nil)
      · rintro σ H2 ⟨v4, v5, rfl, s2, zs2, hD2, th2⟩
        rw [ly, List.take_length] at th2
        have l2 := thAll_len th2
        rw [List.length_map, List.length_append] at l2
        refine ends_go ?_
        have eL : zs2.length = (joinS (ws.take (i + 1)) os).length := by
          rw [join_snoc hx', List.length_append]
          exact l2
        refine ⟨_, rfl, Dl, zs2, rfl, SqL.of hD2, fun le => ?_, fun nle dd H' s' h' => kx (fun z => nle ?_) dd H' (s2.trans s') h'⟩
        · refine ⟨_, _, _, rfl, s2, zs2, hD2, ?_, by omega⟩
          rw [join_snoc hx']
          exact th2
        · have y := join_part ws os (i + 1)
          omega
    · rintro σ H1 ⟨v3, v4, v5, rfl, s1, zs, hD, th, l300⟩
      rw [lx, List.take_length] at th l300
      exact ends_go (go_ret ⟨_, rfl, k l300 Dl zs H1 s1 nD hD th⟩)
end
end Lk
/-! K36XE -/
set_option Elab.async false
set_option linter.all false
set_option maxRecDepth 100000
set_option maxHeartbeats 4000000
namespace Lk
open PySem PySem.Spec PyProof.Rows L2
section
variable {P : Program} {w : World} {K : PySem.W.Frag} {mg : Str → Option Value} {base : Heap}
def spOWX (K : PySem.W.Frag) (TM : Addr) (n : Nat) : Sp := fun vs H Q E => ∃ (q : Addr) (xs : List V) (rs : List Rl) (a : Src) (v : V) (t : Addr) (sp : List Nat) (B : Nat), vs = [.ref q, v, .ref t] ∧ SqT K H q xs ∧ ThAll K H xs (rs.map Rl.d) ∧ dBook (.tuple (rs.map Rl.d)) = true ∧ Th K H v a.d ∧ SqT K H t (intsV sp) ∧ sp.Nodup ∧ (∀ k ∈ sp, k < rs.length) ∧
  rs.length ≤ sp.length + n ∧ n ≤ 6 ∧ SrcB B a ∧ B + 100 * n ≤ 10000 ∧ (FewW rs n a sp → ∀ (p : Addr) (zs : List V) (H' : Hp), Same H H' → H p = none → H' p = some (.lst zs) → ThAll K H' zs ((owM rs n a sp).map OW.d) → Q (.ref p) H') ∧ (¬ FewW rs n a sp → ∀ (dd : Addr) (H' : Hp), Same H H' → H' dd = some lim300 → E (.ref TM) (some dd) H')
def GoodC (rs : List Rl) (n : Nat) (ss : List Src) (sp : List Nat) : Prop := (∀ s ∈ ss, FewW rs n s sp) ∧ ∀ j, j ≤ ss.length → (chS (fun s => owM rs n s sp) (ss.take j)).length ≤ 300
theorem few_len {rs : List Rl} {n : Nat} {a : Src} {sp : List Nat} (h : FewW rs n a sp) : (owM rs n a sp).length ≤ 300 := by
  cases n with
  | zero => exact (by decide : 1 ≤ 300)
  | succ n => exact h.1
def spChX (K : PySem.W.Frag) (TM : Addr) (n : Nat) : Sp := fun vs H Q E => ∃ (q : Addr) (xs : List V) (rs : List Rl) (l : Addr) (ls : List V) (ss : List Src) (t : Addr) (sp : List Nat) (B : Nat), vs = [.ref q, .ref l, .ref t] ∧ SqT K H q xs ∧ ThAll K H xs (rs.map Rl.d) ∧ dBook (.tuple (rs.map Rl.d)) = true ∧ SqL K H l ls ∧ ThAll K H ls (ss.map Src.d) ∧ ss.length ≤ 3 ∧
  SqT K H t (intsV sp) ∧ sp.Nodup ∧ (∀ k ∈ sp, k < rs.length) ∧ rs.length ≤ sp.length + n ∧ n ≤ 5 ∧ B + 100 * n ≤ 10000 ∧ (∀ s ∈ ss, SrcB B s) ∧
  (GoodC rs n ss sp → ∀ (p : Addr) (zs : List V) (H' : Hp), Same H H' → H p = none → H' p = some (.lst zs) → ThAll K H' zs ((chS (fun s => owM rs n s sp) ss).map OW.d) → Q (.ref p) H') ∧ (¬ GoodC rs n ss sp → ∀ (dd : Addr) (H' : Hp), Same H H' → H' dd = some lim300 → E (.ref TM) (some dd) H')
theorem calx_choices {TM : Addr} {n : Nat} (D : Def1 K mg "choices" s_p_choices) (CO : CalX P w K mg base (2 * n + 5) "open_ways" (spOWX K TM n)) (CJ : CalX P w K mg base 4 "joined" (spJoinX K TM)) : CalX P w K mg base (2 * n + 6) "choices" (spChX K TM n) := by
  refine mkCalX D sc_p_choices (fun _ _ _ _ _ _ us hl => match us, hl with | [_, _, _], _ => rfl) (fun vs H Q E h => ?_) (fun f cdv A outer s H vs Q E hr h => ?_)
  · obtain ⟨q, xs, rs, l, ls, ss, t, sp, B, rfl, _⟩ := h
    rfl
  · obtain ⟨q, xs, rs, l, ls, ss, t, sp, B, rfl, hq, hx, hB, hl, hls, s3, ht, nd, lt, le, n5, bb, each, k, kx⟩ := h
    refine ⟨_, (pss_cons (ps_set (i := 3) sc_p_choices.nd rfl (.inl rfl) (pe_lst (pa_cons (pe_tup (pa_cons pe_str (pa_cons pe_str (pa_cons (pe_tup pa_nil) pa_nil)))) pa_nil)))
    (pss_cons (ps_for (passes_of rfl) rfl (pi_list (pv 1)) (pg_name (i := 4) sc_p_choices.nd rfl (.inl rfl))
    (pss_one (ps_set (i := 3) sc_p_choices.nd rfl (.inl rfl) (pe_calX CJ hr (by omega) (takes_of rfl rfl rfl rfl) (pa_cons (pv 3) (pa_cons (pe_calX CO hr (by omega) (takes_of rfl rfl rfl rfl) (pa_cons (pv 0) (pa_cons (pv 4) (pa_cons (pv 2) pa_nil)))) pa_nil))))))
    (pss_one (ps_ret (pv 3))))), ?_⟩
    have R : ∀ r ∈ rs, RlLen r := (book_len hB).2
    have ll := thAll_len hls
    rw [List.length_map] at ll
    have own1 : ∀ s ∈ ss, ∀ w ∈ owM rs n s sp, OWN n (3 ^ n) (B + 100 * n) w := fun s ms => ow_own R n s sp B (by omega) (each s ms)
    have p3 : 3 ^ n ≤ 243 := Nat.pow_le_pow_right (n := 3) (by decide) n5
    refine sq_asg ?_
    refine (mk_cons (K := K) (ds := []) (mk_tup (mk_cons mk_str (mk_cons mk_str (mk_cons (mk_tup mk_nil (by show (0 : Nat) ≤ 1000; decide)) mk_nil))) (by show (3 : Nat) ≤ 1000; decide)) mk_nil : MkA K _ _ H [(⟨"", "", []⟩ : OW).d]) H (Same.refl H) _ fun z0 H0 s0 th0' => ⟨by rw [thAll_len th0']; show 1 ≤ sizeLine; decide, fun F0 nF0 => ?_⟩
    have s1 : Same H (upd H0 F0 (.lst z0)) := s0.trans (same_upd nF0)
    have hF0 : upd H0 F0 (.lst z0) F0 = some (.lst z0) := upd_same
    have th0 := thAll_same (same_upd (o := .lst z0) nF0) th0'
    have fF0 : H F0 = none := s0.free nF0
    generalize upd H0 F0 (.lst z0) = H1 at s1 hF0 th0 ⊢
    refine on_go (sq_for ?_)
    refine ⟨_, rfl, l, rfl, ⟨_, Same.seq s1 hl⟩, for_list (K := K) (a := l) (xs := ls) (fun i σ H' => ∃ (Fi : Addr) (zs : List V) (v4 : Option V), σ = [some (.ref q), some (.ref l), some (.ref t), some (.ref Fi), v4] ∧ Same H H' ∧ H Fi = none ∧ H' Fi = some (.lst zs) ∧ ThAll K H' zs ((chS (fun s => owM rs n s sp) (ss.take i)).map OW.d) ∧ (∀ s ∈ ss.take i, FewW rs n s sp) ∧ ∀ j, j ≤ i → (chS (fun s => owM rs n s sp) (ss.take j)).length ≤ 300)
      ⟨F0, z0, _, rfl, s1, fF0, hF0, th0, (fun s m => nomatch m), fun j hj => by rw [show j = 0 by omega]; exact (by decide : 1 ≤ 300)⟩ (fun i σ H' _ ⟨_, _, _, _, s, _⟩ => Same.seq s hl) ?_ ?_⟩
    · rintro i x σ H2 hx2 ⟨Fi, zs, v4, rfl, s2, nFi, hF, th, fwI, jI⟩
      obtain ⟨d, hd, thx⟩ := th_at hls hx2
      obtain ⟨a, ha, rfl⟩ := Option.map_eq_some_iff.mp ((List.getElem?_map ..).symm.trans hd)
      have ma := List.mem_of_getElem? ha
      have il := (List.getElem?_eq_some_iff.mp ha).1
      refine ⟨_, rfl, _, rfl, _, rfl, _, rfl, q, xs, rs, a, x, t, sp, B, rfl, Same.seqT s2 hq, thAll_same s2 hx, hB, th_same s2 thx, Same.seqT s2 ht, nd, lt, le, by omega, each a ma, bb, fun fwA p ys H3 s3' _ hp thy => ?_, fun nf dd H3 s3' h3 => kx (fun g => nf (g.1 a ma)) dd H3 (s2.trans s3') h3⟩
      have accO := ch_own own1 i (by omega)
      have newO := own1 a ma
      have e3 : 3 * n * i ≤ 15 * 3 := Nat.mul_le_mul (by omega) (by omega)
      have e4 : i * 3 ^ n ≤ 2 * 243 := Nat.mul_le_mul (by omega) p3
      refine ⟨Fi, p, zs, ys, _, _, rfl, SqL.of (s3' _ _ hF), SqL.of hp, thAll_same s3' th, thy, fun w m => (accO w m).b (by omega) (by omega), fun w m => (newO w m).b (by omega) (by omega), fun w m w' m' => ?_, few_len fwA, fun nj dd H4 s4 h4 => kx (fun g => nj ?_) dd H4 ((s2.trans s3').trans s4) h4, fun l3 p2 z2 H4 s4 np2 hp2 th2 => ?_⟩
      · have y1 := (accO w m).len
        have y2 := (newO w' m').len
        omega
      · have y := g.2 (i + 1) (by omega)
        rwa [ch_snoc _ ha] at y
      · refine ⟨p2, z2, _, rfl, (s2.trans s3').trans s4, (s2.trans s3').free np2, hp2, ?_, fun s m => ?_, fun j hj => ?_⟩
        · rw [ch_snoc _ ha]
          exact th2
        · rw [List.take_add_one, ha] at m
          rcases List.mem_append.mp m with m | m
          · exact fwI s m
          · rw [List.mem_singleton.mp m]
            exact fwA
        · by_cases e : j = i + 1
          · rw [e, ch_snoc _ ha]
            exact l3
          · exact jI j (by omega)
    · rintro σ H2 ⟨Fi, zs, v4, rfl, s2, nFi, hF, th, fwI, jI⟩
      rw [ll, List.take_length] at th fwI
      exact ends_go (go_ret ⟨_, rfl, k ⟨fwI, fun j hj => jI j (by omega)⟩ Fi zs H2 s2 nFi hF th⟩)
end
end Lk
/-! K36XF -/
set_option Elab.async false
set_option linter.all false
set_option maxRecDepth 100000
set_option maxHeartbeats 4000000
namespace Lk
open PySem PySem.Spec PyProof.Rows L2
section
variable {P : Program} {w : World} {K : PySem.W.Frag} {mg : Str → Option Value} {base : Heap}
theorem go_mk {σ : L2.St} {H : Hp} {te : TE} {ta : TA} {d : PyData} {Q : List V → Hp → Prop} (h : Mk1 K te σ H d) (q : ∀ v H', Same H H' → Th K H' v d → ta σ H' fun ys H2 => Q (v :: ys) H2) : tCons te ta σ H Q := h H (Same.refl H) _ q
theorem th_met {H : Hp} {v : V} {l r : Str} {ds : List PyData} (h : Th K H v (.tuple [.str l, .str r, .list ds])) : ∃ t p ys, v = .ref t ∧ SqT K H t [.str l, .str r, .ref p] ∧ SqL K H p ys ∧ ThAll K H ys ds := by
  cases h with
  | tup hs ha =>
    cases ha with
    | cons h1 t1 =>
      cases t1 with
      | cons h2 t2 =>
        cases t2 with
        | cons h3 t3 =>
          cases t3
          cases h1
          cases h2
          cases h3 with
          | lst hp hy => exact ⟨_, _, _, rfl, hs, hp, hy⟩
theorem all_spent {n : Nat} {sp : List Nat} (nd : sp.Nodup) (lt : ∀ k ∈ sp, k < n) (h : n ≤ sp.length) {i : Nat} (hi : i < n) : i ∈ sp := by
  refine Classical.byContradiction fun no => ?_
  have y := nodup_len (l := i :: sp) (m := List.range n) (List.nodup_cons.mpr ⟨no, nd⟩) fun x m => by
    rcases List.mem_cons.mp m with rfl | m
    · exact List.mem_range.mpr hi
    · exact List.mem_range.mpr (lt x m)
  rw [List.length_range, List.length_cons] at y
  omega
theorem intsV_snoc (sp : List Nat) (i : Nat) : intsV sp ++ [V.int (i : Int)] = intsV (sp ++ [i]) := by
  unfold intsV
  rw [List.map_append]
  rfl
theorem sc_p_open : FnScope ["book", "asked", "spent", "found", "number", "rule", "met", "left", "right", "sources", "within_left", "within_right", "leaves"] ["book", "asked", "spent"] (defScope s_p_open_ways) := ⟨rfl, rfl, rfl, by decide +kernel, rfl, by decide +kernel, by decide +kernel⟩
/-- the rows up to a place ask for nothing too much -/
def RowsF (rs : List Rl) (n : Nat) (a : Src) (sp : List Nat) (i : Nat) : Prop := ∀ n', n = n' + 1 → ∀ k r m, k < i → rs[k]? = some r → k ∉ sp → meetS r a = some m → GoodC rs n' m.2.2 (sp ++ [k])
theorem RowsF.skip {rs : List Rl} {n : Nat} {a : Src} {sp : List Nat} {i : Nat} {r : Rl} (h : RowsF rs n a sp i) (hr : rs[i]? = some r) (no : i ∈ sp ∨ meetS r a = none) : RowsF rs n a sp (i + 1) := fun n' e k r' m hk h1 h2 h3 => by
  by_cases z : k = i
  · subst z
    rw [hr] at h1
    cases h1
    rcases no with y | y
    · exact absurd y h2
    · rw [y] at h3
      cases h3
  · exact h n' e k r' m (by omega) h1 h2 h3
theorem RowsF.row {rs : List Rl} {n : Nat} {a : Src} {sp : List Nat} {i : Nat} {r : Rl} {m : Str × Str × List Src} (h : RowsF rs (n + 1) a sp i) (hr : rs[i]? = some r) (_ni : i ∉ sp) (hm : meetS r a = some m) (g : GoodC rs n m.2.2 (sp ++ [i])) : RowsF rs (n + 1) a sp (i + 1) := fun n' e k r' m' hk h1 h2 h3 => by
  cases e
  by_cases z : k = i
  · subst z
    rw [hr] at h1
    cases h1
    rw [hm] at h3
    cases h3
    exact g
  · exact h n rfl k r' m' (by omega) h1 h2 h3
theorem RowsF.all {rs : List Rl} {n : Nat} {a : Src} {sp : List Nat} (h : RowsF rs n a sp rs.length) (l : (owM rs n a sp).length ≤ 300) : FewW rs n a sp := by
  cases n with
  | zero => exact trivial
  | succ n => exact ⟨l, fun k r m h1 h2 h3 => h n rfl k r m (List.getElem?_eq_some_iff.mp h1).1 h1 h2 h3⟩
theorem calx_open {TM : Addr} {n : Nat} {spC : Sp} (D : Def1 K mg "open_ways" s_p_open_ways) (G : Glb mg) (CM : Cal P w K mg base 2 "meeting" (spMeet K)) (CN : CalX P w K mg base 3 "need_few" (spNeedFewX K TM)) (hC : ∀ m, n = m + 1 → spC = spChX K TM m) (CC : CalX P w K mg base (2 * n + 4) "choices" spC) :
    CalX P w K mg base (2 * n + 5) "open_ways" (spOWX K TM n) := by
  refine mkCalX D sc_p_open (fun _ _ _ _ _ _ us hl => match us, hl with | [_, _, _], _ => rfl) (fun vs H Q E h => ?_) (fun f cdv A outer s H vs Q E hr h => ?_)
  · obtain ⟨q, xs, rs, a, v, t, sp, B, rfl, _⟩ := h
    rfl
  · obtain ⟨q, xs, rs, a, v, t, sp, B, rfl, hq, hx, hB, hv, ht, nd, lt, le, n6, ba, bb, k, kx⟩ := h
    refine ⟨_, (pss_cons (ps_set (i := 3) sc_p_open.nd rfl (.inl rfl) (pe_lst (pa_cons (pe_tup (pa_cons pe_str (pa_cons pe_str (pa_cons (pe_tup (pa_cons (pv 1) pa_nil)) pa_nil)))) pa_nil)))
    (pss_cons (ps_for (passes_of rfl) rfl (pi_enT (by rfl) G.enumerate (pa_cons (pv 0) pa_nil)) (pg_tup rfl (pgs_cons (pg_name (i := 4) sc_p_open.nd rfl (.inl rfl)) (pgs_cons (pg_name (i := 5) sc_p_open.nd rfl (.inl rfl)) pgs_nil)))
    (pss_cons (ps_set (i := 6) sc_p_open.nd rfl (.inl rfl) (pe_ifExp (pt_cmpR op_in_seq (pv 4) (pv 2) (by rfl)) pe_non (pe_cal CM hr (by omega) (pa_cons (pv 5) (pa_cons (pv 1) pa_nil)))))
    (pss_one (ps_if (pt_cmpR op_notN (pv 6) pe_non (nomark _)) (pss_cons (ps_asg (pv 6) (pg_tup rfl (pgs_cons (pg_name (i := 7) sc_p_open.nd rfl (.inl rfl)) (pgs_cons (pg_name (i := 8) sc_p_open.nd rfl (.inl rfl)) (pgs_cons (pg_name (i := 9) sc_p_open.nd rfl (.inl rfl)) pgs_nil)))))
    (pss_cons (ps_for (passes_of rfl) rfl (pi_list (pe_calX CC hr (by omega) (takes_of rfl rfl rfl rfl) (pa_cons (pv 0) (pa_cons (pv 9) (pa_cons (pe_tup (StX.pa_star (pv 2) (pa_cons (pv 4) pa_nil))) pa_nil))))) (pg_tup rfl (pgs_cons (pg_name (i := 10) sc_p_open.nd rfl (.inl rfl)) (pgs_cons (pg_name (i := 11) sc_p_open.nd rfl (.inl rfl)) (pgs_cons (pg_name (i := 12) sc_p_open.nd rfl (.inl rfl)) pgs_nil))))
    (pss_one (ps_expr (pe_bm PySem.F.plainAttrs_list PySem.F.slot_list_append PySem.F.type_list_append mt_append (pv 3) (pa_cons (pe_tup (pa_cons (pe_op op_add_str (pv 7) (pv 10)) (pa_cons (pe_op op_add_str (pv 11) (pv 8)) (pa_cons (pv 12) pa_nil)))) pa_nil)))))
    (pss_one (ps_expr (pe_calX CN hr (by omega) (takes_of rfl rfl rfl rfl) (pa_cons (pv 3) pa_nil)))))) pss_nil))))
    (pss_one (ps_ret (pv 3))))), ?_⟩
    obtain ⟨many, len⟩ := book_len hB
    have R : ∀ r ∈ rs, RlLen r := len
    have hl := thAll_len hx
    rw [List.length_map] at hl
    have ownA := ow_own R n a sp B n6 ba
    refine sq_asg ?_
    refine (mk_cons (K := K) (ds := []) (mk_tup (mk_cons mk_str (mk_cons mk_str (mk_cons (mk_tup (mk_cons (mk_var rfl hv) mk_nil) (by show (1 : Nat) ≤ 1000; decide)) mk_nil))) (by show (3 : Nat) ≤ 1000; decide)) mk_nil : MkA K _ _ H [(⟨"", "", [a]⟩ : OW).d]) H (Same.refl H) _ fun z0 H0 s0 th0' => ⟨by rw [thAll_len th0']; show 1 ≤ sizeLine; decide, fun Dl nF0 => ?_⟩
    have s1 : Same H (upd H0 Dl (.lst z0)) := s0.trans (same_upd nF0)
    have hD0 : upd H0 Dl (.lst z0) Dl = some (.lst z0) := upd_same
    have th0 := thAll_same (same_upd (o := .lst z0) nF0) th0'
    have nD : H Dl = none := s0.free nF0
    generalize upd H0 Dl (.lst z0) = H1 at s1 hD0 th0 ⊢
    refine on_go (sq_for ?_)
    refine ⟨_, rfl, q, _, rfl, Same.seqT s1 hq, for_enT (K := K) (a := q) (xs := xs) (fun i σ H' => ∃ (zs : List V) (v4 v5 v6 v7 v8 v9 v10 v11 v12 : Option V), σ = [some (.ref q), some v, some (.ref t), some (.ref Dl), v4, v5, v6, v7, v8, v9, v10, v11, v12] ∧ Same H H' ∧ H' Dl = some (.lst zs) ∧ ThAll K H' zs ((owG rs n a sp i).map OW.d) ∧ (owG rs n a sp i).length ≤ 300 ∧ RowsF rs n a sp i)
      ⟨z0, _, _, _, _, _, _, _, _, _, rfl, s1, hD0, by rw [owG_zero]; exact th0, by rw [owG_zero]; exact (by decide : 1 ≤ 300), fun n' _ k r m hk => absurd hk (Nat.not_lt_zero _)⟩ (fun i σ H' ⟨_, _, _, _, _, _, _, _, _, _, _, s, _⟩ => Same.seqT s hq) ?_ ?_⟩
    · rintro i x σ H2 T hx2 nT ⟨zs, v4, v5, v6, v7, v8, v9, v10, v11, v12, rfl, s2, hD, th, l300, rF⟩
      obtain ⟨d, hd, thx⟩ := th_at hx hx2
      obtain ⟨r, hr2, rfl⟩ := Option.map_eq_some_iff.mp ((List.getElem?_map ..).symm.trans hd)
      have hi : i < rs.length := (List.getElem?_eq_some_iff.mp hr2).1
      refine ⟨T, _, rfl, .inl (.inl upd_same), rfl, _, _, rfl, _, _, rfl, rfl, ?_⟩
      have sT := same_upd (o := .tup [.int (i : Int), x]) nT
      have s3 := s2.trans sT
      have hD3 := sT _ _ hD
      have th3 := thAll_same sT th
      generalize upd H2 T (.tup [.int (i : Int), x]) = H3 at sT s3 hD3 th3 ⊢
      refine sq_asg ?_
      refine ⟨_, rfl, _, rfl, t, _, rfl, .inr (Same.seqT s3 ht), rfl, flat_ints, _, rfl, ?_⟩
      by_cases hin : i ∈ sp
      · refine iteT' ?_ ?_
        · show inV (V.int (i : Int)) _ = true
          rw [show intsV sp = sp.map fun n : Nat => V.int (n : Int) from rfl, in_ints, decide_eq_true hin]
        · refine on_go (go_if ⟨_, rfl, rfl, _, rfl, iteF' rfl (nxt_go ⟨zs, _, _, _, _, _, _, _, _, _, rfl, s3, hD3, ?_, by rw [owG_skip hr2 (.inl hin)]; exact l300, rF.skip hr2 (.inl hin)⟩)⟩)
          rw [owG_skip hr2 (.inl hin)]
          exact th3
      · refine iteF' ?_ ?_
        · show inV (V.int (i : Int)) _ = false
          rw [show intsV sp = sp.map fun n : Nat => V.int (n : Int) from rfl, in_ints, decide_eq_false hin]
        · refine ⟨_, rfl, _, rfl, x, v, r, a, rfl, th_same s3 thx, th_same s3 hv, R r (List.mem_of_getElem? hr2), ba.le (by omega), fun u H4 s4 thu => ?_⟩
          have hD4 := s4 _ _ hD3
          have th4 := thAll_same s4 th3
          have s04 := s3.trans s4
          refine on_go (go_if ?_)
          cases e : meetS r a with
          | none =>
            rw [e] at thu
            cases thu
            refine ⟨_, rfl, rfl, _, rfl, iteF' rfl (nxt_go ⟨zs, _, _, _, _, _, _, _, _, _, rfl, s04, hD4, ?_, by rw [owG_skip hr2 (.inr e)]; exact l300, rF.skip hr2 (.inr e)⟩)⟩
            rw [owG_skip hr2 (.inr e)]
            exact th4
          | some m =>
            rw [e] at thu
            obtain ⟨mt, mp, ys, rfl, hmt, hmp, hys⟩ := th_met thu
            obtain ⟨n', rfl⟩ : ∃ n', n = n' + 1 := by
              cases n with
              | zero => exact absurd (all_spent nd lt (by omega) hi) hin
              | succ n' => exact ⟨n', rfl⟩
            have eC := hC n' rfl
            subst eC
            obtain ⟨b1, b2, b3, b4⟩ := meet_b (R r (List.mem_of_getElem? hr2)) ba e
            have ndS : (sp ++ [i]).Nodup := List.nodup_append.mpr ⟨nd, by simp, fun x mx y my z => hin (by rw [List.mem_singleton.mp my] at z; exact z ▸ mx)⟩
            have ltS : ∀ k ∈ sp ++ [i], k < rs.length := fun k mk => by
              rcases List.mem_append.mp mk with mk | mk
              · exact lt k mk
              · rw [List.mem_singleton.mp mk]
                exact hi
            have lsp : sp.length ≤ 6 := by
              have y := nodup_len (m := List.range rs.length) nd fun x mx => List.mem_range.mpr (lt x mx)
              rw [List.length_range] at y
              omega
            refine ⟨_, rfl, rfl, _, rfl, iteT' rfl ?_⟩
            refine sq_asg ?_
            refine ⟨_, rfl, mt, _, rfl, hmt, rfl, _, _, rfl, _, _, rfl, _, _, rfl, rfl, ?_⟩
            refine sq_for ?_
            refine ⟨_, rfl, _, rfl, _, rfl, t, _, rfl, .inl (Same.seqT s04 ht), _, rfl, by rw [intsV_snoc]; unfold intsV; rw [List.length_map, List.length_append, sizeLine_eq]; show sp.length + 1 ≤ _; omega, fun ut nu => ?_⟩
            have hu : upd H4 ut (.tup (intsV sp ++ [V.int (i : Int)])) ut = some (.tup (intsV (sp ++ [i]))) := upd_same.trans (congrArg (fun l => some (HO.tup l)) (intsV_snoc sp i))
            have sU := same_upd (o := .tup (intsV sp ++ [V.int (i : Int)])) nu
            have s05 := s04.trans sU
            have hD5 := sU _ _ hD4
            have th5 := thAll_same sU th4
            have hmp5 := Same.seq sU hmp
            have hys5 := thAll_same sU hys
            refine ⟨q, xs, rs, mp, ys, m.2.2, ut, sp ++ [i], B + 6, rfl, Same.seqT s05 hq, thAll_same s05 hx, hB, hmp5, hys5, b4, SqT.of hu, ndS, ltS, by rw [List.length_append]; show _ ≤ sp.length + 1 + n'; omega, by omega, by omega, fun s ms => b3 s ms, fun good p zc H6 s6 np hp6 th6 => ?_, fun ng dd H6 s6 h6 => kx (fun fw => ng (fw.2 i r m hr2 hin e)) dd H6 (s05.trans s6) h6⟩
            have pD : p ≠ Dl := fun z => by
              rw [z, hD5] at np
              cases np
            have lc := thAll_len th6
            rw [List.length_map] at lc
            have chO := ch_own (n := n') (c := 3 ^ n') (B := B + 6 + 100 * n') (f := fun s => owM rs n' s (sp ++ [i])) (ss := m.2.2) (fun s ms => ow_own R n' s _ (B + 6) (by omega) (b3 s ms)) m.2.2.length (Nat.le_refl _)
            rw [List.take_length] at chO
            have c300 : (chS (fun s => owM rs n' s (sp ++ [i])) m.2.2).length ≤ 300 := by
              have y := good.2 m.2.2.length (Nat.le_refl _)
              rwa [List.take_length] at y
            refine ⟨p, rfl, ⟨_, SqL.of hp6⟩, for_list (K := K) (a := p) (xs := zc) (fun j σ H' => ∃ (z2 : List V) (v10 v11 v12 : Option V), σ = [some (.ref q), some v, some (.ref t), some (.ref Dl), some (.int (i : Int)), some x, some (.ref mt), some (.str m.1), some (.str m.2.1), some (.ref mp), v10, v11, v12] ∧ Same H H' ∧ H' p = some (.lst zc) ∧ ThAll K H' zc ((chS (fun s => owM rs n' s (sp ++ [i])) m.2.2).map OW.d) ∧ H' Dl = some (.lst z2) ∧
                ThAll K H' z2 ((owG rs (n' + 1) a sp i ++ ((chS (fun s => owM rs n' s (sp ++ [i])) m.2.2).take j).map fun w => (⟨m.1 ++ w.l, w.r ++ m.2.1, w.vs⟩ : OW)).map OW.d))
              ⟨zs, _, _, _, rfl, s05.trans s6, hp6, th6, s6 _ _ hD5, by rw [List.take_zero, List.map_nil, List.append_nil]; exact thAll_same s6 th5⟩ (fun j σ H' _ ⟨_, _, _, _, _, _, h, _⟩ => SqL.of h) ?_ ?_⟩
            · rintro j y σ H7 hy ⟨z2, v10, v11, v12, rfl, s7, hp7, thc, hD7, th7⟩
              obtain ⟨dy, hdy, thy⟩ := th_at thc hy
              obtain ⟨w, hw, rfl⟩ := Option.map_eq_some_iff.mp ((List.getElem?_map ..).symm.trans hdy)
              have mw := List.mem_of_getElem? hw
              have ow := chO w mw
              have l7 := thAll_len th7
              rw [List.length_map, List.length_append, List.length_map, List.length_take] at l7
              obtain ⟨wq, wt, wx, rfl, hwq, hwt, hwx⟩ := th_ow thy
              refine ⟨wq, _, rfl, hwq, rfl, _, _, rfl, _, _, rfl, _, _, rfl, rfl, ?_⟩
              refine ⟨_, rfl, .inl ⟨rfl, _, SqL.of hD7⟩, ?_⟩
              have wl := ow.l
              have wr := ow.r
              refine go_mk (K := K) (d := (⟨m.1 ++ w.l, w.r ++ m.2.1, w.vs⟩ : OW).d) (mk_tup (ds := [.str (m.1 ++ w.l), .str (w.r ++ m.2.1), .tuple (w.vs.map Src.d)]) (mk_cons (mk_cat2 (mk_var rfl (.str _)) (mk_var rfl (.str _)) (by rw [sizeLine_eq]; omega)) (mk_cons (mk_cat2 (mk_var rfl (.str _)) (mk_var rfl (.str _)) (by rw [sizeLine_eq]; omega)) (mk_cons (mk_var rfl (.tup hwt hwx)) mk_nil))) (by show (3 : Nat) ≤ 1000; decide)) fun vv H8 s8 thv => ?_
              have hD8 := s8 _ _ hD7
              refine ⟨Dl, _, _, rfl, rfl, hD8, by rw [sizeLine_eq]; omega, ?_⟩
              refine ⟨z2 ++ [vv], _, _, _, rfl, same_mut (s7.trans s8) nD, (upd_ne pD).trans (s8 _ _ hp7), thAll_mutL hD8 (thAll_same s8 thc) (ows_nl _), upd_same, ?_⟩
              have e2 : ((chS (fun s => owM rs n' s (sp ++ [i])) m.2.2).take (j + 1)).map (fun w => (⟨m.1 ++ w.l, w.r ++ m.2.1, w.vs⟩ : OW)) = ((chS (fun s => owM rs n' s (sp ++ [i])) m.2.2).take j).map (fun w => (⟨m.1 ++ w.l, w.r ++ m.2.1, w.vs⟩ : OW)) ++ [⟨m.1 ++ w.l, w.r ++ m.2.1, w.vs⟩] := by
                rw [List.take_add_one, hw, List.map_append]
                rfl
              rw [e2, ← List.append_assoc, List.map_append]
              exact thAll_app (thAll_mutL hD8 (thAll_same s8 th7) (ows_nl _)) (.cons (th_mutL hD8 thv (ow_nl _)) .nil)
            · rintro σ H7 ⟨z2, v10, v11, v12, rfl, s7, hp7, thc, hD7, th7⟩
              rw [lc, List.take_length] at th7
              have l7 := thAll_len th7
              rw [List.length_map, List.length_append, List.length_map] at l7
              refine ends_go ?_
              have eL : z2.length = (owG rs (n' + 1) a sp (i + 1)).length := by
                rw [owG_row hr2 hin e, List.length_append, List.length_map]
                exact l7
              refine ⟨_, rfl, Dl, z2, rfl, SqL.of hD7, fun le' => ?_, fun nle dd H8 s8 h8 => kx (fun fw => nle ?_) dd H8 (s7.trans s8) h8⟩
              · refine ⟨z2, _, _, _, _, _, _, _, _, _, rfl, s7, hD7, ?_, by omega, rF.row hr2 hin e good⟩
                rw [owG_row hr2 hin e]
                exact th7
              · have y := owG_part rs (n' + 1) a sp (i + 1)
                have y2 := fw.1
                omega
    · rintro σ H2 ⟨zs, v4, v5, v6, v7, v8, v9, v10, v11, v12, rfl, s2, hD, th, l300, rF⟩
      rw [hl, owG_end] at th l300
      rw [hl] at rF
      exact ends_go (go_ret ⟨_, rfl, k (rF.all l300) Dl zs H2 s2 nD hD th⟩)
end
end Lk
/-! K36XG -/
set_option Elab.async false
set_option linter.all false
set_option maxRecDepth 100000
set_option maxHeartbeats 4000000
namespace Lk
open PySem PySem.Spec PyProof.Rows L2
section
variable {P : Program} {w : World} {K : PySem.W.Frag} {mg : Str → Option Value} {base : Heap}
theorem calx_no {x : String} {st : Stmt} {N ps : List Str} {k : Nat} (D : Def1 K mg x st) (S : FnScope N ps (defScope st)) (hb : ∀ (kV doc pm : Value) (an : Option Addr) (cdv ct : Value) (us : List Value), us.length = ps.length → bindArgs (PySem.W.fnOf x x (defArgs st) (defBody st) (defScope st) .none kV doc pm an cdv ct) ⟨us, []⟩ = pure (ps.zip us)) : CalX P w K mg base (k + 1) x (fun _ _ _ _ => False) :=
  mkCalX D S hb (fun _ _ _ _ h => h.elim) (fun _ _ _ _ _ _ _ _ _ _ h => h.elim)
/-- open_ways and choices, for any number of rules that are left -/
theorem open_allX {TM : Addr} (DO : Def1 K mg "open_ways" s_p_open_ways) (DC : Def1 K mg "choices" s_p_choices) (G : Glb mg) (CM : Cal P w K mg base 2 "meeting" (spMeet K)) (CN : CalX P w K mg base 3 "need_few" (spNeedFewX K TM)) (CJ : CalX P w K mg base 4 "joined" (spJoinX K TM)) : ∀ n, CalX P w K mg base (2 * n + 5) "open_ways" (spOWX K TM n)
  | 0 => calx_open (n := 0) DO G CM CN (fun m e => nomatch e) (calx_no (k := 3) DC sc_p_choices (fun _ _ _ _ _ _ us hl => match us, hl with | [_, _, _], _ => rfl))
  | n + 1 => calx_open (n := n + 1) DO G CM CN (fun m e => by cases e; rfl) (calx_choices (n := n) DC (open_allX DO DC G CM CN CJ n) CJ)
end
end Lk
/-! K36TH -/
set_option Elab.async false
set_option linter.all false
set_option maxRecDepth 100000
set_option maxHeartbeats 4000000
namespace Lk
open PySem PySem.Spec PyProof.Rows L2
section
variable {P : Program} {w : World} {K : PySem.W.Frag} {mg : Str → Option Value} {base : Heap}
/-! ### texts of sources and rows -/
def srcT : Src → Str
  | .nm x => x
  | .pat b e => Txt.join "*" [b, e]
def rowT (w : OW) : Str := Txt.join " " ((Src.pat w.l w.r :: w.vs).map srcT)
theorem join_eq (sep : Str) (l : List Str) : Txt.join sep l = Str.join sep l := StrLaws.glued_eq_join sep l
theorem join2_len {b e : Str} : (Txt.join "*" [b, e]).length = b.length + 1 + e.length := by
  rw [join_eq]
  show (b ++ "*" ++ e).length = _
  rw [len_add, len_add]
  rfl
theorem srcT_len {n : Nat} {s : Src} (h : SrcB n s) : (srcT s).length ≤ 2 * n + 1 := by
  cases s with
  | nm x => exact Nat.le_trans (show x.length ≤ n from h) (by omega)
  | pat b e =>
    have q : b.length ≤ n ∧ e.length ≤ n := h
    show (Txt.join "*" [b, e]).length ≤ _
    rw [join2_len]
    omega
def spST (K : PySem.W.Frag) : Sp := fun vs H Q _ => ∃ (v : V) (s : Src), vs = [v] ∧ Th K H v s.d ∧ SrcB 1000 s ∧ Q (.str (srcT s)) H
theorem sc_p_stext : FnScope ["source"] ["source"] (defScope s_p_source_text) := ⟨rfl, rfl, rfl, by decide +kernel, rfl, by decide +kernel, by decide +kernel⟩
theorem cal_p_stext (D : Def1 K mg "source_text" s_p_source_text) (T : Glc mg) : Cal P w K mg base 1 "source_text" (spST K) := by
  refine mkCal D sc_p_stext (fun _ _ _ _ _ _ us hl => match us, hl with | [_], _ => rfl) (fun vs H Q E h => ?_) (fun f cdv A outer s H vs Q E hr h => ?_)
  · obtain ⟨v, s, rfl, _⟩ := h
    rfl
  · obtain ⟨v, s, rfl, th, hb, k⟩ := h
    refine ⟨_, (pss_one (ps_ret (pe_ifExp (pt_val (pe_isi (T := "str") (pv 0) T.isinst T.str (by decide +kernel))) (pv 0) (pe_join pe_str (pv 0))))), ?_⟩
    refine go_ret ?_
    refine ⟨_, rfl, v, _, _, _, _, rfl, .ty _, th_ty th, kit_str _, _, rfl, ?_⟩
    cases s with
    | nm x =>
      cases th
      exact iteT' rfl ⟨_, rfl, k⟩
    | pat b e =>
      obtain ⟨q, rfl, hq⟩ := th_pair th
      have lb : b.length ≤ 1000 ∧ e.length ≤ 1000 := hb
      refine iteF' rfl ⟨⟨_, rfl⟩, _, rfl, "*", q, [b, e], rfl, rfl, .inr hq, ?_, k⟩
      show b.length + (e.length + 0) + 2 * 1 ≤ 16777216
      omega
/-! ### a dict with texts as keys -/
structure TxD {α : Type} (K : PySem.W.Frag) (tx : α → Str) (dd : α → PyData) (H : Hp) (D : Addr) (as : List α) (L : List (V × α)) : Prop where
  at_ : H D = some (.dK (L.map fun c => ((Sum.inr (tx c.2) : Key), c.1)))
  th : ∀ c ∈ L, Th K H c.1 (dd c.2) ∧ c.2 ∈ as
  nd : (L.map fun c => tx c.2).Nodup
  all : ∀ a ∈ as, ∃ c ∈ L, tx c.2 = tx a
  len : L.length ≤ as.length
structure Canon {α : Type} (tx : α → Str) (as bs : List α) : Prop where
  sub : ∀ b ∈ bs, b ∈ as
  all : ∀ a ∈ as, ∃ b ∈ bs, tx b = tx a
  nd : (bs.map tx).Nodup
  pw : (bs.map tx).Pairwise (fun x y => leT x y = true)
theorem Canon.uniq {α : Type} {tx : α → Str} {as bs cs : List α} (h : Canon tx as bs) (g : Canon tx as cs) (inj : ∀ a ∈ as, ∀ b ∈ as, tx a = tx b → a = b) : bs = cs := by
  have m : ∀ t, t ∈ bs.map tx ↔ t ∈ cs.map tx := fun t => by
    constructor
    · intro mt
      obtain ⟨b, mb, rfl⟩ := List.mem_map.mp mt
      obtain ⟨c, mc, e⟩ := g.all b (h.sub b mb)
      exact List.mem_map.mpr ⟨c, mc, e⟩
    · intro mt
      obtain ⟨b, mb, rfl⟩ := List.mem_map.mp mt
      obtain ⟨c, mc, e⟩ := h.all b (g.sub b mb)
      exact List.mem_map.mpr ⟨c, mc, e⟩
  have e : bs.map tx = cs.map tx := ((List.perm_ext_iff_of_nodup h.nd g.nd).mpr m).eq_of_pairwise (le := fun x y => leT x y = true) (fun a b _ _ h1 h2 => leT_anti a b h1 h2) h.pw g.pw
  refine List.ext_getElem (by simpa using congrArg List.length e) fun i h1 h2 => inj _ (h.sub _ (List.getElem_mem h1)) _ (g.sub _ (List.getElem_mem h2)) ?_
  have z := congrArg (fun l => l[i]?) e
  simp only [List.getElem?_map, List.getElem?_eq_getElem h1, List.getElem?_eq_getElem h2, Option.map_some, Option.some.injEq] at z
  exact z
theorem TxD.same {α : Type} {tx : α → Str} {dd : α → PyData} {H H' : Hp} {D : Addr} {as : List α} {L : List (V × α)} (h : TxD K tx dd H D as L) (s : Same H H') : TxD K tx dd H' D as L := ⟨s _ _ h.at_, fun c m => ⟨th_same s (h.th c m).1, (h.th c m).2⟩, h.nd, h.all, h.len⟩
theorem TxD.start {α : Type} {tx : α → Str} {dd : α → PyData} {H : Hp} {D : Addr} : TxD K tx dd (upd H D (.dK [])) D [] [] := ⟨upd_same, (fun _ m => nomatch m), List.nodup_nil, (fun _ m => nomatch m), Nat.le_refl _⟩
/-- one more -/
def txPut {α : Type} (tx : α → Str) (L : List (V × α)) (x : V) (a : α) : List (V × α) := if (L.any fun c => decide (tx c.2 = tx a)) = true then L.map (fun c => if tx c.2 = tx a then (x, a) else c) else L ++ [(x, a)]
theorem txPut_kv {α : Type} {tx : α → Str} (L : List (V × α)) (x : V) (a : α) : putK (L.map fun c => ((Sum.inr (tx c.2) : Key), c.1)) (Sum.inr (tx a)) x = (txPut tx L x a).map fun c => ((Sum.inr (tx c.2) : Key), c.1) := by
  have e1 : ((L.map fun c => ((Sum.inr (tx c.2) : Key), c.1)).any fun kv => decide (kv.1 = Sum.inr (tx a))) = L.any fun c => decide (tx c.2 = tx a) := by
    rw [List.any_map]
    congr 1
    funext c
    show decide ((Sum.inr (tx c.2) : Key) = Sum.inr (tx a)) = _
    rw [decide_eq_decide]
    exact ⟨fun h => Sum.inr.inj h, fun h => by rw [h]⟩
  unfold putK txPut
  rw [e1]
  split
  · rw [List.map_map, List.map_map]
    refine List.map_congr_left fun c _ => ?_
    show (if (Sum.inr (tx c.2) : Key) = Sum.inr (tx a) then ((Sum.inr (tx c.2) : Key), x) else (Sum.inr (tx c.2), c.1)) = _
    by_cases h : tx c.2 = tx a
    · rw [if_pos (by rw [h])]
      show _ = ((Sum.inr (tx (if tx c.2 = tx a then (x, a) else c).2) : Key), (if tx c.2 = tx a then (x, a) else c).1)
      rw [if_pos h, h]
    · rw [if_neg (fun z => h (Sum.inr.inj z))]
      show _ = ((Sum.inr (tx (if tx c.2 = tx a then (x, a) else c).2) : Key), (if tx c.2 = tx a then (x, a) else c).1)
      rw [if_neg h]
  · rw [List.map_append]
    rfl
theorem TxD.put {α : Type} {tx : α → Str} {dd : α → PyData} {H H' : Hp} {D : Addr} {as : List α} {L : List (V × α)} (h : TxD K tx dd H D as L) {x : V} {a : α} (at_ : H' D = some (.dK (putK (L.map fun c => ((Sum.inr (tx c.2) : Key), c.1)) (Sum.inr (tx a)) x))) (mv : ∀ c ∈ L, Th K H c.1 (dd c.2) → Th K H' c.1 (dd c.2)) (hx : Th K H' x (dd a)) :
    TxD K tx dd H' D (as ++ [a]) (txPut tx L x a) := by
  rw [txPut_kv] at at_
  have mem : ∀ c ∈ txPut tx L x a, c = (x, a) ∨ c ∈ L ∧ tx c.2 ≠ tx a ∨ c ∈ L ∧ ¬ (L.any fun c => decide (tx c.2 = tx a)) = true := fun c mc => by
    unfold txPut at mc
    split at mc
    · obtain ⟨d, md, rfl⟩ := List.mem_map.mp mc
      by_cases e : tx d.2 = tx a
      · exact .inl (if_pos e)
      · rw [if_neg e]
        exact .inr (.inl ⟨md, e⟩)
    · rename_i no
      rcases List.mem_append.mp mc with m | m
      · exact .inr (.inr ⟨m, no⟩)
      · exact .inl (List.mem_singleton.mp m)
  have mem2 : ∀ c ∈ txPut tx L x a, c = (x, a) ∨ c ∈ L := fun c mc => (mem c mc).imp id fun z => z.elim And.left And.left
  refine ⟨at_, fun c mc => ?_, ?_, fun b mb => ?_, ?_⟩
  · rcases mem2 c mc with rfl | m
    · exact ⟨hx, List.mem_append_right _ (List.mem_singleton.mpr rfl)⟩
    · exact ⟨mv c m (h.th c m).1, List.mem_append_left _ (h.th c m).2⟩
  · unfold txPut
    split
    · have e : (L.map fun c => if tx c.2 = tx a then (x, a) else c).map (fun c => tx c.2) = L.map fun c => tx c.2 := by
        rw [List.map_map]
        refine List.map_congr_left fun c _ => ?_
        show tx (if tx c.2 = tx a then (x, a) else c).2 = tx c.2
        by_cases z : tx c.2 = tx a
        · rw [if_pos z, z]
        · rw [if_neg z]
      rw [e]
      exact h.nd
    · rename_i no
      rw [List.map_append, List.nodup_append]
      refine ⟨h.nd, by simp, fun u mu v mv e => no ?_⟩
      obtain ⟨c, mc, rfl⟩ := List.mem_map.mp mu
      rw [List.mem_singleton.mp mv] at e
      exact List.any_eq_true.mpr ⟨c, mc, decide_eq_true e⟩
  · have get : ∀ c ∈ L, ∃ d ∈ txPut tx L x a, tx d.2 = tx c.2 := fun c mc => by
      unfold txPut
      split
      · refine ⟨_, List.mem_map.mpr ⟨c, mc, rfl⟩, ?_⟩
        by_cases z : tx c.2 = tx a
        · rw [if_pos z, z]
        · rw [if_neg z]
      · exact ⟨c, List.mem_append_left _ mc, rfl⟩
    rcases List.mem_append.mp mb with m | m
    · obtain ⟨c, mc, e⟩ := h.all b m
      obtain ⟨d, md, e2⟩ := get c mc
      exact ⟨d, md, e2.trans e⟩
    · rw [List.mem_singleton.mp m]
      by_cases any : (L.any fun c => decide (tx c.2 = tx a)) = true
      · obtain ⟨c, mc, e⟩ := List.any_eq_true.mp any
        obtain ⟨d, md, e2⟩ := get c mc
        exact ⟨d, md, e2.trans (of_decide_eq_true e)⟩
      · refine ⟨(x, a), ?_, rfl⟩
        unfold txPut
        rw [if_neg any]
        exact List.mem_append_right _ (List.mem_singleton.mpr rfl)
  · have z := h.len
    rw [List.length_append]
    unfold txPut
    split
    · rw [List.length_map]
      omega
    · rw [List.length_append]
      show _ + 1 ≤ _ + 1
      omega
/-- what stands at a key -/
theorem TxD.get {α : Type} {tx : α → Str} {dd : α → PyData} {H : Hp} {D : Addr} {as : List α} {L : List (V × α)} (h : TxD K tx dd H D as L) {t : Str} (m : t ∈ L.map fun c => tx c.2) : ∃ c ∈ L, tx c.2 = t ∧ DGet H D (.str t) (some c.1) := by
  have go : ∀ L : List (V × α), t ∈ (L.map fun c => tx c.2) → ∃ c ∈ L, tx c.2 = t ∧ valV (L.map fun c => ((Sum.inr (tx c.2) : Key), c.1)) (Sum.inr t) = some c.1 := fun L => by
    induction L with
    | nil => exact fun m => nomatch m
    | cons c L ih =>
      intro m
      by_cases e : tx c.2 = t
      · exact ⟨c, List.mem_cons_self, e, valV_pos (p := ((Sum.inr (tx c.2) : Key), c.1)) (by rw [e])⟩
      · obtain ⟨d, md, e2, v⟩ := ih ((List.mem_cons.mp m).resolve_left (fun z => e z.symm))
        refine ⟨d, List.mem_cons_of_mem _ md, e2, (valV_neg (p := ((Sum.inr (tx c.2) : Key), c.1)) (fun z => e (Sum.inr.inj z))).trans v⟩
  obtain ⟨c, mc, e, v⟩ := go L m
  refine ⟨c, mc, e, ?_⟩
  show DGet H D (kV (Sum.inr t)) _
  rw [← v]
  exact DGet.k h.at_
end
end Lk
/-! K36TI -/
set_option Elab.async false
set_option linter.all false
set_option maxRecDepth 100000
set_option maxHeartbeats 4000000
namespace Lk
open PySem PySem.Spec PyProof.Rows L2
section
variable {P : Program} {w : World} {K : PySem.W.Frag} {mg : Str → Option Value} {base : Heap}
theorem u64 {k : Nat} {A : Around} (h : Room k A) : A.units + 64 < cLine := by
  have := h.un
  omega
/-- data without dicts stands when a dict changes -/
theorem th_mutK {H : Hp} {D : Addr} {kvs : List (Key × V)} {o : HO} (hD : H D = some (.dK kvs)) {v : V} {d : PyData} (h : Th K H v d) : d.hasDict = false → Th K (upd H D o) v d := by
  refine Th.rec (motive_1 := fun v d _ => d.hasDict = false → Th K (upd H D o) v d) (motive_2 := fun vs ds _ => PyData.hasDictAll ds = false → ThAll K (upd H D o) vs ds) ?_ ?_ ?_ ?_ ?_ ?_ ?_ ?_ ?_ h
  · exact fun _ => .non
  · exact fun b _ => .bl b
  · exact fun i _ => .int i
  · exact fun x _ => .str x
  · intro q xs ds hs ha ih n
    have n2 : PyData.hasDictAll ds = false := by simpa only [PyData.hasDict] using n
    rcases hs with (hs | ⟨u, hs⟩) | hs
    · have ne : q ≠ D := fun z => by
        rw [z, hD] at hs
        cases hs
      exact .lst (.inl (.inl (by rw [upd_ne ne]; exact hs))) (ih n2)
    · have ne : q ≠ D := fun z => by
        rw [z, hD] at hs
        cases hs
      exact .lst (.inl (.inr ⟨u, by rw [upd_ne ne]; exact hs⟩)) (ih n2)
    · exact .lst (.inr hs) (ih n2)
  · intro q xs ds hs ha ih n
    have n2 : PyData.hasDictAll ds = false := by simpa only [PyData.hasDict] using n
    rcases hs with (hs | ⟨u, hs⟩) | hs
    · have ne : q ≠ D := fun z => by
        rw [z, hD] at hs
        cases hs
      exact .tup (.inl (.inl (by rw [upd_ne ne]; exact hs))) (ih n2)
    · have ne : q ≠ D := fun z => by
        rw [z, hD] at hs
        cases hs
      exact .tup (.inl (.inr ⟨u, by rw [upd_ne ne]; exact hs⟩)) (ih n2)
    · exact .tup (.inr hs) (ih n2)
  · intro q kvs ds hs _ ek ih n
    simp [PyData.hasDict] at n
  · exact fun _ => .nil
  · intro v vs d ds _ _ i1 i2 n
    have n2 : d.hasDict = false ∧ PyData.hasDictAll ds = false := by simpa only [PyData.hasDictAll, Bool.or_eq_false_iff] using n
    exact .cons (i1 n2.1) (i2 n2.2)
theorem src_hd (s : Src) : s.d.hasDict = false := by cases s <;> rfl
theorem srcs_hd : ∀ ss : List Src, PyData.hasDictAll (ss.map Src.d) = false
  | [] => rfl
  | s :: ss => by
    rw [List.map_cons, PyData.hasDictAll, src_hd, srcs_hd ss]
    rfl
theorem ow_hd (w : OW) : w.d.hasDict = false := by
  have e : (PyData.tuple (w.vs.map Src.d)).hasDict = false := by
    rw [PyData.hasDict]
    exact srcs_hd _
  unfold OW.d
  rw [PyData.hasDict, PyData.hasDictAll, PyData.hasDictAll, PyData.hasDictAll, e]
  rfl
/-- the sorted keys and what stands there -/
theorem srt_keys {α : Type} {tx : α → Str} {dd : α → PyData} {H : Hp} {D : Addr} {as : List α} {L : List (V × α)} (h : TxD K tx dd H D as L) {bs : List α} (e : bs.map tx = (L.map fun c => tx c.2).mergeSort leT) (sub : ∀ b ∈ bs, b ∈ as) : Canon tx as bs := by
  have pm := List.mergeSort_perm (L.map fun c => tx c.2) leT
  refine ⟨sub, fun a ma => ?_, ?_, ?_⟩
  · obtain ⟨c, mc, ec⟩ := h.all a ma
    have m : tx a ∈ bs.map tx := by
      rw [e, pm.mem_iff]
      exact List.mem_map.mpr ⟨c, mc, ec⟩
    obtain ⟨b, mb, eb⟩ := List.mem_map.mp m
    exact ⟨b, mb, eb⟩
  · rw [e]
    exact pm.nodup_iff.mpr h.nd
  · rw [e]
    exact List.pairwise_mergeSort leT_trans leT_total _
def spDiff (K : PySem.W.Frag) : Sp := fun vs H Q _ => ∃ (v : V) (ss : List Src), vs = [v] ∧ Th K H v (.tuple (ss.map Src.d)) ∧ (∀ s ∈ ss, SrcB 1000 s) ∧ ss.length ≤ 1000 ∧ ∀ (bs : List Src) (u : V) (H' : Hp), Same H H' → Canon srcT ss bs → Th K H' u (.tuple (bs.map Src.d)) → Q u H'
theorem sc_p_diff : FnScope ["sources", "found", "source", "text"] ["sources"] (defScope s_p_different) := ⟨rfl, rfl, rfl, by decide +kernel, rfl, by decide +kernel, by decide +kernel⟩
theorem cal_p_diff (D : Def1 K mg "different" s_p_different) (T : Glc mg) (gsorted : mg "sorted" = none) (CT : Cal P w K mg base 1 "source_text" (spST K)) : Cal P w K mg base 2 "different" (spDiff K) := by
  refine mkCal D sc_p_diff (fun _ _ _ _ _ _ us hl => match us, hl with | [_], _ => rfl) (fun vs H Q E h => ?_) (fun f cdv A outer s H vs Q E hr h => ?_)
  · obtain ⟨v, ss, rfl, _⟩ := h
    rfl
  · obtain ⟨v, ss, rfl, th, hb, few, k⟩ := h
    refine ⟨_, (pss_cons (ps_set (i := 1) sc_p_diff.nd rfl (.inr rfl) (pe_dc (own := [("source", 2)]) (g := gName 2) (tt := tYes) (by rfl) sc_p_diff.nd (pi_tup (pv 0)) (blkOk_by (own := [("source", 2)]) (N := ["sources", "found", "source", "text"]) (sc := defScope s_p_different) (by decide +kernel)) (fun _ _ _ _ _ => pg_name (i := 2) sc_p_diff.nd rfl (Or.inl rfl)) (fun _ _ _ _ _ => pts_nil) (fun _ _ _ _ _ => (pe_cal CT hr (by omega) (pa_cons (pv 2) pa_nil))) (fun _ _ _ _ _ => (pv 2))))
    (pss_one (ps_ret (pe_callTy call_tuple_of (by rfl) T.tuple (by decide +kernel) (pa_cons (pe_lc (own := [("text", 3)]) (g := gName 3) (tt := tYes) (by rfl) sc_p_diff.nd (pi_list (pe_callB (call_sortedK rfl (u64 hr)) (by rfl) gsorted (by decide +kernel) (pa_cons (pv 1) pa_nil))) (blkOk_by (own := [("text", 3)]) (N := ["sources", "found", "source", "text"]) (sc := defScope s_p_different) (by decide +kernel)) (fun _ _ _ _ _ => pg_name (i := 3) sc_p_diff.nd rfl (Or.inl rfl)) (fun _ _ _ _ _ => pts_nil) (fun _ _ _ _ _ => (pe_dget (units1 hr.units) (pv 1) (pv 3) (fun _ _ => rfl)))) pa_nil))))), ?_⟩
    obtain ⟨q, xs, rfl, hq, hx⟩ := th_of_tup th
    have lx := thAll_len hx
    rw [List.length_map] at lx
    refine sq_asg ?_
    refine ⟨_, rfl, q, rfl, ⟨_, hq⟩, fun Dd nD => ?_⟩
    refine dc_tup (K := K) (a := q) (xs := xs) (fun i H' => Same H H' ∧ ∃ L, TxD K srcT Src.d H' Dd (ss.take i) L) ⟨same_upd nD, [], TxD.start⟩ (fun i H' _ h => Same.seqT h.1 hq) ?_ ?_
    · rintro i x H1 hxi ⟨s1, L, TD⟩
      obtain ⟨d, hd, thx⟩ := th_at (thAll_same s1 hx) hxi
      obtain ⟨a, ha, rfl⟩ := Option.map_eq_some_iff.mp ((List.getElem?_map ..).symm.trans hd)
      have ma := List.mem_of_getElem? ha
      have ll := TD.len
      have lt := (List.getElem?_eq_some_iff.mp ha).1
      have l2 := List.length_take_le i ss
      refine ⟨rfl, ⟨_, rfl, x, a, rfl, thx, hb a ma, ?_⟩⟩
      refine ⟨_, rfl, _, Sum.inr (srcT a), rfl, TD.at_, by rw [List.length_map, sizeLine_eq]; omega, same_mut s1 nD, txPut srcT L x a, ?_⟩
      rw [List.take_add_one, ha]
      exact TD.put upd_same (fun c mc t => th_mutK TD.at_ t (src_hd _)) (th_mutK TD.at_ thx (src_hd _))
    · rintro H1 ⟨s1, L, TD⟩
      rw [lx, List.take_length] at TD
      refine on_go (go_ret ?_)
      have lL := TD.len
      refine ⟨_, rfl, Dd, _, L.map fun c => srcT c.2, rfl, TD.at_, by rw [List.map_map, List.map_map]; rfl, by rw [List.length_map]; omega, fun p np => ⟨p, rfl, ⟨_, SqL.of upd_same⟩, ?_⟩⟩
      have s2 := same_upd (o := .lst (((L.map fun c => srcT c.2).mergeSort leT).map V.str)) np
      have hp : upd H1 p (.lst (((L.map fun c => srcT c.2).mergeSort leT).map V.str)) p = some (.lst (((L.map fun c => srcT c.2).mergeSort leT).map V.str)) := upd_same
      have TD2 := TD.same s2
      have s02 := s1.trans s2
      have pm := List.mergeSort_perm (L.map fun c => srcT c.2) leT
      have lT : ((L.map fun c => srcT c.2).mergeSort leT).length ≤ 1000 := by
        rw [pm.length_eq, List.length_map]
        omega
      generalize upd H1 p (.lst (((L.map fun c => srcT c.2).mergeSort leT).map V.str)) = H2 at s2 hp TD2 s02 ⊢
      obtain ⟨T', eT⟩ : ∃ T', T' = (L.map fun c => srcT c.2).mergeSort leT := ⟨_, rfl⟩
      rw [← eT] at hp lT pm
      intro F nF
      refine lc_list (K := K) (a := p) (xs := T'.map V.str) (fun i H' => Same H2 H' ∧ ∃ (vs : List V) (bs : List Src), H' F = some (.lst vs) ∧ ThAll K H' vs (bs.map Src.d) ∧ bs.map srcT = T'.take i ∧ ∀ b ∈ bs, b ∈ ss) ⟨same_upd nF, [], [], upd_same, .nil, rfl, fun _ m => nomatch m⟩ (fun i H' _ h => SqL.of (h.1 _ _ hp)) ?_ ?_
      · rintro i x H3 hxi ⟨s3, vs, bs, hF, thB, eB, sub⟩
        obtain ⟨t, ht, rfl⟩ := Option.map_eq_some_iff.mp ((List.getElem?_map ..).symm.trans hxi)
        have mt : t ∈ L.map fun c => srcT c.2 := pm.mem_iff.mp (List.mem_of_getElem? ht)
        have TD3 := TD2.same s3
        obtain ⟨c, mc, ec, dg⟩ := TD3.get mt
        have lv := thAll_len thB
        rw [List.length_map] at lv
        have lb := congrArg List.length eB
        rw [List.length_map] at lb
        have l2 := List.length_take_le i T'
        have l3 := (List.getElem?_eq_some_iff.mp ht).1
        refine ⟨rfl, ⟨_, rfl, _, rfl, Dd, c.1, rfl, dg, vs, hF, by rw [sizeLine_eq]; omega, same_mut s3 nF, vs ++ [c.1], bs ++ [c.2], upd_same, ?_, ?_, fun b mb => ?_⟩⟩
        · rw [List.map_append]
          exact thAll_app (thAll_mutL hF thB (srcs_flat bs).1) (.cons (th_mutL hF (TD3.th c mc).1 (src_nl _)) .nil)
        · rw [List.map_append, eB, List.take_add_one, ht]
          show _ ++ [srcT c.2] = _ ++ [t]
          rw [ec]
        · rcases List.mem_append.mp mb with m | m
          · exact sub b m
          · rw [List.mem_singleton.mp m]
            exact (TD3.th c mc).2
      · rintro H3 ⟨s3, vs, bs, hF, thB, eB, sub⟩
        rw [List.length_map, List.take_length, eT] at eB
        refine ⟨F, vs, rfl, .inl ⟨SqL.of hF, fun l nl => ?_⟩⟩
        refine k bs _ _ ((s02.trans s3).trans (same_upd nl)) (srt_keys TD2 eB sub) ?_
        exact .tup (SqT.of upd_same) (thAll_same (same_upd nl) thB)
end
end Lk
/-! K36TJ -/
set_option Elab.async false
set_option linter.all false
set_option maxRecDepth 100000
set_option maxHeartbeats 4000000
namespace Lk
open PySem PySem.Spec PyProof.Rows L2
section
variable {P : Program} {w : World} {K : PySem.W.Frag} {mg : Str → Option Value} {base : Heap}
theorem join_len {sep : Str} {l : List Str} {n : Nat} (h : ∀ x ∈ l, x.length ≤ n) : (l.map (·.length)).sum ≤ l.length * n := by
  induction l with
  | nil => exact Nat.zero_le _
  | cons x l ih =>
    rw [List.map_cons, List.sum_cons, List.length_cons, Nat.add_mul, Nat.one_mul]
    have a := h x List.mem_cons_self
    have b := ih fun y m => h y (List.mem_cons_of_mem _ m)
    omega
def spRT (K : PySem.W.Frag) : Sp := fun vs H Q _ => ∃ (v : V) (w : OW), vs = [v] ∧ Th K H v w.d ∧ OWB 1000 w ∧ w.vs.length ≤ 1000 ∧ ∀ H', Same H H' → Q (.str (rowT w)) H'
theorem sc_p_rtext : FnScope ["row", "begin", "end", "sources", "source"] ["row"] (defScope s_p_row_text) := ⟨rfl, rfl, rfl, by decide +kernel, rfl, by decide +kernel, by decide +kernel⟩
theorem cal_p_rtext (D : Def1 K mg "row_text" s_p_row_text) (CT : Cal P w K mg base 1 "source_text" (spST K)) : Cal P w K mg base 2 "row_text" (spRT K) := by
  refine mkCal D sc_p_rtext (fun _ _ _ _ _ _ us hl => match us, hl with | [_], _ => rfl) (fun vs H Q E h => ?_) (fun f cdv A outer s H vs Q E hr h => ?_)
  · obtain ⟨v, w, rfl, _⟩ := h
    rfl
  · obtain ⟨v, w, rfl, th, hb, few, k⟩ := h
    refine ⟨_, (pss_cons (ps_asg (pv 0) (pg_tup rfl (pgs_cons (pg_name (i := 1) sc_p_rtext.nd rfl (.inl rfl)) (pgs_cons (pg_name (i := 2) sc_p_rtext.nd rfl (.inl rfl)) (pgs_cons (pg_name (i := 3) sc_p_rtext.nd rfl (.inl rfl)) pgs_nil)))))
    (pss_one (ps_ret (pe_join pe_str (pe_lc (own := [("source", 4)]) (g := gName 4) (tt := tYes) (by rfl) sc_p_rtext.nd (pi_tup (pe_tup (pa_cons (pe_tup (pa_cons (pv 1) (pa_cons (pv 2) pa_nil))) (StX.pa_star (pv 3) pa_nil)))) (blkOk_by (own := [("source", 4)]) (N := ["row", "begin", "end", "sources", "source"]) (sc := defScope s_p_row_text) (by decide +kernel)) (fun _ _ _ _ _ => pg_name (i := 4) sc_p_rtext.nd rfl (Or.inl rfl)) (fun _ _ _ _ _ => pts_nil) (fun _ _ _ _ _ => (pe_cal CT hr (by omega) (pa_cons (pv 4) pa_nil)))))))), ?_⟩
    obtain ⟨q, t, xs, rfl, hq, ht, hx⟩ := th_ow th
    have lx := thAll_len hx
    rw [List.length_map] at lx
    refine sq_asg ?_
    refine ⟨_, rfl, q, _, rfl, hq, rfl, _, _, rfl, _, _, rfl, _, _, rfl, rfl, go_ret ?_⟩
    refine ⟨⟨_, rfl⟩, ?_⟩
    refine ⟨_, rfl, _, rfl, (by show 2 ≤ sizeLine; decide), fun t1 n1 => ⟨_, rfl, t, xs, rfl, .inl (Same.seqT (same_upd n1) ht), ?_, fun u nu => ?_⟩⟩
    · show (V.ref t1 :: (xs ++ [])).length ≤ sizeLine
      rw [List.append_nil, List.length_cons, sizeLine_eq]
      omega
    have s1 : Same H (upd H t1 (.tup [.str w.l, .str w.r])) := same_upd n1
    have h1 : upd H t1 (.tup [.str w.l, .str w.r]) t1 = some (.tup [.str w.l, .str w.r]) := upd_same
    generalize upd H t1 (.tup [.str w.l, .str w.r]) = H1 at s1 h1 nu ⊢
    have s2 := same_upd (o := .tup (V.ref t1 :: xs)) nu
    have hu : upd H1 u (.tup (V.ref t1 :: xs)) u = some (.tup (V.ref t1 :: xs)) := upd_same
    have eu : upd H1 u (.tup (V.ref t1 :: (xs ++ []))) = upd H1 u (.tup (V.ref t1 :: xs)) := by rw [List.append_nil]
    show _
    refine eu ▸ ?_
    generalize upd H1 u (.tup (V.ref t1 :: xs)) = H2 at s2 hu ⊢
    have s02 := s1.trans s2
    have hx2 : ThAll K H2 (V.ref t1 :: xs) ((Src.pat w.l w.r :: w.vs).map Src.d) := .cons (.tup (SqT.of (s2 _ _ h1)) (.cons (.str _) (.cons (.str _) .nil))) (thAll_same s02 hx)
    have hbS : ∀ s ∈ Src.pat w.l w.r :: w.vs, SrcB 1000 s := fun s ms => by
      rcases List.mem_cons.mp ms with rfl | ms
      · exact ⟨hb.1, hb.2.1⟩
      · exact hb.2.2 s ms
    have lS : (Src.pat w.l w.r :: w.vs).length ≤ 1001 := by rw [List.length_cons]; omega
    have lxs : (V.ref t1 :: xs).length = (Src.pat w.l w.r :: w.vs).length := by rw [List.length_cons, List.length_cons, lx]
    have er : rowT w = Txt.join " " ((Src.pat w.l w.r :: w.vs).map srcT) := rfl
    generalize Src.pat w.l w.r :: w.vs = ss at hx2 hbS lS lxs er
    generalize V.ref t1 :: xs = xs2 at hx2 hu lxs
    refine ⟨u, rfl, ⟨_, SqT.of hu⟩, fun F nF => ?_⟩
    refine lc_tup (K := K) (a := u) (xs := xs2) (fun i H' => Same H2 H' ∧ H' F = some (.lst (((ss.take i).map srcT).map V.str))) ⟨same_upd nF, upd_same⟩ (fun i H' _ h => Same.seqT h.1 (SqT.of hu)) ?_ ?_
    · rintro i x H3 hxi ⟨s3, hF⟩
      obtain ⟨d, hd, thx⟩ := th_at (thAll_same s3 hx2) hxi
      obtain ⟨a, ha, rfl⟩ := Option.map_eq_some_iff.mp ((List.getElem?_map ..).symm.trans hd)
      have l3 := (List.getElem?_eq_some_iff.mp ha).1
      refine ⟨rfl, ⟨_, rfl, x, a, rfl, thx, hbS a (List.mem_of_getElem? ha), _, hF, ?_, same_mut s3 nF, ?_⟩⟩
      · rw [List.length_map, List.length_map, List.length_take, sizeLine_eq]
        omega
      · rw [upd_same, List.take_add_one, ha, List.map_append, List.map_append]
        rfl
    · rintro H3 ⟨s3, hF⟩
      rw [lxs, List.take_length] at hF
      have sum := join_len (sep := " ") (l := ss.map srcT) (n := 2001) fun x mx => by
        obtain ⟨a, ma, rfl⟩ := List.mem_map.mp mx
        exact srcT_len (hbS a ma)
      rw [List.length_map] at sum
      refine ⟨" ", F, ss.map srcT, rfl, rfl, .inl (SqL.of hF), ?_, ?_⟩
      · rw [List.length_map]
        have o : (" " : Str).length = 1 := rfl
        rw [o]
        omega
      · rw [← er]
        exact k _ (s02.trans s3)
end
end Lk
/-! K36TL -/
set_option Elab.async false
set_option linter.all false
set_option maxRecDepth 100000
set_option maxHeartbeats 4000000
namespace Lk
open PySem PySem.Spec PyProof.Rows L2
section
variable {P : Program} {w : World} {K : PySem.W.Frag} {mg : Str → Option Value} {base : Heap}
/-! ### rows that lie under others -/
def SrcK : Src → Prop
  | .pat b e => PyData.strOk b = true ∧ PyData.strOk e = true
  | .nm x => PyData.strOk x = true
def OWK (w : OW) : Prop := PyData.strOk w.l = true ∧ PyData.strOk w.r = true ∧ ∀ s ∈ w.vs, SrcK s
theorem cut_ok {z : Str} {lo hi : Option Int} (h : PyData.strOk z = true) : PyData.strOk (cutS z lo hi) = true := by
  rw [ok_iff] at h ⊢
  exact fun c m => h c ((List.drop_sublist _ _).subset ((List.take_sublist _ _).subset m))
theorem cat_ok {x y : Str} (h : PyData.strOk x = true) (g : PyData.strOk y = true) : PyData.strOk (x ++ y) = true := by
  rw [ok_iff] at h g ⊢
  intro c m
  have e : TL.tl (x ++ y) = TL.tl x ++ TL.tl y := TL.tl_append x y
  rw [e] at m
  rcases List.mem_append.mp m with m | m
  · exact h c m
  · exact g c m
theorem wid_k {s : Src} {ml mr : Str} (h : SrcK s) (l : PyData.strOk ml = true) (r : PyData.strOk mr = true) : SrcK (wdn ml mr s) := by
  cases s with
  | pat b e => exact ⟨cat_ok h.1 l, cat_ok r h.2⟩
  | nm x => exact h
instance : DecidableEq Src := fun s t => by
  cases s with
  | pat b e => cases t with
    | pat c d => exact if h : b = c ∧ e = d then isTrue (by rw [h.1, h.2]) else isFalse (fun z => by cases z; exact h ⟨rfl, rfl⟩)
    | nm y => exact isFalse (fun z => nomatch z)
  | nm x => cases t with
    | pat c d => exact isFalse (fun z => nomatch z)
    | nm y => exact if h : x = y then isTrue (by rw [h]) else isFalse (fun z => by cases z; exact h rfl)
theorem eqv_src (s t : Src) : PyData.eqv s.d t.d = decide (s = t) := by
  cases s with
  | pat b e => cases t with
    | pat c d =>
      show PyData.eqv (.tuple [.str b, .str e]) (.tuple [.str c, .str d]) = _
      rw [PyData.eqv, PyData.eqvAll, PyData.eqvAll, PyData.eqvAll, PyData.eqv, PyData.eqv, Bool.and_true, Bool.eq_iff_iff, Bool.and_eq_true, beq_iff_eq, beq_iff_eq, decide_eq_true_iff, Src.pat.injEq]
    | nm y => exact (decide_eq_false (fun z => nomatch z)).symm
  | nm x => cases t with
    | pat c d => exact (decide_eq_false (fun z => nomatch z)).symm
    | nm y =>
      show PyData.eqv (.str x) (.str y) = _
      rw [PyData.eqv, Bool.eq_iff_iff, beq_iff_eq, decide_eq_true_iff, Src.nm.injEq]
theorem any_src (ss : List Src) (t : Src) : ((ss.map Src.d).any fun z => PyData.eqv z t.d) = decide (t ∈ ss) := by
  rw [List.any_map, Bool.eq_iff_iff, List.any_eq_true, decide_eq_true_iff]
  constructor
  · rintro ⟨s, ms, e⟩
    have e2 : PyData.eqv s.d t.d = true := e
    rw [eqv_src, decide_eq_true_iff] at e2
    exact e2 ▸ ms
  · intro m
    exact ⟨t, m, by show PyData.eqv t.d t.d = true; rw [eqv_src]; exact decide_eq_true rfl⟩
theorem src_lay {s : Src} (h : SrcK s) : s.d.canLay0 = true ∧ s.d.depth ≤ 1 := by
  cases s with
  | pat b e =>
    have h1 : (PyData.str b).canLay0 = true := h.1
    have h2 : (PyData.str e).canLay0 = true := h.2
    refine ⟨?_, ?_⟩
    · show (PyData.tuple [.str b, .str e]).canLay0 = true
      rw [PyData.canLay0, PyData.canLayAll0, PyData.canLayAll0, PyData.canLayAll0, h1, h2]
      rfl
    · show (PyData.tuple [.str b, .str e]).depth ≤ 1
      simp [PyData.depth, PyData.depthAll]
  | nm x => exact ⟨h, Nat.zero_le _⟩
theorem srcs_lay : ∀ {ss : List Src}, (∀ s ∈ ss, SrcK s) → PyData.canLayAll0 (ss.map Src.d) = true ∧ PyData.depthAll (ss.map Src.d) ≤ 1
  | [], _ => ⟨rfl, Nat.zero_le _⟩
  | s :: ss, h => by
    obtain ⟨a, b⟩ := srcs_lay fun t m => h t (List.mem_cons_of_mem _ m)
    obtain ⟨a1, b1⟩ := src_lay (h s List.mem_cons_self)
    refine ⟨?_, ?_⟩
    · rw [List.map_cons, PyData.canLayAll0, a, a1]
      rfl
    · rw [List.map_cons, PyData.depthAll]
      omega
theorem src_sh {s : Src} (h : SrcK s) : SeqAt.shaped s.d = true := by
  obtain ⟨a, b⟩ := src_lay h
  unfold SeqAt.shaped
  rw [a, Bool.true_and, decide_eq_true_eq]
  omega
theorem srcs_sh {ss : List Src} (h : ∀ s ∈ ss, SrcK s) : SeqAt.shaped (.tuple (ss.map Src.d)) = true := by
  obtain ⟨a, b⟩ := srcs_lay h
  unfold SeqAt.shaped
  rw [PyData.canLay0, a, Bool.true_and, decide_eq_true_eq, PyData.depth]
  omega
end
end Lk
/-! K36TM -/
set_option Elab.async false
set_option linter.all false
set_option maxRecDepth 100000
set_option maxHeartbeats 4000000
namespace Lk
open PySem PySem.Spec PyProof.Rows L2
section
variable {P : Program} {w : World} {K : PySem.W.Frag} {mg : Str → Option Value} {base : Heap}
def lyU (row o : OW) : Bool := (Txt.startswith row.l o.l && Txt.endswith row.r o.r) && o.vs.all fun s => decide (wdn (drp row.l o.l) (ahd row.r o.r) s ∈ row.vs)
def spLies (K : PySem.W.Frag) : Sp := fun vs H Q _ => ∃ (v : V) (l : Addr) (xs : List V) (row : OW) (rows : List OW), vs = [v, .ref l] ∧ Th K H v row.d ∧ SqL K H l xs ∧ ThAll K H xs (rows.map OW.d) ∧ OWB 1000 row ∧ OWK row ∧ row.vs.length ≤ 1000 ∧ (∀ o ∈ rows, OWB 1000 o ∧ OWK o ∧ o.vs.length ≤ 1000) ∧
  ∀ H', Same H H' → Q (.bl (rows.any (lyU row))) H'
theorem sc_p_lies : FnScope ["row", "rows", "begin", "end", "sources", "other_begin", "other_end", "other_sources", "more", "source"] ["row", "rows"] (defScope s_p_lies_under) := ⟨rfl, rfl, rfl, by decide +kernel, rfl, by decide +kernel, by decide +kernel⟩
theorem cal_p_lies (D : Def1 K mg "lies_under" s_p_lies_under) (G : Glb mg) (gall : mg "all" = none) (CH : Cal P w K mg base 1 "ahead" spAhead) (CW : Cal P w K mg base 1 "widened" (spWid K)) : Cal P w K mg base 2 "lies_under" (spLies K) := by
  refine mkCal D sc_p_lies (fun _ _ _ _ _ _ us hl => match us, hl with | [_, _], _ => rfl) (fun vs H Q E h => ?_) (fun f cdv A outer s H vs Q E hr h => ?_)
  · obtain ⟨v, l, xs, row, rows, rfl, _⟩ := h
    rfl
  · obtain ⟨v, l, xs, row, rows, rfl, th, hl, hx, rb, rk, rl, each, k⟩ := h
    refine ⟨_, (pss_cons (ps_asg (pv 0) (pg_tup rfl (pgs_cons (pg_name (i := 2) sc_p_lies.nd rfl (.inl rfl)) (pgs_cons (pg_name (i := 3) sc_p_lies.nd rfl (.inl rfl)) (pgs_cons (pg_name (i := 4) sc_p_lies.nd rfl (.inr rfl)) pgs_nil)))))
    (pss_cons (ps_for PassesOwn.never rfl (pi_list (pv 1)) (pg_tup rfl (pgs_cons (pg_name (i := 5) sc_p_lies.nd rfl (.inl rfl)) (pgs_cons (pg_name (i := 6) sc_p_lies.nd rfl (.inl rfl)) (pgs_cons (pg_name (i := 7) sc_p_lies.nd rfl (.inl rfl)) pgs_nil))))
    (pss_one (ps_if (PW.pt (pw_and (pt_val (pe_m1 PySem.F.slot_str_startswith PySem.F.type_str_startswith mt_startswith (pv 2) (pv 5))) (pw_and1 (pt_val (pe_m1 PySem.F.slot_str_endswith PySem.F.type_str_endswith mt_endswith (pv 3) (pv 6)))))) (pss_cons (ps_set (i := 8) sc_p_lies.nd rfl (.inr rfl) (pe_tup (pa_cons (pe_slice sl_str (pv 2) (po_some (pe_callB call_len_str (by rfl) G.len PySem.boot_len (pa_cons (pv 5) pa_nil))) po_none) (pa_cons (pe_cal CH hr (by omega) (pa_cons (pv 3) (pa_cons (pv 6) pa_nil))) pa_nil))))
    (pss_one (ps_if (pt_val (pe_callB (cr_all rfl) (by rfl) gall (by decide +kernel) (pa_cons (pe_lc (own := [("source", 9)]) (g := gName 9) (tt := tYes) (by rfl) sc_p_lies.nd (pi_tup (pv 7)) (blkOk_by (own := [("source", 9)]) (N := ["row", "rows", "begin", "end", "sources", "other_begin", "other_end", "other_sources", "more", "source"]) (sc := defScope s_p_lies_under) (by decide +kernel)) (fun _ _ _ _ _ => pg_name (i := 9) sc_p_lies.nd rfl (Or.inl rfl)) (fun _ _ _ _ _ => pts_nil) (fun _ _ _ _ _ => (pe_cmpR (show OpR _ (compareOp .In) (rInT K) from op_inT (units65 hr)) (pe_cal CW hr (by omega) (pa_cons (pv 9) (pa_cons (pv 8) pa_nil))) (pv 4) (by rfl)))) pa_nil))) (pss_one (ps_ret pe_bl)) pss_nil))) pss_nil)))
    (pss_one (ps_ret pe_bl)))), ?_⟩
    obtain ⟨q, t, ys, rfl, hq, ht, hy⟩ := th_ow th
    have lx := thAll_len hx
    rw [List.length_map] at lx
    have big : ∀ n : Nat, n ≤ 100000 → n ≤ sizeLine := fun n h => Nat.le_trans h (by decide)
    refine sq_asg ?_
    refine ⟨_, rfl, q, _, rfl, hq, rfl, _, _, rfl, _, _, rfl, _, _, rfl, rfl, sq_for ?_⟩
    refine ⟨_, rfl, l, rfl, ⟨_, hl⟩, for_list (K := K) (a := l) (xs := xs) (fun i σ H' => ∃ v5 v6 v7 v8 : Option V, σ = [some (.ref q), some (.ref l), some (.str row.l), some (.str row.r), some (.ref t), v5, v6, v7, v8, none] ∧ Same H H' ∧ (rows.take i).any (lyU row) = false)
      ⟨_, _, _, _, rfl, Same.refl _, rfl⟩ (fun i σ H' _ ⟨_, _, _, _, _, s, _⟩ => Same.seq s hl) ?_ ?_⟩
    · rintro i x σ H1 hxi ⟨v5, v6, v7, v8, rfl, s1, no⟩
      obtain ⟨d, hd, thx⟩ := th_at (thAll_same s1 hx) hxi
      obtain ⟨o, ho, rfl⟩ := Option.map_eq_some_iff.mp ((List.getElem?_map ..).symm.trans hd)
      have mo := List.mem_of_getElem? ho
      obtain ⟨ob, ok, ol⟩ := each o mo
      obtain ⟨q2, t2, zs, rfl, hq2, ht2, hz⟩ := th_ow thx
      have lz := thAll_len hz
      rw [List.length_map] at lz
      have next : lyU row o = false → (rows.take (i + 1)).any (lyU row) = false := fun e => by
        rw [List.take_add_one, ho, List.any_append, no]
        show (false || ([o].any (lyU row))) = false
        rw [List.any_cons, List.any_nil, e]
        rfl
      have found : lyU row o = true → rows.any (lyU row) = true := fun e => List.any_eq_true.mpr ⟨o, mo, e⟩
      refine ⟨q2, _, rfl, hq2, rfl, _, _, rfl, _, _, rfl, _, _, rfl, rfl, ?_⟩
      refine go_if ?_
      refine ⟨_, rfl, ⟨_, rfl⟩, _, rfl, row.l, o.l, rfl, rfl, _, rfl, ?_⟩
      by_cases z1 : Txt.startswith row.l o.l = true
      · refine iteT' z1 ⟨_, rfl, ⟨_, rfl⟩, _, rfl, row.r, o.r, rfl, rfl, _, rfl, ?_⟩
        by_cases z2 : Txt.endswith row.r o.r = true
        · refine iteT' z2 (sq_asg ?_)
          have wl := drp_len row.l o.l
          have wr := ahd_len row.r o.r
          have b1 := rb.1
          have b2 := rb.2.1
          have b3 := ob.1
          have b4 := ob.2.1
          refine mk_tup (K := K) (ds := [.str (drp row.l o.l), .str (ahd row.r o.r)]) (mk_cons (mk_drp rfl rfl (big _ (by omega)) (big _ (by omega))) (mk_cons (mk_ahd rfl rfl (big _ (by omega)) (big _ (by omega))) mk_nil)) (by show (2 : Nat) ≤ 1000; decide) H1 (Same.refl H1) _ fun lo H2 s2 thl => ?_
          obtain ⟨mq, rfl, hmq⟩ := th_pair thl
          have s12 := s1.trans s2
          refine on_go (go_if ?_)
          refine ⟨_, rfl, t2, rfl, ⟨_, Same.seqT s2 ht2⟩, fun F nF => ?_⟩
          refine lc_tup (K := K) (a := t2) (xs := zs) (fun j H' => Same H2 H' ∧ H' F = some (.lst (((o.vs.take j).map fun s => decide (wdn (drp row.l o.l) (ahd row.r o.r) s ∈ row.vs)).map V.bl))) ⟨same_upd nF, upd_same⟩ (fun j H' _ h => Same.seqT (s2.trans h.1) ht2) ?_ ?_
          · rintro j y H3 hyj ⟨s3, hF⟩
            obtain ⟨d, hd, thy⟩ := th_at (thAll_same (s2.trans s3) hz) hyj
            obtain ⟨a, ha, rfl⟩ := Option.map_eq_some_iff.mp ((List.getElem?_map ..).symm.trans hd)
            have ma := List.mem_of_getElem? ha
            have l3 := (List.getElem?_eq_some_iff.mp ha).1
            refine ⟨rfl, ?_⟩
            refine ⟨_, rfl, _, rfl, y, mq, a, _, _, rfl, thy, Same.seqT s3 hmq, (ob.2.2 a ma).le (by decide), by omega, by omega, fun u H4 s4 thu => ?_⟩
            have wk := wid_k (ok.2.2 a ma) (cut_ok (lo := some (o.l.length : Int)) (hi := none) rk.1) (cut_ok (lo := none) (hi := some ((row.r.length - o.r.length : Nat) : Int)) rk.2.1)
            have shR := srcs_sh rk.2.2
            have ht4 : Th K H4 (.ref t) (.tuple (row.vs.map Src.d)) := .tup (Same.seqT ((s12.trans s3).trans s4) ht) (thAll_same ((s12.trans s3).trans s4) hy)
            refine ⟨_, rfl, _, _, th_dp thu (SeqAt.canLay_of_shaped (src_sh wk)), th_dp ht4 (SeqAt.canLay_of_shaped shR), src_sh wk, shR, _, s4 _ _ hF, ?_, same_mut (s3.trans s4) nF, ?_⟩
            · rw [List.length_map, List.length_map, List.length_take, sizeLine_eq]
              omega
            · rw [upd_same, List.take_add_one, ha, List.map_append, List.map_append, any_src]
              rfl
          · rintro H3 ⟨s3, hF⟩
            rw [lz, List.take_length] at hF
            refine ⟨F, _, rfl, SqL.of hF, _, rfl, ?_⟩
            have e : ((o.vs.map fun s => decide (wdn (drp row.l o.l) (ahd row.r o.r) s ∈ row.vs)).all id) = lyU row o := by
              unfold lyU
              rw [z1, z2, List.all_map]
              rfl
            rw [e]
            cases c : lyU row o with
            | true =>
              refine iteT' rfl (go_ret ?_)
              have kk := k H3 (s12.trans s3)
              rw [found c] at kk
              exact kk
            | false => exact iteF' rfl (nxt_go ⟨_, _, _, _, rfl, s12.trans s3, next c⟩)
        · have z3 := Bool.eq_false_iff.mpr z2
          refine iteF' z3 (nxt_go ⟨_, _, _, _, rfl, s1, next ?_⟩)
          unfold lyU
          rw [z3, Bool.and_false, Bool.false_and]
      · have z3 := Bool.eq_false_iff.mpr z1
        refine iteF' z3 (nxt_go ⟨_, _, _, _, rfl, s1, next ?_⟩)
        unfold lyU
        rw [z3, Bool.false_and, Bool.false_and]
    · rintro σ H1 ⟨v5, v6, v7, v8, rfl, s1, no⟩
      rw [lx, List.take_length] at no
      refine ends_go (go_ret ?_)
      have kk := k H1 s1
      rw [no] at kk
      exact kk
end
end Lk
/-! K36TN -/
set_option Elab.async false
set_option linter.all false
set_option maxRecDepth 100000
set_option maxHeartbeats 4000000
namespace Lk
open PySem PySem.Spec PyProof.Rows L2
section
variable {P : Program} {w : World} {K : PySem.W.Frag} {mg : Str → Option Value} {base : Heap}
/-! ### letters -/
def capX (x : Str) : Prop := ∀ c ∈ TL.tl x, upB c = true
def smaX (x : Str) : Prop := ∀ c ∈ TL.tl x, loB c = true
def ltrX (x : Str) : Prop := ∀ c ∈ TL.tl x, upB c = true ∨ loB c = true
def SrcC : Src → Prop
  | .pat b e => capX b ∧ smaX e
  | .nm x => ltrX x
structure OWC (w : OW) : Prop where
  l : capX w.l
  r : smaX w.r
  each : ∀ s ∈ w.vs, SrcC s
structure RlC (r : Rl) : Prop where
  b : capX r.b
  e : smaX r.e
  each : ∀ s ∈ r.ss, SrcC s
theorem up_lt {c : Nat} (h : upB c = true) : 65 ≤ c ∧ c ≤ 90 := by
  unfold upB at h
  simp only [Bool.and_eq_true, decide_eq_true_eq] at h
  exact h
theorem lo_lt {c : Nat} (h : loB c = true) : 97 ≤ c ∧ c ≤ 122 := by
  unfold loB at h
  simp only [Bool.and_eq_true, decide_eq_true_eq] at h
  exact h
theorem cut_all {p : Nat → Prop} {z : Str} {lo hi : Option Int} (h : ∀ c ∈ TL.tl z, p c) : ∀ c ∈ TL.tl (cutS z lo hi), p c := fun c m => h c ((List.drop_sublist _ _).subset ((List.take_sublist _ _).subset m))
theorem cat_all {p : Nat → Prop} {x y : Str} (h : ∀ c ∈ TL.tl x, p c) (g : ∀ c ∈ TL.tl y, p c) : ∀ c ∈ TL.tl (x ++ y), p c := fun c m => by
  have e : TL.tl (x ++ y) = TL.tl x ++ TL.tl y := TL.tl_append x y
  rw [e] at m
  rcases List.mem_append.mp m with m | m
  · exact h c m
  · exact g c m
theorem wid_c {s : Src} {ml mr : Str} (h : SrcC s) (l : capX ml) (r : smaX mr) : SrcC (wdn ml mr s) := by
  cases s with
  | pat b e => exact ⟨cat_all h.1 l, cat_all r h.2⟩
  | nm x => exact h
theorem mxl_all {p : Nat → Prop} {a b : Str} (h : ∀ c ∈ TL.tl a, p c) (g : ∀ c ∈ TL.tl b, p c) : ∀ c ∈ TL.tl (mxl a b), p c := by
  unfold mxl
  split
  · exact g
  · exact h
theorem tog_c {x y z : OW} (hx : OWC x) (hy : OWC y) (h : togS x y = some z) : OWC z := by
  unfold togS at h
  split at h
  · cases h
    refine ⟨mxl_all hx.l hy.l, mxl_all hx.r hy.r, fun s ms => ?_⟩
    rcases List.mem_append.mp ms with ms | ms
    · obtain ⟨t, mt, rfl⟩ := List.mem_map.mp ms
      exact wid_c (hx.each t mt) (cut_all hy.l) (cut_all hy.r)
    · obtain ⟨t, mt, rfl⟩ := List.mem_map.mp ms
      exact wid_c (hy.each t mt) (cut_all hx.l) (cut_all hx.r)
  · cases h
theorem ch_c {f : Src → List OW} : ∀ {ss : List Src}, (∀ s ∈ ss, ∀ w ∈ f s, OWC w) → ∀ {acc : List OW}, (∀ w ∈ acc, OWC w) → ∀ w ∈ ss.foldl (fun acc a => joinS acc (f a)) acc, OWC w
  | [], _, _, ha => ha
  | s :: ss, hf, acc, ha => by
    rw [List.foldl_cons]
    refine ch_c (fun t m => hf t (List.mem_cons_of_mem _ m)) fun z mz => ?_
    obtain ⟨x, mx, mz⟩ := List.mem_flatMap.mp mz
    obtain ⟨y, my, e⟩ := List.mem_filterMap.mp mz
    exact tog_c (ha x mx) (hf s List.mem_cons_self y my) e
theorem put_ltr {s : Src} (h : SrcC s) {m : Str} (hm : ltrX m) : ltrX (s.put m) := by
  cases s with
  | pat b e => exact cat_all (cat_all (fun c m => .inl (h.1 c m)) hm) fun c m => .inr (h.2 c m)
  | nm x => exact h
theorem meet_c {r : Rl} (R : RlC r) {a : Src} (h : SrcC a) {m : Str × Str × List Src} (e : meetS r a = some m) : capX m.1 ∧ smaX m.2.1 ∧ ∀ s ∈ m.2.2, SrcC s := by
  cases a with
  | nm x =>
    rw [meetS_nm] at e
    obtain ⟨t, ht, rfl⟩ := Option.map_eq_some_iff.mp e
    refine ⟨(fun _ m => nomatch m), (fun _ m => nomatch m), fun s ms => ?_⟩
    obtain ⟨u, mu, rfl⟩ := List.mem_map.mp ms
    refine put_ltr (R.each u mu) fun c mc => h c ?_
    rw [stemO_eq ht]
    exact List.mem_append_left _ (List.mem_append_right _ mc)
  | pat b e' =>
    rw [meetS_pat] at e
    split at e
    · cases e
      refine ⟨cut_all R.b, cut_all R.e, fun s ms => ?_⟩
      obtain ⟨u, mu, rfl⟩ := List.mem_map.mp ms
      exact wid_c (R.each u mu) (cut_all h.1) (cut_all h.2)
    · cases e
theorem ow_c {rs : List Rl} (R : ∀ r ∈ rs, RlC r) : ∀ (n : Nat) (a : Src) (sp : List Nat), SrcC a → ∀ w ∈ owM rs n a sp, OWC w
  | 0, a, sp, h, w, m => by
    rw [List.mem_singleton.mp (show w ∈ [(⟨"", "", [a]⟩ : OW)] from m)]
    exact ⟨(fun _ m => nomatch m), (fun _ m => nomatch m), fun s ms => by rw [List.mem_singleton.mp ms]; exact h⟩
  | n + 1, a, sp, h, w, m => by
    rcases List.mem_cons.mp (show w ∈ (⟨"", "", [a]⟩ : OW) :: rs.zipIdx.flatMap (owR (owM rs n) a sp) from m) with rfl | m
    · exact ⟨(fun _ m => nomatch m), (fun _ m => nomatch m), fun s ms => by rw [List.mem_singleton.mp ms]; exact h⟩
    · obtain ⟨c, mc, mw⟩ := List.mem_flatMap.mp m
      have mr : c.1 ∈ rs := List.mem_of_getElem? (List.mem_zipIdx_iff_getElem?.mp (show (c.1, c.2) ∈ rs.zipIdx from mc))
      unfold owR at mw
      split at mw
      · cases mw
      · split at mw
        · cases mw
        · rename_i mm hm
          obtain ⟨b1, b2, b3⟩ := meet_c (R _ mr) h hm
          obtain ⟨v, mv, rfl⟩ := List.mem_map.mp mw
          have q := ch_c (fun s ms => ow_c R n s (sp ++ [c.2]) (b3 s ms)) (acc := [⟨"", "", []⟩]) (fun w m => by rw [List.mem_singleton.mp m]; exact ⟨(fun _ m => nomatch m), (fun _ m => nomatch m), fun _ m => nomatch m⟩) v mv
          exact ⟨cat_all b1 q.l, cat_all q.r b2, q.each⟩
theorem cap_ok {x : Str} (h : capX x) : PyData.strOk x = true := ok_iff.mpr fun c m => by have := up_lt (h c m); omega
theorem sma_ok {x : Str} (h : smaX x) : PyData.strOk x = true := ok_iff.mpr fun c m => by have := lo_lt (h c m); omega
theorem src_k {s : Src} (h : SrcC s) : SrcK s := by
  cases s with
  | pat b e => exact ⟨cap_ok h.1, sma_ok h.2⟩
  | nm x =>
    refine ok_iff.mpr fun c m => ?_
    rcases h c m with z | z
    · have := up_lt z
      omega
    · have := lo_lt z
      omega
theorem OWC.k {w : OW} (h : OWC w) : OWK w := ⟨cap_ok h.l, sma_ok h.r, fun s m => src_k (h.each s m)⟩
theorem name_ltr {x : Str} (h : dName (.str x) = true) : ltrX x := by
  intro c hc
  have h2 : (!(TL.tl x).isEmpty && ((TL.tl x).dropWhile upB).all loB) = true := h
  rw [Bool.and_eq_true, List.all_eq_true] at h2
  rw [← List.takeWhile_append_dropWhile (p := upB) (l := TL.tl x)] at hc
  rcases List.mem_append.mp hc with hc | hc
  · exact .inl (List.all_eq_true.mp (List.all_takeWhile (p := upB) (l := TL.tl x)) c hc)
  · exact .inr (h2.2 c hc)
theorem rl_c {r : Rl} (h : dRule r.d = true) : RlC r := by
  have h2 : (dLabel (.str r.lab) && (dPat (.tuple [.str r.b, .str r.e]) && (decide ((r.ss.map Src.d).length ≤ 3) && (r.ss.map Src.d).all dSrc1))) = true := h
  rw [Bool.and_eq_true, Bool.and_eq_true, Bool.and_eq_true, decide_eq_true_eq, List.length_map, List.all_eq_true] at h2
  obtain ⟨_, hp, hl, hs⟩ := h2
  obtain ⟨a1, a2, a3, a4⟩ := pat_ends hp
  refine ⟨a1, a2, fun s m => ?_⟩
  have q := hs _ (List.mem_map.mpr ⟨s, m, rfl⟩)
  unfold dSrc1 at q
  cases s with
  | pat b e =>
    have q2 : (dPat (.tuple [.str b, .str e]) || (false && decide (0 ≤ 6))) = true := q
    rw [Bool.false_and, Bool.or_false] at q2
    obtain ⟨b1, b2, _, _⟩ := pat_ends q2
    exact ⟨b1, b2⟩
  | nm x =>
    have q2 : (false || (dName (.str x) && decide (x.length ≤ 6))) = true := q
    rw [Bool.false_or, Bool.and_eq_true] at q2
    exact name_ltr q2.1
theorem book_c {rs : List Rl} (h : dBook (.tuple (rs.map Rl.d)) = true) : ∀ r ∈ rs, RlC r := by
  have h2 : (decide ((rs.map Rl.d).length ≤ 6) && (rs.map Rl.d).all dRule) = true := h
  rw [Bool.and_eq_true, List.all_eq_true] at h2
  exact fun r mr => rl_c (h2.2 _ (List.mem_map.mpr ⟨r, mr, rfl⟩))
end
end Lk
/-! K36TO -/
set_option Elab.async false
set_option linter.all false
set_option maxRecDepth 100000
set_option maxHeartbeats 4000000
namespace Lk
open PySem PySem.Spec PyProof.Rows L2
section
variable {P : Program} {w : World} {K : PySem.W.Frag} {mg : Str → Option Value} {base : Heap}
/-! ### the table -/
/-- the row of an open way -/
def RowOf (w r : OW) : Prop := r.l = w.l ∧ r.r = w.r ∧ Canon srcT w.vs r.vs
instance : DecidableEq OW := fun a b => if h : a.l = b.l ∧ a.r = b.r ∧ a.vs = b.vs then isTrue (by cases a; cases b; obtain ⟨h1, h2, h3⟩ := h; cases h1; cases h2; cases h3; rfl) else isFalse (fun z => h (by rw [z]; exact ⟨rfl, rfl, rfl⟩))
def tabF (R : List OW) : List OW := R.filter fun one => !(R.filter fun other => decide (other ≠ one)).any (lyU one)
inductive Fa2 {α β : Type} (r : α → β → Prop) : List α → List β → Prop
  | nil : Fa2 r [] []
  | cons {a : α} {b : β} {as : List α} {bs : List β} : r a b → Fa2 r as bs → Fa2 r (a :: as) (b :: bs)
theorem Fa2.snoc {α β : Type} {r : α → β → Prop} {as : List α} {bs : List β} (h : Fa2 r as bs) {a : α} {b : β} (hr : r a b) : Fa2 r (as ++ [a]) (bs ++ [b]) := by
  induction h with
  | nil => exact .cons hr .nil
  | cons h _ ih => exact .cons h ih
structure IsTab (rs : List Rl) (T : List OW) : Prop where
  ex : ∃ as R, Fa2 RowOf (owM rs rs.length (.pat "" "") []) as ∧ Canon rowT as R ∧ T = tabF R
theorem eqv_srcs : ∀ ss ts : List Src, PyData.eqvAll (ss.map Src.d) (ts.map Src.d) = decide (ss = ts)
  | [], [] => rfl
  | [], _ :: _ => rfl
  | _ :: _, [] => rfl
  | s :: ss, t :: ts => by
    rw [List.map_cons, List.map_cons, PyData.eqvAll, eqv_srcs ss ts, eqv_src, Bool.eq_iff_iff, Bool.and_eq_true, decide_eq_true_iff, decide_eq_true_iff, decide_eq_true_iff, List.cons.injEq]
theorem eqv_ow (a b : OW) : PyData.eqv a.d b.d = decide (a = b) := by
  obtain ⟨al, ar, av⟩ := a
  obtain ⟨bl, br, bv⟩ := b
  show PyData.eqv (.tuple [.str al, .str ar, .tuple (av.map Src.d)]) (.tuple [.str bl, .str br, .tuple (bv.map Src.d)]) = _
  rw [PyData.eqv, PyData.eqvAll, PyData.eqvAll, PyData.eqvAll, PyData.eqvAll, PyData.eqv, PyData.eqv, PyData.eqv, eqv_srcs, Bool.and_true, Bool.eq_iff_iff, Bool.and_eq_true, Bool.and_eq_true, beq_iff_eq, beq_iff_eq, decide_eq_true_iff, decide_eq_true_iff, OW.mk.injEq]
theorem ow_sh {w : OW} (h : OWK w) : SeqAt.shaped w.d = true := by
  obtain ⟨a, b⟩ := srcs_lay h.2.2
  have h1 : (PyData.str w.l).canLay0 = true := h.1
  have h2 : (PyData.str w.r).canLay0 = true := h.2.1
  have e : (PyData.tuple (w.vs.map Src.d)).canLay0 = true := by
    rw [PyData.canLay0]
    exact a
  have c : w.d.canLay0 = true := by
    show (PyData.tuple [.str w.l, .str w.r, .tuple (w.vs.map Src.d)]).canLay0 = true
    rw [PyData.canLay0, PyData.canLayAll0, PyData.canLayAll0, PyData.canLayAll0, PyData.canLayAll0, h1, h2, e]
    rfl
  have d : w.d.depth ≤ 3 := by
    show (PyData.tuple [.str w.l, .str w.r, .tuple (w.vs.map Src.d)]).depth ≤ 3
    rw [PyData.depth, PyData.depthAll, PyData.depthAll, PyData.depthAll, PyData.depthAll, PyData.depth, PyData.depth, PyData.depth]
    omega
  unfold SeqAt.shaped
  rw [c, Bool.true_and, decide_eq_true_eq]
  omega
end
end Lk
/-! K36TP -/
set_option Elab.async false
set_option linter.all false
set_option maxRecDepth 100000
set_option maxHeartbeats 4000000
namespace Lk
open PySem PySem.Spec PyProof.Rows L2
section
variable {P : Program} {w : World} {K : PySem.W.Frag} {mg : Str → Option Value} {base : Heap}
section
variable {σ : L2.St} {H : Hp}
theorem lc_filtL {α : Type} {ss : List α} {d : α → PyData} {p : α → Bool} {j iv : Nat} {tt : TT} {a : Addr} {xs : List V} {Q : VK} (hv : σ[j]? = some (some (.ref a))) (hs : SqL K H a xs) (hx : ThAll K H xs (ss.map d)) (few : ss.length ≤ 5000) (nol : ∀ s, noLst (d s) = true)
    (wp : ∀ x : V, wipe ((wipe σ [iv]).set iv (some x)) [iv] = wipe σ [iv]) (at_ : ∀ x : V, ((wipe σ [iv]).set iv (some x))[iv]? = some (some x))
    (test : ∀ (s : α) (x : V) (H' : Hp) (R : Bool → Hp → Prop), s ∈ ss → Th K H' x (d s) → Same H H' → (∀ H2, Same H' H2 → R (p s) H2) → tt ((wipe σ [iv]).set iv (some x)) H' R)
    (k : ∀ (D : Addr) (zs : List V) (H' : Hp), Same H H' → H D = none → H' D = some (.lst zs) → ThAll K H' zs ((ss.filter p).map d) → Q (.ref D) H') : tLc (iList K (tVar j)) (gName iv) tt (tVar iv) [iv] σ H Q := by
  have lx := thAll_len hx
  rw [List.length_map] at lx
  have nl : ∀ l : List α, noLstAll (l.map d) = true := fun l => by
    induction l with
    | nil => rfl
    | cons b l ih =>
      show (noLst (d b) && noLstAll (l.map d)) = true
      rw [nol b, ih]
      rfl
  refine ⟨_, hv, a, rfl, ⟨_, hs⟩, fun D nD => ?_⟩
  refine lc_list (K := K) (a := a) (xs := xs) (fun i H' => Same H H' ∧ ∃ zs : List V, H' D = some (.lst zs) ∧ ThAll K H' zs (((ss.take i).filter p).map d)) ⟨same_upd nD, [], upd_same, .nil⟩ (fun i H' _ h => Same.seq h.1 hs) ?_ ?_
  · rintro i x H1 hxi ⟨s1, zs, hD, th⟩
    obtain ⟨dd, hd, thx⟩ := th_at (thAll_same s1 hx) hxi
    obtain ⟨r, hr, rfl⟩ := Option.map_eq_some_iff.mp ((List.getElem?_map ..).symm.trans hd)
    have mr := List.mem_of_getElem? hr
    have il := (List.getElem?_eq_some_iff.mp hr).1
    refine ⟨wp _, test r x H1 _ mr thx s1 fun H2 s2 => ?_⟩
    have hD2 := s2 _ _ hD
    have lz := thAll_len th
    rw [List.length_map] at lz
    have l2 := List.length_filter_le p (ss.take i)
    rw [List.length_take] at l2
    cases e : p r with
    | false =>
      refine iteF' rfl ⟨s1.trans s2, zs, hD2, ?_⟩
      rw [List.take_add_one, hr, List.filter_append]
      show ThAll K H2 zs ((_ ++ [r].filter p).map d)
      rw [show [r].filter p = [] by rw [List.filter_cons, e]; rfl, List.append_nil]
      exact thAll_same s2 th
    | true =>
      refine iteT' rfl ⟨_, at_ x, zs, hD2, by rw [lz, sizeLine_eq]; omega, same_mut (s1.trans s2) nD, zs ++ [x], upd_same, ?_⟩
      rw [List.take_add_one, hr, List.filter_append, List.map_append]
      show ThAll K _ _ (_ ++ ([r].filter p).map d)
      rw [show [r].filter p = [r] by rw [List.filter_cons, e]; rfl]
      exact thAll_app (thAll_mutL hD2 (thAll_same s2 th) (nl _)) (.cons (th_mutL hD2 (th_same s2 thx) (nol r)) .nil)
  · rintro H1 ⟨s1, zs, hD, th⟩
    rw [lx, List.take_length] at th
    exact k D zs H1 s1 nD hD th
end
end
end Lk
/-! K36XQ -/
set_option Elab.async false
set_option linter.all false
set_option maxRecDepth 100000
set_option maxHeartbeats 4000000
namespace Lk
open PySem PySem.Spec PyProof.Rows L2
section
variable {P : Program} {w : World} {K : PySem.W.Frag} {mg : Str → Option Value} {base : Heap} {e : E5}
def spTableX (K : PySem.W.Frag) (e : E5) (TM : Addr) : Sp := fun vs H Q E => ∃ (v : V) (d : PyData), vs = [v] ∧ Th K H v d ∧ d.bulk ≤ 1000000 ∧ (dBook d = false → ∀ H', Same H H' → E (.ref e.b) none H') ∧
  (dBook d = true → ∃ rs : List Rl, d = .tuple (rs.map Rl.d) ∧ (FewW rs rs.length (.pat "" "") [] → ∀ (T : List OW) (p : Addr) (zs : List V) (H' : Hp), Same H H' → H p = none → H' p = some (.lst zs) → ThAll K H' zs (T.map OW.d) → IsTab rs T → Q (.ref p) H') ∧
    (¬ FewW rs rs.length (.pat "" "") [] → ∀ (dd : Addr) (H' : Hp), Same H H' → H' dd = some lim300 → E (.ref TM) (some dd) H'))
theorem sc_p_table : FnScope ["book", "rows", "left", "right", "sources", "row", "found", "text", "one", "other"] ["book"] (defScope s_p_table) := ⟨rfl, rfl, rfl, by decide +kernel, rfl, by decide +kernel, by decide +kernel⟩
theorem Canon.c {ss bs : List Src} (h : Canon srcT ss bs) {p : Src → Prop} (g : ∀ s ∈ ss, p s) : ∀ s ∈ bs, p s := fun s m => g s (h.sub s m)
theorem Canon.len {α : Type} {tx : α → Str} {as bs : List α} (h : Canon tx as bs) : bs.length ≤ as.length := by
  have y := nodup_len (m := as.map tx) h.nd fun t m => by
    obtain ⟨b, mb, rfl⟩ := List.mem_map.mp m
    exact List.mem_map.mpr ⟨b, h.sub b mb, rfl⟩
  rw [List.length_map, List.length_map] at y
  exact y
theorem Fa2.len {α β : Type} {r : α → β → Prop} {as : List α} {bs : List β} (h : Fa2 r as bs) : bs.length = as.length := by
  induction h with
  | nil => rfl
  | cons _ _ ih => rw [List.length_cons, List.length_cons, ih]
theorem Fa2.back {α β : Type} {r : α → β → Prop} {as : List α} {bs : List β} (h : Fa2 r as bs) {b : β} (m : b ∈ bs) : ∃ a ∈ as, r a b := by
  induction h with
  | nil => cases m
  | cons hr _ ih =>
    rcases List.mem_cons.mp m with rfl | m
    · exact ⟨_, List.mem_cons_self, hr⟩
    · obtain ⟨a, ma, ha⟩ := ih m
      exact ⟨a, List.mem_cons_of_mem _ ma, ha⟩
theorem thAll_mutK {H : Hp} {D : Addr} {kvs : List (Key × V)} {o : HO} (hD : H D = some (.dK kvs)) : ∀ {vs : List V} {ds : List PyData}, ThAll K H vs ds → (∀ d ∈ ds, d.hasDict = false) → ThAll K (upd H D o) vs ds
  | [], _, .nil, _ => .nil
  | _ :: _, _, .cons h t, n => .cons (th_mutK hD h (n _ List.mem_cons_self)) (thAll_mutK hD t fun d m => n d (List.mem_cons_of_mem _ m))
theorem th_tupX {H : Hp} {v : V} {ds : List PyData} (h : Th K H v (.tuple ds)) : ∃ q xs, v = .ref q ∧ SqT K H q xs ∧ ThAll K H xs ds := by
  cases h with
  | tup hs ha => exact ⟨_, _, rfl, hs, ha⟩
theorem calx_table {TM : Addr} (D : Def1 K mg "table" s_p_table) (G : Glb mg) (T : Glc mg) (gsorted : mg "sorted" = none) (CB : CalX P w K mg base 7 "need_book" (spNeedOne K dBook e.b)) (CO : ∀ n, CalX P w K mg base (2 * n + 5) "open_ways" (spOWX K TM n)) (CD : Cal P w K mg base 2 "different" (spDiff K)) (CR : Cal P w K mg base 2 "row_text" (spRT K)) (CL : Cal P w K mg base 2 "lies_under" (spLies K)) :
    CalX P w K mg base 18 "table" (spTableX K e TM) := by
  refine mkCalX D sc_p_table (fun _ _ _ _ _ _ us hl => match us, hl with | [_], _ => rfl) (fun vs H Q E h => ?_) (fun f cdv A outer s H vs Q E hr h => ?_)
  · obtain ⟨v, d, rfl, _⟩ := h
    rfl
  · obtain ⟨v, d, rfl, thd, bd, kb, kk⟩ := h
    cases hB : dBook d with
    | false =>
      have CO' : CalX P w K mg base 17 "open_ways" (spOWX K TM 6) := CO 6
      refine ⟨_, (pss_cons (ps_expr (pe_calX CB hr (by omega) (takes_of rfl rfl rfl rfl) (pa_cons (pv 0) pa_nil)))
    (pss_cons (ps_set (i := 1) sc_p_table.nd rfl (.inr rfl) pe_dnewK)
    (pss_cons (ps_for (passes_of rfl) rfl (pi_list (pe_calX CO' hr (by omega) (takes_of rfl rfl rfl rfl) (pa_cons (pv 0) (pa_cons (pe_tup (pa_cons pe_str (pa_cons pe_str pa_nil))) (pa_cons (pe_tup pa_nil) pa_nil))))) (pg_tup rfl (pgs_cons (pg_name (i := 2) sc_p_table.nd rfl (.inl rfl)) (pgs_cons (pg_name (i := 3) sc_p_table.nd rfl (.inl rfl)) (pgs_cons (pg_name (i := 4) sc_p_table.nd rfl (.inl rfl)) pgs_nil))))
    (pss_cons (ps_set (i := 5) sc_p_table.nd rfl (.inl rfl) (pe_tup (pa_cons (pv 2) (pa_cons (pv 3) (pa_cons (pe_cal CD hr (by omega) (pa_cons (pv 4) pa_nil)) pa_nil)))))
    (pss_one (ps_dput (units1 hr.units) (pv 1) (pe_cal CR hr (by omega) (pa_cons (pv 5) pa_nil)) (pv 5) (by rfl)))))
    (pss_cons (ps_set (i := 6) sc_p_table.nd rfl (.inr rfl) (pe_lc (own := [("text", 7)]) (g := gName 7) (tt := tYes) (by rfl) sc_p_table.nd (pi_list (pe_callB (call_sortedK rfl (u64 hr)) (by rfl) gsorted (by decide +kernel) (pa_cons (pv 1) pa_nil))) (blkOk_by (own := [("text", 7)]) (N := ["book", "rows", "left", "right", "sources", "row", "found", "text", "one", "other"]) (sc := defScope s_p_table) (by decide +kernel)) (fun _ _ _ _ _ => pg_name (i := 7) sc_p_table.nd rfl (Or.inl rfl)) (fun _ _ _ _ _ => pts_nil) (fun _ _ _ _ _ => (pe_dget (units1 hr.units) (pv 1) (pv 7) (fun _ _ => rfl)))))
    (pss_one (ps_ret (pe_lc (own := [("one", 8)]) (g := gName 8) (by rfl) sc_p_table.nd (pi_list (pv 6)) (blkOk_by (own := [("one", 8)]) (N := ["book", "rows", "left", "right", "sources", "row", "found", "text", "one", "other"]) (sc := defScope s_p_table) (by decide +kernel)) (fun _ _ _ _ _ => pg_name (i := 8) sc_p_table.nd rfl (Or.inr rfl)) (fun _ _ _ _ _ => pts_one (pt_not (pt_val (pe_cal CL hr (by omega) (pa_cons (pv 8) (pa_cons (pe_lc (own := [("other", 9)]) (g := gName 9) (by rfl) sc_p_table.nd (inL (K := K) (pv 6)) (blkOk_by (own := [("other", 9)]) (N := ["book", "rows", "left", "right", "sources", "row", "found", "text", "one", "other"]) (sc := { kind := ScopeKind.function, names := [ (".0", NameKind.local), ("one", NameKind.cell), ("lies_under", NameKind.globalImplicit), ("found", NameKind.cell)], isGenerator := false, isCoroutine := false }) (by decide +kernel)) (fun _ _ _ _ _ => pg_name (i := 9) sc_p_table.nd rfl (Or.inl rfl)) (fun _ _ _ _ _ => pts_one (pt_cmpR (show OpR _ (compareOp .NotEq) (rNeD K) from op_neD hr.units) (pv 9) (pv 8) (nomark _))) (fun _ _ _ _ _ => (pv 9))) pa_nil)))))) (fun _ _ _ _ _ => (pv 8))))))))), ?_⟩
      refine sq_drop ?_
      exact ⟨_, rfl, v, d, rfl, thd, bd, fun y => absurd y (by rw [hB]; exact fun z => nomatch z), fun y H1 s1 => kb hB H1 s1⟩
    | true =>
    obtain ⟨rs, rfl, k, kx⟩ := kk hB
    obtain ⟨q, xs, rfl, hq, hx⟩ := th_tupX thd
    obtain ⟨many, len⟩ := book_len hB
    have CO' := CO rs.length
    refine ⟨_, (pss_cons (ps_expr (pe_calX CB hr (by omega) (takes_of rfl rfl rfl rfl) (pa_cons (pv 0) pa_nil)))
    (pss_cons (ps_set (i := 1) sc_p_table.nd rfl (.inr rfl) pe_dnewK)
    (pss_cons (ps_for (passes_of rfl) rfl (pi_list (pe_calX CO' hr (by omega) (takes_of rfl rfl rfl rfl) (pa_cons (pv 0) (pa_cons (pe_tup (pa_cons pe_str (pa_cons pe_str pa_nil))) (pa_cons (pe_tup pa_nil) pa_nil))))) (pg_tup rfl (pgs_cons (pg_name (i := 2) sc_p_table.nd rfl (.inl rfl)) (pgs_cons (pg_name (i := 3) sc_p_table.nd rfl (.inl rfl)) (pgs_cons (pg_name (i := 4) sc_p_table.nd rfl (.inl rfl)) pgs_nil))))
    (pss_cons (ps_set (i := 5) sc_p_table.nd rfl (.inl rfl) (pe_tup (pa_cons (pv 2) (pa_cons (pv 3) (pa_cons (pe_cal CD hr (by omega) (pa_cons (pv 4) pa_nil)) pa_nil)))))
    (pss_one (ps_dput (units1 hr.units) (pv 1) (pe_cal CR hr (by omega) (pa_cons (pv 5) pa_nil)) (pv 5) (by rfl)))))
    (pss_cons (ps_set (i := 6) sc_p_table.nd rfl (.inr rfl) (pe_lc (own := [("text", 7)]) (g := gName 7) (tt := tYes) (by rfl) sc_p_table.nd (pi_list (pe_callB (call_sortedK rfl (u64 hr)) (by rfl) gsorted (by decide +kernel) (pa_cons (pv 1) pa_nil))) (blkOk_by (own := [("text", 7)]) (N := ["book", "rows", "left", "right", "sources", "row", "found", "text", "one", "other"]) (sc := defScope s_p_table) (by decide +kernel)) (fun _ _ _ _ _ => pg_name (i := 7) sc_p_table.nd rfl (Or.inl rfl)) (fun _ _ _ _ _ => pts_nil) (fun _ _ _ _ _ => (pe_dget (units1 hr.units) (pv 1) (pv 7) (fun _ _ => rfl)))))
    (pss_one (ps_ret (pe_lc (own := [("one", 8)]) (g := gName 8) (by rfl) sc_p_table.nd (pi_list (pv 6)) (blkOk_by (own := [("one", 8)]) (N := ["book", "rows", "left", "right", "sources", "row", "found", "text", "one", "other"]) (sc := defScope s_p_table) (by decide +kernel)) (fun _ _ _ _ _ => pg_name (i := 8) sc_p_table.nd rfl (Or.inr rfl)) (fun _ _ _ _ _ => pts_one (pt_not (pt_val (pe_cal CL hr (by omega) (pa_cons (pv 8) (pa_cons (pe_lc (own := [("other", 9)]) (g := gName 9) (by rfl) sc_p_table.nd (inL (K := K) (pv 6)) (blkOk_by (own := [("other", 9)]) (N := ["book", "rows", "left", "right", "sources", "row", "found", "text", "one", "other"]) (sc := { kind := ScopeKind.function, names := [ (".0", NameKind.local), ("one", NameKind.cell), ("lies_under", NameKind.globalImplicit), ("found", NameKind.cell)], isGenerator := false, isCoroutine := false }) (by decide +kernel)) (fun _ _ _ _ _ => pg_name (i := 9) sc_p_table.nd rfl (Or.inl rfl)) (fun _ _ _ _ _ => pts_one (pt_cmpR (show OpR _ (compareOp .NotEq) (rNeD K) from op_neD hr.units) (pv 9) (pv 8) (nomark _))) (fun _ _ _ _ _ => (pv 9))) pa_nil)))))) (fun _ _ _ _ _ => (pv 8))))))))), ?_⟩
    have C := ow_c (book_c hB) rs.length (.pat "" "") [] ⟨(fun _ m => nomatch m), fun _ m => nomatch m⟩
    have O := ow_own len rs.length (.pat "" "") [] 0 many ⟨Nat.le_refl _, Nat.le_refl _⟩
    have p3 : 3 ^ rs.length ≤ 729 := Nat.pow_le_pow_right (n := 3) (by decide) many
    have OB : ∀ w ∈ owM rs rs.length (.pat "" "") [], OWB 1000 w ∧ OWC w ∧ w.vs.length ≤ 1000 := fun w m => by
      have o := O w m
      exact ⟨⟨Nat.le_trans o.l (by omega), Nat.le_trans o.r (by omega), fun s ms => (o.each s ms).le (by omega)⟩, C w m, Nat.le_trans o.len (by omega)⟩
    refine sq_drop ?_
    refine ⟨_, rfl, .ref q, _, rfl, thd, bd, fun _ H1 s1 => ?_, fun y => absurd hB (by rw [y]; exact fun z => nomatch z)⟩
    refine sq_asg ?_
    intro Dd nD
    have sD := same_upd (o := .dK []) nD
    have hD0 : TxD K rowT OW.d (upd H1 Dd (.dK [])) Dd [] [] := TxD.start
    have fD : H Dd = none := s1.free nD
    generalize upd H1 Dd (.dK []) = H2 at sD hD0 ⊢
    have s2 := s1.trans sD
    refine on_go (sq_for ?_)
    refine ⟨_, rfl, (by show 2 ≤ sizeLine; decide), fun t1 n1 => ⟨(by show 0 ≤ sizeLine; decide), fun t2 n2 => ?_⟩⟩
    have u1 := same_upd (o := .tup [.str "", .str ""]) n1
    have h1 : upd H2 t1 (.tup [.str "", .str ""]) t1 = some (.tup [.str "", .str ""]) := upd_same
    generalize upd H2 t1 (.tup [.str "", .str ""]) = H3 at u1 h1 n2 ⊢
    have u2 := same_upd (o := .tup []) n2
    have h2 : upd H3 t2 (.tup []) t2 = some (.tup []) := upd_same
    generalize upd H3 t2 (.tup []) = H4 at u2 h2 ⊢
    have s4 := (s2.trans u1).trans u2
    refine ⟨q, xs, rs, .pat "" "", .ref t1, t2, [], 0, rfl, Same.seqT s4 hq, thAll_same s4 hx, hB, .tup (SqT.of (u2 _ _ h1)) (.cons (.str _) (.cons (.str _) .nil)), SqT.of h2, List.nodup_nil, (fun _ m => nomatch m), by show rs.length ≤ 0 + rs.length; omega, many, ⟨Nat.le_refl _, Nat.le_refl _⟩, by omega, fun fw p zs H5 s5 np hp hz => ?_, fun nf dd H5 s5 h5 => kx nf dd H5 (s4.trans s5) h5⟩
    have few := few_len fw
    have s05 := s4.trans s5
    have TD5 := hD0.same ((u1.trans u2).trans s5)
    have lz := thAll_len hz
    rw [List.length_map] at lz
    have pD : p ≠ Dd := fun e => by
      have z := ((u1.trans u2) _ _ hD0.at_)
      rw [← e, np] at z
      cases z
    have hzD : ∀ w ∈ owM rs rs.length (.pat "" "") [], w.d.hasDict = false := fun w _ => ow_hd w
    refine ⟨p, rfl, ⟨_, SqL.of hp⟩, for_list (K := K) (a := p) (xs := zs) (fun i σ H' => ∃ v2 v3 v4 v5 : Option V, σ = [some (.ref q), some (.ref Dd), v2, v3, v4, v5, none, none, none, none] ∧ Same H H' ∧ H' p = some (.lst zs) ∧ ThAll K H' zs ((owM rs rs.length (.pat "" "") []).map OW.d) ∧ ∃ as L, TxD K rowT OW.d H' Dd as L ∧ Fa2 RowOf ((owM rs rs.length (.pat "" "") []).take i) as)
      ⟨_, _, _, _, rfl, s05, hp, hz, [], [], TD5, .nil⟩ (fun i σ H' _ ⟨_, _, _, _, _, _, h, _⟩ => SqL.of h) ?_ ?_⟩
    · rintro i x σ H6 hxi ⟨v2, v3, v4, v5, rfl, s6, hp6, hz6, as, L, TD, F2⟩
      obtain ⟨d, hd, thx⟩ := th_at hz6 hxi
      obtain ⟨o, ho, rfl⟩ := Option.map_eq_some_iff.mp ((List.getElem?_map ..).symm.trans hd)
      have mo := List.mem_of_getElem? ho
      obtain ⟨ob, oc, ol⟩ := OB o mo
      obtain ⟨q2, t3, ys, rfl, hq2, ht3, hy⟩ := th_ow thx
      have lA := TD.len
      have lF := Fa2.len F2
      have lt := List.length_take_le' i (owM rs rs.length (.pat "" "") [])
      refine ⟨q2, _, rfl, hq2, rfl, _, _, rfl, _, _, rfl, _, _, rfl, rfl, sq_asg ?_⟩
      refine ⟨_, rfl, _, rfl, _, rfl, .ref t3, o.vs, rfl, .tup ht3 hy, fun s ms => (ob.2.2 s ms), ol, fun bs u H7 s7 cn thu => ⟨(by show 3 ≤ sizeLine; decide), fun r nr => ?_⟩⟩
      have cB : ∀ s ∈ bs, SrcB 1000 s := Canon.c cn ob.2.2
      have cl := Canon.len cn
      have u8 := same_upd (o := .tup [.str o.l, .str o.r, u]) nr
      have hr8 : upd H7 r (.tup [.str o.l, .str o.r, u]) r = some (.tup [.str o.l, .str o.r, u]) := upd_same
      generalize upd H7 r (.tup [.str o.l, .str o.r, u]) = H8 at u8 hr8 ⊢
      have thr : Th K H8 (.ref r) (⟨o.l, o.r, bs⟩ : OW).d := .tup (SqT.of hr8) (.cons (.str _) (.cons (.str _) (.cons (th_same u8 thu) .nil)))
      refine on_go ?_
      refine ⟨_, rfl, _, rfl, _, rfl, .ref r, ⟨o.l, o.r, bs⟩, rfl, thr, ⟨ob.1, ob.2.1, cB⟩, by show bs.length ≤ 1000; omega, fun H9 s9 => ?_⟩
      have s69 := (s7.trans u8).trans s9
      have TD9 := TD.same s69
      refine ⟨Dd, _, rfl, DPut.k (k := Sum.inr (rowT ⟨o.l, o.r, bs⟩)) TD9.at_ (by rw [List.length_map, sizeLine_eq]; omega), ?_⟩
      refine ⟨_, _, _, _, rfl, same_mut (s6.trans s69) fD, ?_, ?_, as ++ [⟨o.l, o.r, bs⟩], _, TD9.put upd_same (fun c mc t => th_mutK TD9.at_ t (ow_hd _)) (th_mutK TD9.at_ (th_same s9 thr) (ow_hd _)), ?_⟩
      · rw [upd_ne pD]
        exact s69 _ _ hp6
      · exact thAll_mutK TD9.at_ (thAll_same s69 hz6) fun d md => by
          obtain ⟨w, mw, rfl⟩ := List.mem_map.mp md
          exact ow_hd w
      · rw [List.take_add_one, ho]
        exact F2.snoc ⟨rfl, rfl, cn⟩
    · rintro σ H6 ⟨v2, v3, v4, v5, rfl, s6, hp6, hz6, as, L, TD, F2⟩
      rw [lz, List.take_length] at F2
      have lA := TD.len
      have lF := Fa2.len F2
      have aOK : ∀ a ∈ as, OWB 1000 a ∧ OWC a ∧ a.vs.length ≤ 1000 := fun a ma => by
        obtain ⟨w, mw, e1, e2, e3⟩ := Fa2.back F2 ma
        obtain ⟨ob, oc, ol⟩ := OB w mw
        have cl := Canon.len e3
        exact ⟨⟨e1 ▸ ob.1, e2 ▸ ob.2.1, Canon.c e3 ob.2.2⟩, ⟨e1 ▸ oc.l, e2 ▸ oc.r, Canon.c e3 oc.each⟩, by omega⟩
      refine ends_go (sq_asg ?_)
      refine ⟨_, rfl, Dd, _, L.map fun c => rowT c.2, rfl, TD.at_, by rw [List.map_map, List.map_map]; rfl, by rw [List.length_map]; omega, fun g ng => ⟨g, rfl, ⟨_, SqL.of upd_same⟩, ?_⟩⟩
      have u7 := same_upd (o := .lst (((L.map fun c => rowT c.2).mergeSort leT).map V.str)) ng
      have hg : upd H6 g (.lst (((L.map fun c => rowT c.2).mergeSort leT).map V.str)) g = some (.lst (((L.map fun c => rowT c.2).mergeSort leT).map V.str)) := upd_same
      have TD7 := TD.same u7
      have s07 := s6.trans u7
      have pm := List.mergeSort_perm (L.map fun c => rowT c.2) leT
      have lT : ((L.map fun c => rowT c.2).mergeSort leT).length ≤ 300 := by
        rw [pm.length_eq, List.length_map]
        omega
      generalize upd H6 g (.lst (((L.map fun c => rowT c.2).mergeSort leT).map V.str)) = H7 at u7 hg TD7 s07 ⊢
      obtain ⟨T', eT⟩ : ∃ T', T' = (L.map fun c => rowT c.2).mergeSort leT := ⟨_, rfl⟩
      rw [← eT] at hg lT pm
      intro F nF
      have fF : H F = none := s07.free nF
      refine lc_list (K := K) (a := g) (xs := T'.map V.str) (fun i H' => Same H7 H' ∧ ∃ (vs : List V) (bs : List OW), H' F = some (.lst vs) ∧ ThAll K H' vs (bs.map OW.d) ∧ bs.map rowT = T'.take i ∧ ∀ b ∈ bs, b ∈ as) ⟨same_upd nF, [], [], upd_same, .nil, rfl, fun _ m => nomatch m⟩ (fun i H' _ h => SqL.of (h.1 _ _ hg)) ?_ ?_
      · rintro i x H8 hxi ⟨s8, vs, bs, hF, thB, eB, sub⟩
        obtain ⟨t, ht, rfl⟩ := Option.map_eq_some_iff.mp ((List.getElem?_map ..).symm.trans hxi)
        have mt : t ∈ L.map fun c => rowT c.2 := pm.mem_iff.mp (List.mem_of_getElem? ht)
        have TD8 := TD7.same s8
        obtain ⟨c, mc, ec, dg⟩ := TD8.get mt
        have lv := thAll_len thB
        rw [List.length_map] at lv
        have lb := congrArg List.length eB
        rw [List.length_map] at lb
        have l2 := List.length_take_le' i T'
        refine ⟨rfl, ⟨_, rfl, _, rfl, Dd, c.1, rfl, dg, vs, hF, by rw [sizeLine_eq]; omega, same_mut s8 nF, vs ++ [c.1], bs ++ [c.2], upd_same, ?_, ?_, fun b mb => ?_⟩⟩
        · rw [List.map_append]
          exact thAll_app (thAll_mutL hF thB (ows_nl bs)) (.cons (th_mutL hF (TD8.th c mc).1 (ow_nl _)) .nil)
        · rw [List.map_append, eB, List.take_add_one, ht]
          show _ ++ [rowT c.2] = _ ++ [t]
          rw [ec]
        · rcases List.mem_append.mp mb with m | m
          · exact sub b m
          · rw [List.mem_singleton.mp m]
            exact (TD8.th c mc).2
      · rintro H8 ⟨s8, vs, R, hF, thB, eB, sub⟩
        rw [List.length_map, List.take_length, eT] at eB
        have CR' : Canon rowT as R := srt_keys TD7 eB sub
        have lR := Canon.len CR'
        have s08 := s07.trans s8
        refine on_go (go_ret ?_)
        have ROK : ∀ a ∈ R, OWB 1000 a ∧ OWC a ∧ a.vs.length ≤ 1000 := fun a ma => aOK a (sub a ma)
        refine lc_filtL (K := K) (ss := R) (d := OW.d) (p := fun one => !(R.filter fun other => decide (other ≠ one)).any (lyU one)) rfl (SqL.of hF) thB (by omega) ow_nl (fun _ => rfl) (fun _ => rfl) (fun one x H9 W m1 thx s9 kW => ?_) (fun D2 zs2 H9 s9 nD2 hD2 th2 => ?_)
        · refine ⟨x, rfl, ?_⟩
          refine lc_filtL (K := K) (ss := R) (d := OW.d) (p := fun other => decide (other ≠ one)) rfl (SqL.of (s9 _ _ hF)) (thAll_same s9 thB) (by omega) ow_nl (fun _ => rfl) (fun _ => rfl) (fun other y H10 W2 m2 thy s10 kW2 => ?_) (fun D3 zs3 H10 s10 nD3 hD3 th3 => ?_)
          · refine go_tt ⟨y, rfl, x, rfl, other.d, one.d, th_dp thy (SeqAt.canLay_of_shaped (ow_sh (ROK other m2).2.1.k)), th_dp (th_same s10 thx) (SeqAt.canLay_of_shaped (ow_sh (ROK one m1).2.1.k)), ow_sh (ROK other m2).2.1.k, ow_sh (ROK one m1).2.1.k, _, rfl, ?_⟩
            have y2 := kW2 H10 (Same.refl _)
            rw [eqv_ow]
            rw [show (!decide (other = one)) = decide (other ≠ one) by rw [Bool.eq_iff_iff, Bool.not_eq_true', decide_eq_false_iff_not, decide_eq_true_iff]]
            exact y2
          · obtain ⟨o1, o2, o3⟩ := ROK one m1
            refine ⟨x, D3, zs3, one, R.filter fun other => decide (other ≠ one), rfl, th_same s10 thx, SqL.of hD3, th3, o1, o2.k, o3, fun o mo => ?_, fun H11 s11 => ?_⟩
            · obtain ⟨a1, a2, a3⟩ := ROK o (List.mem_filter.mp mo).1
              exact ⟨a1, a2.k, a3⟩
            · refine ⟨_, rfl, ?_⟩
              exact kW H11 (s10.trans s11)
        · exact k fw (tabF R) D2 zs2 H9 (s08.trans s9) (s08.free nD2) hD2 th2 ⟨as, R, F2, CR', rfl⟩
end
end Lk
/-! K36TR -/
set_option Elab.async false
set_option linter.all false
set_option maxRecDepth 100000
set_option maxHeartbeats 4000000
namespace Lk
open PySem PySem.Spec PyProof.Rows L2
/-! ### open ways: what they tell -/
/-- what stands in the files by an open way with a stem -/
structure Cov (F : List Str) (u : Str) (w : OW) (t : Str) : Prop where
  e : TL.tl u = TL.tl w.l ++ (TL.tl t ++ TL.tl w.r)
  all : ∀ s ∈ w.vs, s.put t ∈ F
def FitW (F : List Str) (u : Str) (w : OW) : Prop := ∃ t, Cov F u w t
end Lk
/-! K36TS -/
set_option Elab.async false
set_option linter.all false
set_option maxRecDepth 100000
set_option maxHeartbeats 4000000
namespace Lk
open PySem PySem.Spec PyProof.Rows L2
/-! ### texts tell sources and rows -/
theorem up_ge {c : Nat} (h : upB c = true) : 64 < c := by have := up_lt h; omega
theorem lo_ge {c : Nat} (h : loB c = true) : 64 < c := by have := lo_lt h; omega
theorem tl_pat (b e : Str) : TL.tl (srcT (.pat b e)) = TL.tl b ++ 42 :: TL.tl e := by
  show TL.tl (Txt.join "*" [b, e]) = _
  rw [join_eq]
  show TL.tl (b ++ "*" ++ e) = _
  rw [TL.tl_append, TL.tl_append, List.append_assoc]
  rfl
theorem split_sep {x : Nat} {a b r q : List Nat} (ha : x ∉ a) (hb : x ∉ b) (h : a ++ x :: r = b ++ x :: q) : a = b ∧ r = q := by
  rcases List.append_eq_append_iff.mp h with ⟨c, e1, e2⟩ | ⟨c, e1, e2⟩
  · cases c with
    | nil =>
      rw [List.append_nil] at e1
      rw [List.nil_append] at e2
      exact ⟨e1.symm, (List.cons.inj e2).2⟩
    | cons y c =>
      rw [List.cons_append] at e2
      have z := (List.cons.inj e2).1
      exact absurd (by rw [e1, ← z]; exact List.mem_append_right _ List.mem_cons_self) hb
  · cases c with
    | nil =>
      rw [List.append_nil] at e1
      rw [List.nil_append] at e2
      exact ⟨e1, (List.cons.inj e2).2.symm⟩
    | cons y c =>
      rw [List.cons_append] at e2
      have z := (List.cons.inj e2).1
      exact absurd (by rw [e1, ← z]; exact List.mem_append_right _ List.mem_cons_self) ha
theorem cap_no {x : Str} (h : capX x) {k : Nat} (hk : k ≤ 64) : k ∉ TL.tl x := fun m => by have := up_ge (h k m); omega
theorem sma_no {x : Str} (h : smaX x) {k : Nat} (hk : k ≤ 64) : k ∉ TL.tl x := fun m => by have := lo_ge (h k m); omega
theorem ltr_no {x : Str} (h : ltrX x) {k : Nat} (hk : k ≤ 64) : k ∉ TL.tl x := fun m => by
  rcases h k m with z | z
  · have := up_ge z
    omega
  · have := lo_ge z
    omega
theorem srcT_inj {s t : Src} (hs : SrcC s) (ht : SrcC t) (h : srcT s = srcT t) : s = t := by
  cases s with
  | nm x => cases t with
    | nm y => exact congrArg Src.nm h
    | pat c d =>
      have z := congrArg TL.tl (show x = srcT (.pat c d) from h)
      rw [tl_pat] at z
      exact absurd (by rw [z]; exact List.mem_append_right _ List.mem_cons_self) (ltr_no (show ltrX x from hs) (k := 42) (by decide))
  | pat b e => cases t with
    | nm y =>
      have z := congrArg TL.tl (show y = srcT (.pat b e) from h.symm)
      rw [tl_pat] at z
      exact absurd (by rw [z]; exact List.mem_append_right _ List.mem_cons_self) (ltr_no (show ltrX y from ht) (k := 42) (by decide))
    | pat c d =>
      have z := congrArg TL.tl h
      rw [tl_pat, tl_pat] at z
      obtain ⟨e1, e2⟩ := split_sep (cap_no hs.1 (by decide)) (cap_no ht.1 (by decide)) z
      rw [TL.ext_tl e1, TL.ext_tl e2]
theorem srcT_no {s : Src} (h : SrcC s) : 32 ∉ TL.tl (srcT s) := by
  cases s with
  | nm x => exact ltr_no h (by decide)
  | pat b e =>
    rw [tl_pat]
    intro m
    rcases List.mem_append.mp m with m | m
    · exact cap_no h.1 (by decide) m
    · rcases List.mem_cons.mp m with m | m
      · exact absurd m (by decide)
      · exact sma_no h.2 (by decide) m
theorem tl_join1 (x : Str) : TL.tl (Txt.join " " [x]) = TL.tl x := by rw [join_eq]; rfl
theorem tl_join2 (x y : Str) (l : List Str) : TL.tl (Txt.join " " (x :: y :: l)) = TL.tl x ++ 32 :: TL.tl (Txt.join " " (y :: l)) := by
  rw [join_eq, join_eq]
  show TL.tl (x ++ " " ++ Str.join " " (y :: l)) = _
  rw [TL.tl_append, TL.tl_append, List.append_assoc]
  rfl
theorem join_inj : ∀ {l m : List Str} {x y : Str}, (∀ z ∈ x :: l, 32 ∉ TL.tl z) → (∀ z ∈ y :: m, 32 ∉ TL.tl z) → Txt.join " " (x :: l) = Txt.join " " (y :: m) → x :: l = y :: m
  | [], [], x, y, _, _, h => by
    have z := congrArg TL.tl h
    rw [tl_join1, tl_join1] at z
    rw [TL.ext_tl z]
  | [], b :: m, x, y, hx, hy, h => by
    have z := congrArg TL.tl h
    rw [tl_join1, tl_join2] at z
    exact absurd (by rw [z]; exact List.mem_append_right _ List.mem_cons_self) (hx x List.mem_cons_self)
  | a :: l, [], x, y, hx, hy, h => by
    have z := congrArg TL.tl h.symm
    rw [tl_join1, tl_join2] at z
    exact absurd (by rw [z]; exact List.mem_append_right _ List.mem_cons_self) (hy y List.mem_cons_self)
  | a :: l, b :: m, x, y, hx, hy, h => by
    have z := congrArg TL.tl h
    rw [tl_join2, tl_join2] at z
    obtain ⟨e1, e2⟩ := split_sep (hx x List.mem_cons_self) (hy y List.mem_cons_self) z
    rw [TL.ext_tl e1, join_inj (fun z m => hx z (List.mem_cons_of_mem _ m)) (fun z m => hy z (List.mem_cons_of_mem _ m)) (TL.ext_tl e2)]
theorem map_inj_on {α β : Type} {f : α → β} {p : α → Prop} (inj : ∀ a b, p a → p b → f a = f b → a = b) : ∀ {l m : List α}, (∀ a ∈ l, p a) → (∀ a ∈ m, p a) → l.map f = m.map f → l = m
  | [], [], _, _, _ => rfl
  | [], _ :: _, _, _, h => nomatch h
  | _ :: _, [], _, _, h => nomatch h
  | a :: l, b :: m, hl, hm, h => by
    rw [List.map_cons, List.map_cons] at h
    obtain ⟨e1, e2⟩ := List.cons.inj h
    rw [inj a b (hl a List.mem_cons_self) (hm b List.mem_cons_self) e1, map_inj_on inj (fun a m => hl a (List.mem_cons_of_mem _ m)) (fun a m' => hm a (List.mem_cons_of_mem _ m')) e2]
theorem OWC.all {w : OW} (h : OWC w) : ∀ s ∈ Src.pat w.l w.r :: w.vs, SrcC s := fun s m => by
  rcases List.mem_cons.mp m with rfl | m
  · exact ⟨h.l, h.r⟩
  · exact h.each s m
theorem rowT_inj {a b : OW} (ha : OWC a) (hb : OWC b) (h : rowT a = rowT b) : a = b := by
  have no : ∀ {w : OW}, OWC w → ∀ z ∈ (Src.pat w.l w.r :: w.vs).map srcT, 32 ∉ TL.tl z := fun hw z m => by
    obtain ⟨s, ms, rfl⟩ := List.mem_map.mp m
    exact srcT_no (hw.all s ms)
  have z : (Src.pat a.l a.r :: a.vs).map srcT = (Src.pat b.l b.r :: b.vs).map srcT := join_inj (no ha) (no hb) h
  have e := map_inj_on (p := SrcC) (fun s t hs ht => srcT_inj hs ht) ha.all hb.all z
  obtain ⟨e1, e2⟩ := List.cons.inj e
  obtain ⟨l1, r1, v1⟩ := a
  obtain ⟨l2, r2, v2⟩ := b
  cases e1
  cases e2
  rfl
/-! ### the table: what it tells -/
theorem Canon.mem {ss bs : List Src} (h : Canon srcT ss bs) (g : ∀ s ∈ ss, SrcC s) (s : Src) : s ∈ bs ↔ s ∈ ss := by
  refine ⟨h.sub s, fun m => ?_⟩
  obtain ⟨b, mb, e⟩ := h.all s m
  exact srcT_inj (g b (h.sub b mb)) (g s m) e ▸ mb
theorem RowOf.c {w r : OW} (h : RowOf w r) (c : OWC w) : OWC r := ⟨h.1 ▸ c.l, h.2.1 ▸ c.r, Canon.c h.2.2 c.each⟩
theorem tab_mem {R : List OW} {w : OW} : w ∈ tabF R ↔ w ∈ R ∧ ∀ o ∈ R, o ≠ w → lyU w o = false := by
  unfold tabF
  rw [List.mem_filter]
  constructor
  · rintro ⟨m, h⟩
    refine ⟨m, fun o mo ne => ?_⟩
    rw [Bool.not_eq_true'] at h
    rw [List.any_eq_false] at h
    exact Bool.eq_false_iff.mpr (h o (List.mem_filter.mpr ⟨mo, decide_eq_true ne⟩))
  · rintro ⟨m, h⟩
    refine ⟨m, ?_⟩
    rw [Bool.not_eq_true', List.any_eq_false]
    intro o mo
    obtain ⟨mo, ne⟩ := List.mem_filter.mp mo
    exact Bool.eq_false_iff.mp (h o mo (of_decide_eq_true ne))
/-- there is just one table -/
theorem Fa2.uniq {α β : Type} {r : α → β → Prop} {as : List α} {bs cs : List β} (h : Fa2 r as bs) (g : Fa2 r as cs) (u : ∀ a ∈ as, ∀ b c, r a b → r a c → b = c) : bs = cs := by
  induction h generalizing cs with
  | nil => cases g; rfl
  | cons hr _ ih =>
    cases g with
    | cons hr2 g2 => rw [u _ List.mem_cons_self _ _ hr hr2, ih g2 fun a m => u a (List.mem_cons_of_mem _ m)]
theorem RowOf.uniq {w a b : OW} (c : OWC w) (h : RowOf w a) (g : RowOf w b) : a = b := by
  have e := Canon.uniq h.2.2 g.2.2 fun a ma b mb e => srcT_inj (c.each a ma) (c.each b mb) e
  obtain ⟨al, ar, av⟩ := a
  obtain ⟨bl, br, bv⟩ := b
  have h1 : al = w.l := h.1
  have h2 : ar = w.r := h.2.1
  have g1 : bl = w.l := g.1
  have g2 : br = w.r := g.2.1
  have e : av = bv := e
  rw [h1, h2, g1, g2, e]
theorem IsTab.uniq {rs : List Rl} (R : ∀ r ∈ rs, RlC r) {T U : List OW} (h : IsTab rs T) (g : IsTab rs U) : T = U := by
  obtain ⟨as, A, f, c, rfl⟩ := h.ex
  obtain ⟨bs, B, f2, c2, rfl⟩ := g.ex
  have oc := ow_c R rs.length (.pat "" "") [] ⟨(fun _ m => nomatch m), fun _ m => nomatch m⟩
  have e := Fa2.uniq f f2 fun w m b c => RowOf.uniq (oc w m)
  subst e
  have ac : ∀ a ∈ as, OWC a := fun a m => by
    obtain ⟨o, mo, h⟩ := Fa2.back f m
    exact h.c (oc o mo)
  rw [Canon.uniq c c2 fun a ma b mb e => rowT_inj (ac a ma) (ac b mb) e]
end Lk
/-! K36XS -/
set_option Elab.async false
set_option linter.all false
set_option maxRecDepth 100000
set_option maxHeartbeats 4000000
namespace Lk
open PySem PySem.Spec PyProof.Rows L2
section
variable {P : Program} {w : World} {K : PySem.W.Frag} {mg : Str → Option Value} {base : Heap} {e : E5}
/-! ### the first row that fits -/
theorem IsTab.b {rs : List Rl} {T : List OW} (h : IsTab rs T) (hB : dBook (.tuple (rs.map Rl.d)) = true) : ∀ w ∈ T, OWB 1000 w ∧ OWC w ∧ w.vs.length ≤ 1000 := by
  obtain ⟨as, R, f, c, rfl⟩ := h.ex
  obtain ⟨many, len⟩ := book_len hB
  have C := ow_c (book_c hB) rs.length (.pat "" "") [] ⟨(fun _ m => nomatch m), fun _ m => nomatch m⟩
  have O := ow_own len rs.length (.pat "" "") [] 0 many ⟨Nat.le_refl _, Nat.le_refl _⟩
  have p3 : 3 ^ rs.length ≤ 729 := Nat.pow_le_pow_right (n := 3) (by decide) many
  intro w m
  obtain ⟨o, mo, e1, e2, e3⟩ := Fa2.back f (c.sub w (tab_mem.mp m).1)
  have ow := O o mo
  have cl := Canon.len e3
  have oc := C o mo
  have := ow.l
  have := ow.r
  have := ow.len
  refine ⟨⟨by rw [e1]; omega, by rw [e2]; omega, Canon.c e3 fun s ms => (ow.each s ms).le (by omega)⟩, ⟨e1 ▸ oc.l, e2 ▸ oc.r, Canon.c e3 oc.each⟩, by omega⟩
theorem IsTab.len {rs : List Rl} {T : List OW} (h : IsTab rs T) (few : (owM rs rs.length (.pat "" "") []).length ≤ 300) : T.length ≤ 300 := by
  obtain ⟨as, R, f, c, rfl⟩ := h.ex
  have a := Fa2.len f
  have b := Canon.len c
  have d : (tabF R).length ≤ R.length := List.length_filter_le _ _
  omega
theorem fit_iff {F : List Str} {z m : Str} {w : OW} (h : TL.tl z = TL.tl w.l ++ TL.tl m ++ TL.tl w.r) : FitW F z w ↔ ∀ s ∈ w.vs, s.put m ∈ F := by
  constructor
  · rintro ⟨t, e, all⟩
    have et : t = m := TL.ext_tl (List.append_cancel_left (as := TL.tl w.l) (List.append_cancel_right (bs := TL.tl w.r) (by rw [List.append_assoc, ← e, h])))
    exact et ▸ all
  · exact fun all => ⟨m, by rw [h, List.append_assoc], all⟩
theorem fit_no {F : List Str} {z : Str} {w : OW} (h : ¬ ∃ m : Str, TL.tl z = TL.tl w.l ++ TL.tl m ++ TL.tl w.r) : ¬ FitW F z w := fun ⟨t, e, _⟩ => h ⟨t, by rw [e, List.append_assoc]⟩
open Classical in
noncomputable def rowF (F : List Str) (z : Str) (T : List OW) : Option OW := T.find? fun w => decide (FitW F z w)
theorem row_next {F : List Str} {z : Str} {T : List OW} {i : Nat} {w : OW} (h : T[i]? = some w) (no : rowF F z (T.take i) = none) : rowF F z (T.take (i + 1)) = none ↔ ¬ FitW F z w := by
  unfold rowF at no ⊢
  rw [List.take_add_one, h, List.find?_append, no]
  simp
theorem row_hit {F : List Str} {z : Str} {T : List OW} {i : Nat} {w : OW} (h : T[i]? = some w) (no : rowF F z (T.take i) = none) (y : FitW F z w) : rowF F z T = some w := by
  have e : T = T.take i ++ w :: T.drop (i + 1) := by
    obtain ⟨hi, g⟩ := List.getElem?_eq_some_iff.mp h
    rw [← g, List.getElem_cons_drop, List.take_append_drop]
  unfold rowF at no ⊢
  rw [e, List.find?_append, no]
  simp [y]
inductive ThO (K : PySem.W.Frag) (H : Hp) : V → Option OW → Prop
  | no : ThO K H .non none
  | one {v : V} {w : OW} : Th K H v w.d → ThO K H v (some w)
def spRowX (K : PySem.W.Frag) (e : E5) (TM : Addr) : Sp := fun vs H Q E => ∃ (v1 v2 v3 : V) (d1 d2 d3 : PyData), vs = [v1, v2, v3] ∧ Th K H v1 d1 ∧ Th K H v2 d2 ∧ Th K H v3 d3 ∧ d1.bulk ≤ 1000000 ∧ d2.bulk ≤ 1000000 ∧ d3.bulk ≤ 1000000 ∧
  ((∃ z, errT d1 d2 d3 = some z ∧ ∀ H', Same H H' → E (.ref (e.at z)) none H') ∨
   (errT d1 d2 d3 = none ∧ ∃ (q f : Addr) (xs : List V) (rs : List Rl) (F : List Str) (z : Str), v1 = .ref q ∧ v2 = .ref f ∧ v3 = .str z ∧ d1 = .tuple (rs.map Rl.d) ∧ SqT K H q xs ∧ ThAll K H xs (rs.map Rl.d) ∧ dBook d1 = true ∧ SqT K H f (F.map V.str) ∧ z.length ≤ 1000 ∧
    (FewW rs rs.length (.pat "" "") [] → ∀ (T : List OW) (v : V) (H' : Hp), Same H H' → IsTab rs T → ThO K H' v (rowF F z T) → Q v H') ∧ (¬ FewW rs rs.length (.pat "" "") [] → ∀ (dd : Addr) (H' : Hp), Same H H' → H' dd = some lim300 → E (.ref TM) (some dd) H')))
theorem sc_p_rowfor : FnScope ["book", "files", "name", "row", "begin", "end", "sources", "within", "source"] ["book", "files", "name"] (defScope s_p_row_for) := ⟨rfl, rfl, rfl, by decide +kernel, rfl, by decide +kernel, by decide +kernel⟩
theorem calx_rowfor {TM : Addr} (D : Def1 K mg "row_for" s_p_row_for) (gall : mg "all" = none) (CT : CalX P w K mg base 8 "need_things" (spThX K e)) (CA : CalX P w K mg base 18 "table" (spTableX K e TM)) (CS : Cal P w K mg base 1 "stem_within" (spSW K)) (CF : Cal P w K mg base 1 "filled" (spFill K)) : CalX P w K mg base 19 "row_for" (spRowX K e TM) := by
  refine mkCalX D sc_p_rowfor (fun _ _ _ _ _ _ us hl => match us, hl with | [_, _, _], _ => rfl) (fun vs H Q E h => ?_) (fun f0 cdv A outer s H vs Q E hr h => ?_)
  · obtain ⟨v1, v2, v3, d1, d2, d3, rfl, _⟩ := h
    rfl
  · obtain ⟨v1, v2, v3, d1, d2, d3, rfl, h1, h2, h3, b1, b2, b3, ⟨z, ez, ke⟩ | ⟨en, q, f, xs, rs, F, z, rfl, rfl, rfl, rfl, hq, hx, hB, hf, lz, k, kx⟩⟩ := h
    · refine ⟨_, (pss_cons (ps_expr (pe_calX CT hr (by omega) (takes_of rfl rfl rfl rfl) (pa_cons (pv 0) (pa_cons (pv 1) (pa_cons (pv 2) pa_nil)))))
    (pss_cons (ps_for (passes_of rfl) rfl (pi_list (pe_calX CA hr (by omega) (takes_of rfl rfl rfl rfl) (pa_cons (pv 0) pa_nil))) (pg_name (i := 3) sc_p_rowfor.nd rfl (.inl rfl))
    (pss_cons (ps_asg (pv 3) (pg_tup rfl (pgs_cons (pg_name (i := 4) sc_p_rowfor.nd rfl (.inl rfl)) (pgs_cons (pg_name (i := 5) sc_p_rowfor.nd rfl (.inl rfl)) (pgs_cons (pg_name (i := 6) sc_p_rowfor.nd rfl (.inl rfl)) pgs_nil)))))
    (pss_cons (ps_set (i := 7) sc_p_rowfor.nd rfl (.inr rfl) (pe_cal CS hr (by omega) (pa_cons (pe_tup (pa_cons (pv 4) (pa_cons (pv 5) pa_nil))) (pa_cons (pv 2) pa_nil))))
    (pss_one (ps_if (PW.pt (pw_and (pt_cmpR op_notN (pv 7) pe_non (nomark _)) (pw_and1 (pt_val (pe_callB (cr_all rfl) (by rfl) gall (by decide +kernel) (pa_cons (pe_lc (own := [("source", 8)]) (g := gName 8) (tt := tYes) (by rfl) sc_p_rowfor.nd (pi_tup (pv 6)) (blkOk_by (own := [("source", 8)]) (N := ["book", "files", "name", "row", "begin", "end", "sources", "within", "source"]) (sc := defScope s_p_row_for) (by decide +kernel)) (fun _ _ _ _ _ => pg_name (i := 8) sc_p_rowfor.nd rfl (Or.inl rfl)) (fun _ _ _ _ _ => pts_nil) (fun _ _ _ _ _ => (pe_cmpR (show OpR _ (compareOp .In) (rIn K false) from op_in_seq) (pe_cal CF hr (by omega) (pa_cons (pv 8) (pa_cons (pv 7) pa_nil))) (pv 1) (by rfl)))) pa_nil)))))) (pss_one (ps_ret (pv 3))) pss_nil)))))
    (pss_one (ps_ret pe_non)))), ?_⟩
      refine sq_drop ?_
      exact ⟨_, rfl, _, rfl, _, rfl, v1, v2, v3, d1, d2, d3, rfl, h1, h2, h3, b1, b2, b3, fun y => absurd y (by rw [ez]; exact fun z => nomatch z), fun z' ez' H1 s1 => by
        rw [ez] at ez'
        cases ez'
        exact ke H1 s1⟩
    refine ⟨_, (pss_cons (ps_expr (pe_calX CT hr (by omega) (takes_of rfl rfl rfl rfl) (pa_cons (pv 0) (pa_cons (pv 1) (pa_cons (pv 2) pa_nil)))))
    (pss_cons (ps_for (passes_of rfl) rfl (pi_list (pe_calX CA hr (by omega) (takes_of rfl rfl rfl rfl) (pa_cons (pv 0) pa_nil))) (pg_name (i := 3) sc_p_rowfor.nd rfl (.inl rfl))
    (pss_cons (ps_asg (pv 3) (pg_tup rfl (pgs_cons (pg_name (i := 4) sc_p_rowfor.nd rfl (.inl rfl)) (pgs_cons (pg_name (i := 5) sc_p_rowfor.nd rfl (.inl rfl)) (pgs_cons (pg_name (i := 6) sc_p_rowfor.nd rfl (.inl rfl)) pgs_nil)))))
    (pss_cons (ps_set (i := 7) sc_p_rowfor.nd rfl (.inr rfl) (pe_cal CS hr (by omega) (pa_cons (pe_tup (pa_cons (pv 4) (pa_cons (pv 5) pa_nil))) (pa_cons (pv 2) pa_nil))))
    (pss_one (ps_if (PW.pt (pw_and (pt_cmpR op_notN (pv 7) pe_non (nomark _)) (pw_and1 (pt_val (pe_callB (cr_all rfl) (by rfl) gall (by decide +kernel) (pa_cons (pe_lc (own := [("source", 8)]) (g := gName 8) (tt := tYes) (by rfl) sc_p_rowfor.nd (pi_tup (pv 6)) (blkOk_by (own := [("source", 8)]) (N := ["book", "files", "name", "row", "begin", "end", "sources", "within", "source"]) (sc := defScope s_p_row_for) (by decide +kernel)) (fun _ _ _ _ _ => pg_name (i := 8) sc_p_rowfor.nd rfl (Or.inl rfl)) (fun _ _ _ _ _ => pts_nil) (fun _ _ _ _ _ => (pe_cmpR (show OpR _ (compareOp .In) (rIn K false) from op_in_seq) (pe_cal CF hr (by omega) (pa_cons (pv 8) (pa_cons (pv 7) pa_nil))) (pv 1) (by rfl)))) pa_nil)))))) (pss_one (ps_ret (pv 3))) pss_nil)))))
    (pss_one (ps_ret pe_non)))), ?_⟩
    refine sq_drop ?_
    refine ⟨_, rfl, _, rfl, _, rfl, .ref q, .ref f, .str z, _, _, _, rfl, h1, h2, h3, b1, b2, b3, fun _ H1 s1 => ?_, fun z' ez' => absurd ez' (by rw [en]; exact fun z => nomatch z)⟩
    refine sq_for ?_
    refine ⟨_, rfl, .ref q, _, rfl, th_same s1 h1, b1, fun y => absurd hB (by rw [y]; exact fun z => nomatch z), fun _ => ⟨rs, rfl, fun fw T p zs H2 s2 np hp hz tab => ?_, fun nf dd H2 s2 hd2 => kx nf dd H2 (s1.trans s2) hd2⟩⟩
    have s02 := s1.trans s2
    have TB := tab.b hB
    have lT := thAll_len hz
    rw [List.length_map] at lT
    refine ⟨p, rfl, ⟨_, SqL.of hp⟩, for_list (K := K) (a := p) (xs := zs) (fun i σ H' => ∃ v3 v4 v5 v6 v7 : Option V, σ = [some (.ref q), some (.ref f), some (.str z), v3, v4, v5, v6, v7, none] ∧ Same H2 H' ∧ rowF F z (T.take i) = none)
      ⟨_, _, _, _, _, rfl, Same.refl _, rfl⟩ (fun i σ H' _ ⟨_, _, _, _, _, _, s, _⟩ => SqL.of (s _ _ hp)) ?_ ?_⟩
    · rintro i x σ H3 hxi ⟨v3, v4, v5, v6, v7, rfl, s3, no⟩
      obtain ⟨d, hd, thx⟩ := th_at (thAll_same s3 hz) hxi
      obtain ⟨w, hw, rfl⟩ := Option.map_eq_some_iff.mp ((List.getElem?_map ..).symm.trans hd)
      have mw := List.mem_of_getElem? hw
      obtain ⟨wb, wc, wl⟩ := TB w mw
      obtain ⟨q2, t, ys, rfl, hq2, ht, hy⟩ := th_ow thx
      have ly := thAll_len hy
      rw [List.length_map] at ly
      refine on_go (sq_asg ?_)
      refine ⟨_, rfl, q2, _, rfl, hq2, rfl, _, _, rfl, _, _, rfl, _, _, rfl, rfl, sq_asg ?_⟩
      refine ⟨_, rfl, _, rfl, (by show 2 ≤ sizeLine; decide), fun t1 n1 => ?_⟩
      have u4 := same_upd (o := .tup [.str w.l, .str w.r]) n1
      have h4 : upd H3 t1 (.tup [.str w.l, .str w.r]) t1 = some (.tup [.str w.l, .str w.r]) := upd_same
      generalize upd H3 t1 (.tup [.str w.l, .str w.r]) = H4 at u4 h4 ⊢
      have s24 := s3.trans u4
      refine ⟨_, rfl, t1, w.l, w.r, z, rfl, SqT.of h4, wc.l, wc.r, Nat.le_trans wb.1 (by decide), Nat.le_trans wb.2.1 (by decide), Nat.le_trans lz (by decide), fun m hm => ?_, fun none' => ?_⟩
      · have lm : m.length ≤ 1000000 := by
          have e := congrArg List.length hm
          rw [List.length_append, List.length_append, ← TL.len_tl, ← TL.len_tl, ← TL.len_tl, ← TL.len_tl] at e
          omega
        refine on_go (go_if ?_)
        refine ⟨_, rfl, rfl, _, rfl, iteT' rfl ⟨_, rfl, t, rfl, ⟨_, Same.seqT u4 ht⟩, fun Fa nF => ?_⟩⟩
        refine lc_tup (K := K) (a := t) (xs := ys) (fun j H' => Same H4 H' ∧ H' Fa = some (.lst (((w.vs.take j).map fun s => decide (s.put m ∈ F)).map V.bl))) ⟨same_upd nF, upd_same⟩ (fun j H' _ h => Same.seqT (u4.trans h.1) ht) ?_ ?_
        · rintro j y H5 hyj ⟨s5, hFa⟩
          obtain ⟨d, hd, thy⟩ := th_at (thAll_same (u4.trans s5) hy) hyj
          obtain ⟨a, ha, rfl⟩ := Option.map_eq_some_iff.mp ((List.getElem?_map ..).symm.trans hd)
          have ma := List.mem_of_getElem? ha
          have l3 := (List.getElem?_eq_some_iff.mp ha).1
          have fin : ∃ p0 xs0, V.ref f = .ref p0 ∧ (SqL K H5 p0 xs0 ∨ SqT K H5 p0 xs0) ∧ flatV (V.str (a.put m)) = true ∧ xs0.all flatV = true ∧ ∃ acc, H5 Fa = some (.lst acc) ∧ acc.length < sizeLine ∧ Same H4 (upd H5 Fa (.lst (acc ++ [V.bl (inV (V.str (a.put m)) xs0)]))) ∧ (upd H5 Fa (.lst (acc ++ [V.bl (inV (V.str (a.put m)) xs0)]))) Fa = some (.lst (((w.vs.take (j + 1)).map fun s => decide (s.put m ∈ F)).map V.bl)) := by
            refine ⟨f, _, rfl, .inr (Same.seqT ((s02.trans s24).trans s5) hf), rfl, flat_strs, _, hFa, ?_, same_mut s5 nF, ?_⟩
            · rw [List.length_map, List.length_map, List.length_take, sizeLine_eq]
              omega
            · rw [upd_same, List.take_add_one, ha, List.map_append, List.map_append, in_strs]
              rfl
          refine ⟨rfl, ⟨_, rfl, _, rfl, y, m, rfl, lm, ?_⟩⟩
          rcases th_src thy with ⟨x, rfl, rfl⟩ | ⟨q3, b, e, rfl, rfl, hq3⟩
          · exact .inl ⟨x, rfl, _, rfl, fin⟩
          · have bb : b.length ≤ 1000 ∧ e.length ≤ 1000 := wb.2.2 _ ma
            exact .inr ⟨q3, b, e, rfl, hq3, Nat.le_trans bb.1 (by decide), Nat.le_trans bb.2 (by decide), _, rfl, fin⟩
        · rintro H5 ⟨s5, hFa⟩
          rw [ly, List.take_length] at hFa
          refine ⟨Fa, _, rfl, SqL.of hFa, _, rfl, ?_⟩
          by_cases c : FitW F z w
          · refine iteT' (by rw [List.all_map, List.all_eq_true]; exact fun s ms => decide_eq_true ((fit_iff hm).mp c s ms)) (go_ret ⟨_, rfl, ?_⟩)
            refine k fw T _ H5 ((s02.trans s24).trans s5) tab ?_
            rw [row_hit hw no c]
            exact .one (th_same (u4.trans s5) thx)
          · refine iteF' ?_ (nxt_go ⟨_, _, _, _, _, rfl, s24.trans s5, (row_next hw no).mpr c⟩)
            rw [Bool.eq_false_iff, Ne, List.all_map, List.all_eq_true]
            exact fun h => c ((fit_iff hm).mpr fun s ms => of_decide_eq_true (h s ms))
      · refine on_go (go_if ?_)
        refine ⟨_, rfl, rfl, _, rfl, iteF' rfl (nxt_go ⟨_, _, _, _, _, rfl, s24, (row_next hw no).mpr (fit_no none')⟩)⟩
    · rintro σ H3 ⟨v3, v4, v5, v6, v7, rfl, s3, no⟩
      rw [lT, List.take_length] at no
      refine ends_go (go_ret ?_)
      refine k fw T _ H3 (s02.trans s3) tab ?_
      rw [no]
      exact .no
end
end Lk
/-! K36XT -/
set_option Elab.async false
set_option linter.all false
set_option maxRecDepth 100000
set_option maxHeartbeats 4000000
namespace Lk
open PySem PySem.Spec PyProof.Rows L2
section
variable {P : Program} {w : World} {K : PySem.W.Frag} {mg : Str → Option Value} {base : Heap} {e : E5}
/-! ### a name and files that part two books -/
def letsIn (T : List OW) : List Nat := T.flatMap fun w => TL.tl w.l
def freeL (T : List OW) : List Nat := (List.range' 65 26).filter fun c => decide (c ∉ letsIn T)
def isNmS : Src → Bool
  | .nm _ => true
  | .pat _ _ => false
def nmT : Src → Str
  | .nm x => x
  | .pat _ _ => ""
def plainN (T : List OW) : List Str := T.flatMap fun w => (w.vs.filter isNmS).map nmT
def maxN (xs : List Str) : Nat := (xs.map (·.length)).foldl max 0
/-- what is told: a name by a free letter, and files -/
structure PartedV (K : PySem.W.Frag) (H : Hp) (v : V) (row : OW) (T : List OW) : Prop where
  ex : ∃ (c : Nat) (m z : Str) (cs : List Str) (t f : Addr), (freeL T).head? = some c ∧ v = .ref t ∧ SqT K H t [.str z, .ref f] ∧ SqT K H f (cs.map V.str) ∧ TL.tl m = List.replicate (1 + maxN (plainN (row :: T))) c ∧ TL.tl z = TL.tl row.l ++ TL.tl m ++ TL.tl row.r ∧ IsAsc cs (row.vs.map (·.put m))
theorem fold_max : ∀ (l : List Nat) (a : Nat), ((l.map fun n : Nat => (n : Int)).foldl max (a : Int)) = ((l.foldl max a : Nat) : Int)
  | [], a => rfl
  | n :: l, a => by
    rw [List.map_cons, List.foldl_cons, List.foldl_cons, ← fold_max l (max a n)]
    congr 1
    omega
theorem mx_nat (l : List Nat) : mxI 0 (l.map fun n : Nat => (n : Int)) = ((l.foldl max 0 : Nat) : Int) := by
  cases l with
  | nil => rfl
  | cons n l =>
    show (l.map fun n : Nat => (n : Int)).foldl max (n : Int) = _
    rw [fold_max, List.foldl_cons, Nat.zero_max]
theorem foldmax_le : ∀ (l : List Nat) (a b : Nat), a ≤ b → (∀ n ∈ l, n ≤ b) → l.foldl max a ≤ b
  | [], a, b, h, _ => h
  | n :: l, a, b, h, e => by
    rw [List.foldl_cons]
    exact foldmax_le l _ b (by have := e n List.mem_cons_self; omega) fun m mm => e m (List.mem_cons_of_mem _ mm)
theorem maxN_le {xs : List Str} {b : Nat} (h : ∀ x ∈ xs, x.length ≤ b) : maxN xs ≤ b := foldmax_le _ _ _ (Nat.zero_le _) fun n m => by
  obtain ⟨x, mx, rfl⟩ := List.mem_map.mp m
  exact h x mx
theorem rep_one (c n : Nat) : (List.replicate n [c]).flatten = List.replicate n c := by
  induction n with
  | zero => rfl
  | succ n ih => rw [List.replicate_succ, List.flatten_cons, ih]; rfl
theorem plain_snoc {T : List OW} {i : Nat} {w : OW} (h : T[i]? = some w) : plainN (T.take (i + 1)) = plainN (T.take i) ++ (w.vs.filter isNmS).map nmT := by
  unfold plainN
  rw [List.take_add_one, h, List.flatMap_append]
  simp
theorem plain_len {T : List OW} (h : ∀ o ∈ T, o.vs.length ≤ 1000) : (plainN T).length ≤ T.length * 1000 := by
  induction T with
  | nil => exact Nat.zero_le _
  | cons o T ih =>
    show ((o.vs.filter isNmS).map nmT ++ plainN T).length ≤ (T.length + 1) * 1000
    rw [List.length_append, List.length_map]
    have a := List.length_filter_le isNmS o.vs
    have b := h o List.mem_cons_self
    have c := ih fun o m => h o (List.mem_cons_of_mem _ m)
    omega
theorem plain_b {T : List OW} (h : ∀ o ∈ T, OWB 1000 o) : ∀ x ∈ plainN T, x.length ≤ 1000 := fun x m => by
  obtain ⟨o, mo, m⟩ := List.mem_flatMap.mp m
  obtain ⟨s, ms, rfl⟩ := List.mem_map.mp m
  obtain ⟨ms, e⟩ := List.mem_filter.mp ms
  have b := (h o mo).2.2 s ms
  cases s with
  | nm x => exact b
  | pat b e => exact Nat.zero_le _
theorem cap_tl : TL.tl capS = List.range' 65 26 := by decide +kernel
theorem th_isS {H : Hp} {v : V} {s : Src} (h : Th K H v s.d) : (∃ x, s = .nm x ∧ v = .str x) ∨ ∃ q b e, s = .pat b e ∧ v = .ref q ∧ SqT K H q [.str b, .str e] := by
  rcases th_src h with ⟨x, rfl, rfl⟩ | ⟨q, b, e, rfl, rfl, hq⟩
  · exact .inl ⟨x, rfl, rfl⟩
  · exact .inr ⟨q, b, e, rfl, rfl, hq⟩
theorem put_b {n : Nat} {s : Src} {m : Str} (h : SrcB n s) : (s.put m).length ≤ n + n + m.length := by
  cases s with
  | nm x =>
    have q : x.length ≤ n := h
    show x.length ≤ _
    omega
  | pat b e =>
    have q : b.length ≤ n ∧ e.length ≤ n := h
    show (b ++ m ++ e).length ≤ _
    rw [len_add, len_add]
    omega
def spParted (K : PySem.W.Frag) : Sp := fun vs H Q _ => ∃ (v : V) (l : Addr) (xs : List V) (row : OW) (T : List OW), vs = [v, .ref l] ∧ Th K H v row.d ∧ SqL K H l xs ∧ ThAll K H xs (T.map OW.d) ∧ T.length ≤ 300 ∧ (∀ o ∈ row :: T, OWB 1000 o ∧ o.vs.length ≤ 1000) ∧ freeL T ≠ [] ∧
  ∀ (u : V) (H' : Hp), Same H H' → PartedV K H' u row T → Q u H'
theorem sc_p_parted : FnScope ["row", "rows", "begin", "end", "sources", "taken", "free", "plain", "within", "other", "letter", "source", "name"] ["row", "rows"] (defScope s_p_parted) := ⟨rfl, rfl, rfl, by decide +kernel, rfl, by decide +kernel, by decide +kernel⟩
set_option maxHeartbeats 0
theorem cal_p_parted (D : Def1 K mg "parted" s_p_parted) (G : Glb mg) (GC : Glc mg) (kcap : Con1 mg "CAPITALS" (.str capS)) (gmax : mg "max" = none) (CA : Cal P w K mg base 1 "ascending" (spAsc K)) (CF : Cal P w K mg base 1 "filled" (spFill K)) : Cal P w K mg base 2 "parted" (spParted K) := by
  refine mkCal D sc_p_parted (fun _ _ _ _ _ _ us hl => match us, hl with | [_, _], _ => rfl) (fun vs H Q E h => ?_) (fun f0 cdv A outer s H vs Q E hr h => ?_)
  · obtain ⟨v, l, xs, row, T, rfl, _⟩ := h
    rfl
  · obtain ⟨v, l, xs, row, T, rfl, th, hl, hx, few, each, ne, k⟩ := h
    refine ⟨_, (pss_cons (ps_asg (pv 0) (pg_tup rfl (pgs_cons (pg_name (i := 2) sc_p_parted.nd rfl (.inl rfl)) (pgs_cons (pg_name (i := 3) sc_p_parted.nd rfl (.inl rfl)) (pgs_cons (pg_name (i := 4) sc_p_parted.nd rfl (.inl rfl)) pgs_nil)))))
    (pss_cons (ps_set (i := 5) sc_p_parted.nd rfl (.inr rfl) (pe_join pe_str (pe_lc (own := [("other", 9)]) (g := gName 9) (tt := tYes) (by rfl) sc_p_parted.nd (pi_list (pv 1)) (blkOk_by (own := [("other", 9)]) (N := ["row", "rows", "begin", "end", "sources", "taken", "free", "plain", "within", "other", "letter", "source", "name"]) (sc := defScope s_p_parted) (by decide +kernel)) (fun _ _ _ _ _ => pg_name (i := 9) sc_p_parted.nd rfl (Or.inl rfl)) (fun _ _ _ _ _ => pts_nil) (fun _ _ _ _ _ => (pe_ix (show IxR _ (rIxT K) from ix_tup) (pv 9) pe_int (fun _ _ => rfl))))))
    (pss_cons (ps_setLc (i := 6) (own := [("letter", 10)]) (g := gName 10) (by rfl) sc_p_parted.nd rfl rfl (sw_true rfl rfl rfl (by decide +kernel)) (pi_str (pe_con1 kcap)) (blkOk_by (own := [("letter", 10)]) (N := ["row", "rows", "begin", "end", "sources", "taken", "free", "plain", "within", "other", "letter", "source", "name"]) (sc := defScope s_p_parted) (by decide +kernel)) (fun _ _ _ _ _ => pg_name (i := 10) sc_p_parted.nd rfl (Or.inl rfl)) (fun _ _ _ _ _ => pts_one (pt_cmpR op_notInS (pv 10) (pv 5) (by rfl))) (fun _ _ _ _ _ => (pv 10)))
    (pss_cons (ps_setLc2 (i := 7) (own := [("other", 9), ("source", 11)]) (vs1 := [11]) (g := gName 9) (g1 := gName 11) (tt := tYes) (by rfl) sc_p_parted.nd rfl rfl (sw_true rfl rfl rfl (by decide +kernel)) (pi_list (pe_lst (pa_cons (pv 0) (StX.pa_star (pv 1) pa_nil)))) (blkOk_by (own := [("other", 9), ("source", 11)]) (N := ["row", "rows", "begin", "end", "sources", "taken", "free", "plain", "within", "other", "letter", "source", "name"]) (sc := defScope s_p_parted) (by decide +kernel)) (by decide) (fun _ _ _ _ _ => pg_name (i := 9) sc_p_parted.nd rfl (Or.inl rfl)) (fun _ _ _ _ _ => pts_nil) (fun _ _ _ _ _ => (inT (K := K) (pe_ix (show IxR _ (rIxT K) from ix_tup) (pv 9) pe_int (fun _ _ => rfl)))) (fun _ _ _ _ _ => pg_name (i := 11) sc_p_parted.nd rfl (Or.inl rfl)) (fun _ _ _ _ _ => pts_one (pt_val (show PE _ _ (tCB (rIsi K) (tCons (tVar 11) (tCons (tC (.ty "str")) tNil))) from pe_isi (T := "str") (pv 11) GC.isinst GC.str (by decide +kernel)))) (fun _ _ _ _ _ => (pv 11)))
    (pss_cons (ps_set (i := 8) sc_p_parted.nd rfl (.inr rfl) (pe_op op_strRep0 (pe_ix ix_list (pv 6) pe_int (fun _ _ => rfl)) (pe_op op_add pe_int (pe_maxD (pe_lc (own := [("name", 12)]) (g := gName 12) (tt := tYes) (by rfl) sc_p_parted.nd (pi_list (pv 7)) (blkOk_by (own := [("name", 12)]) (N := ["row", "rows", "begin", "end", "sources", "taken", "free", "plain", "within", "other", "letter", "source", "name"]) (sc := defScope s_p_parted) (by decide +kernel)) (fun _ _ _ _ _ => pg_name (i := 12) sc_p_parted.nd rfl (Or.inl rfl)) (fun _ _ _ _ _ => pts_nil) (fun _ _ _ _ _ => (pe_callB call_len_str (by rfl) G.len PySem.boot_len (pa_cons (pv 12) pa_nil)))) (by rfl) (u64 hr) gmax))))
    (pss_one (ps_ret (pe_tup (pa_cons (pe_op op_add_str (pe_op op_add_str (pv 2) (pv 8)) (pv 3)) (pa_cons (pe_cal CA hr (by omega) (pa_cons (pe_lc (own := [("source", 11)]) (g := gName 11) (tt := tYes) (by rfl) sc_p_parted.nd (pi_tup (pv 4)) (blkOk_by (own := [("source", 11)]) (N := ["row", "rows", "begin", "end", "sources", "taken", "free", "plain", "within", "other", "letter", "source", "name"]) (sc := defScope s_p_parted) (by decide +kernel)) (fun _ _ _ _ _ => pg_name (i := 11) sc_p_parted.nd rfl (Or.inl rfl)) (fun _ _ _ _ _ => pts_nil) (fun _ _ _ _ _ => (pe_cal CF hr (by omega) (pa_cons (pv 11) (pa_cons (pv 8) pa_nil))))) pa_nil)) pa_nil)))))))))), ?_⟩
    obtain ⟨q, t, ys, rfl, hq, ht, hy⟩ := th_ow th
    have lx := thAll_len hx
    rw [List.length_map] at lx
    have ly := thAll_len hy
    rw [List.length_map] at ly
    obtain ⟨rb, rl⟩ := each row List.mem_cons_self
    have eachT : ∀ o ∈ T, OWB 1000 o ∧ o.vs.length ≤ 1000 := fun o m => each o (List.mem_cons_of_mem _ m)
    refine sq_asg ?_
    refine ⟨_, rfl, q, _, rfl, hq, rfl, _, _, rfl, _, _, rfl, _, _, rfl, rfl, ?_⟩
    -- taken
    refine sq_asg ?_
    refine ⟨⟨"", rfl⟩, _, rfl, l, rfl, ⟨_, hl⟩, fun F nF => ?_⟩
    refine lc_list (K := K) (a := l) (xs := xs) (fun i H' => Same H H' ∧ H' F = some (.lst ((T.take i).map fun w => V.str w.l))) ⟨same_upd nF, upd_same⟩ (fun i H' _ h => Same.seq h.1 hl) ?_ ?_
    · rintro i x H1 hxi ⟨s1, hF⟩
      obtain ⟨d, hd, thx⟩ := th_at (thAll_same s1 hx) hxi
      obtain ⟨w, hw, rfl⟩ := Option.map_eq_some_iff.mp ((List.getElem?_map ..).symm.trans hd)
      have iT := (List.getElem?_eq_some_iff.mp hw).1
      obtain ⟨q2, t2, zs, rfl, hq2, ht2, hz⟩ := th_ow thx
      refine ⟨rfl, ?_⟩
      refine ⟨_, rfl, q2, _, 0, _, rfl, rfl, hq2, atI_nat (j := 0) rfl, _, hF, ?_, same_mut s1 nF, ?_⟩
      · rw [List.length_map, List.length_take, sizeLine_eq]
        omega
      · rw [upd_same, List.take_add_one, hw, List.map_append]
        rfl
    rintro H1 ⟨s1, hF⟩
    rw [lx, List.take_length] at hF
    refine ⟨"", F, T.map (·.l), rfl, rfl, .inl ?_, ?_, ?_⟩
    · rw [List.map_map]
      exact SqL.of hF
    · have z : ∀ T : List OW, (∀ o ∈ T, OWB 1000 o ∧ o.vs.length ≤ 1000) → ((T.map (·.l)).map (·.length)).sum ≤ T.length * 1000 := fun T h => by
        induction T with
        | nil => exact Nat.zero_le _
        | cons o T ih =>
          have a := (h o List.mem_cons_self).1.1
          have b := ih fun o m => h o (List.mem_cons_of_mem _ m)
          show o.l.length + ((T.map (·.l)).map (·.length)).sum ≤ (T.length + 1) * 1000
          omega
      have y := z T eachT
      rw [List.length_map]
      show _ + T.length * 0 ≤ _
      omega
    have etk : TL.tl (Txt.join "" (T.map (·.l))) = letsIn T := by
      rw [tl_join0 rfl, List.map_map]
      unfold letsIn
      rw [List.flatMap_def]
      rfl
    generalize Txt.join "" (T.map (·.l)) = tk at etk
    -- free
    refine on_go (sq_asg ?_)
    refine ⟨_, rfl, fun F2 n2 => ?_⟩
    refine lc_str (x := capS) (fun pre H' => Same H1 H' ∧ H' F2 = some (.lst ((pre.filter fun c => decide (c ∉ letsIn T)).map fun c => V.str (sg c)))) ⟨same_upd n2, upd_same⟩ ?_ ?_
    · rintro pre c post H2 e ⟨s2, h2⟩
      have lp : pre.length ≤ 26 := by
        have z := congrArg List.length e
        rw [cap_tl, List.length_range', List.length_append] at z
        omega
      have lf := List.length_filter_le (fun c => decide (c ∉ letsIn T)) pre
      refine ⟨rfl, ?_⟩
      refine ⟨_, rfl, _, rfl, c, tk, rfl, rfl, _, rfl, ?_⟩
      have em : decide (c ∈ tk.cps.toList) = decide (c ∈ letsIn T) := by rw [← etk]
      rw [em]
      by_cases m : c ∈ letsIn T
      · refine iteF' (by rw [decide_eq_true m]; rfl) ⟨s2, ?_⟩
        rw [List.filter_append, show [c].filter (fun c => decide (c ∉ letsIn T)) = [] by rw [List.filter_cons, decide_eq_false (fun z => z m)]; rfl, List.append_nil]
        exact h2
      · refine iteT' (by rw [decide_eq_false m]; rfl) ⟨_, rfl, _, h2, ?_, same_mut s2 n2, ?_⟩
        · rw [List.length_map, sizeLine_eq]
          omega
        · rw [upd_same, List.filter_append, show [c].filter (fun c => decide (c ∉ letsIn T)) = [c] by rw [List.filter_cons, decide_eq_true m]; rfl, List.map_append]
          rfl
    rintro H2 ⟨s2, hF2⟩
    rw [cap_tl] at hF2
    have s02 := s1.trans s2
    -- plain
    refine on_go (sq_asg ?_)
    have th3 := thAll_same s02 (ThAll.cons th hx)
    have hl2 := Same.seq s02 hl
    refine ⟨_, rfl, _, rfl, l, xs, rfl, .inr hl2, ?_, fun L nL => ⟨L, rfl, ⟨_, SqL.of upd_same⟩, fun F3 n3 => ?_⟩⟩
    · show (xs ++ []).length + 1 ≤ sizeLine
      rw [List.append_nil, sizeLine_eq]
      omega
    have sL := same_upd (o := .lst (V.ref q :: (xs ++ []))) nL
    have hL : upd H2 L (.lst (V.ref q :: (xs ++ []))) L = some (.lst (.ref q :: xs)) := upd_same.trans (by rw [List.append_nil])
    show ∃ W : Nat → Nat → Hp → Prop, (∃ m, W 0 m (upd (upd H2 L (.lst (V.ref q :: (xs ++ [])))) F3 (.lst []))) ∧ _
    generalize upd H2 L (.lst (V.ref q :: (xs ++ []))) = H3 at sL hL n3 ⊢
    have s03 := s02.trans sL
    have th3' := thAll_same sL th3
    have hlen : ∀ o ∈ row :: T, OWB 1000 o ∧ o.vs.length ≤ 1000 := each
    have pl := plain_len (T := row :: T) fun o m => (each o m).2
    have pb := plain_b (T := row :: T) fun o m => (each o m).1
    have few2 : (row :: T).length ≤ 301 := Nat.succ_le_succ few
    refine lc2_list (K := K) (a := L) (xs := .ref q :: xs) (fun i H' => Same H3 H' ∧ H' F3 = some (.lst ((plainN ((row :: T).take i)).map V.str))) ⟨same_upd n3, upd_same⟩ (fun i H' _ h => SqL.of (h.1 _ _ hL)) ?_ ?_
    · rintro i x H4 hxi ⟨s4, hF⟩
      obtain ⟨d, hd, thx⟩ := th_at th3' hxi
      obtain ⟨w, hw, rfl⟩ := Option.map_eq_some_iff.mp ((List.getElem?_map ..).symm.trans (show ((row :: T).map OW.d)[i]? = some d from hd))
      have iT := (List.getElem?_eq_some_iff.mp hw).1
      obtain ⟨q2, t2, zs, rfl, hq2, ht2, hz⟩ := th_ow thx
      have lz := thAll_len hz
      rw [List.length_map] at lz
      have wl := (each w (List.mem_of_getElem? hw)).2
      refine ⟨rfl, ?_⟩
      refine ⟨_, rfl, q2, _, 2, _, rfl, rfl, Same.seqT s4 hq2, atI_nat (j := 2) rfl, t2, rfl, ⟨_, Same.seqT s4 ht2⟩, ?_⟩
      refine in_tup (K := K) (xs := zs) (fun j H' => Same H3 H' ∧ H' F3 = some (.lst ((plainN ((row :: T).take i) ++ ((w.vs.take j).filter isNmS).map nmT).map V.str))) ⟨s4, by rw [List.take_zero]; show _ = some (HO.lst ((_ ++ []).map V.str)); rw [List.append_nil]; exact hF⟩ (fun j H' _ h => ?_) ?_ ?_
      · exact Same.seqT h.1 ht2
      · rintro j y H5 hyj ⟨s5, hF5⟩
        obtain ⟨d, hd, thy⟩ := th_at (thAll_same s5 hz) hyj
        obtain ⟨s, hs, rfl⟩ := Option.map_eq_some_iff.mp ((List.getElem?_map ..).symm.trans hd)
        have jl := (List.getElem?_eq_some_iff.mp hs).1
        have p1 := plain_len (T := (row :: T).take i) fun o m => (each o (List.mem_of_mem_take m)).2
        have p2 := List.length_filter_le isNmS (w.vs.take j)
        rw [List.length_take] at p1 p2
        refine ⟨rfl, _, rfl, y, _, _, _, _, rfl, .ty _, th_ty thy, kit_str _, _, rfl, ?_⟩
        rcases th_isS thy with ⟨x, rfl, rfl⟩ | ⟨q3, b, e, rfl, rfl, hq3⟩
        · refine iteT' rfl ⟨_, rfl, _, hF5, ?_, same_mut s5 n3, ?_⟩
          · rw [List.length_map, List.length_append, List.length_map, sizeLine_eq]
            omega
          · rw [upd_same, List.take_add_one, hs, List.filter_append]
            simp only [List.map_append, List.append_assoc]
            rfl
        · refine iteF' rfl ⟨s5, ?_⟩
          rw [List.take_add_one, hs, List.filter_append]
          show H5 F3 = some (HO.lst ((_ ++ ((w.vs.take j).filter isNmS ++ []).map nmT).map V.str))
          rw [List.append_nil]
          exact hF5
      · rintro H5 ⟨s5, hF5⟩
        rw [lz, List.take_length, ← plain_snoc hw] at hF5
        exact ⟨s5, hF5⟩
    rintro H4 ⟨s4, hF⟩
    rw [show (V.ref q :: xs).length = (row :: T).length from congrArg (· + 1) lx, List.take_length] at hF
    obtain ⟨c, fr, ef⟩ : ∃ c fr, freeL T = c :: fr := by
      cases h : freeL T with
      | nil => exact absurd h ne
      | cons c fr => exact ⟨c, fr, rfl⟩
    have hF2' : H4 F2 = some (.lst (((c :: fr).map fun c => V.str (sg c)))) := by
      rw [← ef]
      exact s4 _ _ (sL _ _ hF2)
    have s04 := s03.trans s4
    refine on_go (sq_asg ?_)
    refine ⟨_, rfl, F2, _, 0, _, rfl, rfl, SqL.of hF2', atI_nat (j := 0) rfl, ?_⟩
    refine ⟨_, rfl, F3, rfl, ⟨_, SqL.of hF⟩, fun F4 n4 => ?_⟩
    refine lc_list (K := K) (a := F3) (xs := (plainN (row :: T)).map V.str) (fun i H' => Same H4 H' ∧ H' F4 = some (.lst ((((plainN (row :: T)).take i).map fun x => V.int (x.length : Int))))) ⟨same_upd n4, upd_same⟩ (fun i H' _ h => SqL.of (h.1 _ _ hF)) ?_ ?_
    · rintro i x H5 hxi ⟨s5, hF5⟩
      obtain ⟨y, hy', rfl⟩ := Option.map_eq_some_iff.mp ((List.getElem?_map ..).symm.trans hxi)
      have my := pb y (List.mem_of_getElem? hy')
      have iy := (List.getElem?_eq_some_iff.mp hy').1
      refine ⟨rfl, _, rfl, _, rfl, by rw [sizeLine_eq]; omega, _, hF5, ?_, same_mut s5 n4, ?_⟩
      · rw [List.length_map, List.length_take, sizeLine_eq]
        omega
      · rw [upd_same, List.take_add_one, hy', List.map_append]
        rfl
    rintro H5 ⟨s5, hF5⟩
    rw [List.length_map, List.take_length] at hF5
    have mxb := maxN_le pb
    refine ⟨F4, ((plainN (row :: T)).map (·.length)).map fun n : Nat => (n : Int), rfl, ?_, ?_⟩
    · rw [List.map_map, List.map_map]
      exact SqL.of hF5
    rw [mx_nat]
    refine ⟨1, ((maxN (plainN (row :: T)) : Nat) : Int), rfl, rfl, sg c, 1 + maxN (plainN (row :: T)), rfl, by show V.int (1 + _) = _; congr 1, by omega, by show 1 ≤ 1000; decide, fun m hm => ?_⟩
    have em : TL.tl m = List.replicate (1 + maxN (plainN (row :: T))) c := hm.trans (rep_one c _)
    have lm : m.length ≤ 1001 := by rw [TL.len_tl, em, List.length_replicate]; omega
    have s05 := s04.trans s5
    have rb1 := rb.1
    have rb2 := rb.2.1
    refine on_go (go_ret ?_)
    refine ⟨_, rfl, _, rfl, row.l, m, rfl, rfl, by rw [sizeLine_eq]; omega, _, rfl, row.l ++ m, row.r, rfl, rfl, by rw [len_add, sizeLine_eq]; omega, ?_⟩
    refine ⟨_, rfl, t, rfl, ⟨_, Same.seqT s05 ht⟩, fun F5 n5 => ?_⟩
    refine lc_tup (K := K) (a := t) (xs := ys) (fun j H' => Same H5 H' ∧ H' F5 = some (.lst (((row.vs.take j).map fun s => V.str (s.put m))))) ⟨same_upd n5, upd_same⟩ (fun j H' _ h => Same.seqT (s05.trans h.1) ht) ?_ ?_
    · rintro j y H6 hyj ⟨s6, hF6⟩
      obtain ⟨d, hd, thy⟩ := th_at (thAll_same (s05.trans s6) hy) hyj
      obtain ⟨a, ha, rfl⟩ := Option.map_eq_some_iff.mp ((List.getElem?_map ..).symm.trans hd)
      have ma := List.mem_of_getElem? ha
      have ja := (List.getElem?_eq_some_iff.mp ha).1
      have fin : ∃ acc, H6 F5 = some (.lst acc) ∧ acc.length < sizeLine ∧ Same H5 (upd H6 F5 (.lst (acc ++ [V.str (a.put m)]))) ∧ (upd H6 F5 (.lst (acc ++ [V.str (a.put m)]))) F5 = some (.lst ((row.vs.take (j + 1)).map fun s => V.str (s.put m))) := by
        refine ⟨_, hF6, ?_, same_mut s6 n5, ?_⟩
        · rw [List.length_map, List.length_take, sizeLine_eq]
          omega
        · rw [upd_same, List.take_add_one, ha, List.map_append]
          rfl
      refine ⟨rfl, _, rfl, _, rfl, y, m, rfl, by omega, ?_⟩
      rcases th_isS thy with ⟨x, rfl, rfl⟩ | ⟨q3, b, e, rfl, rfl, hq3⟩
      · exact .inl ⟨x, rfl, fin⟩
      · have bb : b.length ≤ 1000 ∧ e.length ≤ 1000 := rb.2.2 _ ma
        exact .inr ⟨q3, b, e, rfl, hq3, Nat.le_trans bb.1 (by decide), Nat.le_trans bb.2 (by decide), fin⟩
    rintro H6 ⟨s6, hF6⟩
    rw [ly, List.take_length] at hF6
    have s06 := s05.trans s6
    refine ⟨F5, row.vs.map (·.put m), rfl, .inl (by rw [List.map_map]; exact SqL.of hF6), ?_, ?_, fun cs f H7 s7 hf7 asc => ⟨by show 2 ≤ sizeLine; decide, fun p np => ?_⟩⟩
    · rw [List.length_map]
      exact Nat.lt_of_le_of_lt (Nat.succ_le_succ rl) (by decide)
    · intro y my
      obtain ⟨s, ms, rfl⟩ := List.mem_map.mp my
      have z := put_b (m := m) (rb.2.2 s ms)
      rw [sizeLine_eq]
      omega
    · have s8 := same_upd (o := .tup [.str (row.l ++ m ++ row.r), .ref f]) np
      refine k _ _ ((s06.trans s7).trans s8) ⟨c, m, row.l ++ m ++ row.r, cs, p, f, by rw [ef]; rfl, rfl, SqT.of upd_same, SqT.of (s8 _ _ hf7), em, by rw [TL.tl_append, TL.tl_append], asc⟩
end
end Lk
/-! K36XU -/
set_option Elab.async false
set_option linter.all false
set_option maxRecDepth 100000
set_option maxHeartbeats 4000000
namespace Lk
open PySem PySem.Spec PyProof.Rows L2
section
variable {P : Program} {w : World} {K : PySem.W.Frag} {mg : Str → Option Value} {base : Heap} {e : E5}
/-! ### parting -/
theorem cut_sub {x : Str} {lo hi : Option Int} : ∀ c ∈ TL.tl (cutS x lo hi), c ∈ TL.tl x := fun c m => List.mem_of_mem_drop (List.mem_of_mem_take m)
/-- the letters asked for at the left stand in the targets' beginnings -/
def LetB (rs : List Rl) (w : OW) : Prop := ∀ c ∈ TL.tl w.l, c ∈ rs.flatMap fun r => TL.tl r.b
theorem let_mxl {rs : List Rl} {x y : Str} (hx : ∀ c ∈ TL.tl x, c ∈ rs.flatMap fun r => TL.tl r.b) (hy : ∀ c ∈ TL.tl y, c ∈ rs.flatMap fun r => TL.tl r.b) : ∀ c ∈ TL.tl (mxl x y), c ∈ rs.flatMap fun r => TL.tl r.b := by
  unfold mxl
  split
  · exact hy
  · exact hx
theorem let_ch {rs : List Rl} {f : Src → List OW} : ∀ {ss : List Src}, (∀ s ∈ ss, ∀ w ∈ f s, LetB rs w) → ∀ {acc : List OW}, (∀ w ∈ acc, LetB rs w) → ∀ w ∈ ss.foldl (fun acc a => joinS acc (f a)) acc, LetB rs w
  | [], _, acc, ha, w, m => ha w m
  | s :: ss, hf, acc, ha, w, m => by
    rw [List.foldl_cons] at m
    refine let_ch (fun t mt => hf t (List.mem_cons_of_mem _ mt)) (fun z mz => ?_) w m
    obtain ⟨x, mx, mz⟩ := List.mem_flatMap.mp mz
    obtain ⟨y, my, e⟩ := List.mem_filterMap.mp mz
    unfold togS at e
    split at e
    · cases e
      exact let_mxl (ha x mx) (hf s List.mem_cons_self y my)
    · cases e
theorem let_ow {rs : List Rl} : ∀ (n : Nat) (a : Src) (sp : List Nat), ∀ w ∈ owM rs n a sp, LetB rs w
  | 0, a, sp, w, m => by
    rw [List.mem_singleton.mp (show w ∈ [(⟨"", "", [a]⟩ : OW)] from m)]
    exact fun _ m => nomatch m
  | n + 1, a, sp, w, m => by
    rcases List.mem_cons.mp (show w ∈ (⟨"", "", [a]⟩ : OW) :: rs.zipIdx.flatMap (owR (owM rs n) a sp) from m) with rfl | m
    · exact fun _ m => nomatch m
    · obtain ⟨c, mc, mw⟩ := List.mem_flatMap.mp m
      have mr : c.1 ∈ rs := List.mem_of_getElem? (List.mem_zipIdx_iff_getElem?.mp (show (c.1, c.2) ∈ rs.zipIdx from mc))
      unfold owR at mw
      split at mw
      · cases mw
      · split at mw
        · cases mw
        · rename_i mm hm
          obtain ⟨v, mv, rfl⟩ := List.mem_map.mp mw
          have q : LetB rs v := let_ch (fun s _ => let_ow n s (sp ++ [c.2])) (acc := [⟨"", "", []⟩]) (fun w m => by rw [List.mem_singleton.mp m]; exact fun _ m => nomatch m) v mv
          have b : ∀ k ∈ TL.tl mm.1, k ∈ TL.tl c.1.b := by
            cases a with
            | nm x =>
              rw [meetS_nm] at hm
              obtain ⟨t, _, rfl⟩ := Option.map_eq_some_iff.mp hm
              exact fun _ m => nomatch m
            | pat b e' =>
              rw [meetS_pat] at hm
              split at hm
              · cases hm
                exact cut_sub
              · cases hm
          intro k mk
          rcases List.mem_append.mp (show k ∈ TL.tl mm.1 ++ TL.tl v.l by rw [← TL.tl_append]; exact mk) with mk | mk
          · exact List.mem_flatMap.mpr ⟨c.1, mr, b k mk⟩
          · exact q k mk
theorem IsTab.lets {rs : List Rl} {T : List OW} (h : IsTab rs T) : ∀ c ∈ letsIn T, c ∈ rs.flatMap fun r => TL.tl r.b := by
  obtain ⟨as, R, f, c, rfl⟩ := h.ex
  intro k mk
  obtain ⟨w, mw, mk⟩ := List.mem_flatMap.mp mk
  obtain ⟨o, mo, e1, _, _⟩ := Fa2.back f (c.sub w (tab_mem.mp mw).1)
  rw [e1] at mk
  exact let_ow _ _ _ o mo k mk
/-- a capital is free -/
theorem IsTab.free {rs : List Rl} {T : List OW} (h : IsTab rs T) (hB : dBook (.tuple (rs.map Rl.d)) = true) : freeL T ≠ [] := by
  obtain ⟨many, len⟩ := book_len hB
  intro e
  have sub : ∀ c ∈ List.range' 65 26, c ∈ rs.flatMap fun r => TL.tl r.b := fun c mc => by
    refine Classical.byContradiction fun no => ?_
    have z : c ∈ freeL T := List.mem_filter.mpr ⟨mc, decide_eq_true fun m => no (h.lets c m)⟩
    rw [e] at z
    cases z
  have y := nodup_len (List.nodup_range' (s := 65) (n := 26)) sub
  have l : ∀ rs : List Rl, (∀ r ∈ rs, RlLen r) → (rs.flatMap fun r => TL.tl r.b).length ≤ rs.length * 3 := fun rs h => by
    induction rs with
    | nil => exact Nat.zero_le _
    | cons r rs ih =>
      have a := (h r List.mem_cons_self).lb
      rw [TL.len_tl] at a
      have b := ih fun r m => h r (List.mem_cons_of_mem _ m)
      rw [List.flatMap_cons, List.length_append, List.length_cons]
      omega
  have z := l rs len
  rw [List.length_range'] at y
  omega
/-- what parting tells of two tables -/
inductive PartR (K : PySem.W.Frag) (H : Hp) (T1 T2 : List OW) : V → Prop
  | same : (∀ w ∈ T1, T2.any (lyU w) = true) → (∀ w ∈ T2, T1.any (lyU w) = true) → PartR K H T1 T2 .non
  | fst {v : V} {w : OW} : w ∈ T1 → T2.any (lyU w) = false → PartedV K H v w T2 → PartR K H T1 T2 v
  | snd {v : V} {w : OW} : w ∈ T2 → T1.any (lyU w) = false → PartedV K H v w T1 → PartR K H T1 T2 v
def spPartX (K : PySem.W.Frag) (e : E5) (TM : Addr) : Sp := fun vs H Q E => ∃ (v1 v2 : V) (d1 d2 : PyData), vs = [v1, v2] ∧ Th K H v1 d1 ∧ Th K H v2 d2 ∧ d1.bulk ≤ 1000000 ∧ d2.bulk ≤ 1000000 ∧
  ((dBook d1 = false ∨ dBook d2 = false) → ∀ H', Same H H' → E (.ref e.b) none H') ∧
  (dBook d1 = true → dBook d2 = true → ∃ r1 r2 : List Rl, d1 = .tuple (r1.map Rl.d) ∧ d2 = .tuple (r2.map Rl.d) ∧
    ((FewW r1 r1.length (.pat "" "") [] ∧ FewW r2 r2.length (.pat "" "") []) → ∀ (T1 T2 : List OW) (v : V) (H' : Hp), Same H H' → IsTab r1 T1 → IsTab r2 T2 → PartR K H' T1 T2 v → Q v H') ∧
    (¬ (FewW r1 r1.length (.pat "" "") [] ∧ FewW r2 r2.length (.pat "" "") []) → ∀ (dd : Addr) (H' : Hp), Same H H' → H' dd = some lim300 → E (.ref TM) (some dd) H'))
theorem sc_p_parting : FnScope ["one", "other", "first", "second", "row"] ["one", "other"] (defScope s_p_parting) := ⟨rfl, rfl, rfl, by decide +kernel, rfl, by decide +kernel, by decide +kernel⟩
theorem calx_parting {TM : Addr} (D : Def1 K mg "parting" s_p_parting) (CB : CalX P w K mg base 7 "need_book" (spNeedOne K dBook e.b)) (CA : CalX P w K mg base 18 "table" (spTableX K e TM)) (CL : Cal P w K mg base 2 "lies_under" (spLies K)) (CP : Cal P w K mg base 2 "parted" (spParted K)) :
    CalX P w K mg base 19 "parting" (spPartX K e TM) := by
  refine mkCalX D sc_p_parting (fun _ _ _ _ _ _ us hl => match us, hl with | [_, _], _ => rfl) (fun vs H Q E h => ?_) (fun f0 cdv A outer s H vs Q E hr h => ?_)
  · obtain ⟨v1, v2, d1, d2, rfl, _⟩ := h
    rfl
  · obtain ⟨v1, v2, d1, d2, rfl, h1, h2, b1, b2, kb, kk⟩ := h
    refine ⟨_, (pss_cons (ps_expr (pe_calX CB hr (by omega) (takes_of rfl rfl rfl rfl) (pa_cons (pv 0) pa_nil)))
    (pss_cons (ps_expr (pe_calX CB hr (by omega) (takes_of rfl rfl rfl rfl) (pa_cons (pv 1) pa_nil)))
    (pss_cons (ps_set (i := 2) sc_p_parting.nd rfl (.inl rfl) (pe_calX CA hr (by omega) (takes_of rfl rfl rfl rfl) (pa_cons (pv 0) pa_nil)))
    (pss_cons (ps_set (i := 3) sc_p_parting.nd rfl (.inl rfl) (pe_calX CA hr (by omega) (takes_of rfl rfl rfl rfl) (pa_cons (pv 1) pa_nil)))
    (pss_cons (ps_for (passes_of rfl) rfl (pi_list (pv 2)) (pg_name (i := 4) sc_p_parting.nd rfl (.inl rfl))
    (pss_one (ps_if (pt_not (pt_val (pe_cal CL hr (by omega) (pa_cons (pv 4) (pa_cons (pv 3) pa_nil))))) (pss_one (ps_ret (pe_cal CP hr (by omega) (pa_cons (pv 4) (pa_cons (pv 3) pa_nil))))) pss_nil)))
    (pss_cons (ps_for (passes_of rfl) rfl (pi_list (pv 3)) (pg_name (i := 4) sc_p_parting.nd rfl (.inl rfl))
    (pss_one (ps_if (pt_not (pt_val (pe_cal CL hr (by omega) (pa_cons (pv 4) (pa_cons (pv 2) pa_nil))))) (pss_one (ps_ret (pe_cal CP hr (by omega) (pa_cons (pv 4) (pa_cons (pv 2) pa_nil))))) pss_nil)))
    (pss_one (ps_ret pe_non)))))))), ?_⟩
    refine sq_drop ?_
    refine ⟨_, rfl, v1, d1, rfl, h1, b1, fun y1 H1 s1 => ?_, fun n1 H1 s1 => kb (.inl n1) H1 s1⟩
    refine sq_drop ?_
    refine ⟨_, rfl, v2, d2, rfl, th_same s1 h2, b2, fun y2 H2 s2 => ?_, fun n2 H2 s2 => kb (.inr n2) H2 (s1.trans s2)⟩
    have s02 := s1.trans s2
    obtain ⟨r1, r2, rfl, rfl, k, kx⟩ := kk y1 y2
    refine sq_asg ?_
    refine ⟨_, rfl, v1, _, rfl, th_same s02 h1, b1, fun y => absurd (y1.symm.trans y) (fun z => nomatch z), fun _ => ⟨r1, rfl, fun f1 T1 p1 z1 H3 s3 n3 hp1 hz1 t1 => ?_, fun nf dd H3 s3 h3 => kx (fun a => nf a.1) dd H3 (s02.trans s3) h3⟩⟩
    have s03 := s02.trans s3
    refine on_go (sq_asg ?_)
    refine ⟨_, rfl, v2, _, rfl, th_same s03 h2, b2, fun y => absurd (y2.symm.trans y) (fun z => nomatch z), fun _ => ⟨r2, rfl, fun f2 T2 p2 z2 H4 s4 n4 hp2 hz2 t2 => ?_, fun nf dd H4 s4 h4 => kx (fun a => nf a.2) dd H4 (s03.trans s4) h4⟩⟩
    have s04 := s03.trans s4
    have hp1 := s4 _ _ hp1
    have hz1 := thAll_same s4 hz1
    have B1 := t1.b y1
    have B2 := t2.b y2
    have l1 := thAll_len hz1
    have l2 := thAll_len hz2
    rw [List.length_map] at l1 l2
    have F1 : T1.length ≤ 300 := t1.len (by cases h : r1.length with | zero => exact (by decide : 1 ≤ 300) | succ n => rw [h] at f1; exact f1.1)
    have F2 : T2.length ≤ 300 := t2.len (by cases h : r2.length with | zero => exact (by decide : 1 ≤ 300) | succ n => rw [h] at f2; exact f2.1)
    have fr1 := t1.free y1
    have fr2 := t2.free y2
    have kq := k ⟨f1, f2⟩ T1 T2
    refine on_go (sq_for ?_)
    refine ⟨_, rfl, p1, rfl, ⟨_, SqL.of hp1⟩, for_list (K := K) (a := p1) (xs := z1) (fun i σ H' => ∃ v4 : Option V, σ = [some v1, some v2, some (.ref p1), some (.ref p2), v4] ∧ Same H4 H' ∧ ∀ w ∈ T1.take i, T2.any (lyU w) = true)
      ⟨_, rfl, Same.refl _, fun _ m => by rw [List.take_zero] at m; cases m⟩ (fun i σ H' _ ⟨_, _, s, _⟩ => SqL.of (s _ _ hp1)) ?_ ?_⟩
    · rintro i x σ H5 hxi ⟨v4, rfl, s5, all⟩
      obtain ⟨d, hd, thx⟩ := th_at (thAll_same s5 hz1) hxi
      obtain ⟨w, hw, rfl⟩ := Option.map_eq_some_iff.mp ((List.getElem?_map ..).symm.trans hd)
      have mw := List.mem_of_getElem? hw
      obtain ⟨wb, wc, wl⟩ := B1 w mw
      refine on_go (go_if ?_)
      refine ⟨_, rfl, _, rfl, x, p2, z2, w, T2, rfl, thx, SqL.of (s5 _ _ hp2), thAll_same s5 hz2, wb, wc.k, wl, fun o m => ⟨(B2 o m).1, (B2 o m).2.1.k, (B2 o m).2.2⟩, fun H6 s6 => ⟨_, rfl, ?_⟩⟩
      have s46 := s5.trans s6
      cases e : T2.any (lyU w) with
      | true =>
        refine iteF' rfl (nxt_go ⟨_, rfl, s46, fun u mu => ?_⟩)
        rw [List.take_add_one, hw] at mu
        rcases List.mem_append.mp mu with mu | mu
        · exact all u mu
        · cases List.mem_singleton.mp mu
          exact e
      | false =>
        refine iteT' rfl (go_ret ?_)
        refine ⟨_, rfl, _, rfl, x, p2, z2, w, T2, rfl, th_same s6 thx, SqL.of (s46 _ _ hp2), thAll_same s46 hz2, F2, fun o m => ?_, fr2, fun u H7 s7 pv => kq u H7 (s04.trans (s46.trans s7)) t1 t2 (.fst mw e pv)⟩
        rcases List.mem_cons.mp m with rfl | m
        · exact ⟨wb, wl⟩
        · exact ⟨(B2 o m).1, (B2 o m).2.2⟩
    · rintro σ H5 ⟨v4, rfl, s5, all1⟩
      rw [l1, List.take_length] at all1
      refine ends_go (sq_for ?_)
      refine ⟨_, rfl, p2, rfl, ⟨_, SqL.of (s5 _ _ hp2)⟩, for_list (K := K) (a := p2) (xs := z2) (fun i σ H' => ∃ v4 : Option V, σ = [some v1, some v2, some (.ref p1), some (.ref p2), v4] ∧ Same H4 H' ∧ ∀ w ∈ T2.take i, T1.any (lyU w) = true)
        ⟨_, rfl, s5, fun _ m => by rw [List.take_zero] at m; cases m⟩ (fun i σ H' _ ⟨_, _, s, _⟩ => SqL.of (s _ _ hp2)) ?_ ?_⟩
      · rintro i x σ H6 hxi ⟨v4, rfl, s6, all⟩
        obtain ⟨d, hd, thx⟩ := th_at (thAll_same s6 hz2) hxi
        obtain ⟨w, hw, rfl⟩ := Option.map_eq_some_iff.mp ((List.getElem?_map ..).symm.trans hd)
        have mw := List.mem_of_getElem? hw
        obtain ⟨wb, wc, wl⟩ := B2 w mw
        refine on_go (go_if ?_)
        refine ⟨_, rfl, _, rfl, x, p1, z1, w, T1, rfl, thx, SqL.of (s6 _ _ hp1), thAll_same s6 hz1, wb, wc.k, wl, fun o m => ⟨(B1 o m).1, (B1 o m).2.1.k, (B1 o m).2.2⟩, fun H7 s7 => ⟨_, rfl, ?_⟩⟩
        have s47 := s6.trans s7
        cases e : T1.any (lyU w) with
        | true =>
          refine iteF' rfl (nxt_go ⟨_, rfl, s47, fun u mu => ?_⟩)
          rw [List.take_add_one, hw] at mu
          rcases List.mem_append.mp mu with mu | mu
          · exact all u mu
          · cases List.mem_singleton.mp mu
            exact e
        | false =>
          refine iteT' rfl (go_ret ?_)
          refine ⟨_, rfl, _, rfl, x, p1, z1, w, T1, rfl, th_same s7 thx, SqL.of (s47 _ _ hp1), thAll_same s47 hz1, F1, fun o m => ?_, fr1, fun u H8 s8 pv => kq u H8 (s04.trans (s47.trans s8)) t1 t2 (.snd mw e pv)⟩
          rcases List.mem_cons.mp m with rfl | m
          · exact ⟨wb, wl⟩
          · exact ⟨(B1 o m).1, (B1 o m).2.2⟩
      · rintro σ H6 ⟨v4, rfl, s6, all2⟩
        rw [l2, List.take_length] at all2
        exact ends_go (go_ret (kq .non H6 (s04.trans s6) t1 t2 (.same all1 all2)))
end
end Lk
/-! K36XV -/
set_option Elab.async false
set_option linter.all false
set_option maxRecDepth 100000
set_option maxHeartbeats 4000000
namespace Lk
open PySem PySem.Spec PyProof.Rows L2
section
variable {P : Program} {w : World} {K : PySem.W.Frag} {mg : Str → Option Value} {base : Heap} {e : E5}
/-! ### lean -/
theorem ow_lay {w : OW} (h : OWK w) : w.d.canLay0 = true ∧ w.d.depth ≤ 3 := by
  obtain ⟨a, b⟩ := srcs_lay h.2.2
  have h1 : (PyData.str w.l).canLay0 = true := h.1
  have h2 : (PyData.str w.r).canLay0 = true := h.2.1
  have e : (PyData.tuple (w.vs.map Src.d)).canLay0 = true := by
    rw [PyData.canLay0]
    exact a
  refine ⟨?_, ?_⟩
  · show (PyData.tuple [.str w.l, .str w.r, .tuple (w.vs.map Src.d)]).canLay0 = true
    rw [PyData.canLay0, PyData.canLayAll0, PyData.canLayAll0, PyData.canLayAll0, PyData.canLayAll0, h1, h2, e]
    rfl
  · show (PyData.tuple [.str w.l, .str w.r, .tuple (w.vs.map Src.d)]).depth ≤ 3
    rw [PyData.depth, PyData.depthAll, PyData.depthAll, PyData.depthAll, PyData.depthAll, PyData.depth, PyData.depth, PyData.depth]
    omega
theorem ows_lay : ∀ {T : List OW}, (∀ w ∈ T, OWK w) → PyData.canLayAll0 (T.map OW.d) = true ∧ PyData.depthAll (T.map OW.d) ≤ 3
  | [], _ => ⟨rfl, Nat.zero_le _⟩
  | w :: T, h => by
    obtain ⟨a, b⟩ := ows_lay fun t m => h t (List.mem_cons_of_mem _ m)
    obtain ⟨a1, b1⟩ := ow_lay (h w List.mem_cons_self)
    refine ⟨?_, ?_⟩
    · rw [List.map_cons, PyData.canLayAll0, a, a1]
      rfl
    · rw [List.map_cons, PyData.depthAll]
      omega
theorem tab_sh {T : List OW} (h : ∀ w ∈ T, OWK w) : SeqAt.shaped (.list (T.map OW.d)) = true := by
  obtain ⟨a, b⟩ := ows_lay h
  unfold SeqAt.shaped
  rw [PyData.canLay0, a, Bool.true_and, decide_eq_true_eq, PyData.depth]
  omega
theorem eqv_ows : ∀ T U : List OW, PyData.eqvAll (T.map OW.d) (U.map OW.d) = decide (T = U)
  | [], [] => rfl
  | [], _ :: _ => rfl
  | _ :: _, [] => rfl
  | w :: T, u :: U => by
    rw [List.map_cons, List.map_cons, PyData.eqvAll, eqv_ows T U, eqv_ow, Bool.eq_iff_iff, Bool.and_eq_true, decide_eq_true_iff, decide_eq_true_iff, decide_eq_true_iff, List.cons.injEq]
open Classical in
/-- the table of a book -/
noncomputable def tabO (rs : List Rl) : List OW := if h : ∃ T, IsTab rs T then choose h else []
theorem IsTab.eqO {rs : List Rl} (hB : dBook (.tuple (rs.map Rl.d)) = true) {T : List OW} (h : IsTab rs T) : T = tabO rs := by
  unfold tabO
  rw [dif_pos ⟨T, h⟩]
  exact h.uniq (book_c hB) (Classical.choose_spec (p := IsTab rs) ⟨T, h⟩)
def pickR (rs : List Rl) (ks : List Nat) : List Rl := ks.filterMap fun k => rs[k]?
noncomputable def leanS (rs : List Rl) (ks : List Nat) (m : Nat) : List Nat := if tabO (pickR rs (ks.filter fun k => decide (k ≠ m))) = tabO rs then ks.filter fun k => decide (k ≠ m) else ks
noncomputable def leanL (rs : List Rl) : List Nat := (List.range rs.length).reverse.foldl (leanS rs) (List.range rs.length)
theorem lean_sub {rs : List Rl} : ∀ {l ks : List Nat}, ks.Sublist (List.range rs.length) → (l.foldl (leanS rs) ks).Sublist (List.range rs.length)
  | [], ks, h => h
  | m :: l, ks, h => by
    rw [List.foldl_cons]
    refine lean_sub ?_
    unfold leanS
    split
    · exact List.filter_sublist.trans h
    · exact h
theorem pick_book {rs : List Rl} (hB : dBook (.tuple (rs.map Rl.d)) = true) {ks : List Nat} (h : ks.Sublist (List.range rs.length)) : dBook (.tuple ((pickR rs ks).map Rl.d)) = true ∧ (pickR rs ks).length = ks.length ∧ ks.length ≤ 6 := by
  have h2 : (decide ((rs.map Rl.d).length ≤ 6) && (rs.map Rl.d).all dRule) = true := hB
  rw [Bool.and_eq_true, decide_eq_true_eq, List.length_map, List.all_eq_true] at h2
  have lk := h.length_le
  rw [List.length_range] at lk
  have e : (pickR rs ks).length = ks.length := by
    have z : ∀ ks : List Nat, (∀ k ∈ ks, k < rs.length) → (pickR rs ks).length = ks.length := fun ks h => by
      induction ks with
      | nil => rfl
      | cons k ks ih =>
        have y := List.getElem?_eq_getElem (h k List.mem_cons_self)
        show ((k :: ks).filterMap fun k => rs[k]?).length = _
        rw [List.filterMap_cons_some y, List.length_cons, List.length_cons]
        exact congrArg (· + 1) (ih fun k m => h k (List.mem_cons_of_mem _ m))
    exact z ks fun k m => List.mem_range.mp (h.subset m)
  refine ⟨?_, e, by omega⟩
  show (decide (((pickR rs ks).map Rl.d).length ≤ 6) && ((pickR rs ks).map Rl.d).all dRule) = true
  rw [Bool.and_eq_true, decide_eq_true_eq, List.length_map, List.all_eq_true]
  refine ⟨by omega, fun d md => ?_⟩
  obtain ⟨r, mr, rfl⟩ := List.mem_map.mp md
  obtain ⟨k, _, hk⟩ := List.mem_filterMap.mp mr
  exact h2.2 _ (List.mem_map.mpr ⟨r, List.mem_of_getElem? hk, rfl⟩)
/-- each book of some of the rules has few open ways -/
def FewSub (rs : List Rl) : Prop := ∀ ks : List Nat, ks.Sublist (List.range rs.length) → FewW (pickR rs ks) (pickR rs ks).length (.pat "" "") []
theorem pickR_all (rs : List Rl) : pickR rs (List.range rs.length) = rs := by
  unfold pickR
  refine List.ext_getElem? fun i => ?_
  have z : ∀ (rs : List Rl) (n : Nat), n ≤ rs.length → (List.range n).filterMap (fun k => rs[k]?) = rs.take n := fun rs n => by
    induction n with
    | zero => intro _; rw [List.take_zero]; rfl
    | succ n ih =>
      intro h
      rw [List.range_succ, List.filterMap_append, ih (by omega), List.take_add_one, List.filterMap_cons_some (List.getElem?_eq_getElem (show n < rs.length by omega)), List.getElem?_eq_getElem (show n < rs.length by omega)]
      rfl
  rw [z rs _ (Nat.le_refl _), List.take_length]
theorem FewSub.all {rs : List Rl} (h : FewSub rs) : FewW rs rs.length (.pat "" "") [] := by
  have z := h _ (List.Sublist.refl _)
  rwa [pickR_all] at z
def spLeanX (K : PySem.W.Frag) (e : E5) (TM : Addr) : Sp := fun vs H Q E => ∃ (v : V) (d : PyData), vs = [v] ∧ Th K H v d ∧ d.bulk ≤ 1000000 ∧ (dBook d = false → ∀ H', Same H H' → E (.ref e.b) none H') ∧
  (dBook d = true → ∃ rs : List Rl, d = .tuple (rs.map Rl.d) ∧ ((FewSub rs ∧ ∀ (t : Addr) (H' : Hp), Same H H' → SqT K H' t (intsV (leanL rs)) → Q (.ref t) H') ∨
    (¬ FewW rs rs.length (.pat "" "") [] ∧ ∀ (dd : Addr) (H' : Hp), Same H H' → H' dd = some lim300 → E (.ref TM) (some dd) H')))
theorem sc_p_lean : FnScope ["book", "right", "kept", "number", "fewer", "other"] ["book"] (defScope s_p_lean) := ⟨rfl, rfl, rfl, by decide +kernel, rfl, by decide +kernel, by decide +kernel⟩
theorem rgV_ints (n : Nat) : rgV 0 (n : Int) = intsV (List.range n) := by
  unfold rgV intsV
  rw [show ((n : Int) - 0).toNat = n by omega]
  exact List.map_congr_left fun i _ => by rw [Int.zero_add]
theorem ints_at {ks : List Nat} {i : Nat} {x : V} (h : (intsV ks)[i]? = some x) : ∃ k, ks[i]? = some k ∧ x = .int (k : Int) := by
  obtain ⟨k, hk, rfl⟩ := Option.map_eq_some_iff.mp ((List.getElem?_map ..).symm.trans (show (ks.map fun n : Nat => V.int (n : Int))[i]? = some x from h))
  exact ⟨k, hk, rfl⟩
set_option maxHeartbeats 0
theorem calx_lean {TM : Addr} (D : Def1 K mg "lean" s_p_lean) (G : Glb mg) (T : Glc mg) (glist : mg "list" = none) (grev : mg "reversed" = none) (CA : CalX P w K mg base 18 "table" (spTableX K e TM)) : CalX P w K mg base 19 "lean" (spLeanX K e TM) := by
  refine mkCalX D sc_p_lean (fun _ _ _ _ _ _ us hl => match us, hl with | [_], _ => rfl) (fun vs H Q E h => ?_) (fun f0 cdv A outer s H vs Q E hr h => ?_)
  · obtain ⟨v, d, rfl, _⟩ := h
    rfl
  · obtain ⟨v, d, rfl, h1, b1, kb, kk⟩ := h
    refine ⟨_, (pss_cons (ps_set (i := 1) sc_p_lean.nd rfl (.inl rfl) (pe_calX CA hr (by omega) (takes_of rfl rfl rfl rfl) (pa_cons (pv 0) pa_nil)))
    (pss_cons (ps_set (i := 2) sc_p_lean.nd rfl (.inl rfl) (pe_listRg (by rfl) (by rfl) glist (prg_1 (by rfl) G.range (pe_callB call_len_seq (by rfl) G.len PySem.boot_len (pa_cons (pv 0) pa_nil)))))
    (pss_cons (ps_for (passes_of rfl) rfl (pi_revR (by rfl) grev (prg_1 (by rfl) G.range (pe_callB call_len_seq (by rfl) G.len PySem.boot_len (pa_cons (pv 0) pa_nil)))) (pg_name (i := 3) sc_p_lean.nd rfl (.inr rfl))
    (pss_cons (ps_setLc (i := 4) (own := [("other", 5)]) (g := gName 5) (by rfl) sc_p_lean.nd rfl rfl (sw_true rfl rfl rfl (by decide +kernel)) (pi_list (pv 2)) (blkOk_by (own := [("other", 5)]) (N := ["book", "right", "kept", "number", "fewer", "other"]) (sc := defScope s_p_lean) (by decide +kernel)) (fun _ _ _ _ _ => pg_name (i := 5) sc_p_lean.nd rfl (Or.inl rfl)) (fun _ _ _ _ _ => pts_one (pt_cmpR op_ne (pv 5) (pv 3) (nomark _))) (fun _ _ _ _ _ => (pv 5)))
    (pss_one (ps_if (pt_cmpR (op_eqD hr.units) (pe_calX CA hr (by omega) (takes_of rfl rfl rfl rfl) (pa_cons (pe_callTy call_tuple_of (by rfl) T.tuple (by decide +kernel) (pa_cons (pe_lc (own := [("other", 5)]) (g := gName 5) (tt := tYes) (by rfl) sc_p_lean.nd (pi_list (pv 4)) (blkOk_by (own := [("other", 5)]) (N := ["book", "right", "kept", "number", "fewer", "other"]) (sc := defScope s_p_lean) (by decide +kernel)) (fun _ _ _ _ _ => pg_name (i := 5) sc_p_lean.nd rfl (Or.inl rfl)) (fun _ _ _ _ _ => pts_nil) (fun _ _ _ _ _ => (pe_ix (show IxR _ (rIxT K) from ix_tup) (pv 0) (pv 5) (fun _ _ => rfl)))) pa_nil)) pa_nil)) (pv 1) (nomark _)) (pss_one (ps_set (i := 2) sc_p_lean.nd rfl (.inl rfl) (pv 4))) pss_nil))))
    (pss_one (ps_ret (pe_callTy call_tuple_of (by rfl) T.tuple (by decide +kernel) (pa_cons (pv 2) pa_nil))))))), ?_⟩
    refine sq_asg ?_
    refine ⟨_, rfl, v, d, rfl, h1, b1, kb, fun y1 => ?_⟩
    obtain ⟨rs, rfl, k⟩ := kk y1
    refine ⟨rs, rfl, fun fw => ?_, fun nf => ?_⟩
    · obtain ⟨fs, k⟩ : FewSub rs ∧ ∀ (t : Addr) (H' : Hp), Same H H' → SqT K H' t (intsV (leanL rs)) → Q (.ref t) H' := by
        rcases k with k | ⟨nf, _⟩
        · exact k
        · exact absurd fw nf
      intro T0 p0 z0 H1 s1 n0 hp0 hz0 t0
      obtain ⟨q, xs, rfl, hq, hx⟩ := th_of_tup h1
      have lx := thAll_len hx
      rw [List.length_map] at lx
      obtain ⟨many, len⟩ := book_len y1
      have hqs : ∀ {H' : Hp}, Same H H' → SqT K H' q xs := fun s => Same.seqT s hq
      have e0 := t0.eqO y1
      have shT := tab_sh fun w m => (t0.b y1 w m).2.1.k
      refine on_go (sq_asg ?_)
      refine ⟨_, rfl, q, xs, rfl, .inr (hqs s1), _, rfl, ?_, fun ka nk => ?_⟩
      · exact RgOk.of_le (by omega) (by omega) (by omega) (by omega)
      have s2 := same_upd (o := .lst (rgV 0 (xs.length : Int))) nk
      have hk : upd H1 ka (.lst (rgV 0 (xs.length : Int))) ka = some (.lst (intsV (List.range rs.length))) := upd_same.trans (by rw [rgV_ints, lx])
      generalize upd H1 ka (.lst (rgV 0 (xs.length : Int))) = H2 at s2 hk ⊢
      have s02 := s1.trans s2
      refine on_go (sq_for ?_)
      refine ⟨_, rfl, q, xs, rfl, .inr (hqs s02), _, rfl, by decide, by decide, by omega, by omega, ?_⟩
      rw [show (((xs.length : Int) - 0).toNat) = rs.length by omega]
      refine for_rangeC (n := rs.length) (fun i σ H' => ∃ (ka : Addr) (v3 v4 : Option V), σ = [some (.ref q), some (.ref p0), some (.ref ka), v3, v4, none] ∧ Same H1 H' ∧ H' ka = some (.lst (intsV (((List.range rs.length).reverse.take i).foldl (leanS rs) (List.range rs.length)))))
        ⟨ka, _, _, rfl, s2, hk⟩ ?_ ?_
      · rintro i σ H3 hi ⟨ka, v3, v4, rfl, s3, hka⟩
        have s03 := s1.trans s3
        have sub := lean_sub (rs := rs) (l := (List.range rs.length).reverse.take i) (List.Sublist.refl _)
        have hs : ((List.range rs.length).reverse.take (i + 1)).foldl (leanS rs) (List.range rs.length) = leanS rs (((List.range rs.length).reverse.take i).foldl (leanS rs) (List.range rs.length)) (rs.length - 1 - i) := by
          rw [List.take_add_one, List.getElem?_reverse (by rw [List.length_range]; exact hi), List.length_range, List.getElem?_range (by omega), List.foldl_append]
          rfl
        rw [hs]
        generalize ((List.range rs.length).reverse.take i).foldl (leanS rs) (List.range rs.length) = ks at sub hka hs ⊢
        have lk := sub.length_le
        rw [List.length_range] at lk
        have en : (0 : Int) + ((rs.length : Nat) : Int) - 1 + (i : Nat) * (-1) = ((rs.length - 1 - i : Nat) : Int) := by omega
        generalize rs.length - 1 - i = m at en ⊢
        refine gN_eq (congrArg V.int en) ?_
        refine on_go (sq_asg ?_)
        refine ⟨_, rfl, ka, rfl, ⟨_, SqL.of hka⟩, fun F nF => ?_⟩
        refine lc_list (K := K) (a := ka) (xs := intsV ks) (fun j H' => Same H3 H' ∧ H' F = some (.lst (intsV ((ks.take j).filter fun k => decide (k ≠ m))))) ⟨same_upd nF, upd_same⟩ (fun j H' _ h => SqL.of (h.1 _ _ hka)) ?_ ?_
        · rintro j x H4 hxj ⟨s4, hF⟩
          obtain ⟨kk, hkk, rfl⟩ := ints_at hxj
          have jl := (List.getElem?_eq_some_iff.mp hkk).1
          refine ⟨rfl, ?_⟩
          refine ⟨_, rfl, _, rfl, rfl, _, rfl, ?_⟩
          have lf := List.length_filter_le (fun k => decide (k ≠ m)) (ks.take j)
          rw [List.length_take] at lf
          by_cases c : kk = m
          · refine iteF' (by rw [c]; simp) ⟨s4, ?_⟩
            rw [List.take_add_one, hkk, List.filter_append]
            show H4 F = some (HO.lst (intsV (_ ++ [kk].filter _)))
            rw [show [kk].filter (fun k => decide (k ≠ m)) = [] by rw [List.filter_cons, decide_eq_false (fun z => z c)]; rfl, List.append_nil]
            exact hF
          · refine iteT' (by simp; omega) ⟨_, rfl, _, hF, ?_, same_mut s4 nF, ?_⟩
            · unfold intsV
              rw [List.length_map, sizeLine_eq]
              omega
            · rw [upd_same, intsV_snoc, List.take_add_one, hkk, List.filter_append]
              show _ = some (HO.lst (intsV (_ ++ [kk].filter _)))
              rw [show [kk].filter (fun k => decide (k ≠ m)) = [kk] by rw [List.filter_cons, decide_eq_true c]; rfl]
        rintro H4 ⟨s4, hF⟩
        rw [show (intsV ks).length = ks.length from List.length_map _, List.take_length] at hF
        have s04 := s03.trans s4
        have hfew : (ks.filter fun k => decide (k ≠ m)).Sublist (List.range rs.length) := List.filter_sublist.trans sub
        have es : leanS rs ks m = if tabO (pickR rs (ks.filter fun k => decide (k ≠ m))) = tabO rs then ks.filter fun k => decide (k ≠ m) else ks := rfl
        rw [es]
        generalize (ks.filter fun k => decide (k ≠ m)) = fw at hF hfew es ⊢
        obtain ⟨bF, lF, l6⟩ := pick_book y1 hfew
        refine on_go (go_if (go_tt ?_))
        refine ⟨_, rfl, F, rfl, ⟨_, SqL.of hF⟩, fun F2 n2 => ?_⟩
        have vs : ∃ us : List V, us.length = fw.length ∧ ∀ {H' : Hp}, Same H H' → ThAll K H' us ((pickR rs fw).map Rl.d) ∧ ∀ (j k : Nat), fw[j]? = some k → us[j]? = xs[k]? := by
          clear hF bF lF l6 e0 es en
          have lt : ∀ k ∈ fw, k < rs.length := fun k mk => List.mem_range.mp (hfew.subset mk)
          clear hfew
          induction fw with
          | nil => exact ⟨[], rfl, fun _ => ⟨.nil, fun _ _ h => nomatch h⟩⟩
          | cons k fw ih =>
            obtain ⟨us, l, h⟩ := ih fun k m => lt k (List.mem_cons_of_mem _ m)
            have hk := lt k List.mem_cons_self
            have ex : xs[k]? = some xs[k] := List.getElem?_eq_getElem (by omega)
            refine ⟨xs[k] :: us, congrArg (· + 1) l, fun {H'} s => ⟨?_, fun j k' hj => ?_⟩⟩
            · obtain ⟨d, hd, thx⟩ := th_at (thAll_same s hx) ex
              obtain ⟨r, hr', rfl⟩ := Option.map_eq_some_iff.mp ((List.getElem?_map ..).symm.trans hd)
              show ThAll K H' _ (((k :: fw).filterMap fun k => rs[k]?).map Rl.d)
              rw [List.filterMap_cons_some hr']
              exact .cons thx (h s).1
            · cases j with
              | zero =>
                cases hj
                exact ex.symm
              | succ j => exact (h s).2 j k' hj
        obtain ⟨us, lus, hus⟩ := vs
        refine lc_list (K := K) (a := F) (xs := intsV fw) (fun j H' => Same H4 H' ∧ H' F2 = some (.lst (us.take j))) ⟨same_upd n2, upd_same⟩ (fun j H' _ h => SqL.of (h.1 _ _ hF)) ?_ ?_
        · rintro j x H5 hxj ⟨s5, hF2⟩
          obtain ⟨kk, hkk, rfl⟩ := ints_at hxj
          have jl := (List.getElem?_eq_some_iff.mp hkk).1
          have kl : kk < rs.length := List.mem_range.mp (hfew.subset (List.mem_of_getElem? hkk))
          have ex : xs[kk]? = some xs[kk] := List.getElem?_eq_getElem (by omega)
          have eu := (hus (s04.trans s5)).2 j kk hkk
          refine ⟨rfl, ?_⟩
          refine ⟨_, rfl, _, rfl, q, _, (kk : Int), xs[kk], rfl, rfl, hqs (s04.trans s5), atI_nat ex, _, hF2, ?_, same_mut s5 n2, ?_⟩
          · rw [List.length_take, sizeLine_eq]
            omega
          · rw [upd_same, List.take_add_one, eu, ex]
            rfl
        rintro H5 ⟨s5, hF2⟩
        rw [show (intsV fw).length = fw.length from List.length_map _, ← lus, List.take_length] at hF2
        have s05 := s04.trans s5
        refine ⟨F2, us, rfl, .inl ⟨SqL.of hF2, fun tp ntp => ?_⟩⟩
        have s6 := same_upd (o := .tup us) ntp
        have ht6 : upd H5 tp (.tup us) tp = some (.tup us) := upd_same
        generalize upd H5 tp (.tup us) = H6 at s6 ht6 ⊢
        have s06 := s05.trans s6
        refine ⟨.ref tp, .tuple ((pickR rs fw).map Rl.d), rfl, .tup (SqT.of ht6) (hus s06).1, book_bulk bF, fun y => absurd (bF.symm.trans y) (fun z => nomatch z), fun _ => ⟨pickR rs fw, rfl, fun _ T2 p2 z2 H7 s7 np2 hp2 hz2 t2 => ?_, fun nf => absurd (fs fw hfew) nf⟩⟩
        have s17 := ((s3.trans s4).trans s5).trans (s6.trans s7)
        have sh2 := tab_sh fun w m => (t2.b bF w m).2.1.k
        refine ⟨_, rfl, .list (T2.map OW.d), .list (T0.map OW.d), th_dp (.lst (SqL.of hp2) hz2) (SeqAt.canLay_of_shaped sh2), th_dp (.lst (SqL.of (s17 _ _ hp0)) (thAll_same s17 hz0)) (SeqAt.canLay_of_shaped shT), sh2, shT, _, rfl, ?_⟩
        rw [PyData.eqv, eqv_ows, e0, t2.eqO bF]
        have hF7 := (s6.trans s7) _ _ (s5 _ _ hF)
        have hka7 := ((s4.trans s5).trans (s6.trans s7)) _ _ hka
        by_cases c : tabO (pickR rs fw) = tabO rs
        · rw [if_pos c]
          exact iteT' (decide_eq_true c) ⟨_, rfl, nxt_go ⟨F, _, _, rfl, s17, hF7⟩⟩
        · rw [if_neg c]
          exact iteF' (decide_eq_false c) (nxt_go ⟨ka, _, _, rfl, s17, hka7⟩)
      · rintro σ H3 ⟨ka, v3, v4, rfl, s3, hka⟩
        rw [List.take_of_length_le (by rw [List.length_reverse, List.length_range]; exact Nat.le_refl _)] at hka
        refine ends_go (go_ret ?_)
        refine ⟨_, rfl, ka, _, rfl, .inl ⟨SqL.of hka, fun t nt => k t _ ((s1.trans s3).trans (same_upd nt)) (SqT.of upd_same)⟩⟩
    · rcases k with ⟨fs, _⟩ | ⟨_, k⟩
      · exact absurd fs.all nf
      · exact k
end
end Lk
/-! K36XZ -/
set_option Elab.async false
set_option linter.all false
set_option maxRecDepth 100000
set_option maxHeartbeats 4000000
namespace Lk
open PySem PySem.Spec PyProof.Rows L2
section
/-! ### calls of an expression that gives one of some defs -/
def FnE (P : Program) (w : World) (K : PySem.W.Frag) (mg : Str → Option Value) (base : Heap) (k : Nat) (p : Addr × Sp) : Prop := ∃ (fd : FuncData) (ps : List Str), FnOk P w K mg base (L2.CX P w) k p.1 fd ps p.2 ∧ PySem.W.keepIn K (.ref p.1) = true ∧ Binds K fd ps []
def tCallE (Fs : List (Addr × Sp)) (E : L2.St → XK) (tf : TE) (t : TA) : TE := fun σ H Q => tf σ H fun y H1 => ∃ a sp, y = V.ref a ∧ (a, sp) ∈ Fs ∧ t σ H1 fun vs H2 => sp vs H2 Q (E σ)
/-- the callee is an expression, no name: what its call does -/
def ByE (fe e : Expr) (es : List Expr) (pos : Pos) (v : Env) : Prop := eval (.Call fe (e :: es) [] pos) v = (do callWith pos (← eval fe v) [] (backTo pos (starEach (e :: es) v)) (backToKw pos (keywordEach [] v)))
theorem pe_calE {X : Cx} {W : WX} {k j : Nat} {Fs : List (Addr × Sp)} {fe : Expr} {tf : TE} {t : TA} {e : Expr} {es : List Expr} {pos : Pos} (hf : PE X fe tf) (c : ∀ p ∈ Fs, FnE X.prog X.w X.K X.mg X.base k p) (hr : Room j X.A) (hk : k ≤ j) (tk : Takes X W) (ha : PA X (e :: es) t)
    (ht : ByE fe e es pos X.env := by rfl) (h1 : starEach (e :: es) X.env = (false, eval e X.env) :: starEach es X.env := by rfl) (h2 : (backTo pos (starEach es X.env)).any (·.1) = false := by rfl) :
    PE X (.Call fe (e :: es) [] pos) (tCallE Fs (WE W) tf t) := by
  constructor
  intro pins s σ H Q I h
  refine Call_ ?_ ht
  apply thn (hf.run pins s σ H _ I h)
  rintro u s1 ⟨y, H1, I1, ry, a, sp, rfl, hm, q⟩
  cases ry
  obtain ⟨fd, ps, F, kp, b⟩ := c _ hm
  apply PySem.W.callWith_K (h₀ := X.base) I1.ok.mod.kin kp ?_ h1 h2
  apply thn (ha.run pos pins s1 σ H1 _ I1 q)
  rintro us s2 ⟨vs, H2, I2, r, q2⟩
  exact ⟨I2.kIn, run_fnS F (hr.mono hk) b (passAt tk σ) I2 r q2⟩
theorem calX_at {P : Program} {w : World} {K : PySem.W.Frag} {mg : Str → Option Value} {base : Heap} {k : Nat} {x : String} {sp : Sp} (c : CalX P w K mg base k x sp) : ∃ a, mg x = some (.ref a) ∧ FnE P w K mg base k (a, sp) := by
  obtain ⟨f, fd, ps, F, m, kp, b⟩ := c.ex
  exact ⟨f, m, fd, ps, F, kp, b⟩
theorem FnE.mono {P : Program} {w : World} {K : PySem.W.Frag} {mg : Str → Option Value} {base : Heap} {k j : Nat} {p : Addr × Sp} (h : FnE P w K mg base k p) (le : k ≤ j) : FnE P w K mg base j p := by
  obtain ⟨fd, ps, F, kp, b⟩ := h
  exact ⟨fd, ps, FnOk.mono F le, kp, b⟩
end
end Lk
/-! K36Y1 -/
set_option Elab.async false
set_option linter.all false
set_option maxRecDepth 100000
set_option maxHeartbeats 4000000
namespace Lk
open PySem PySem.Spec PyProof.Rows L2
section
variable {P : Program} {w : World} {K : PySem.W.Frag} {mg : Str → Option Value} {base : Heap} {e : E5}
/-- which class a clause names takes which error -/
structure Exm32 (K : PySem.W.Frag) (e : E5) (TM : Addr) : Prop where
  bb : PySem.W.exmOne K (.ref e.b) (.ref e.b) = some true
  fb : PySem.W.exmOne K (.ref e.f) (.ref e.b) = some false
  ff : PySem.W.exmOne K (.ref e.f) (.ref e.f) = some true
  nb : PySem.W.exmOne K (.ref e.n) (.ref e.b) = some false
  nf : PySem.W.exmOne K (.ref e.n) (.ref e.f) = some false
  nn : PySem.W.exmOne K (.ref e.n) (.ref e.n) = some true
  tb : PySem.W.exmOne K (.ref TM) (.ref e.b) = some false
  tf : PySem.W.exmOne K (.ref TM) (.ref e.f) = some false
  tn : PySem.W.exmOne K (.ref TM) (.ref e.n) = some false
  tt : PySem.W.exmOne K (.ref TM) (.ref TM) = some true
structure Err32 (K : PySem.W.Frag) (mg : Str → Option Value) (e : E5) (TM : Addr) : Prop where
  b : Err K mg "NoBook" e.b
  f : Err K mg "NoFiles" e.f
  n : Err K mg "NoName" e.n
  t : mg "TooMany" = some (.ref TM)
  xf : XfC K TM
  nl : PySem.W.findIn K (.ref TM) "limit" = some none
def wd : Nat → Str
  | 0 => "book"
  | 1 => "files"
  | _ => "name"
def errC : Nat → PyData → PyData → PyData → Option Nat
  | 0, d1, _, _ => if dBook d1 = false then some 0 else none
  | 1, d1, _, _ => if dBook d1 = false then some 0 else none
  | 2, d1, d2, _ => if dBook d1 = false ∨ dBook d2 = false then some 0 else none
  | _, d1, d2, d3 => errT d1 d2 d3
theorem errT_le {d1 d2 d3 : PyData} {z : Nat} (h : errT d1 d2 d3 = some z) : z ≤ 2 := by
  unfold errT at h
  split at h
  · cases h; decide
  · split at h
    · cases h; decide
    · split at h
      · cases h; decide
      · cases h
theorem errC_le {c : Nat} {d1 d2 d3 : PyData} {z : Nat} (h : errC c d1 d2 d3 = some z) : z ≤ 2 := by
  unfold errC at h
  split at h
  · split at h
    · cases h; decide
    · cases h
  · split at h
    · cases h; decide
    · cases h
  · split at h
    · cases h; decide
    · cases h
  · exact errT_le h
abbrev FewB (rs : List Rl) : Prop := FewW rs rs.length (.pat "" "") []
inductive Fin36 (K : PySem.W.Frag) (H : Hp) : Nat → V → V → V → PyData → PyData → Prop
  | tab {rs : List Rl} {v1 v2 v3 : V} {d2 : PyData} : FewB rs → Fin36 K H 0 v1 v2 v3 (.tuple (rs.map Rl.d)) d2
  | lean {rs : List Rl} {v1 v2 v3 : V} {d2 : PyData} : FewSub rs → Fin36 K H 1 v1 v2 v3 (.tuple (rs.map Rl.d)) d2
  | part {r1 r2 : List Rl} {v1 v2 v3 : V} : FewB r1 → FewB r2 → Fin36 K H 2 v1 v2 v3 (.tuple (r1.map Rl.d)) (.tuple (r2.map Rl.d))
  | row {rs : List Rl} {v1 : V} {f : Addr} {F : List Str} {z : Str} {d2 : PyData} : FewB rs → SqT K H f (F.map V.str) → z.length ≤ 1000 → Fin36 K H 3 v1 (.ref f) (.str z) (.tuple (rs.map Rl.d)) d2
  | blk {rs : List Rl} {q f : Addr} {F : List Str} {z : Str} {Ok : Place → Prop} {d2 : PyData} : Asks K H q f rs F z Ok → Fin36 K H 4 (.ref q) (.ref f) (.str z) (.tuple (rs.map Rl.d)) d2
  | shw {v1 v2 v3 : V} {d1 d2 : PyData} : Fin36 K H 5 v1 v2 v3 d1 d2
inductive Big36 (K : PySem.W.Frag) (H : Hp) : Nat → V → V → V → PyData → PyData → Prop
  | tab {rs : List Rl} {v1 v2 v3 : V} {d2 : PyData} : ¬ FewB rs → Big36 K H 0 v1 v2 v3 (.tuple (rs.map Rl.d)) d2
  | lean {rs : List Rl} {v1 v2 v3 : V} {d2 : PyData} : ¬ FewB rs → Big36 K H 1 v1 v2 v3 (.tuple (rs.map Rl.d)) d2
  | part {r1 r2 : List Rl} {v1 v2 v3 : V} : ¬ (FewB r1 ∧ FewB r2) → Big36 K H 2 v1 v2 v3 (.tuple (r1.map Rl.d)) (.tuple (r2.map Rl.d))
  | row {rs : List Rl} {v1 : V} {f : Addr} {F : List Str} {z : Str} {d2 : PyData} : ¬ FewB rs → SqT K H f (F.map V.str) → z.length ≤ 1000 → Big36 K H 3 v1 (.ref f) (.str z) (.tuple (rs.map Rl.d)) d2
theorem Fin36.same {H H' : Hp} {c : Nat} {v1 v2 v3 : V} {d1 d2 : PyData} (h : Fin36 K H c v1 v2 v3 d1 d2) (s : Same H H') : Fin36 K H' c v1 v2 v3 d1 d2 := by
  cases h with
  | tab a => exact .tab a
  | lean a => exact .lean a
  | part a b => exact .part a b
  | row a b c => exact .row a (Same.seqT s b) c
  | blk a => exact .blk (a.same s)
  | shw => exact .shw
theorem Big36.same {H H' : Hp} {c : Nat} {v1 v2 v3 : V} {d1 d2 : PyData} (h : Big36 K H c v1 v2 v3 d1 d2) (s : Same H H') : Big36 K H' c v1 v2 v3 d1 d2 := by
  cases h with
  | tab a => exact .tab a
  | lean a => exact .lean a
  | part a => exact .part a
  | row a b c => exact .row a (Same.seqT s b) c
def spDo (K : PySem.W.Frag) (e : E5) (TM : Addr) : Sp := fun vs H Q E => ∃ (c : Nat) (v1 v2 v3 : V) (d1 d2 d3 : PyData), vs = [.int (c : Int), v1, v2, v3] ∧ c ≤ 5 ∧ Th K H v1 d1 ∧ Th K H v2 d2 ∧ Th K H v3 d3 ∧ d1.bulk ≤ 1000000 ∧ d2.bulk ≤ 1000000 ∧ d3.bulk ≤ 1000000 ∧
  ((∃ z, errC c d1 d2 d3 = some z ∧ ∀ H', Same H H' → E (.ref (e.at z)) none H') ∨ (errC c d1 d2 d3 = none ∧ Big36 K H c v1 v2 v3 d1 d2 ∧ ∀ (dd : Addr) (H' : Hp), Same H H' → H' dd = some lim300 → E (.ref TM) (some dd) H') ∨ (errC c d1 d2 d3 = none ∧ Fin36 K H c v1 v2 v3 d1 d2 ∧ ∀ (v : V) (H' : Hp), Same H H' → Q v H'))
theorem sx_do : FnScope ["choice", "book", "two", "name"] ["choice", "book", "two", "name"] (defScope s_do) := ⟨rfl, rfl, rfl, by decide +kernel, rfl, by decide +kernel, by decide +kernel⟩
theorem bk_if {d : PyData} (h : (if dBook d = false then some 0 else (none : Option Nat)) = none) : dBook d = true := by
  cases e : dBook d with
  | true => rfl
  | false => rw [if_pos e] at h; cases h
theorem bk_if2 {d1 d2 : PyData} (h : (if dBook d1 = false ∨ dBook d2 = false then some 0 else (none : Option Nat)) = none) : dBook d1 = true ∧ dBook d2 = true := by
  cases e : dBook d1 with
  | true =>
    cases e2 : dBook d2 with
    | true => exact ⟨rfl, rfl⟩
    | false => rw [if_pos (.inr e2)] at h; cases h
  | false => rw [if_pos (.inl e)] at h; cases h
theorem bk_err {p : Prop} [Decidable p] {z : Nat} (h : (if p then some 0 else (none : Option Nat)) = some z) : p ∧ z = 0 := by
  by_cases e : p
  · rw [if_pos e] at h
    cases h
    exact ⟨e, rfl⟩
  · rw [if_neg e] at h
    cases h
theorem tff {b : Bool} (h : b = true) : ¬ b = false := fun z => by rw [h] at z; cases z
theorem errT_bk {d1 d2 d3 : PyData} (h : errT d1 d2 d3 = none) : dBook d1 = true := by
  unfold errT at h
  cases e : dBook d1 with
  | true => rfl
  | false => rw [if_pos e] at h; cases h
theorem calx_do {TM : Addr} (D : Def1 K mg "_law_do" s_do) (CT : CalX P w K mg base 18 "table" (spTableX K e TM)) (CL : CalX P w K mg base 19 "lean" (spLeanX K e TM)) (CP : CalX P w K mg base 19 "parting" (spPartX K e TM)) (CS : CalX P w K mg base 9 "shows_block" (spShowsX K e))
    (CR : CalX P w K mg base 19 "row_for" (spRowX K e TM)) (CB : CalX P w K mg base 26 "block" (spBlockX K e)) : CalX P w K mg base 27 "_law_do" (spDo K e TM) := by
  obtain ⟨a0, m0, f0⟩ := calX_at CT
  obtain ⟨a1, m1, f1⟩ := calX_at CL
  have F2 : ∀ p ∈ [(a0, spTableX K e TM), (a1, spLeanX K e TM)], FnE P w K mg base 20 p := fun p hp => by
    simp only [List.mem_cons, List.mem_nil_iff, or_false] at hp
    rcases hp with rfl | rfl
    · exact f0.mono (by decide)
    · exact f1.mono (by decide)
  refine mkCalX D sx_do (fun _ _ _ _ _ _ us hl => match us, hl with | [_, _, _, _], _ => rfl) (fun vs H Q E h => ?_) (fun f cdv A outer s H vs Q E hr h => ?_)
  · obtain ⟨c, v1, v2, v3, d1, d2, d3, rfl, _⟩ := h
    rfl
  · obtain ⟨c, v1, v2, v3, d1, d2, d3, rfl, lc, h1, h2, h3, b1, b2, b3, hz⟩ := h
    refine ⟨_, pss_cons (ps_if (pt_cmpR op_lt (pv 0) pe_int (nomark _)) (pss_one (ps_ret (pe_calE (pe_ix (show IxR _ (rIxL K) from ix_list) (pe_lst (pa_cons (pe_glob (v := .ref a0) (by rfl) m0 rfl) (pa_cons (pe_glob (v := .ref a1) (by rfl) m1 rfl) pa_nil))) (pv 0) (fun _ _ => rfl)) F2 hr (by decide) (takes_of rfl rfl rfl rfl) (pa_cons (pv 1) pa_nil)))) pss_nil)
      (pss_cons (ps_if (pt_cmpR op_eq (pv 0) pe_int (nomark _)) (pss_one (ps_ret (pe_calX CP hr (by decide) (takes_of rfl rfl rfl rfl) (pa_cons (pv 1) (pa_cons (pv 2) pa_nil))))) pss_nil)
      (pss_cons (ps_if (pt_cmpR op_eq (pv 0) pe_int (nomark _)) (pss_one (ps_ret (pe_calX CS hr (by decide) (takes_of rfl rfl rfl rfl) (pa_cons (pv 1) (pa_cons (pv 2) (pa_cons (pv 3) (pa_cons pe_non pa_nil))))))) pss_nil)
      (pss_one (ps_ret (pe_ifExp (pt_cmpR op_eq (pv 0) pe_int (nomark _)) (pe_calX CR hr (by decide) (takes_of rfl rfl rfl rfl) (pa_cons (pv 1) (pa_cons (pv 2) (pa_cons (pv 3) pa_nil)))) (pe_calX CB hr (by decide) (takes_of rfl rfl rfl rfl) (pa_cons (pv 1) (pa_cons (pv 2) (pa_cons (pv 3) pa_nil))))))))), ?_⟩
    have ev : ∀ n : Nat, decide (V.int (c : Int) = V.int (n : Int)) = decide (c = n) := fun n => decide_eq_decide.mpr ⟨fun z => by have := V.int.inj z; omega, fun z => by rw [z]⟩
    refine sq_if (go_if ?_)
    refine ⟨_, rfl, (c : Int), (2 : Int), rfl, rfl, _, rfl, ?_⟩
    by_cases c2 : c < 2
    · refine iteT' (decide_eq_true (by omega)) ?_
      refine go_ret ?_
      refine ⟨(by show 2 ≤ sizeLine; decide), fun l nl => ?_⟩
      have sl := same_upd (o := .lst [.ref a0, .ref a1]) nl
      have : c = 0 ∨ c = 1 := by omega
      rcases this with rfl | rfl
      · refine ⟨_, rfl, l, _, 0, _, rfl, rfl, SqL.of upd_same, atI_nat (j := 0) rfl, a0, spTableX K e TM, rfl, by simp, _, rfl, v1, d1, rfl, th_same sl h1, b1, fun n H' s => ?_, fun y => ?_⟩
        · rcases hz with ⟨z, ez, ke⟩ | ⟨en, _⟩ | ⟨en, _⟩
          · obtain ⟨_, rfl⟩ := bk_err ez
            exact ke H' (sl.trans s)
          · exact absurd n (tff (bk_if en))
          · exact absurd n (tff (bk_if en))
        · rcases hz with ⟨z, ez, ke⟩ | ⟨en, big, kx⟩ | ⟨en, fin, k⟩
          · exact absurd (bk_err ez).1 (tff y)
          · cases big with
            | tab nf => exact ⟨_, rfl, fun fw => absurd fw nf, fun _ dd H' s h => kx dd H' (sl.trans s) h⟩
          · cases fin with
            | tab fw => exact ⟨_, rfl, fun _ T p zs H' s _ _ _ _ => k _ H' (sl.trans s), fun nf => absurd fw nf⟩
      · refine ⟨_, rfl, l, _, 1, _, rfl, rfl, SqL.of upd_same, atI_nat (j := 1) rfl, a1, spLeanX K e TM, rfl, by simp, _, rfl, v1, d1, rfl, th_same sl h1, b1, fun n H' s => ?_, fun y => ?_⟩
        · rcases hz with ⟨z, ez, ke⟩ | ⟨en, _⟩ | ⟨en, _⟩
          · obtain ⟨_, rfl⟩ := bk_err ez
            exact ke H' (sl.trans s)
          · exact absurd n (tff (bk_if en))
          · exact absurd n (tff (bk_if en))
        · rcases hz with ⟨z, ez, ke⟩ | ⟨en, big, kx⟩ | ⟨en, fin, k⟩
          · exact absurd (bk_err ez).1 (tff y)
          · cases big with
            | lean nf => exact ⟨_, rfl, .inr ⟨nf, fun dd H' s h => kx dd H' (sl.trans s) h⟩⟩
          · cases fin with
            | lean fs => exact ⟨_, rfl, .inl ⟨fs, fun t H' s _ => k _ H' (sl.trans s)⟩⟩
    · refine iteF' (decide_eq_false (by omega)) ?_
      refine nxt_go ?_
      refine sq_if (go_if ?_)
      refine ⟨_, rfl, rfl, _, rfl, ?_⟩
      by_cases e2 : c = 2
      · subst e2
        refine iteT' rfl (go_ret ?_)
        refine ⟨_, rfl, _, rfl, v1, v2, d1, d2, rfl, h1, h2, b1, b2, fun n H' s => ?_, fun y1 y2 => ?_⟩
        · rcases hz with ⟨z, ez, ke⟩ | ⟨en, _⟩ | ⟨en, _⟩
          · obtain ⟨_, rfl⟩ := bk_err ez
            exact ke H' s
          · rcases n with n | n
            · exact absurd n (tff (bk_if2 en).1)
            · exact absurd n (tff (bk_if2 en).2)
          · rcases n with n | n
            · exact absurd n (tff (bk_if2 en).1)
            · exact absurd n (tff (bk_if2 en).2)
        · rcases hz with ⟨z, ez, ke⟩ | ⟨en, big, kx⟩ | ⟨en, fin, k⟩
          · rcases (bk_err ez).1 with n | n
            · exact absurd n (tff y1)
            · exact absurd n (tff y2)
          · cases big with
            | part nf => exact ⟨_, _, rfl, rfl, fun fw => absurd fw nf, fun _ dd H' s h => kx dd H' s h⟩
          · cases fin with
            | part f1 f2 => exact ⟨_, _, rfl, rfl, fun _ T1 T2 v H' s _ _ _ => k v H' s, fun nf => absurd ⟨f1, f2⟩ nf⟩
      refine iteF' (decide_eq_false fun y => e2 (by have := V.int.inj y; omega)) (nxt_go ?_)
      refine sq_if (go_if ?_)
      refine ⟨_, rfl, rfl, _, rfl, ?_⟩
      have eT : errC c d1 d2 d3 = errT d1 d2 d3 := by
        have : c = 3 ∨ c = 4 ∨ c = 5 := by omega
        rcases this with rfl | rfl | rfl <;> rfl
      rw [eT] at hz
      by_cases e5 : c = 5
      · subst e5
        refine iteT' rfl (go_ret ?_)
        refine ⟨_, rfl, _, rfl, _, rfl, v1, v2, v3, d1, d2, d3, rfl, h1, h2, h3, b1, b2, b3, fun z ez H' s => ?_, fun en H' s => ?_⟩
        · rcases hz with ⟨z', ez', ke⟩ | ⟨en, _⟩ | ⟨en, _⟩
          · rw [ez] at ez'
            cases ez'
            exact ke H' s
          · rw [ez] at en
            cases en
          · rw [ez] at en
            cases en
        · rcases hz with ⟨z', ez', ke⟩ | ⟨_, big, _⟩ | ⟨_, _, k⟩
          · rw [en] at ez'
            cases ez'
          · cases big
          · exact k _ H' s
      refine iteF' (decide_eq_false fun y => e5 (by have := V.int.inj y; omega)) (nxt_go ?_)
      refine go_ret ?_
      refine ⟨_, rfl, rfl, _, rfl, ?_⟩
      by_cases e3 : c = 3
      · subst e3
        refine iteT' rfl ?_
        refine ⟨_, rfl, _, rfl, _, rfl, v1, v2, v3, d1, d2, d3, rfl, h1, h2, h3, b1, b2, b3, ?_⟩
        rcases hz with ⟨z', ez', ke⟩ | ⟨en, big, kx⟩ | ⟨en, fin, k⟩
        · exact .inl ⟨z', ez', ke⟩
        · cases big with
          | row nf hf lz =>
            obtain ⟨q, xs, rfl, hq, hx⟩ := th_of_tup h1
            exact .inr ⟨en, q, _, xs, _, _, _, rfl, rfl, rfl, rfl, hq, hx, errT_bk en, hf, lz, fun fw => absurd fw nf, fun _ dd H' s h => kx dd H' s h⟩
        · cases fin with
          | row fw hf lz =>
            obtain ⟨q, xs, rfl, hq, hx⟩ := th_of_tup h1
            exact .inr ⟨en, q, _, xs, _, _, _, rfl, rfl, rfl, rfl, hq, hx, errT_bk en, hf, lz, fun _ T v H' s _ _ => k v H' s, fun nf => absurd fw nf⟩
      have e4 : c = 4 := by omega
      subst e4
      refine iteF' (by decide) ?_
      refine ⟨_, rfl, _, rfl, _, rfl, v1, v2, v3, d1, d2, d3, rfl, h1, h2, h3, b1, b2, b3, ?_⟩
      rcases hz with ⟨z', ez', ke⟩ | ⟨en, big, kx⟩ | ⟨en, fin, k⟩
      · exact .inl ⟨z', ez', ke⟩
      · cases big
      · cases fin with
        | blk A => exact .inr ⟨en, _, _, _, _, _, _, rfl, A, fun v H' s _ _ => k v H' s⟩
end
end Lk
/-! K36Y2 -/
set_option Elab.async false
set_option linter.all false
set_option maxRecDepth 100000
set_option maxHeartbeats 4000000
namespace Lk
open PySem PySem.Spec PyProof.Rows L2
section
variable {P : Program} {w : World} {K : PySem.W.Frag} {mg : Str → Option Value} {base : Heap} {e : E5}
def spWord (K : PySem.W.Frag) : Sp := fun vs H Q _ => ∃ (c : Nat) (v1 v2 v3 : V) (d1 d2 d3 : PyData), vs = [.int (c : Int), v1, v2, v3] ∧ c ≤ 5 ∧ Th K H v1 d1 ∧ Th K H v2 d2 ∧ Th K H v3 d3 ∧ Wf0 (.tuple [d1, d2, d3]) ∧
  ((PyData.tuple [d1, d2, d3]).hasDict = true → Clr K H v1 d1 ∧ Clr K H v2 d2 ∧ Clr K H v3 d3) ∧
  ((∃ z, errC c d1 d2 d3 = some z ∧ ∀ H', Same H H' → Q (.str (wd z)) H') ∨ (errC c d1 d2 d3 = none ∧ Big36 K H c v1 v2 v3 d1 d2 ∧ ∀ H', Same H H' → Q (.int 300) H') ∨ (errC c d1 d2 d3 = none ∧ Fin36 K H c v1 v2 v3 d1 d2 ∧ ∀ H', Same H H' → Q .non H'))
theorem sx_word : FnScope ["choice", "book", "two", "name", "caught", "before", "error"] ["choice", "book", "two", "name"] (defScope s_word) := ⟨rfl, rfl, rfl, by decide +kernel, rfl, by decide +kernel, by decide +kernel⟩
theorem calg_word {TM : Addr} (D : Def1 K mg "_law_word" s_word) (R : mg "repr" = none) (RE : Err32 K mg e TM) (XM : Exm32 K e TM) (CD : CalX P w K mg base 27 "_law_do" (spDo K e TM)) : CalG P w K mg base CX0 28 "_law_word" (spWord K) := by
  refine mkCalG D sx_word (fun _ _ _ _ _ _ us hl => match us, hl with | [_, _, _, _], _ => rfl) (fun vs H Q E h => ?_) (fun f cdv A above s H vs Q E hr hg h => ?_)
  · obtain ⟨c, v1, v2, v3, d1, d2, d3, rfl, _⟩ := h
    rfl
  · obtain ⟨c, v1, v2, v3, d1, d2, d3, rfl, lc, h1, h2, h3, wf, cl, hz⟩ := h
    refine ⟨_, pss_cons (ps_par (i := 4) (j := 5) (by rfl) sx_word.nd rfl rfl (by decide) rfl rfl (pa_cons pe_non (pa_cons (pe_callB (call_reprE hg hr.units) (by rfl) R bootS_repr (pa_cons (pe_tup (pa_cons (pv 1) (pa_cons (pv 2) (pa_cons (pv 3) pa_nil)))) pa_nil)) pa_nil)) (by rfl))
      (pss_cons (ps_try_asL (i := 6) rfl rfl sx_word.nd rfl rfl (fun W pn xe tk _ => pss_one (ps_expr (pe_calT CD hr (by decide) tk (pa_cons (pv 0) (pa_cons (pv 1) (pa_cons (pv 2) (pa_cons (pv 3) pa_nil)))))))
          (.more ⟨rfl, by decide, .inl RE.b.gC⟩ (fun _ _ _ _ _ _ _ => pss_one (ps_set (i := 4) sx_word.nd rfl (.inl rfl) pe_str)) (.more ⟨rfl, by decide, .inl RE.f.gC⟩ (fun _ _ _ _ _ _ _ => pss_one (ps_set (i := 4) sx_word.nd rfl (.inl rfl) pe_str))
          (.more ⟨rfl, by decide, .inl RE.n.gC⟩ (fun _ _ _ _ _ _ _ => pss_one (ps_set (i := 4) sx_word.nd rfl (.inl rfl) pe_str)) (.more ⟨rfl, by decide, .inl RE.t⟩ (fun _ _ _ _ _ hz hf => pss_one (ps_set (i := 4) sx_word.nd rfl (.inl rfl) (pe_xf RE.xf RE.nl hz hf (pv 6)))) .none)))))
      (pss_one (ps_ret (pe_ifExp (pt_cmpR op_eq (pe_callB (call_reprE hg hr.units) (by rfl) R bootS_repr (pa_cons (pe_tup (pa_cons (pv 1) (pa_cons (pv 2) (pa_cons (pv 3) pa_nil)))) pa_nil)) (pv 5) (nomark _)) (pv 4) pe_str)))), ?_⟩
    have all : ∀ {H1 : Hp}, Same H H1 → ThAll K H1 [v1, v2, v3] [d1, d2, d3] := fun s => .cons (th_same s h1) (.cons (th_same s h2) (.cons (th_same s h3) .nil))
    have clr : ∀ {H1 : Hp}, Same H H1 → (PyData.tuple [d1, d2, d3]).hasDict = true → ClrAll K H1 [v1, v2, v3] [d1, d2, d3] := fun s y => .cons ((cl y).1.same s) (.cons ((cl y).2.1.same s) (.cons ((cl y).2.2.same s) .nil))
    refine ⟨_, rfl, _, rfl, _, rfl, (by show 3 ≤ sizeLine; decide), fun q nq => ⟨q, _, _, rfl, SqT.of upd_same, all (same_upd nq), wf, clr (same_upd nq), ?_⟩⟩
    refine ⟨_, _, rfl, ?_⟩
    have s1 : Same H (upd H q (.tup [v1, v2, v3])) := same_upd nq
    generalize upd H q (.tup [v1, v2, v3]) = H1 at s1 ⊢
    have fin : ∀ (x : V) (H2 : Hp), Same H H2 → (∀ H', Same H H' → Q x H') → tRet (tIf (tTest (tOp rEq (tCB (rReprE K) (tCons (tTup (tCons (tVar 1) (tCons (tVar 2) (tCons (tVar 3) tNil)))) tNil)) (tVar 5))) (tVar 4) (tC (.str "changed"))) { nx := fun _ H' => Q V.non H', rt := Q }
        [some (.int (c : Int)), some v1, some v2, some v3, some x, some (.str (PyData.tuple [d1, d2, d3]).shown), none] H2 := fun x H2 s kz => by
      refine ⟨_, rfl, _, rfl, _, rfl, (by show 3 ≤ sizeLine; decide), fun r nr => ⟨r, _, _, rfl, SqT.of upd_same, all (s.trans (same_upd nr)), wf, clr (s.trans (same_upd nr)), _, rfl, rfl, _, rfl, ?_⟩⟩
      exact iteT' (by simp) ⟨_, rfl, kz _ (s.trans (same_upd nr))⟩
    have w1 := wf.bk
    have w2 : d1.bulk ≤ 1000000 ∧ d2.bulk ≤ 1000000 ∧ d3.bulk ≤ 1000000 := by
      simp only [PyData.bulk, PyData.bulkAll] at w1
      omega
    have errs : ∀ (z : Nat) (H2 : Hp), z ≤ 2 → Same H H2 → (∀ H', Same H H' → Q (.str (wd z)) H') → ∀ D : Ends, D = { nx := tRet (tIf (tTest (tOp rEq (tCB (rReprE K) (tCons (tTup (tCons (tVar 1) (tCons (tVar 2) (tCons (tVar 3) tNil)))) tNil)) (tVar 5))) (tVar 4) (tC (.str "changed"))) { nx := fun _ H' => Q V.non H', rt := Q }, rt := Q } →
        wAsL K 6 D [(.ref e.b, fun a cls d => tAsg (tC (.str "book")) (gName 4)), (.ref e.f, fun a cls d => tAsg (tC (.str "files")) (gName 4)), (.ref e.n, fun a cls d => tAsg (tC (.str "name")) (gName 4)), (.ref TM, fun a cls d => tAsg (tXf a cls d TM "limit" (tVar 6)) (gName 4))] (.ref (e.at z)) none
          [some (.int (c : Int)), some v1, some v2, some v3, some .non, some (.str (PyData.tuple [d1, d2, d3]).shown), none] H2 := by
      rintro z H2 lz s2 k D rfl
      match z, lz, k with
      | 0, _, k => exact ⟨true, XM.bb, fun _ a na => fin (.str "book") _ s2 k, fun y => nomatch y⟩
      | 1, _, k => exact ⟨false, XM.fb, (fun y => nomatch y), fun _ => ⟨true, XM.ff, fun _ a na => fin (.str "files") _ s2 k, fun y => nomatch y⟩⟩
      | 2, _, k => exact ⟨false, XM.nb, (fun y => nomatch y), fun _ => ⟨false, XM.nf, (fun y => nomatch y), fun _ => ⟨true, XM.nn, fun _ a na => fin (.str "name") _ s2 k, fun y => nomatch y⟩⟩⟩
    have too : ∀ (dd : Addr) (H2 : Hp), H2 dd = some lim300 → Same H H2 → (∀ H', Same H H' → Q (.int 300) H') → ∀ D : Ends, D = { nx := tRet (tIf (tTest (tOp rEq (tCB (rReprE K) (tCons (tTup (tCons (tVar 1) (tCons (tVar 2) (tCons (tVar 3) tNil)))) tNil)) (tVar 5))) (tVar 4) (tC (.str "changed"))) { nx := fun _ H' => Q V.non H', rt := Q }, rt := Q } →
        wAsL K 6 D [(.ref e.b, fun a cls d => tAsg (tC (.str "book")) (gName 4)), (.ref e.f, fun a cls d => tAsg (tC (.str "files")) (gName 4)), (.ref e.n, fun a cls d => tAsg (tC (.str "name")) (gName 4)), (.ref TM, fun a cls d => tAsg (tXf a cls d TM "limit" (tVar 6)) (gName 4))] (.ref TM) (some dd)
          [some (.int (c : Int)), some v1, some v2, some v3, some .non, some (.str (PyData.tuple [d1, d2, d3]).shown), none] H2 := by
      rintro dd H2 lim s2 k D rfl
      exact ⟨false, XM.tb, (fun y => nomatch y), fun _ => ⟨false, XM.tf, (fun y => nomatch y), fun _ => ⟨false, XM.tn, (fun y => nomatch y), fun _ => ⟨true, XM.tt, fun _ a na => ⟨_, rfl, rfl, rfl, dd, _, _, rfl, lim, rfl, fin (.int 300) _ s2 k⟩, fun y => nomatch y⟩⟩⟩⟩
    refine ⟨_, rfl, _, rfl, _, rfl, _, rfl, c, v1, v2, v3, d1, d2, d3, rfl, lc, th_same s1 h1, th_same s1 h2, th_same s1 h3, w2.1, w2.2.1, w2.2.2, ?_⟩
    rcases hz with ⟨z, ez, k⟩ | ⟨en, big, k⟩ | ⟨en, fi, k⟩
    · exact .inl ⟨z, ez, fun H' s' => errs z H' (errC_le ez) (s1.trans s') k _ rfl⟩
    · exact .inr (.inl ⟨en, big.same s1, fun dd H' s' lim => too dd H' lim (s1.trans s') k _ rfl⟩)
    · exact .inr (.inr ⟨en, fi.same s1, fun _ H' s' => fin .non H' (s1.trans s') k⟩)
end
end Lk
/-! K36Y3 -/
set_option Elab.async false
set_option linter.all false
set_option maxRecDepth 100000
set_option maxHeartbeats 4000000
namespace Lk
open PySem PySem.Spec PyProof.Rows L2
/-! a stem that can be computed -/
def stemC (b e z : Str) : Option Str :=
  let m := ((TL.tl z).drop (TL.tl b).length).take (((TL.tl z).drop (TL.tl b).length).length - (TL.tl e).length)
  if TL.tl b ++ m ++ TL.tl e = TL.tl z then some ⟨m.toArray⟩ else none
theorem stem_comp (b e z : Str) : stemO b e z = stemC b e z := by
  unfold stemC
  simp only
  split
  · rename_i h
    exact stemO_some h.symm
  · rename_i h
    refine stemO_none fun ⟨m, hm⟩ => h ?_
    have e1 : (TL.tl z).drop (TL.tl b).length = TL.tl m ++ TL.tl e := by
      rw [hm, List.append_assoc, List.drop_left]
    have e2 : (TL.tl m ++ TL.tl e).length - (TL.tl e).length = (TL.tl m).length := by
      rw [List.length_append]
      omega
    rw [e1, e2, List.take_left, hm]
/-! ### books whose open ways are counted -/
def meetC (r : Rl) : Src → Option (Str × Str × List Src)
  | .nm x => (stemC r.b r.e x).map fun m : Str => (("" : Str), ("" : Str), r.ss.map fun s => Src.nm (s.put m))
  | .pat b e => if (begB r.b b && endB r.e e) = true then some (drp r.b b, ahd r.e e, r.ss.map (wdn (drp b r.b) (ahd e r.e))) else none
theorem meetC_eq (r : Rl) (a : Src) : meetC r a = meetS r a := by
  cases a with
  | nm x => rw [meetS_nm, stem_comp]; rfl
  | pat b e => rfl
def joinX (ws os : List OW) : Option (List OW) := if (joinS ws os).length ≤ 300 then some (joinS ws os) else none
def chX (f : Src → Option (List OW)) : List Src → List OW → Option (List OW)
  | [], acc => some acc
  | a :: ss, acc => match f a with
    | none => none
    | some os => match joinX acc os with
      | none => none
      | some r => chX f ss r
def rowsX (f : Src → List Nat → Option (List OW)) (a : Src) (sp : List Nat) : List (Rl × Nat) → List OW → Option (List OW)
  | [], acc => some acc
  | c :: cs, acc => if c.2 ∈ sp then rowsX f a sp cs acc else match meetC c.1 a with
    | none => rowsX f a sp cs acc
    | some m => match chX (fun s => f s (sp ++ [c.2])) m.2.2 [⟨"", "", []⟩] with
      | none => none
      | some ws => rowsX f a sp cs (acc ++ ws.map fun w => ⟨m.1 ++ w.l, w.r ++ m.2.1, w.vs⟩)
def owX (rs : List Rl) : Nat → Src → List Nat → Option (List OW)
  | 0, a, _ => some [⟨"", "", [a]⟩]
  | n + 1, a, sp => match rowsX (owX rs n) a sp rs.zipIdx [⟨"", "", [a]⟩] with
    | none => none
    | some ws => if ws.length ≤ 300 then some ws else none
def fewB (rs : List Rl) : Bool := (owX rs rs.length (.pat "" "") []).isSome
/-- chosen so far, with the limit -/
theorem chX_ok {rs : List Rl} {n : Nat} {sp : List Nat} {f : Src → Option (List OW)} : ∀ {ss : List Src}, (∀ s ∈ ss, (∀ os, f s = some os → os = owM rs n s sp ∧ FewW rs n s sp) ∧ (f s = none → ¬ FewW rs n s sp)) → ∀ {acc : List OW}, acc.length ≤ 300 →
    (∀ r, chX f ss acc = some r → r = ss.foldl (fun acc a => joinS acc (owM rs n a sp)) acc ∧ (∀ s ∈ ss, FewW rs n s sp) ∧ ∀ j, j ≤ ss.length → ((ss.take j).foldl (fun acc a => joinS acc (owM rs n a sp)) acc).length ≤ 300) ∧
    (chX f ss acc = none → ¬ ((∀ s ∈ ss, FewW rs n s sp) ∧ ∀ j, j ≤ ss.length → ((ss.take j).foldl (fun acc a => joinS acc (owM rs n a sp)) acc).length ≤ 300))
  | [], _, acc, ha => by
    refine ⟨fun r h => ?_, fun h => (nomatch h)⟩
    cases h
    exact ⟨rfl, (fun _ m => nomatch m), fun j _ => by rw [List.take_nil]; exact ha⟩
  | a :: ss, hf, acc, ha => by
    obtain ⟨h1, h2⟩ := hf a List.mem_cons_self
    have tl : ∀ s ∈ ss, _ := fun s m => hf s (List.mem_cons_of_mem _ m)
    unfold chX
    cases e : f a with
    | none => exact ⟨(fun r h => nomatch h), fun _ z => h2 e (z.1 a List.mem_cons_self)⟩
    | some os =>
      obtain ⟨rfl, fa⟩ := h1 os e
      by_cases l : (joinS acc (owM rs n a sp)).length ≤ 300
      · have ej : joinX acc (owM rs n a sp) = some (joinS acc (owM rs n a sp)) := if_pos l
        simp only [ej]
        obtain ⟨g1, g2⟩ := chX_ok tl (acc := joinS acc (owM rs n a sp)) l
        refine ⟨fun r h => ?_, fun h z => g2 h ⟨fun s m => z.1 s (List.mem_cons_of_mem _ m), fun j hj => ?_⟩⟩
        · obtain ⟨b1, b2, b3⟩ := g1 r h
          refine ⟨b1, fun s m => ?_, fun j hj => ?_⟩
          · rcases List.mem_cons.mp m with rfl | m
            · exact fa
            · exact b2 s m
          · cases j with
            | zero => exact ha
            | succ j => exact b3 j (Nat.le_of_succ_le_succ hj)
        · exact z.2 (j + 1) (Nat.succ_le_succ hj)
      · have ej : joinX acc (owM rs n a sp) = none := if_neg l
        simp only [ej]
        refine ⟨(fun r h => nomatch h), fun _ z => l ?_⟩
        exact z.2 1 (Nat.succ_le_succ (Nat.zero_le _))
theorem rowsX_ok {rs : List Rl} {n : Nat} {a : Src} {sp : List Nat} {f : Src → List Nat → Option (List OW)} (hf : ∀ s sp, (∀ os, f s sp = some os → os = owM rs n s sp ∧ FewW rs n s sp) ∧ (f s sp = none → ¬ FewW rs n s sp)) : ∀ {cs : List (Rl × Nat)} {acc : List OW},
    (∀ r, rowsX f a sp cs acc = some r → r = acc ++ cs.flatMap (owR (owM rs n) a sp) ∧ ∀ c ∈ cs, c.2 ∉ sp → ∀ m, meetS c.1 a = some m → GoodC rs n m.2.2 (sp ++ [c.2])) ∧
    (rowsX f a sp cs acc = none → ¬ ∀ c ∈ cs, c.2 ∉ sp → ∀ m, meetS c.1 a = some m → GoodC rs n m.2.2 (sp ++ [c.2]))
  | [], acc => by
    refine ⟨fun r h => ?_, fun h => (nomatch h)⟩
    cases h
    exact ⟨(List.append_nil _).symm, fun _ m => nomatch m⟩
  | c :: cs, acc => by
    unfold rowsX
    by_cases m : c.2 ∈ sp
    · rw [if_pos m]
      obtain ⟨g1, g2⟩ := rowsX_ok hf (cs := cs) (acc := acc)
      have e0 : owR (owM rs n) a sp c = [] := if_pos m
      refine ⟨fun r h => ?_, fun h z => g2 h fun d md => z d (List.mem_cons_of_mem _ md)⟩
      obtain ⟨b1, b2⟩ := g1 r h
      refine ⟨by rw [List.flatMap_cons, e0, List.nil_append]; exact b1, fun d md nd => ?_⟩
      rcases List.mem_cons.mp md with rfl | md
      · exact absurd m nd
      · exact b2 d md nd
    · rw [if_neg m]
      cases e : meetC c.1 a with
      | none =>
        have e' : meetS c.1 a = none := by rw [← meetC_eq]; exact e
        obtain ⟨g1, g2⟩ := rowsX_ok hf (cs := cs) (acc := acc)
        have e0 : owR (owM rs n) a sp c = [] := by unfold owR; rw [if_neg m, e']
        refine ⟨fun r h => ?_, fun h z => g2 h fun d md => z d (List.mem_cons_of_mem _ md)⟩
        obtain ⟨b1, b2⟩ := g1 r h
        refine ⟨by rw [List.flatMap_cons, e0, List.nil_append]; exact b1, fun d md nd => ?_⟩
        rcases List.mem_cons.mp md with rfl | md
        · intro k hk
          rw [e'] at hk
          cases hk
        · exact b2 d md nd
      | some k =>
        have e' : meetS c.1 a = some k := by rw [← meetC_eq]; exact e
        obtain ⟨q1, q2⟩ := chX_ok (rs := rs) (n := n) (sp := sp ++ [c.2]) (f := fun s => f s (sp ++ [c.2])) (ss := k.2.2) (fun s _ => hf s _) (acc := [⟨"", "", []⟩]) (by decide)
        simp only
        cases ec : chX (fun s => f s (sp ++ [c.2])) k.2.2 [⟨"", "", []⟩] with
        | none => exact ⟨(fun r h => nomatch h), fun _ z => q2 ec (z c List.mem_cons_self m k e')⟩
        | some ws =>
          obtain ⟨w1, w2, w3⟩ := q1 ws ec
          obtain ⟨g1, g2⟩ := rowsX_ok hf (cs := cs) (acc := acc ++ ws.map fun w => ⟨k.1 ++ w.l, w.r ++ k.2.1, w.vs⟩)
          have e0 : owR (owM rs n) a sp c = ws.map fun w => ⟨k.1 ++ w.l, w.r ++ k.2.1, w.vs⟩ := by
            unfold owR
            rw [if_neg m, e', w1]
            rfl
          refine ⟨fun r h => ?_, fun h z => g2 h fun d md => z d (List.mem_cons_of_mem _ md)⟩
          obtain ⟨b1, b2⟩ := g1 r h
          refine ⟨by rw [List.flatMap_cons, e0, ← List.append_assoc]; exact b1, fun d md nd => ?_⟩
          rcases List.mem_cons.mp md with rfl | md
          · intro k2 hk2
            rw [e'] at hk2
            cases hk2
            exact ⟨w2, w3⟩
          · exact b2 d md nd
theorem owX_ok {rs : List Rl} : ∀ (n : Nat) (a : Src) (sp : List Nat), (∀ os, owX rs n a sp = some os → os = owM rs n a sp ∧ FewW rs n a sp) ∧ (owX rs n a sp = none → ¬ FewW rs n a sp)
  | 0, a, sp => by
    refine ⟨fun os h => ?_, fun h => (nomatch h)⟩
    cases h
    exact ⟨rfl, trivial⟩
  | n + 1, a, sp => by
    obtain ⟨g1, g2⟩ := rowsX_ok (rs := rs) (n := n) (a := a) (sp := sp) (f := owX rs n) (fun s sp => owX_ok n s sp) (cs := rs.zipIdx) (acc := [⟨"", "", [a]⟩])
    have conv : (∀ c ∈ rs.zipIdx, c.2 ∉ sp → ∀ m, meetS c.1 a = some m → GoodC rs n m.2.2 (sp ++ [c.2])) ↔ ∀ k r m, rs[k]? = some r → k ∉ sp → meetS r a = some m → GoodC rs n m.2.2 (sp ++ [k]) := by
      constructor
      · intro h k r m hk nk hm
        exact h (r, k) (List.mem_zipIdx_iff_getElem?.mpr hk) nk m hm
      · intro h c mc nk m hm
        exact h c.2 c.1 m (List.mem_zipIdx_iff_getElem?.mp (show (c.1, c.2) ∈ rs.zipIdx from mc)) nk hm
    unfold owX
    cases e : rowsX (owX rs n) a sp rs.zipIdx [⟨"", "", [a]⟩] with
    | none => exact ⟨(fun os h => nomatch h), fun _ z => g2 e (conv.mpr fun k r m h1 h2 h3 => z.2 k r m h1 h2 h3)⟩
    | some ws =>
      obtain ⟨b1, b2⟩ := g1 ws e
      have b1 : ws = owM rs (n + 1) a sp := b1
      simp only
      by_cases l : ws.length ≤ 300
      · rw [if_pos l]
        refine ⟨fun os h => ?_, fun h => (nomatch h)⟩
        cases h
        exact ⟨b1, by rw [← b1]; exact l, fun k r m h1 h2 h3 => conv.mp b2 k r m h1 h2 h3⟩
      · rw [if_neg l]
        exact ⟨(fun os h => nomatch h), fun _ z => l (by rw [b1]; exact z.1)⟩
theorem few_of {rs : List Rl} (h : fewB rs = true) : FewB rs := by
  unfold fewB at h
  cases e : owX rs rs.length (.pat "" "") [] with
  | none => rw [e] at h; cases h
  | some ws => exact ((owX_ok rs.length _ _).1 ws e).2
theorem few_no {rs : List Rl} (h : fewB rs = false) : ¬ FewB rs := by
  unfold fewB at h
  cases e : owX rs rs.length (.pat "" "") [] with
  | none => exact (owX_ok rs.length _ _).2 e
  | some ws => rw [e] at h; cases h
/-! the books of the law -/
def gsrc : List Src := [.pat "ZA" "", .pat "Z" "c", .pat "ZB" ""]
def great (c w : Nat) : List Rl := List.replicate c ⟨"cc", "Z", "", gsrc.take w⟩
def greatP : List (Nat × Nat) := [(4, 1), (3, 2), (5, 1), (3, 3), (6, 1)]
theorem great_few : ∀ t ∈ greatP, fewB (great t.1 t.2) = decide (t.1 * t.2 < 7 ∧ t.1 < 5) := by decide +kernel
def lone : Rl := ⟨"p", "Z", "", []⟩
def twoR : Rl := ⟨"q", "Z", "", [.pat "Z" "a", .pat "Z" "b"]⟩
def threeR : Rl := ⟨"s", "Y", "", [.pat "Y" "a", .pat "Y" "b", .pat "Y" "c"]⟩
def edgeR (ss : List Src) : List Rl := [lone, lone, twoR, twoR, ⟨"r", "Y", "", ss⟩, threeR]
theorem edge_big : fewB (edgeR [.pat "Y" "a"]) = false := by decide +kernel
end Lk
/-! K36Y4 -/
set_option Elab.async false
set_option linter.all false
set_option maxRecDepth 100000
set_option maxHeartbeats 4000000
namespace Lk
open PySem PySem.Spec PyProof.Rows L2
theorem nm_heads {z : Str} {h t : List Nat} (n : Nm z h t) : (∀ c ∈ h, upB c = true) ∧ ∀ c ∈ t, loB c = true :=
  ⟨fun c hc => by
    have z := n.up c hc
    unfold Up at z
    unfold upB
    rw [decide_eq_true z.1, decide_eq_true z.2]
    rfl, fun c hc => by
    have z := n.lo c hc
    unfold Lo at z
    unfold loB
    rw [decide_eq_true z.1, decide_eq_true z.2]
    rfl⟩
theorem name_of {u v : List Nat} (hu : ∀ c ∈ u, upB c = true) (hv : ∀ c ∈ v, loB c = true) (ne : u ++ v ≠ []) : nmB (u ++ v) = true := nmB_app (List.all_eq_true.mpr hu) (List.all_eq_true.mpr hv) ne
theorem nm_isName {z : Str} {h t : List Nat} (n : Nm z h t) : dName (.str z) = true := by
  show nmB (TL.tl z) = true
  obtain ⟨a, b⟩ := nm_heads n
  rw [n.e]
  exact name_of a b n.ne
/-! repr of drawn rules -/
theorem rl_pl {most : Nat} {r : Rl} (h : RlOk most r) : Pl 3 r.d := by
  have h0 : ∀ x ∈ (["cc", "as", "link", "", "A", "B", "AB", "o", "c", "s", "co", "Ac", "Bo", "Ao"] : List Str), (PyData.str x).showable = true ∧ (PyData.str x).leavesShort 13 = true := by decide +kernel
  have one : ∀ x ∈ (["cc", "as", "link", "", "A", "B", "AB", "o", "c", "s", "co", "Ac", "Bo", "Ao"] : List Str), Pl 0 (.str x) := fun x m => ⟨(h0 x m).1, (h0 x m).2, Nat.le_refl _, rfl⟩
  have i1 : ∀ x ∈ (["cc", "as", "link"] : List Str), x ∈ (["cc", "as", "link", "", "A", "B", "AB", "o", "c", "s", "co", "Ac", "Bo", "Ao"] : List Str) := by decide +kernel
  have i2 : ∀ x ∈ (["", "A", "B"] : List Str), x ∈ (["cc", "as", "link", "", "A", "B", "AB", "o", "c", "s", "co", "Ac", "Bo", "Ao"] : List Str) := by decide +kernel
  have i3 : ∀ x ∈ (["o", "c", "", "s"] : List Str), x ∈ (["cc", "as", "link", "", "A", "B", "AB", "o", "c", "s", "co", "Ac", "Bo", "Ao"] : List Str) := by decide +kernel
  have i4 : ∀ x ∈ (["", "A", "B", "AB"] : List Str), x ∈ (["cc", "as", "link", "", "A", "B", "AB", "o", "c", "s", "co", "Ac", "Bo", "Ao"] : List Str) := by decide +kernel
  have i5 : ∀ x ∈ (["", "c", "o", "s", "co"] : List Str), x ∈ (["cc", "as", "link", "", "A", "B", "AB", "o", "c", "s", "co", "Ac", "Bo", "Ao"] : List Str) := by decide +kernel
  have i6 : ∀ x ∈ (["A", "Ac", "Bo", "s", "Ao"] : List Str), x ∈ (["cc", "as", "link", "", "A", "B", "AB", "o", "c", "s", "co", "Ac", "Bo", "Ao"] : List Str) := by decide +kernel
  have two : ∀ {x y : Str}, Pl 0 (.str x) → Pl 0 (.str y) → Pl 1 (.tuple [.str x, .str y]) := fun hx hy => pl_tup fun d m => by
    rcases List.mem_cons.mp m with e | m
    · rw [e]
      exact hx
    · rw [List.mem_singleton.mp m]
      exact hy
  have srcs : Pl 2 (.tuple (r.ss.map Src.d)) := pl_tup fun d m => by
    obtain ⟨s, ms, rfl⟩ := List.mem_map.mp m
    have q := h.ss s ms
    cases s with
    | pat b e =>
      obtain ⟨q1, q2, _⟩ : b ∈ (["", "A", "B", "AB"] : List Str) ∧ e ∈ (["", "c", "o", "s", "co"] : List Str) ∧ ¬ (b = "" ∧ e = "") := q
      exact two (one b (i4 b q1)) (one e (i5 e q2))
    | nm x => exact (one x (i6 x q)).le (by decide)
  refine pl_tup fun d m => ?_
  rcases List.mem_cons.mp m with e | m
  · rw [e]
    exact (one _ (i1 _ h.lab)).le (by decide)
  · rcases List.mem_cons.mp m with e | m
    · rw [e]
      exact (two (one _ (i2 _ h.b)) (one _ (i3 _ h.e))).le (by decide)
    · rw [List.mem_singleton.mp m]
      exact srcs
theorem noPot_tuple {ds : List PyData} (h : ∀ d ∈ ds, noPot d = true) : noPot (.tuple ds) = true := by
  have z : noPotAll ds = true := by
    induction ds with
    | nil => rfl
    | cons d ds ih =>
      rw [noPotAll, h d List.mem_cons_self, ih fun e m => h e (List.mem_cons_of_mem _ m)]
      rfl
  rw [noPot]
  exact z
theorem book_flat {rs : List Rl} : noPot (.tuple (rs.map Rl.d)) = true := noPot_tuple fun e he => by
  obtain ⟨r, _, rfl⟩ := List.mem_map.mp he
  exact (rl_flat r).2
theorem th_ints2 {K : PySem.W.Frag} {H : Hp} {v : V} {n m : Nat} (h : Th K H v (.tuple [.int (n : Int), .int (m : Int)])) : ∃ q, v = .ref q ∧ SqT K H q [.int (n : Int), .int (m : Int)] := by
  cases h with
  | tup hs ha =>
    cases ha with
    | cons h1 t =>
      cases t with
      | cons h2 t =>
        cases t
        cases h1
        cases h2
        exact ⟨_, rfl, hs⟩
theorem pl_str {x : Str} (h : PyData.strOk x = true) : Pl 0 (.str x) := by
  refine ⟨rfl, ?_, Nat.le_refl _, rfl⟩
  have z := ok_iff.mp h
  show (x.cps.toList.all fun c => decide (c < 16 ^ 8)) = true
  rw [List.all_eq_true]
  intro c mc
  have y := z c mc
  rw [decide_eq_true_eq]
  omega
theorem pl_lst {k : Nat} {ds : List PyData} (h : ∀ d ∈ ds, Pl k d) : Pl (k + 1) (.list ds) := by
  obtain ⟨a, b, c, e⟩ := pl_all h
  refine ⟨?_, ?_, ?_, ?_⟩
  · rw [PyData.showable]
    exact a
  · rw [PyData.leavesShort]
    exact b
  · rw [PyData.depth]
    omega
  · rw [PyData.hasDict]
    exact e
/-! ### what the law hands in -/
structure Gd (d : PyData) : Prop where
  sh : d.showable = true
  lv : d.leavesShort 13 = true
  bk : d.bulk ≤ 300000
  dp : d.depth ≤ 50
def w9 (d : PyData) : Bool := d.showable && d.leavesShort 13 && decide (d.bulk ≤ 300000) && decide (d.depth ≤ 50)
theorem gd_of {d : PyData} (h : w9 d = true) : Gd d := by
  simp only [w9, Bool.and_eq_true, decide_eq_true_eq] at h
  exact ⟨h.1.1.1, h.1.1.2, h.1.2, h.2⟩
theorem gd_pl {k : Nat} {d : PyData} (h : Pl k d) (hk : k ≤ 50) (b : d.bulk ≤ 300000) : Gd d := ⟨h.sh, h.lv, b, Nat.le_trans h.dp hk⟩
theorem gd_three {d1 d2 d3 : PyData} (h1 : Gd d1) (h2 : Gd d2) (h3 : Gd d3) : Wf0 (.tuple [d1, d2, d3]) := by
  have b1 := h1.bk
  have b2 := h2.bk
  have b3 := h3.bk
  have p1 := h1.dp
  have p2 := h2.dp
  have p3 := h3.dp
  refine ⟨?_, ?_, ?_, ?_⟩
  · simp only [PyData.showable, PyData.showableAll, h1.sh, h2.sh, h3.sh, Bool.and_self]
  · simp only [PyData.leavesShort, PyData.leavesShortAll, h1.lv, h2.lv, h3.lv, Bool.and_self]
  · simp only [PyData.bulk, PyData.bulkAll]
    omega
  · simp only [PyData.depth, PyData.depthAll]
    omega
section
variable {P : Program} {w : World} {K : PySem.W.Frag} {mg : Str → Option Value} {base : Heap} {H H' : Hp} {p c : Addr} {σ : L2.St}
/-- whole: as data, and its lists are not the table of modules -/
structure Ha (K : PySem.W.Frag) (H : Hp) (v : V) (d : PyData) : Prop where
  th : Th K H v d
  gd : Gd d
  cl : Clr K H v d
theorem Ha.same {v : V} {d : PyData} (h : Ha K H v d) (s : Same H H') : Ha K H' v d := ⟨th_same s h.th, h.gd, h.cl.same s⟩
theorem ne_same {y : Str} {R : Bool → Hp → Prop} (q : R false H) : R (!decide (V.str y = V.str y)) H := by
  rw [decide_eq_true rfl]
  exact q
/-- a word that comes as it is due: no dict, or lists that are no table -/
theorem word_ha {k z : Nat} {v1 v2 v3 : V} {d1 d2 d3 : PyData} {R : Bool → Hp → Prop} (lk : k ≤ 5) (h1 : Th K H v1 d1) (h2 : Th K H v2 d2) (h3 : Th K H v3 d3) (g1 : Gd d1) (g2 : Gd d2) (g3 : Gd d3)
    (cl : (d1.hasDict || (d2.hasDict || d3.hasDict)) = true → Clr K H v1 d1 ∧ Clr K H v2 d2 ∧ Clr K H v3 d3) (hz : errC k d1 d2 d3 = some z)
    (q : ∀ H', Same H H' → R false H') : spWord K [.int (k : Int), v1, v2, v3] H (fun x H' => rNe x (.str (wd z)) H' fun y H2 => ∃ b, y = .bl b ∧ R b H2) E0 :=
  ⟨k, v1, v2, v3, d1, d2, d3, rfl, lk, h1, h2, h3, gd_three g1 g2 g3, fun y => cl (by simpa only [PyData.hasDict, PyData.hasDictAll, Bool.or_false] using y), .inl ⟨z, hz, fun H' s => ⟨rfl, _, rfl, ne_same (y := wd z) (q H' s)⟩⟩⟩
/-- one of a display, whatever the display's place -/
theorem pick_two {i : Nat} {ta tb : TE} {da db : PyData} {Q : VK} (ha : Mk1 K ta σ H da) (hb : Mk1 K tb σ H db) (na : noPot da = true) (nb : noPot db = true) (hP : PotAt p c H) (hi : σ[i]? = some (some (.ref p)))
    (k : ∀ v d H', (d = da ∨ d = db) → Th K H' v d → Ext p c H H' → Q v H') : tCall (spPick K) [] E0 (tCons (tVar i) (tCons (tLst (tCons ta (tCons tb tNil))) tNil)) σ H Q :=
  pick_new (mk_cons ha (mk_cons hb mk_nil)) (by rw [noPotAll, noPotAll, na, nb]; rfl) (by show 0 < 2; decide) (by show 2 ≤ 1000; decide) hP hi fun v d H' hd th e => k v d H' (by simpa using hd) th e
end
/-- a drawn book -/
structure Bk (rs : List Rl) : Prop where
  ok : ∀ r ∈ rs, RlOk 2 r
  len : rs.length ≤ 4
theorem Bk.book {rs : List Rl} (h : Bk rs) : dBook (.tuple (rs.map Rl.d)) = true := by
  show (decide ((rs.map Rl.d).length ≤ 6) && (rs.map Rl.d).all dRule) = true
  rw [List.length_map, decide_eq_true (by have := h.len; omega), Bool.true_and, List.all_eq_true]
  intro d m
  obtain ⟨r, mr, rfl⟩ := List.mem_map.mp m
  exact (ok_draw (h.ok r mr) (by decide)).1
theorem Bk.each {rs : List Rl} (h : Bk rs) : ∀ d ∈ rs.map Rl.d, Pl 3 d ∧ d.bulk ≤ 100 ∧ noLst d = true ∧ noPot d = true := fun d m => by
  obtain ⟨r, mr, rfl⟩ := List.mem_map.mp m
  exact ⟨rl_pl (h.ok r mr), rl_bulk (ok_draw (h.ok r mr) (by decide)).1, rl_flat r⟩
theorem bulk_small {c n : Nat} {ds : List PyData} (h : ∀ d ∈ ds, d.bulk ≤ c) (l : ds.length ≤ n) (b : n * (c + 1) ≤ 300000) : (PyData.tuple ds).bulk ≤ 300000 := by
  have z := bulkAll_le h
  have y := Nat.mul_le_mul_right (c + 1) l
  show PyData.bulkAll ds ≤ 300000
  omega
theorem noLstAll_of {ds : List PyData} (h : ∀ d ∈ ds, noLst d = true) : noLstAll ds = true := by
  induction ds with
  | nil => rfl
  | cons d ds ih =>
    rw [noLstAll, h d List.mem_cons_self, ih fun e m => h e (List.mem_cons_of_mem _ m)]
    rfl
theorem noPotAll_of {ds : List PyData} (h : ∀ d ∈ ds, noPot d = true) : noPotAll ds = true := by
  induction ds with
  | nil => rfl
  | cons d ds ih =>
    rw [noPotAll, h d List.mem_cons_self, ih fun e m => h e (List.mem_cons_of_mem _ m)]
    rfl
theorem potLike_rl : ∀ rs : List Rl, potLike (rs.map Rl.d) = false
  | [] => rfl
  | [_] => rfl
  | [_, _] => rfl
  | [_, _, _] => rfl
  | [_, _, _, _] => rfl
  | _ :: _ :: _ :: _ :: _ :: _ => rfl
/-- things that are no books -/
def badA (rs gs : List Rl) : List PyData := [.none, .int 0, .list [], .dict [], .str "", .list (rs.map Rl.d), .tuple (rs.map Rl.d ++ [.none]), .tuple [.tuple [.str "cc", .tuple [.str "", .str ""], .tuple []]], .tuple (List.replicate 7 (gs.map Rl.d)).flatten]
structure NoBk (d : PyData) : Prop where
  gd : Gd d
  no : dBook d = false
  np : noPot d = true
  nl : d.hasDict = true → noLst d = true
theorem nob_dec {d : PyData} (h : (w9 d && !dBook d && noPot d && (!d.hasDict || noLst d)) = true) : NoBk d := by
  simp only [Bool.and_eq_true, Bool.not_eq_true', Bool.or_eq_true] at h
  exact ⟨gd_of h.1.1.1, h.1.1.2, h.1.2, fun y => h.2.resolve_left (by rw [y]; decide)⟩
theorem gd_tup {n k : Nat} {ds : List PyData} (h : ∀ d ∈ ds, Pl k d ∧ d.bulk ≤ 100) (l : ds.length ≤ n) (hn : n ≤ 2900) (hk : k + 1 ≤ 50) : Gd (.tuple ds) ∧ (PyData.tuple ds).hasDict = false := by
  have z := pl_tup (k := k) fun d m => (h d m).1
  refine ⟨gd_pl z hk (bulk_small (c := 100) (fun d m => (h d m).2) l ?_), z.hd⟩
  have := Nat.mul_le_mul_right (100 + 1) hn
  omega
theorem badA_ok {rs : List Rl} (B : Bk rs) {c w : Nat} (hg : (c, w) ∈ greatP) : ∀ d ∈ badA rs (great c w), NoBk d := by
  have E := B.each
  have four : (rs.map Rl.d).length ≤ 4 := by rw [List.length_map]; exact B.len
  have plN : Pl 3 .none ∧ (PyData.none).bulk ≤ 100 := ⟨⟨rfl, rfl, by decide, rfl⟩, by decide⟩
  intro d hd
  unfold badA at hd
  simp only [List.mem_cons, List.mem_nil_iff, or_false] at hd
  rcases hd with rfl | rfl | rfl | rfl | rfl | rfl | rfl | rfl | rfl
  · exact nob_dec (by decide +kernel)
  · exact nob_dec (by decide +kernel)
  · exact nob_dec (by decide +kernel)
  · exact nob_dec (by decide +kernel)
  · exact nob_dec (by decide +kernel)
  · have z := pl_lst (k := 3) fun d m => (E d m).1
    have bb := bulk_small (c := 100) (fun d m => (E d m).2.1) four (by decide)
    refine ⟨gd_pl z (by decide) bb, rfl, ?_, fun y => ?_⟩
    · rw [noPot, potLike_rl, noPotAll_of fun d m => (E d m).2.2.2]
      rfl
    · rw [z.hd] at y
      cases y
  · obtain ⟨g, hd⟩ := gd_tup (n := 5) (k := 3) (ds := rs.map Rl.d ++ [.none]) (fun d m => by
      rcases List.mem_append.mp m with m | m
      · exact ⟨(E d m).1, (E d m).2.1⟩
      · rw [List.mem_singleton.mp m]
        exact plN) (by rw [List.length_append]; show _ + 1 ≤ 5; omega) (by decide) (by decide)
    refine ⟨g, ?_, ?_, fun y => ?_⟩
    · show (decide ((rs.map Rl.d ++ [PyData.none]).length ≤ 6) && (rs.map Rl.d ++ [PyData.none]).all dRule) = false
      rw [List.all_append]
      simp [dRule]
    · rw [noPot]
      refine noPotAll_of fun d m => ?_
      rcases List.mem_append.mp m with m | m
      · exact (E d m).2.2.2
      · rw [List.mem_singleton.mp m]
        rfl
    · rw [hd] at y
      cases y
  · exact nob_dec (by decide +kernel)
  · have all : ∀ t ∈ greatP, (w9 (.tuple (List.replicate 7 ((great t.1 t.2).map Rl.d)).flatten) && !dBook (.tuple (List.replicate 7 ((great t.1 t.2).map Rl.d)).flatten) && noPot (.tuple (List.replicate 7 ((great t.1 t.2).map Rl.d)).flatten) && (!(PyData.tuple (List.replicate 7 ((great t.1 t.2).map Rl.d)).flatten).hasDict || noLst (.tuple (List.replicate 7 ((great t.1 t.2).map Rl.d)).flatten))) = true := by decide +kernel
    exact nob_dec (all _ hg)
theorem err_book {d1 d2 d3 : PyData} (h : dBook d1 = false) : ∀ j, errC j d1 d2 d3 = some 0 := fun j => by
  unfold errC
  split
  · exact if_pos h
  · exact if_pos h
  · exact if_pos (.inl h)
  · exact if_pos h
theorem err_book2 {d1 d2 d3 : PyData} (h : dBook d2 = false) : errC 2 d1 d2 d3 = some 0 := if_pos (.inr h)
theorem errC_T {j : Nat} (hj : 3 ≤ j) (d1 d2 d3 : PyData) : errC j d1 d2 d3 = errT d1 d2 d3 := by
  unfold errC
  split
  · omega
  · omega
  · omega
  · rfl
theorem err_files {d1 d2 d3 : PyData} (h : dBook d1 = true) (f : dFiles d2 = false) {j : Nat} (hj : 3 ≤ j) : errC j d1 d2 d3 = some 1 := (errC_T hj ..).trans ((if_neg (tf h)).trans (if_pos f))
theorem err_name {d1 d2 d3 : PyData} (h : dBook d1 = true) (f : dFiles d2 = true) (n : dName d3 = false) {j : Nat} (hj : 3 ≤ j) : errC j d1 d2 d3 = some 2 := (errC_T hj ..).trans ((if_neg (tf h)).trans ((if_neg (tf f)).trans (if_pos n)))
theorem err_none {d1 d2 d3 : PyData} (h : dBook d1 = true) (f : dFiles d2 = true) (n : dName d3 = true) {j : Nat} (hj : 3 ≤ j) : errC j d1 d2 d3 = none := (errC_T hj ..).trans ((if_neg (tf h)).trans ((if_neg (tf f)).trans (if_neg (tf n))))
theorem err_none0 {d1 d2 d3 : PyData} (h : dBook d1 = true) {j : Nat} (hj : j < 2) : errC j d1 d2 d3 = none := by
  have : j = 0 ∨ j = 1 := by omega
  rcases this with rfl | rfl <;> exact if_neg (tf h)
theorem err_none2 {d1 d2 d3 : PyData} (h : dBook d1 = true) (h2 : dBook d2 = true) : errC 2 d1 d2 d3 = none := if_neg fun z => z.elim (tf h) (tf h2)
section
variable {K : PySem.W.Frag} {σ : L2.St} {H0 : Hp}
theorem mk_lstS : Mk1 K (tLstS tNil) σ H0 (.list []) := fun H _ Q q => ⟨(by show 0 ≤ sizeLine; decide), fun p np _ => q _ _ (same_upd np) (.lst (SqL.of upd_same) .nil)⟩
end
/-- things that are no files -/
def badB : List PyData := [.none, .int 0, .list [], .dict [], .str "A", .tuple [.str "B", .str "A"], .tuple [.str "aA"], .tuple [.str "A", .str "A"]]
structure NoFl (d : PyData) : Prop where
  gd : Gd d
  no : dFiles d = false
  np : noPot d = true
  nl : d.hasDict = true → noLst d = true
  dc : d.hasDict = true → isDct d = true
  sh : d.hasDict = false → SeqAt.shaped d = true
theorem nof_dec {d : PyData} (no : dFiles d = false) (h : (w9 d && noPot d && (if d.hasDict then noLst d && isDct d else SeqAt.shaped d)) = true) : NoFl d := by
  simp only [Bool.and_eq_true] at h
  obtain ⟨⟨h1, h2⟩, h3⟩ := h
  refine ⟨gd_of h1, no, h2, fun y => ?_, fun y => ?_, fun y => ?_⟩
  · rw [y, if_pos rfl, Bool.and_eq_true] at h3
    exact h3.1
  · rw [y, if_pos rfl, Bool.and_eq_true] at h3
    exact h3.2
  · rw [y] at h3
    exact h3
theorem strs_gd {F : List Str} (ok : ∀ y ∈ F, PyData.strOk y = true ∧ y.length ≤ 1000) (few : F.length ≤ 100) : Gd (.list (F.map PyData.str)) ∧ Gd (.tuple (F.map PyData.str)) ∧ (PyData.list (F.map PyData.str)).hasDict = false ∧ (PyData.tuple (F.map PyData.str)).hasDict = false := by
  have each : ∀ d ∈ F.map PyData.str, Pl 0 d := fun d m => by
    obtain ⟨y, my, rfl⟩ := List.mem_map.mp m
    exact pl_str (ok y my).1
  have b : (PyData.tuple (F.map PyData.str)).bulk ≤ 300000 := bulk_small (c := 1000) (n := 100) (fun d m => by
    obtain ⟨y, my, rfl⟩ := List.mem_map.mp m
    exact (ok y my).2) (by rw [List.length_map]; exact few) (by decide)
  have p1 := pl_lst each
  have p2 := pl_tup each
  exact ⟨gd_pl p1 (by decide) b, gd_pl p2 (by decide) b, p1.hd, p2.hd⟩
theorem asc_pw {F : List Str} (h : dFiles (.tuple (F.map PyData.str)) = true) : IsAsc F F := by
  unfold dFiles at h
  simp only [Bool.and_eq_true, decide_eq_true_eq, strD_map] at h
  have e := h.2.2
  have z := ascL_is F
  rw [← e] at z
  exact z
theorem files_no (d : PyData) (h : dFiles d = true → False) : dFiles d = false := by
  cases e : dFiles d with
  | true => exact (h e).elim
  | false => rfl
theorem badB_ok : ∀ d ∈ badB, NoFl d := by
  intro d hd
  unfold badB at hd
  simp only [List.mem_cons, List.mem_nil_iff, or_false] at hd
  rcases hd with rfl | rfl | rfl | rfl | rfl | rfl | rfl | rfl
  · exact nof_dec rfl (by decide +kernel)
  · exact nof_dec rfl (by decide +kernel)
  · exact nof_dec rfl (by decide +kernel)
  · exact nof_dec rfl (by decide +kernel)
  · exact nof_dec rfl (by decide +kernel)
  · refine nof_dec (files_no _ fun h => ?_) (by decide +kernel)
    have z := (List.pairwise_cons.mp (asc_pw (F := ["B", "A"]) h).pw).1 "A" List.mem_cons_self
    revert z
    unfold leA
    decide +kernel
  · exact nof_dec (by decide +kernel) (by decide +kernel)
  · refine nof_dec (files_no _ fun h => ?_) (by decide +kernel)
    have z := (asc_pw (F := ["A", "A"]) h).nd
    revert z
    decide +kernel
/-- things that are no names -/
def badC (z : Str) : List PyData := [.none, .int 0, .tuple [], .list [], .dict [], .str "", .str "aA", .tuple [.str z], .bool true]
structure NoNm (d : PyData) : Prop where
  gd : Gd d
  no : dName d = false
  np : noPot d = true
  nl : d.hasDict = true → noLst d = true
  bk : d.bulk ≤ 2000
theorem nonm_dec {d : PyData} (h : (w9 d && !dName d && noPot d && (!d.hasDict || noLst d) && decide (d.bulk ≤ 2000)) = true) : NoNm d := by
  simp only [Bool.and_eq_true, Bool.not_eq_true', Bool.or_eq_true, decide_eq_true_eq] at h
  exact ⟨gd_of h.1.1.1.1, h.1.1.1.2, h.1.1.2, fun y => h.1.2.resolve_left (by rw [y]; decide), h.2⟩
theorem gd_str {z : Str} (ok : PyData.strOk z = true) (l : z.length ≤ 1000) : Gd (.str z) := gd_pl (pl_str ok) (by decide) (by show z.length ≤ 300000; omega)
theorem gd_tup1 {z : Str} (ok : PyData.strOk z = true) (l : z.length ≤ 1000) : Gd (.tuple [.str z]) :=
  (strs_gd (F := [z]) (fun y m => by rw [List.mem_singleton.mp m]; exact ⟨ok, l⟩) (by show 1 ≤ 100; decide)).2.1
theorem badC_ok {z : Str} (ok : PyData.strOk z = true) (l : z.length ≤ 1000) : ∀ d ∈ badC z, NoNm d := by
  intro d hd
  unfold badC at hd
  simp only [List.mem_cons, List.mem_nil_iff, or_false] at hd
  rcases hd with rfl | rfl | rfl | rfl | rfl | rfl | rfl | rfl | rfl
  · exact nonm_dec (by decide +kernel)
  · exact nonm_dec (by decide +kernel)
  · exact nonm_dec (by decide +kernel)
  · exact nonm_dec (by decide +kernel)
  · exact nonm_dec (by decide +kernel)
  · exact nonm_dec (by decide +kernel)
  · exact nonm_dec (by decide +kernel)
  · exact ⟨gd_tup1 ok l, rfl, rfl, (fun y => nomatch y), by show z.length + 1 + 0 ≤ 2000; omega⟩
  · exact nonm_dec (by decide +kernel)
end Lk
/-! K36Y5 -/
set_option Elab.async false
set_option linter.all false
set_option maxRecDepth 100000
set_option maxHeartbeats 4000000
namespace Lk
open PySem PySem.Spec PyProof.Rows L2
/-! ### words that are told -/
def subsL {α : Type} : List α → List (List α)
  | [] => [[]]
  | a :: l => subsL l ++ (subsL l).map (a :: ·)
theorem sub_mem {α : Type} {ks l : List α} (h : ks.Sublist l) : ks ∈ subsL l := by
  induction h with
  | slnil => exact List.mem_singleton.mpr rfl
  | cons a _ ih => exact List.mem_append_left _ ih
  | cons_cons a _ ih => exact List.mem_append_right _ (List.mem_map.mpr ⟨_, ih, rfl⟩)
theorem edge_sub : ∀ ks ∈ subsL (List.range 6), fewB (pickR (edgeR []) ks) = true := by decide +kernel
theorem edge_fsub : FewSub (edgeR []) := fun ks h => few_of (edge_sub ks (sub_mem h))
theorem lone_few : FewB [lone] := few_of (by decide +kernel)
/-- a book of one rule has few open ways -/
theorem one_ch {rs : List Rl} {sp : List Nat} : ∀ (ss : List Src) (acc : List OW), acc.length ≤ 1 → (ss.foldl (fun acc a => joinS acc (owM rs 0 a sp)) acc).length ≤ 1
  | [], acc, h => h
  | s :: ss, acc, h => by
    rw [List.foldl_cons]
    refine one_ch ss _ ?_
    match acc, h with
    | [], _ => exact Nat.zero_le _
    | [x], _ =>
      show ((([⟨"", "", [s]⟩] : List OW).filterMap (togS x)) ++ []).length ≤ 1
      rw [List.append_nil]
      exact Nat.le_trans (List.length_filterMap_le _ _) (Nat.le_refl 1)
theorem one_few {rs : List Rl} (h : rs.length ≤ 1) : FewB rs := by
  match rs, h with
  | [], _ => exact trivial
  | [r], _ =>
    have c1 : ∀ (ss : List Src) sp, (chS (fun s => owM [r] 0 s sp) ss).length ≤ 1 := fun ss sp => one_ch ss _ (Nat.le_refl 1)
    refine ⟨?_, fun k r' m hk nk hm => ⟨fun s _ => trivial, fun j _ => Nat.le_trans (c1 _ _) (by decide)⟩⟩
    rw [owM_s, List.length_cons]
    show (owR (owM [r] 0) (.pat "" "") [] (r, 0) ++ []).length + 1 ≤ 300
    rw [List.append_nil]
    unfold owR
    rw [if_neg (fun m => nomatch m)]
    cases e : meetS (r, 0).1 (.pat "" "") with
    | none => exact (by decide : 0 + 1 ≤ 300)
    | some m =>
      show (List.map _ _).length + 1 ≤ 300
      rw [List.length_map]
      have := c1 m.2.2 ([] ++ [0])
      show (chS _ m.2.2).length + 1 ≤ 300
      exact Nat.le_trans (Nat.succ_le_succ this) (by decide)
end Lk
/-! K36Y6 -/
set_option Elab.async false
set_option linter.all false
set_option maxRecDepth 100000
set_option maxHeartbeats 4000000
namespace Lk
open PySem PySem.Spec PyProof.Rows L2
/-! ### what comes by rules of a name is a name -/
/-! ### the places that wishes lead to -/
noncomputable def plc (rs : List Rl) (z : Str) : List Place := (List.range (rs.length + 1)).flatMap fun c => (lv rs z c).map fun p => (p.2, srt p.1)
theorem plc_in {rs : List Rl} {z : Str} {p : Place} (h : Snds rs z p) : p ∈ plc rs z := by
  obtain ⟨ks, c, e⟩ := h
  refine List.mem_flatMap.mpr ⟨ks.length, List.mem_range.mpr (Nat.lt_succ_of_le (chain_few c)), List.mem_map.mpr ⟨_, lv_of c, ?_⟩⟩
  show (p.1, srt ks) = p
  rw [← e]
theorem plc_len {rs : List Rl} {z : Str} {m : Nat} (hm : ∀ r ∈ rs, r.ss.length ≤ m) : ∀ i, ((List.range i).flatMap fun c => (lv rs z c).map fun p => ((p.2, srt p.1) : Place)).length ≤ sumM rs.length m i
  | 0 => Nat.le_refl _
  | i + 1 => by
    have ih := plc_len (z := z) hm i
    have l := lv_len (z := z) hm i
    rw [List.range_succ, List.flatMap_append, List.length_append]
    have one : ([i].flatMap fun c => (lv rs z c).map fun p => ((p.2, srt p.1) : Place)) = (lv rs z i).map fun p => ((p.2, srt p.1) : Place) := by simp
    rw [one, List.length_map]
    show _ ≤ sumM rs.length m i + most rs.length m i
    omega
def OkW (rs : List Rl) (ws : List Str) (p : Place) : Prop := ∃ x ∈ ws, Snds rs x p
theorem okw_start {rs : List Rl} {ws : List Str} {x : Str} (h : x ∈ ws) : OkW rs ws (x, []) := ⟨x, h, [], .start, srt_nil.symm⟩
/-! ### the great books, as they are handed in -/
theorem okr_gen {m : Nat} {rs : List Rl} {z : Str} (bk : dBook (.tuple (rs.map Rl.d)) = true) (tx : ∀ r ∈ rs, RlTx r) (len : ∀ r ∈ rs, r.ss.length ≤ m) (hz : PyData.strOk z = true) (lz : z.length ≤ 900) (sum : sumM rs.length m (rs.length + 1) ≤ 100000) : OkR rs (OkW rs [z]) := by
  have ch : ∀ {ks : List Nat} {y : Str}, Chain rs z ks y → PyData.strOk y = true ∧ y.length ≤ 1000 := fun {ks y} c => by
    have q := chain_tx tx (book_len bk).2 hz c
    have f := chain_few c
    have g := (book_len bk).1
    exact ⟨q.1, by omega⟩
  refine ⟨bk, fun p h => ?_, fun p h => ?_, fun p p' h s => ?_, plc rs z, Nat.le_trans (plc_len len _) sum, fun p h => ?_⟩
  · obtain ⟨x, mx, ks, c, _⟩ := h
    rw [List.mem_singleton.mp mx] at c
    exact ch c
  · obtain ⟨x, mx, ks, c, e⟩ := h
    have l := chain_lt c
    rw [e]
    exact ⟨(srt_perm ks).nodup_iff.mpr l.2, fun k mk => l.1 k (mem_srt.mp mk)⟩
  · obtain ⟨x, mx, h⟩ := h
    exact ⟨x, mx, snds_succ h s⟩
  · obtain ⟨x, mx, h⟩ := h
    rw [List.mem_singleton.mp mx] at h
    exact plc_in h
/-- a book that can be handed in -/
structure BkH (rs : List Rl) : Prop where
  bk : dBook (.tuple (rs.map Rl.d)) = true
  gd : Gd (.tuple (rs.map Rl.d))
  hd : (PyData.tuple (rs.map Rl.d)).hasDict = false
  np : noPot (.tuple (rs.map Rl.d)) = true
  nl : noLst (.tuple (rs.map Rl.d)) = true
def bkhB (rs : List Rl) : Bool := dBook (.tuple (rs.map Rl.d)) && (w9 (.tuple (rs.map Rl.d)) && (!(PyData.tuple (rs.map Rl.d)).hasDict && (noPot (.tuple (rs.map Rl.d)) && noLst (.tuple (rs.map Rl.d)))))
theorem bkh_of {rs : List Rl} (h : bkhB rs = true) : BkH rs := by
  simp only [bkhB, Bool.and_eq_true, Bool.not_eq_true'] at h
  exact ⟨h.1, gd_of h.2.1, h.2.2.1, h.2.2.2.1, h.2.2.2.2⟩
theorem great_all : ∀ t ∈ greatP, bkhB (great t.1 t.2) = true := by decide +kernel
theorem great_h {c w : Nat} (h : (c, w) ∈ greatP) : BkH (great c w) := bkh_of (great_all _ h)
theorem edge_h {ss : List Src} (h : ss = [] ∨ ss = [.pat "Y" "a"]) : BkH (edgeR ss) := by
  rcases h with rfl | rfl <;> exact bkh_of (by decide +kernel)
theorem lone_h : BkH [lone] := bkh_of (by decide +kernel)
theorem great_sum : ∀ t ∈ greatP, sumM t.1 t.2 (t.1 + 1) ≤ 100000 ∧ t.1 ≤ 6 ∧ t.2 ≤ 3 := by decide +kernel
theorem great_ok {c w : Nat} (h : (c, w) ∈ greatP) : OkR (great c w) (OkW (great c w) ["Zo"]) := by
  obtain ⟨s1, s2, s3⟩ := great_sum _ h
  have l : (great c w).length = c := List.length_replicate
  refine okr_gen (m := w) (great_h h).bk (fun r mr s ms => ?_) (fun r mr => ?_) (by decide +kernel) (by decide +kernel) (by rw [l]; exact s1)
  · rw [(List.mem_replicate.mp mr).2] at ms
    have m := List.mem_of_mem_take (show s ∈ gsrc.take w from ms)
    simp only [gsrc, List.mem_cons, List.mem_nil_iff, or_false] at m
    rcases m with rfl | rfl | rfl <;> exact ⟨by decide +kernel, by decide +kernel⟩
  · rw [(List.mem_replicate.mp mr).2]
    show (gsrc.take w).length ≤ w
    rw [List.length_take]
    exact Nat.min_le_left _ _
/-- whether it has few open ways -/
def fewG (c w : Nat) : Bool := decide (c * w < 7 ∧ c < 5)
def dueV (b : Bool) : V := if b = true then .non else .int 300
def dueD (b : Bool) : PyData := if b = true then .none else .int 300
theorem great_yes {c w : Nat} (h : (c, w) ∈ greatP) (f : fewG c w = true) : FewB (great c w) := few_of ((great_few _ h).trans f)
theorem great_no {c w : Nat} (h : (c, w) ∈ greatP) (f : fewG c w = false) : ¬ FewB (great c w) := few_no ((great_few _ h).trans f)
section
variable {K : PySem.W.Frag} {H : Hp}
theorem dd_no {d1 d2 d3 : PyData} (h1 : d1.hasDict = false) (h2 : d2.hasDict = false) (h3 : d3.hasDict = false) : ¬ (PyData.tuple [d1, d2, d3]).hasDict = true := by
  simp only [PyData.hasDict, PyData.hasDictAll, h1, h2, h3, Bool.or_false]
  decide
/-- nothing wrong, or too many -/
theorem word_o {k : Nat} {v1 v2 v3 : V} {d1 d2 d3 : PyData} {b : Bool} {Q : VK} (lk : k ≤ 5) (h1 : Th K H v1 d1) (h2 : Th K H v2 d2) (h3 : Th K H v3 d3) (g1 : Gd d1) (g2 : Gd d2) (g3 : Gd d3) (n1 : d1.hasDict = false) (n2 : d2.hasDict = false) (n3 : d3.hasDict = false)
    (en : errC k d1 d2 d3 = none) (yes : b = true → Fin36 K H k v1 v2 v3 d1 d2) (no : b = false → Big36 K H k v1 v2 v3 d1 d2) (q : ∀ H', Same H H' → Q (dueV b) H') : spWord K [.int (k : Int), v1, v2, v3] H Q E0 := by
  refine ⟨k, v1, v2, v3, d1, d2, d3, rfl, lk, h1, h2, h3, gd_three g1 g2 g3, fun y => absurd y (dd_no n1 n2 n3), ?_⟩
  cases b with
  | true => exact .inr (.inr ⟨en, yes rfl, q⟩)
  | false => exact .inr (.inl ⟨en, no rfl, q⟩)
theorem fin_blk {q f : Addr} {rs : List Rl} {xs : List V} {d2 : PyData} (hq : SqT K H q xs) (hx : ThAll K H xs (rs.map Rl.d)) (hf : SqT K H f (([] : List Str).map V.str)) (ok : OkR rs (OkW rs ["Zo"])) : Fin36 K H 4 (.ref q) (.ref f) (.str "Zo") (.tuple (rs.map Rl.d)) d2 :=
  .blk (F := []) (Ok := OkW rs ["Zo"]) ⟨⟨xs, hq, hx⟩, hf, ⟨by decide +kernel, fun _ m => nomatch m⟩, by decide +kernel, ok, okw_start (List.mem_singleton.mpr rfl)⟩
end
end Lk
/-! K36Y7 -/
set_option Elab.async false
set_option linter.all false
set_option maxRecDepth 100000
set_option maxHeartbeats 4000000
namespace Lk
open PySem PySem.Spec PyProof.Rows L2
section
variable {P : Program} {w : World} {K : PySem.W.Frag} {mg : Str → Option Value} {base : Heap} {e : E5}
theorem for_mkT {K : PySem.W.Frag} {σ : L2.St} {H : Hp} {te : TE} {g : TG} {tb : TS} {D : Ends} {ds : List PyData} (h : Mk1 K te σ H (.tuple ds))
    (q : ∀ (t : Addr) (xs : List V) (H' : Hp), Same H H' → SqT K H' t xs → ThAll K H' xs ds → ∃ Pv : Nat → L2.St → Hp → Prop, Pv 0 σ H' ∧ (∀ i σ H2, Pv i σ H2 → SqT K H2 t xs) ∧
      (∀ (i : Nat) (x : V) (d : PyData) (σ : L2.St) (H2 : Hp), ds[i]? = some d → Th K H' x d → Pv i σ H2 → g x σ H2 fun σ2 H3 => tb { D with nx := Pv (i + 1), ct := Pv (i + 1), bk := D.nx } σ2 H3) ∧ ∀ σ H2, Pv xs.length σ H2 → D.nx σ H2) :
    tFor (iTup K te) g tb D σ H := h H (Same.refl H) _ fun v H' s th => by
  obtain ⟨t, xs, rfl, ht, hx⟩ := th_of_tup th
  obtain ⟨Pv, p0, pl, ps, pd⟩ := q t xs H' s ht hx
  exact ⟨t, rfl, ⟨_, ht⟩, for_tup (K := K) (a := t) (xs := xs) Pv p0 (fun i σ H2 _ p => pl i σ H2 p) (fun i x σ H2 hxi p => by
    obtain ⟨d, hd, thx⟩ := th_at hx hxi
    exact ps i x d σ H2 hd thx p) pd⟩
theorem seqT_ext {K : PySem.W.Frag} {H H' : Hp} {p c t : Addr} {xs : List V} (hP : PotAt p c H) (e : Ext p c H H') (h : SqT K H t xs) : SqT K H' t xs := by
  have ne : ∀ {o : HO}, H t = some o → (∀ ys, o ≠ .lst ys) → t ≠ p := fun h n z => by
    subst z
    obtain ⟨_, ⟨i, a, b, hp⟩, _⟩ := hP
    rw [hp] at h
    cases h
    exact n _ rfl
  rcases h with (h | ⟨o, h⟩) | h
  · exact .inl (.inl (e.keep _ _ h (ne h fun _ z => nomatch z)))
  · exact .inl (.inr ⟨o, e.keep _ _ h (ne h fun _ z => nomatch z)⟩)
  · exact .inr h
/-! ### the edge: three hundred open ways, and one more -/
def spEdge : Sp := fun vs H Q _ => ∃ p c : Addr, vs = [.ref p] ∧ PotAt p c H ∧ ∀ H', Ext p c H H' → Q (.bl true) H'
theorem sc_edge : FnScope ["pot", "lone", "two", "three", "sources", "due", "edge", "choice"] ["pot"] (defScope s_edge_right) := ⟨rfl, rfl, rfl, by decide +kernel, rfl, by decide +kernel, by decide +kernel⟩
def edgeS : List (List Src × Bool) := [([], true), ([.pat "Y" "a"], false)]
def edgeD (t : List Src × Bool) : PyData := .tuple [.tuple (t.1.map Src.d), dueD t.2]
theorem due_th {H : Hp} {v : V} {b : Bool} (h : Th K H v (dueD b)) : v = dueV b := by
  cases b with
  | true => cases h; rfl
  | false => cases h; rfl
theorem edge_th {H : Hp} {v : V} {t : List Src × Bool} (h : Th K H v (edgeD t)) : ∃ u x, v = .ref u ∧ SqT K H u [x, dueV t.2] ∧ Th K H x (.tuple (t.1.map Src.d)) := by
  cases h with
  | tup hs ha =>
    cases ha with
    | cons h1 t1 =>
      cases t1 with
      | cons h2 t2 =>
        cases t2
        rw [due_th h2] at hs
        exact ⟨_, _, rfl, hs, h1⟩
theorem go_lastS {σ : L2.St} {H : Hp} {z : Str} {Q : List V → Hp → Prop} (h : Q [.str z] H) : tCons (tC (.str z)) tNil σ H Q := h
theorem calg_edge (D : Def1 K mg "_law_edge_right" s_edge_right) (CB : Cal P w K mg base 2 "_law_below" spBelow) (CW : CalG P w K mg base CX0 28 "_law_word" (spWord K)) : CalG P w K mg base CX0 29 "_law_edge_right" spEdge := by
  refine mkCalG0 D sc_edge (fun _ _ _ _ _ _ us hl => match us, hl with | [_], _ => rfl) (fun vs H Q E h => ?_) (fun f cdv A above s H vs Q E hr hg h => ?_)
  · obtain ⟨p, c, rfl, _⟩ := h
    rfl
  · obtain ⟨p, c, rfl, hP, k⟩ := h
    refine ⟨_, (pss_cons (ps_asg (pe_tup (pa_cons (pe_tup (pa_cons pe_str (pa_cons (pe_tup (pa_cons pe_str (pa_cons pe_str pa_nil))) (pa_cons (pe_tup pa_nil) pa_nil)))) (pa_cons (pe_tup (pa_cons pe_str (pa_cons (pe_tup (pa_cons pe_str (pa_cons pe_str pa_nil))) (pa_cons (pe_tup (pa_cons (pe_tup (pa_cons pe_str (pa_cons pe_str pa_nil))) (pa_cons (pe_tup (pa_cons pe_str (pa_cons pe_str pa_nil))) pa_nil))) pa_nil)))) pa_nil))) (pg_tup rfl (pgs_cons (pg_name (i := 1) sc_edge.nd rfl (.inl rfl)) (pgs_cons (pg_name (i := 2) sc_edge.nd rfl (.inl rfl)) pgs_nil))))
    (pss_cons (ps_set (i := 3) sc_edge.nd rfl (.inl rfl) (pe_tup (pa_cons pe_str (pa_cons (pe_tup (pa_cons pe_str (pa_cons pe_str pa_nil))) (pa_cons (pe_tup (pa_cons (pe_tup (pa_cons pe_str (pa_cons pe_str pa_nil))) (pa_cons (pe_tup (pa_cons pe_str (pa_cons pe_str pa_nil))) (pa_cons (pe_tup (pa_cons pe_str (pa_cons pe_str pa_nil))) pa_nil)))) pa_nil)))))
    (pss_cons (ps_for PassesOwn.never rfl (pi_tup (pe_tup (pa_cons (pe_tup (pa_cons (pe_tup pa_nil) (pa_cons pe_non pa_nil))) (pa_cons (pe_tup (pa_cons (pe_tup (pa_cons (pe_tup (pa_cons pe_str (pa_cons pe_str pa_nil))) pa_nil)) (pa_cons pe_int pa_nil))) pa_nil)))) (pg_tup rfl (pgs_cons (pg_name (i := 4) sc_edge.nd rfl (.inl rfl)) (pgs_cons (pg_name (i := 5) sc_edge.nd rfl (.inl rfl)) pgs_nil)))
    (pss_cons (ps_set (i := 6) sc_edge.nd rfl (.inl rfl) (pe_tup (pa_cons (pv 1) (pa_cons (pv 1) (pa_cons (pv 2) (pa_cons (pv 2) (pa_cons (pe_tup (pa_cons pe_str (pa_cons (pe_tup (pa_cons pe_str (pa_cons pe_str pa_nil))) (pa_cons (pv 4) pa_nil)))) (pa_cons (pv 3) pa_nil))))))))
    (pss_cons (ps_set (i := 7) sc_edge.nd rfl (.inl rfl) (pe_cal CB hr (by decide) (pa_cons (pv 0) (pa_cons pe_int pa_nil))))
    (pss_one (ps_if (pt_cmpR op_ne (pe_calG CW hr (by decide) hg (pa_cons (pv 7) (pa_cons (pe_ifExp (pt_cmpR op_ne (pv 7) pe_int (nomark _)) (pv 6) (pe_tup (pa_cons (pv 1) pa_nil))) (pa_cons (pe_ifExp (pt_cmpR op_eq (pv 7) pe_int (nomark _)) (pv 6) (pe_tup pa_nil)) (pa_cons pe_str pa_nil))))) (pv 5) (nomark _)) (pss_one (ps_ret pe_bl)) pss_nil)))))
    (pss_one (ps_ret pe_bl))))), ?_⟩
    refine sq_asg ?_
    refine mk_tup (mk_cons (K := K) (ds := [twoR.d]) (mk_tup (mk_cons mk_str (mk_cons (mk_tup (mk_cons mk_str (mk_cons mk_str mk_nil)) (by show 2 ≤ 1000; decide)) (mk_cons (mk_tup mk_nil (by show 0 ≤ 1000; decide)) mk_nil))) (by show 3 ≤ 1000; decide)) (mk_cons (mk_tup (mk_cons mk_str (mk_cons (mk_tup (mk_cons mk_str (mk_cons mk_str mk_nil)) (by show 2 ≤ 1000; decide)) (mk_cons (mk_tup (mk_cons (mk_tup (mk_cons mk_str (mk_cons mk_str mk_nil)) (by show 2 ≤ 1000; decide)) (mk_cons (mk_tup (mk_cons mk_str (mk_cons mk_str mk_nil)) (by show 2 ≤ 1000; decide)) mk_nil)) (by show 2 ≤ 1000; decide)) mk_nil))) (by show 3 ≤ 1000; decide)) mk_nil) : MkA K _ _ H [lone.d, twoR.d]) (by show 2 ≤ 1000; decide) H (Same.refl H) _ fun vs H1 s1 th => ?_
    obtain ⟨q0, ys, rfl, hq0, hy0⟩ := th_of_tup th
    obtain ⟨v1, v2, rfl, t1, t2⟩ : ∃ v1 v2, ys = [v1, v2] ∧ Th K H1 v1 lone.d ∧ Th K H1 v2 twoR.d := by
      cases hy0 with
      | cons h1 t =>
        cases t with
        | cons h2 t =>
          cases t
          exact ⟨_, _, rfl, h1, h2⟩
    refine ⟨q0, _, rfl, hq0, rfl, _, _, rfl, _, _, rfl, rfl, sq_asg ?_⟩
    refine mk_tup (K := K) (ds := [.str "s", .tuple [.str "Y", .str ""], .tuple [.tuple [.str "Y", .str "a"], .tuple [.str "Y", .str "b"], .tuple [.str "Y", .str "c"]]]) (mk_cons mk_str (mk_cons (mk_tup (mk_cons mk_str (mk_cons mk_str mk_nil)) (by show 2 ≤ 1000; decide)) (mk_cons (mk_tup (mk_cons (mk_tup (mk_cons mk_str (mk_cons mk_str mk_nil)) (by show 2 ≤ 1000; decide)) (mk_cons (mk_tup (mk_cons mk_str (mk_cons mk_str mk_nil)) (by show 2 ≤ 1000; decide)) (mk_cons (mk_tup (mk_cons mk_str (mk_cons mk_str mk_nil)) (by show 2 ≤ 1000; decide)) mk_nil))) (by show 3 ≤ 1000; decide)) mk_nil))) (by show 3 ≤ 1000; decide) H1 (Same.refl H1) _ fun v3 H2 s2 t3 => ?_
    have t3 : Th K H2 v3 threeR.d := t3
    have P2 := (hP.same s1).same s2
    have t1 := th_same s2 t1
    have t2 := th_same s2 t2
    refine on_go (sq_for ?_)
    refine for_mkT (K := K) (ds := edgeS.map edgeD) (mk_tup (mk_cons (mk_tup (mk_cons (mk_tup mk_nil (by show 0 ≤ 1000; decide)) (mk_cons mk_non mk_nil)) (by show 2 ≤ 1000; decide)) (mk_cons (mk_tup (mk_cons (mk_tup (mk_cons (mk_tup (mk_cons mk_str (mk_cons mk_str mk_nil)) (by show 2 ≤ 1000; decide)) mk_nil) (by show 1 ≤ 1000; decide)) (mk_cons mk_int mk_nil)) (by show 2 ≤ 1000; decide)) mk_nil)) (by show 2 ≤ 1000; decide)) fun tp xs H3 s3 ht hx => ?_
    have lx : xs.length = 2 := thAll_len hx
    have P3 := P2.same s3
    have t1 := th_same s3 t1
    have t2 := th_same s3 t2
    have t3 := th_same s3 t3
    have np : noPotAll (edgeS.map edgeD) = true := by decide +kernel
    refine ⟨fun i σ H' => ∃ w4 w5 w6 w7 : Option V, σ = [some (.ref p), some v1, some v2, some v3, w4, w5, w6, w7] ∧ Ext p c H3 H', ⟨_, _, _, _, rfl, P3.ref⟩, fun i σ H' ⟨_, _, _, _, _, e⟩ => seqT_ext P3 e ht, ?_, ?_⟩
    · rintro i x d σ H4 hd thx ⟨w4, w5, w6, w7, rfl, e4⟩
      obtain ⟨⟨ss, b⟩, hs, rfl⟩ := Option.map_eq_some_iff.mp ((List.getElem?_map ..).symm.trans hd)
      have ms := List.mem_of_getElem? hs
      obtain ⟨css, few⟩ : (ss = [] ∨ ss = [.pat "Y" "a"]) ∧ ((b = true → FewSub (edgeR ss)) ∧ (b = false → ¬ FewB (edgeR ss))) := by
        simp only [edgeS, List.mem_cons, List.mem_nil_iff, or_false, Prod.mk.injEq] at ms
        rcases ms with ⟨rfl, rfl⟩ | ⟨rfl, rfl⟩
        · exact ⟨.inl rfl, fun _ => edge_fsub, fun z => nomatch z⟩
        · exact ⟨.inr rfl, (fun z => nomatch z), fun _ => few_no edge_big⟩
      have np1 : noPot (edgeD (ss, b)) = true := by rcases css with rfl | rfl <;> cases b <;> rfl
      obtain ⟨u, y, rfl, hu, hy⟩ := edge_th (th_ext P3 e4 thx np1)
      have P4 := e4.pot
      have q1 := th_ext P3 e4 t1 rfl
      have q2 := th_ext P3 e4 t2 rfl
      have q3 := th_ext P3 e4 t3 rfl
      refine ⟨u, _, rfl, hu, rfl, _, _, rfl, _, _, rfl, rfl, ?_⟩
      refine sq_asg ?_
      refine mk_tup (K := K) (ds := (edgeR ss).map Rl.d) (mk_cons (mk_var rfl q1) (mk_cons (mk_var rfl q1) (mk_cons (mk_var rfl q2) (mk_cons (mk_var rfl q2) (mk_cons (d := (⟨"r", "Y", "", ss⟩ : Rl).d) (mk_tup (mk_cons mk_str (mk_cons (mk_tup (mk_cons mk_str (mk_cons mk_str mk_nil)) (by show 2 ≤ 1000; decide)) (mk_cons (mk_var rfl hy) mk_nil))) (by show 3 ≤ 1000; decide)) (mk_cons (mk_var rfl q3) mk_nil)))))) (by show 6 ≤ 1000; decide) H4 (Same.refl H4) _ fun ve H5 s5 te => ?_
      have P5 := P4.same s5
      refine on_go (sq_asg ?_)
      refine ⟨_, rfl, p, c, 4, rfl, P5, by decide, by decide, fun r H6 r0 r1 e6 => ?_⟩
      obtain ⟨k2, rfl⟩ : ∃ k2 : Nat, r = (k2 : Int) := ⟨r.toNat, by omega⟩
      have EH := edge_h css
      have te6 := th_ext P5 e6 te EH.np
      have q16 := th_ext P5 e6 (th_same s5 q1) rfl
      have e46 : Ext p c H4 H6 := Ext.pre s5 e6
      have P6 := e6.pot
      have gZ : Gd (.str "Z") := gd_of (by decide +kernel)
      have nZ : dName (.str "Z") = true := by decide +kernel
      have gN : Gd (.tuple []) := gd_of (by decide +kernel)
      refine on_go (go_if (go_tt ?_))
      by_cases c2 : k2 = 2
      · subst c2
        refine ⟨_, rfl, _, rfl, rfl, _, rfl, iteF' rfl ?_⟩
        refine mk_tup (K := K) (mk_cons (mk_var rfl q16) mk_nil) (by show 1 ≤ 1000; decide) H6 (Same.refl H6) _ fun v8 H7 s7 th7 => ?_
        refine ⟨_, rfl, rfl, _, rfl, iteT' rfl ?_⟩
        refine ⟨_, rfl, ?_⟩
        refine go_lastS (word_o (K := K) (k := 2) (b := b) (d1 := .tuple ([lone].map Rl.d)) (d2 := .tuple ((edgeR ss).map Rl.d)) (by decide) th7 (th_same s7 te6) (.str "Z") lone_h.gd EH.gd gZ lone_h.hd EH.hd rfl (err_none2 lone_h.bk EH.bk) (fun z => .part lone_few (few.1 z).all) (fun z => .part fun y => few.2 z y.2) fun H8 s8 => ?_)
        refine ⟨_, rfl, ?_, _, rfl, iteF' (by simp) (nxt_go ⟨_, _, _, _, rfl, e4.trans (e46.same (s7.trans s8))⟩)⟩
        cases b <;> rfl
      · have nk : decide (V.int (k2 : Int) = V.int 2) = false := decide_eq_false fun y => c2 (by have := V.int.inj y; omega)
        refine ⟨_, rfl, _, rfl, rfl, _, rfl, iteT' (by rw [nk]; rfl) ?_⟩
        refine ⟨_, rfl, ?_⟩
        refine ⟨_, rfl, rfl, _, rfl, iteF' nk ?_⟩
        refine mk_tup (K := K) mk_nil (by show 0 ≤ 1000; decide) H6 (Same.refl H6) _ fun v8 H7 s7 th7 => ?_
        obtain ⟨f, xf, rfl, hf, hxf⟩ := th_of_tup th7
        cases hxf
        have en : errC k2 (.tuple ((edgeR ss).map Rl.d)) (.tuple []) (.str "Z") = none := by
          by_cases l : k2 < 2
          · exact err_none0 EH.bk l
          · exact err_none EH.bk (by decide +kernel) nZ (by omega)
        refine go_lastS (word_o (K := K) (k := k2) (b := b) (d1 := .tuple ((edgeR ss).map Rl.d)) (d2 := .tuple []) (by omega) (th_same s7 te6) (.tup hf .nil) (.str "Z") EH.gd gN gZ EH.hd rfl rfl en (fun z => ?_) (fun z => ?_) fun H8 s8 => ?_)
        · have : k2 = 0 ∨ k2 = 1 ∨ k2 = 3 := by omega
          rcases this with rfl | rfl | rfl
          · exact .tab (few.1 z).all
          · exact .lean (few.1 z)
          · exact .row (F := []) (few.1 z).all hf (by decide +kernel)
        · have : k2 = 0 ∨ k2 = 1 ∨ k2 = 3 := by omega
          rcases this with rfl | rfl | rfl
          · exact .tab (few.2 z)
          · exact .lean (few.2 z)
          · exact .row (F := []) (few.2 z) hf (by decide +kernel)
        · refine ⟨_, rfl, ?_, _, rfl, iteF' (by simp) (nxt_go ⟨_, _, _, _, rfl, e4.trans (e46.same (s7.trans s8))⟩)⟩
          cases b <;> rfl
    · rintro σ H4 ⟨w4, w5, w6, w7, rfl, e4⟩
      exact ends_go (go_ret (k H4 (Ext.pre ((s1.trans s2).trans s3) e4)))
end
end Lk
/-! K36Y8 -/
set_option Elab.async false
set_option linter.all false
set_option maxRecDepth 100000
set_option maxHeartbeats 4000000
namespace Lk
open PySem PySem.Spec PyProof.Rows L2
theorem yes_go {σ : L2.St} {H : Hp} {Q : Bool → Hp → Prop} (h : Q true H) : tYes σ H Q := h
end Lk
/-! K36Y9 -/
set_option Elab.async false
set_option linter.all false
set_option maxRecDepth 100000
set_option maxHeartbeats 4000000
namespace Lk
open PySem PySem.Spec PyProof.Rows L2
section
variable {K : PySem.W.Frag} {H : Hp}
theorem mk_lcN {σ : L2.St} {H0 : Hp} {n j iv : Nat} {te : TE} {d : PyData} (hv : σ[j]? = some (some (.int (n : Int)))) (n1 : n ≤ 1000) (wp : ∀ x : V, wipe ((wipe σ [iv]).set iv (some x)) [iv] = wipe σ [iv]) (no : noLst d = true) (el : ∀ x H, Same H0 H → Mk1 K te ((wipe σ [iv]).set iv (some x)) H d) :
    MkL K (tLc (iRng1 (tCons (tVar j) tNil)) (gName iv) tYes te [iv]) σ H0 (List.replicate n d) := by
  intro H s Q q
  refine ⟨_, hv, (n : Int), rfl, by omega, by omega, fun D nD => ?_⟩
  rw [Int.toNat_natCast]
  refine lc_range (lo := 0) (n := n) (fun i H' => Same H H' ∧ ∃ vs : List V, H' D = some (.lst vs) ∧ vs.length = i ∧ ThAll K H' vs (List.replicate i d)) ⟨same_upd nD, [], upd_same, rfl, .nil⟩ ?_ ?_
  · rintro i H1 hi ⟨s1, vs, hD, lv, th⟩
    refine ⟨wp _, yes_go (iteT (el _ H1 (s.trans s1) H1 (Same.refl H1) _ fun v H2 s2 thv => ?_))⟩
    have hD2 := s2 _ _ hD
    refine ⟨_, hD2, by rw [lv, sizeLine_eq]; omega, same_mut (s1.trans s2) nD, vs ++ [v], upd_same, by rw [List.length_append, lv]; rfl, ?_⟩
    rw [List.replicate_succ']
    exact thAll_app (thAll_mutL hD2 (thAll_same s2 th) (noLstAll_of fun e m => (List.mem_replicate.mp m).2 ▸ no)) (.cons (th_mutL hD2 thv no) .nil)
  · rintro H1 ⟨s1, vs, hD, lv, th⟩
    exact q D vs H1 s1 hD th
end
section
variable {P : Program} {w : World} {K : PySem.W.Frag} {mg : Str → Option Value} {base : Heap}
theorem gsrc_cut : ∀ c w, (c, w) ∈ greatP → cutL (gsrc.map Src.d) none (some (w : Int)) = (gsrc.take w).map Src.d := by
  intro c w h
  simp only [greatP, List.mem_cons, List.mem_nil_iff, or_false, Prod.mk.injEq] at h
  rcases h with ⟨rfl, rfl⟩ | ⟨rfl, rfl⟩ | ⟨rfl, rfl⟩ | ⟨rfl, rfl⟩ | ⟨rfl, rfl⟩ <;> rfl
theorem mk_eq {te : TE} {σ : L2.St} {H0 : Hp} {ds es : List PyData} (e : ds = es) (h : Mk1 K te σ H0 (.tuple ds)) : Mk1 K te σ H0 (.tuple es) := e ▸ h
theorem ne_len {H : Hp} {p c q : Addr} {xs : List V} (hP : PotAt p c H) (e : H q = some (.lst xs)) (hl : xs.length ≠ 4) : q ≠ p := by
  obtain ⟨_, ⟨i, a, b, hp⟩, _⟩ := hP
  rintro rfl
  rw [hp] at e
  cases e
  exact hl rfl
theorem due_dp {H : Hp} (b : Bool) : Dp K H (dueV b) (dueD b) := by
  cases b with
  | true => exact .non
  | false => exact .int 300
theorem due_rep {H : Hp} (b : Bool) : ∀ k : Nat, DpAll K H (List.replicate k (dueV b)) (List.replicate k (dueD b))
  | 0 => .nil
  | k + 1 => .cons (due_dp b) (due_rep b k)
theorem due_sh (b : Bool) : SeqAt.shaped (.list (List.replicate 2 (dueD b))) = true := by
  cases b <;> decide +kernel
theorem due_sc (b b' : Bool) : scal (dueV b) (dueV b') = true := by cases b <;> cases b' <;> rfl
theorem due_if {t : TT} {σ : L2.St} {H : Hp} {Q : VK} {b : Bool} (h : ∀ R : Bool → Hp → Prop, R b H → t σ H R) (q : Q (dueV b) H) : tIf t (tC .non) (tC (.int 300)) σ H Q := h _ (by
  cases b with
  | true => exact q
  | false => exact q)
/-- a book that is handed in -/
structure BkD (d : PyData) : Prop where
  bk : dBook d = true
  gd : Gd d
  nd : d.hasDict = false
  nl : noLst d = true
  np : noPot d = true
theorem bkd_of {rs : List Rl} (B : Bk rs) : BkD (.tuple (rs.map Rl.d)) := by
  obtain ⟨g, h⟩ := gd_tup (n := 4) (k := 3) (fun d m => ⟨(B.each d m).1, (B.each d m).2.1⟩) (by rw [List.length_map]; exact B.len) (by decide) (by decide)
  refine ⟨B.book, g, h, ?_, book_flat⟩
  rw [noLst]
  exact noLstAll_of fun d m => (B.each d m).2.2.1
theorem tri {H : Hp} {i : Nat} {x : V} {d : PyData} (hd : ([.int 3, .int 4, .int 5] : List PyData)[i]? = some d) (th : Th K H x d) : ∃ k : Nat, x = .int (k : Int) ∧ 3 ≤ k ∧ k ≤ 5 := by
  have m := List.mem_of_getElem? hd
  simp only [List.mem_cons, List.mem_nil_iff, or_false] at m
  rcases m with rfl | rfl | rfl
  · cases th
    exact ⟨3, rfl, by decide, by decide⟩
  · cases th
    exact ⟨4, rfl, by decide, by decide⟩
  · cases th
    exact ⟨5, rfl, by decide, by decide⟩
theorem two_words {σ : L2.St} {H : Hp} {i j : Nat} {b : Bool} {te : TE} {Q : VK} (wp : ∀ x : V, wipe ((wipe σ [9]).set 9 (some x)) [9] = wipe σ [9])
    (word : ∀ (k : Nat) (H' : Hp) (Q' : VK), (k = i ∨ k = j) → Same H H' → (∀ H'', Same H' H'' → Q' (dueV b) H'') → te ((wipe σ [9]).set 9 (some (.int (k : Int)))) H' Q') (q : ∀ D H', Same H H' → H' D = some (.lst (List.replicate 2 (dueV b))) → Q (.ref D) H') :
    tLc (iTup K (tTup (tCons (tC (.int (i : Int))) (tCons (tC (.int (j : Int))) tNil)))) (gName 9) tYes te [9] σ H Q := by
  refine ⟨(by show 2 ≤ sizeLine; decide), fun t nt => ⟨t, rfl, ⟨_, SqT.of upd_same⟩, ?_⟩⟩
  have st := same_upd (o := .tup [.int (i : Int), .int (j : Int)]) nt
  have ht : upd H t (.tup [.int (i : Int), .int (j : Int)]) t = some (.tup [.int (i : Int), .int (j : Int)]) := upd_same
  generalize upd H t (.tup [.int (i : Int), .int (j : Int)]) = H1 at st ht ⊢
  intro D nD
  refine lc_tup (K := K) (a := t) (xs := [.int (i : Int), .int (j : Int)]) (fun n H' => Same H1 H' ∧ H' D = some (.lst (List.replicate n (dueV b)))) ⟨same_upd nD, upd_same⟩ (fun n H' _ h => Same.seqT h.1 (SqT.of ht)) ?_ ?_
  · rintro n x H2 hx ⟨s2, hD⟩
    obtain ⟨k, rfl, g⟩ : ∃ k : Nat, x = .int (k : Int) ∧ (k = i ∨ k = j) := by
      have m := List.mem_of_getElem? hx
      simp only [List.mem_cons, List.mem_nil_iff, or_false] at m
      rcases m with rfl | rfl
      · exact ⟨i, rfl, .inl rfl⟩
      · exact ⟨j, rfl, .inr rfl⟩
    have n2 : n < 2 := (List.getElem?_eq_some_iff.mp hx).1
    refine ⟨wp _, yes_go (iteT ?_)⟩
    refine word k H2 _ g (st.trans s2) fun H3 s3 => ⟨_, s3 _ _ hD, by rw [List.length_replicate, sizeLine_eq]; omega, same_mut (s2.trans s3) nD, ?_⟩
    rw [upd_same, List.replicate_succ']
  · rintro H2 ⟨s2, hD⟩
    exact q D H2 (st.trans s2) hD
theorem two_eq {σ : L2.St} {H : Hp} {D : Addr} {b : Bool} {ta : TE} {R : Bool → Hp → Prop} (hD : H D = some (.lst (List.replicate 2 (dueV b)))) (ha : ∀ (H' : Hp) (Q : VK), Same H H' → Q (dueV b) H' → ta σ H' Q) (q : ∀ H', Same H H' → R false H') :
    tOp rRep (tLst (tCons ta tNil)) (tC (.int 2)) σ H fun y H2 => rNeD K (.ref D) y H2 fun v H3 => ∃ b, v = .bl b ∧ R b H3 := by
  refine ha H _ (Same.refl H) ⟨(by show 1 ≤ sizeLine; decide), fun l9 n9 => ⟨l9, 2, [dueV b], rfl, rfl, upd_same, by decide, by decide, (by show 1 * 2 ≤ sizeLine; decide), fun p9 np9 => ?_⟩⟩
  have sq : Same H (upd (upd H l9 (.lst [dueV b])) p9 (.lst (List.replicate (2 : Int).toNat [dueV b]).flatten)) := (same_upd n9).trans (same_upd np9)
  have hp9 : upd (upd H l9 (.lst [dueV b])) p9 (.lst (List.replicate (2 : Int).toNat [dueV b]).flatten) p9 = some (.lst (List.replicate 2 (dueV b))) := upd_same
  have sh2 := due_sh b
  refine ⟨.list (List.replicate 2 (dueD b)), .list (List.replicate 2 (dueD b)), .lst (SqL.of (sq _ _ hD)) (due_rep b 2), .lst (SqL.of hp9) (due_rep b 2), sh2, sh2, _, rfl, ?_⟩
  rw [SeqAt.eqv_refl _ (SeqAt.canLay_of_shaped sh2)]
  exact q _ sq
theorem go_lastV {σ : L2.St} {H : Hp} {i : Nat} {v : V} {Q : List V → Hp → Prop} (h : σ[i]? = some (some v)) (q : Q [v] H) : tCons (tVar i) tNil σ H Q := ⟨v, h, q⟩
theorem great_and {σ : L2.St} {H : Hp} {b : Bool} {te : TE} {R : Bool → Hp → Prop} (h7 : σ[7]? = some (some (dueV b))) (hw : b = false → ∀ Q : VK, (∀ H', Same H H' → Q (.int 300) H') → te σ H Q) (q : ∀ H', Same H H' → R false H') :
    tAnd (tTest (tOp rEq (tVar 7) (tC (.int 300)))) (tTest (tOp rNe te (tC (.int 300)))) σ H R := by
  refine ⟨_, h7, due_sc b false, _, rfl, ?_⟩
  cases b with
  | true => exact iteF' rfl (q H (Same.refl H))
  | false => exact iteT' rfl (hw rfl _ fun H' s => ⟨rfl, _, rfl, q H' s⟩)
theorem great_last {σ : L2.St} {H : Hp} {b : Bool} {te tf : TE} {Q : VK} (h7 : σ[7]? = some (some (dueV b))) (hw : b = false → ∀ Q : VK, (∀ H', Same H H' → Q (.int 300) H') → te σ H Q) (hv : b = false → ∀ (H' : Hp) (Q : VK), Same H H' → (∀ H'', Same H' H'' → Q (.int 300) H'') → tf σ H' Q) (q : ∀ H', Same H H' → Q (.bl true) H') :
    tOrV (tOp (fun x y H Q => y = V.non ∧ Q (.bl (decide (x = V.non))) H) (tVar 7) (tC .non)) (tAndV (tOp rEq te (tC (.int 300))) (tOp rEq tf (tC (.int 300)))) σ H Q := by
  refine ⟨_, h7, rfl, _, rfl, ?_⟩
  cases b with
  | true => exact iteT' rfl (q H (Same.refl H))
  | false =>
    refine iteF' rfl (hw rfl _ fun H' s => ⟨rfl, _, rfl, iteT' rfl ?_⟩)
    exact hv rfl H' _ s fun H'' s' => ⟨rfl, q H'' (s.trans s')⟩
theorem sc_law : FnScope ["script", "pot", "book", "name", "count", "wide", "great", "due", "thing", "choice", "lap"] ["script"] (defScope s_law) := ⟨rfl, rfl, rfl, by decide +kernel, rfl, by decide +kernel, by decide +kernel⟩
structure Cs36 (P : Program) (w : World) (K : PySem.W.Frag) (mg : Str → Option Value) (base : Heap) : Prop where
  pot : Cal P w K mg base 1 "_law_pot_of" (spPotOf K)
  pick : Cal P w K mg base 3 "_law_pick" (spPick K)
  name : Cal P w K mg base 4 "_law_some_name" spName
  book : Cal P w K mg base 6 "_law_some_book" (spBook K)
  word : CalG P w K mg base CX0 28 "_law_word" (spWord K)
  edge : CalG P w K mg base CX0 29 "_law_edge_right" spEdge
structure Gl36 (mg : Str → Option Value) : Prop where
  list : mg "list" = none
  tuple : mg "tuple" = none
/-- what stands while the law goes on -/
structure S36 (K : PySem.W.Frag) (p c qb qg : Addr) (rs gs : List Rl) (H : Hp) : Prop where
  pot : PotAt p c H
  bk : Th K H (.ref qb) (.tuple (rs.map Rl.d))
  gr : Th K H (.ref qg) (.tuple (gs.map Rl.d))
theorem S36.same {p c qb qg : Addr} {rs gs : List Rl} {H H' : Hp} (h : S36 K p c qb qg rs gs H) (s : Same H H') : S36 K p c qb qg rs gs H' := ⟨h.pot.same s, th_same s h.bk, th_same s h.gr⟩
theorem S36.ext {p c qb qg : Addr} {rs gs : List Rl} {H H' : Hp} (h : S36 K p c qb qg rs gs H) (e : Ext p c H H') : S36 K p c qb qg rs gs H' := ⟨e.pot, th_ext h.pot e h.bk book_flat, th_ext h.pot e h.gr book_flat⟩
set_option maxHeartbeats 0
theorem fn_law {f : Addr} {fd : FuncData} (F : L2.Fun K "law" "law" s_law f fd) (C : Cs36 P w K mg base) (G : Glb mg) (R : Gl36 mg) : FnG P w K mg base CX0 30 f fd ["script"] (spLaw K) := by
  refine mkFnG0 F sc_law (fun vs H Q E h => ?_) (fun cdv A outer s H vs Q E hr hg h => ?_)
  · obtain ⟨a, ns, rfl, _⟩ := h
    rfl
  · obtain ⟨a, ns, rfl, hS, hlen, k⟩ := h
    refine ⟨_, (pss_cons (ps_set (i := 1) sc_law.nd rfl (.inl rfl) (pe_cal C.pot hr (by decide) (pa_cons (pv 0) pa_nil)))
    (pss_cons (ps_asg (pe_tup (pa_cons (pe_cal C.book hr (by decide) (pa_cons (pv 1) (pa_cons pe_int (pa_cons pe_int pa_nil)))) (pa_cons (pe_cal C.name hr (by decide) (pa_cons (pv 1) pa_nil)) pa_nil))) (pg_tup rfl (pgs_cons (pg_name (i := 2) sc_law.nd rfl (.inl rfl)) (pgs_cons (pg_name (i := 3) sc_law.nd rfl (.inr rfl)) pgs_nil))))
    (pss_cons (ps_asg (pe_cal C.pick hr (by decide) (pa_cons (pv 1) (pa_cons (pe_lst (pa_cons (pe_tup (pa_cons pe_int (pa_cons pe_int pa_nil))) (pa_cons (pe_tup (pa_cons pe_int (pa_cons pe_int pa_nil))) (pa_cons (pe_tup (pa_cons pe_int (pa_cons pe_int pa_nil))) (pa_cons (pe_tup (pa_cons pe_int (pa_cons pe_int pa_nil))) (pa_cons (pe_tup (pa_cons pe_int (pa_cons pe_int pa_nil))) pa_nil)))))) pa_nil))) (pg_tup rfl (pgs_cons (pg_name (i := 4) sc_law.nd rfl (.inl rfl)) (pgs_cons (pg_name (i := 5) sc_law.nd rfl (.inr rfl)) pgs_nil))))
    (pss_cons (ps_set (i := 6) sc_law.nd rfl (.inr rfl) (pe_callTy call_tuple_of (by rfl) R.tuple (by decide +kernel) (pa_cons (pe_lc (own := [("lap", 10)]) (g := gName 10) (tt := tYes) (by rfl) sc_law.nd (pi_range1 (by rfl) G.range (pa_cons (pv 4) pa_nil)) (blkOk_by (own := [("lap", 10)]) (N := ["script", "pot", "book", "name", "count", "wide", "great", "due", "thing", "choice", "lap"]) (sc := defScope s_law) (by decide +kernel)) (fun _ _ _ _ _ => pg_name (i := 10) sc_law.nd rfl (Or.inl rfl)) (fun _ _ _ _ _ => pts_nil) (fun _ _ _ _ _ => (pe_tup (pa_cons pe_str (pa_cons (pe_tup (pa_cons pe_str (pa_cons pe_str pa_nil))) (pa_cons (pe_slice (show SlR _ (rSlA K) from sl_tupA) (pe_tup (pa_cons (pe_tup (pa_cons pe_str (pa_cons pe_str pa_nil))) (pa_cons (pe_tup (pa_cons pe_str (pa_cons pe_str pa_nil))) (pa_cons (pe_tup (pa_cons pe_str (pa_cons pe_str pa_nil))) pa_nil)))) po_none (po_some (pv 5))) pa_nil)))))) pa_nil)))
    (pss_cons (ps_set (i := 7) sc_law.nd rfl (.inl rfl) (pe_ifExp (PW.pt (pw_and (pt_cmpR op_lt (pe_op op_mul (pv 4) (pv 5)) pe_int (nomark _)) (pw_and1 (pt_cmpR op_lt (pv 4) pe_int (nomark _))))) pe_non pe_int))
    (pss_cons (ps_for PassesOwn.never rfl (pi_list (pe_lst (pa_cons pe_non (pa_cons pe_int (pa_cons (pe_lstS pa_nil) (pa_cons pe_dnewK (pa_cons pe_str (pa_cons (pe_callTy call_list_of (by rfl) R.list (by decide +kernel) (pa_cons (pv 2) pa_nil)) (pa_cons (pe_op op_catA (pv 2) (pe_tup (pa_cons pe_non pa_nil))) (pa_cons (pe_tup (pa_cons (pe_tup (pa_cons pe_str (pa_cons (pe_tup (pa_cons pe_str (pa_cons pe_str pa_nil))) (pa_cons (pe_tup pa_nil) pa_nil)))) pa_nil)) (pa_cons (pe_op op_repT (pv 6) pe_int) pa_nil))))))))))) (pg_name (i := 8) sc_law.nd rfl (.inl rfl))
    (pss_cons (ps_for PassesOwn.never rfl (pi_range1 (by rfl) G.range (pa_cons pe_int pa_nil)) (pg_name (i := 9) sc_law.nd rfl (.inl rfl))
    (pss_one (ps_if (pt_cmpR op_ne (pe_calG C.word hr (by decide) hg (pa_cons (pv 9) (pa_cons (pv 8) (pa_cons (pe_cal C.pick hr (by decide) (pa_cons (pv 1) (pa_cons (pe_lst (pa_cons (pe_tup pa_nil) (pa_cons pe_non (pa_cons (pv 6) pa_nil)))) pa_nil))) (pa_cons (pe_cal C.pick hr (by decide) (pa_cons (pv 1) (pa_cons (pe_lst (pa_cons (pv 3) (pa_cons pe_non pa_nil))) pa_nil))) pa_nil))))) pe_str (nomark _)) (pss_one (ps_ret pe_bl)) pss_nil)))
    (pss_one (ps_if (pt_cmpR op_ne (pe_calG C.word hr (by decide) hg (pa_cons pe_int (pa_cons (pe_cal C.pick hr (by decide) (pa_cons (pv 1) (pa_cons (pe_lst (pa_cons (pv 2) (pa_cons (pv 6) pa_nil))) pa_nil))) (pa_cons (pv 8) (pa_cons (pv 3) pa_nil))))) pe_str (nomark _)) (pss_one (ps_ret pe_bl)) pss_nil))))
    (pss_cons (ps_for PassesOwn.never rfl (pi_list (pe_lst (pa_cons pe_non (pa_cons pe_int (pa_cons (pe_lstS pa_nil) (pa_cons pe_dnewK (pa_cons pe_str (pa_cons (pe_tup (pa_cons pe_str (pa_cons pe_str pa_nil))) (pa_cons (pe_tup (pa_cons pe_str pa_nil)) (pa_cons (pe_tup (pa_cons pe_str (pa_cons pe_str pa_nil))) pa_nil)))))))))) (pg_name (i := 8) sc_law.nd rfl (.inl rfl))
    (pss_one (ps_for PassesOwn.never rfl (pi_tup (pe_tup (pa_cons pe_int (pa_cons pe_int (pa_cons pe_int pa_nil))))) (pg_name (i := 9) sc_law.nd rfl (.inl rfl))
    (pss_one (ps_if (pt_cmpR op_ne (pe_calG C.word hr (by decide) hg (pa_cons (pv 9) (pa_cons (pv 6) (pa_cons (pv 8) (pa_cons (pe_cal C.pick hr (by decide) (pa_cons (pv 1) (pa_cons (pe_lst (pa_cons (pv 3) (pa_cons pe_non pa_nil))) pa_nil))) pa_nil))))) pe_str (nomark _)) (pss_one (ps_ret pe_bl)) pss_nil)))))
    (pss_cons (ps_for PassesOwn.never rfl (pi_list (pe_lst (pa_cons pe_non (pa_cons pe_int (pa_cons (pe_tup pa_nil) (pa_cons (pe_lstS pa_nil) (pa_cons pe_dnewK (pa_cons pe_str (pa_cons pe_str (pa_cons (pe_tup (pa_cons (pv 3) pa_nil)) (pa_cons pe_bl pa_nil))))))))))) (pg_name (i := 8) sc_law.nd rfl (.inl rfl))
    (pss_one (ps_for PassesOwn.never rfl (pi_tup (pe_tup (pa_cons pe_int (pa_cons pe_int (pa_cons pe_int pa_nil))))) (pg_name (i := 9) sc_law.nd rfl (.inl rfl))
    (pss_one (ps_if (pt_cmpR op_ne (pe_calG C.word hr (by decide) hg (pa_cons (pv 9) (pa_cons (pv 6) (pa_cons (pe_tup pa_nil) (pa_cons (pv 8) pa_nil))))) pe_str (nomark _)) (pss_one (ps_ret pe_bl)) pss_nil)))))
    (pss_cons (ps_if (pt_cmpR (op_neD hr.units) (pe_lc (own := [("choice", 9)]) (g := gName 9) (tt := tYes) (by rfl) sc_law.nd (pi_tup (pe_tup (pa_cons pe_int (pa_cons pe_int pa_nil)))) (blkOk_by (own := [("choice", 9)]) (N := ["script", "pot", "book", "name", "count", "wide", "great", "due", "thing", "choice", "lap"]) (sc := defScope s_law) (by decide +kernel)) (fun _ _ _ _ _ => pg_name (i := 9) sc_law.nd rfl (Or.inl rfl)) (fun _ _ _ _ _ => pts_nil) (fun _ _ _ _ _ => (pe_calG C.word hr (by decide) hg (pa_cons (pv 9) (pa_cons (pv 6) (pa_cons (pe_tup pa_nil) (pa_cons (pv 3) pa_nil))))))) (pe_op op_rep (pe_lst (pa_cons (pv 7) pa_nil)) pe_int) (nomark _)) (pss_one (ps_ret pe_bl)) pss_nil)
    (pss_cons (ps_if (pt_cmpR (op_neD hr.units) (pe_lc (own := [("choice", 9)]) (g := gName 9) (tt := tYes) (by rfl) sc_law.nd (pi_tup (pe_tup (pa_cons pe_int (pa_cons pe_int pa_nil)))) (blkOk_by (own := [("choice", 9)]) (N := ["script", "pot", "book", "name", "count", "wide", "great", "due", "thing", "choice", "lap"]) (sc := defScope s_law) (by decide +kernel)) (fun _ _ _ _ _ => pg_name (i := 9) sc_law.nd rfl (Or.inl rfl)) (fun _ _ _ _ _ => pts_nil) (fun _ _ _ _ _ => (pe_calG C.word hr (by decide) hg (pa_cons (pv 9) (pa_cons (pv 6) (pa_cons (pe_tup pa_nil) (pa_cons pe_str pa_nil))))))) (pe_op op_rep (pe_lst (pa_cons pe_non pa_nil)) pe_int) (nomark _)) (pss_one (ps_ret pe_bl)) pss_nil)
    (pss_cons (ps_if (PW.pt (pw_or (pt_cmpR op_ne (pe_calG C.word hr (by decide) hg (pa_cons pe_int (pa_cons (pv 2) (pa_cons (pv 6) (pa_cons (pv 3) pa_nil))))) (pv 7) (nomark _)) (pw_or1 (PW.pt (pw_and (pt_cmpR op_eq (pv 7) pe_int (nomark _)) (pw_and1 (pt_cmpR op_ne (pe_calG C.word hr (by decide) hg (pa_cons pe_int (pa_cons (pv 6) (pa_cons (pv 6) (pa_cons (pv 3) pa_nil))))) pe_int (nomark _)))))))) (pss_one (ps_ret pe_bl)) pss_nil)
    (pss_cons (ps_if (PW.pt (pw_or (pt_cmpR op_ne (pe_calG C.word hr (by decide) hg (pa_cons pe_int (pa_cons (pv 6) (pa_cons (pe_tup (pa_cons (pv 3) pa_nil)) (pa_cons (pv 3) pa_nil))))) (pv 7) (nomark _)) (pw_or1 (pt_not (pt_val (pe_calG C.edge hr (by decide) hg (pa_cons (pv 1) pa_nil))))))) (pss_one (ps_ret pe_bl)) pss_nil)
    (pss_one (ps_ret (pe_or (pe_cmpR op_isN (pv 7) pe_non (nomark _)) (pe_one (pe_and (pe_cmpR op_eq (pe_calG C.word hr (by decide) hg (pa_cons pe_int (pa_cons (pv 6) (pa_cons (pe_tup pa_nil) (pa_cons (pv 3) pa_nil))))) pe_int (nomark _)) (pe_one (pe_cmpR op_eq (pe_calG C.word hr (by decide) hg (pa_cons pe_int (pa_cons (pv 6) (pa_cons (pv 2) (pa_cons (pv 3) pa_nil))))) pe_int (nomark _)))))))))))))))))))), ?_⟩
    refine sq_asg ?_
    refine ⟨_, rfl, a, ns, rfl, hS, hlen, fun p c H1 s1 np hP => ?_⟩
    refine on_go (sq_asg ?_)
    refine ⟨_, rfl, p, c, 1, 2, rfl, by decide, by decide, hP, fun q0 xs0 rs H3 hrs lrs e3 hq0 tb0 => ?_⟩
    have P3 := e3.pot
    have th3 : Th K H3 (.ref q0) (.tuple (rs.map Rl.d)) := .tup (SqT.of hq0) tb0
    have B : Bk rs := ⟨hrs, by omega⟩
    refine ⟨_, rfl, p, c, rfl, P3, fun z hu tl H5 nm e5 => ⟨by show 2 ≤ sizeLine; decide, fun t0 nt0 => ⟨t0, _, rfl, SqT.of upd_same, rfl, _, _, rfl, _, _, rfl, rfl, ?_⟩⟩⟩
    have e6 := e5.same (same_upd (o := .tup [.ref q0, .str z]) nt0)
    generalize upd H5 t0 (.tup [.ref q0, .str z]) = H6 at e6 ⊢
    have th6 := th_ext P3 e6 th3 book_flat
    have P6 := e6.pot
    have nz := nm_isName nm
    have okz := nm.ok
    have lz : z.length ≤ 1000 := Nat.le_trans nm.len (by decide)
    have gz := gd_str okz lz
    -- count, wide
    refine sq_asg ?_
    refine pick_new (K := K) (p := p) (c := c) (i := 1) (ds := greatP.map fun t => .tuple [.int (t.1 : Int), .int (t.2 : Int)]) (mk_cons (mk_tup (mk_cons mk_int (mk_cons mk_int mk_nil)) (by show 2 ≤ 1000; decide)) (mk_cons (mk_tup (mk_cons mk_int (mk_cons mk_int mk_nil)) (by show 2 ≤ 1000; decide)) (mk_cons (mk_tup (mk_cons mk_int (mk_cons mk_int mk_nil)) (by show 2 ≤ 1000; decide))
      (mk_cons (mk_tup (mk_cons mk_int (mk_cons mk_int mk_nil)) (by show 2 ≤ 1000; decide)) (mk_cons (mk_tup (mk_cons mk_int (mk_cons mk_int mk_nil)) (by show 2 ≤ 1000; decide)) mk_nil))))) rfl (by show 0 < 5; decide) (by show 5 ≤ 1000; decide) P6 rfl fun v d H7 hd th7 e7 => ?_
    obtain ⟨⟨cn, wn⟩, mt, rfl⟩ := List.mem_map.mp hd
    obtain ⟨tq, rfl, htq⟩ := th_ints2 th7
    obtain ⟨_, cs6, ws3⟩ := great_sum _ mt
    have cs6 : cn ≤ 6 := cs6
    have ws3 : wn ≤ 3 := ws3
    have GH := great_h mt
    refine ⟨tq, _, rfl, htq, rfl, _, _, rfl, _, _, rfl, rfl, ?_⟩
    have em : (great cn wn).map Rl.d = List.replicate cn (Rl.d ⟨"cc", "Z", "", gsrc.take wn⟩) := List.map_replicate
    refine sq_asg ?_
    refine mk_tupL (mk_lcN (K := K) (n := cn) (d := Rl.d ⟨"cc", "Z", "", gsrc.take wn⟩) rfl (by omega) (fun _ => rfl) (rl_flat _).1 fun x H' s' => mk_tup (mk_cons mk_str (mk_cons (mk_tup (mk_cons mk_str (mk_cons mk_str mk_nil)) (by show (2 : Nat) ≤ 1000; decide)) (mk_cons (mk_eq (gsrc_cut cn wn mt) (mk_slT (K := K) (ds := gsrc.map Src.d) (mk_tup (mk_cons (mk_tup (mk_cons mk_str (mk_cons mk_str mk_nil)) (by show 2 ≤ 1000; decide)) (mk_cons (mk_tup (mk_cons mk_str (mk_cons mk_str mk_nil)) (by show 2 ≤ 1000; decide)) (mk_cons (mk_tup (mk_cons mk_str (mk_cons mk_str mk_nil)) (by show 2 ≤ 1000; decide)) mk_nil))) (by show 3 ≤ 1000; decide)) mkp_none (mkp_var (i := (wn : Int)) rfl))) mk_nil))) (by show (3 : Nat) ≤ 1000; decide)) H7 (Same.refl H7) _ fun vb H8 s8 thb => ?_
    rw [← em] at thb
    obtain ⟨qg, xg, rfl, hqg, hxg⟩ := th_of_tup thb
    have S8 : S36 K p c q0 qg rs (great cn wn) H8 := ⟨e7.pot.same s8, th_same s8 (th_ext P6 e7 th6 book_flat), thb⟩
    have lg : (great cn wn).length = cn := List.length_replicate
    -- what is due
    refine on_go (sq_asg ?_)
    refine due_if (b := fewG cn wn) (fun R qR => ?_) ?_
    · refine ⟨_, rfl, _, rfl, _, _, rfl, rfl, .inl ⟨by omega, by omega⟩, _, _, rfl, rfl, _, rfl, ?_⟩
      have ed : decide (((cn, wn).1 : Int) * ((cn, wn).2 : Int) < 7) = decide (cn * wn < 7) := decide_eq_decide.mpr (by show (cn : Int) * (wn : Int) < 7 ↔ _; rw [← Int.natCast_mul]; omega)
      by_cases a1 : cn * wn < 7
      · refine iteT' (ed.trans (decide_eq_true a1)) ⟨_, rfl, _, _, rfl, rfl, _, rfl, ?_⟩
        have e5 : decide (((cn, wn).1 : Int) < 5) = fewG cn wn := by
          unfold fewG
          exact decide_eq_decide.mpr ⟨fun z => ⟨a1, by have : (cn : Int) < 5 := z; omega⟩, fun z => by show (cn : Int) < 5; omega⟩
        rw [e5]
        exact qR
      · have e5 : fewG cn wn = false := decide_eq_false fun z => a1 z.1
        refine iteF' (ed.trans (decide_eq_false a1)) ?_
        rw [e5] at qR
        exact qR
    have yesG := great_yes mt
    have noG := great_no mt
    generalize fewG cn wn = b at yesG noG
    have BD := bkd_of B
    -- no books
    have four : (rs.map Rl.d).length ≤ 4 := by rw [List.length_map]; exact B.len
    have gne : (great cn wn).map Rl.d ≠ [] := by
      rw [em]
      have : 0 < cn := by
        have z : ∀ t ∈ greatP, 0 < t.1 := by decide
        exact z _ mt
      match cn, this with
      | n + 1, _ => exact fun z => nomatch z
    refine on_go (sq_for ?_)
    refine for_mkL (K := K) (ds := badA rs (great cn wn)) (mk_lstL (mk_cons mk_non (mk_cons mk_int (mk_cons mk_lstS (mk_cons mk_dict0 (mk_cons mk_str (mk_cons (mk_listT (mk_var rfl S8.bk)).mk (mk_cons (mk_catT (mk_var rfl S8.bk) (mk_tup (mk_cons mk_non mk_nil) (by show 1 ≤ 1000; decide)) (by show _ + 1 ≤ 1000; omega))
      (mk_cons (mk_tup (mk_cons (mk_tup (mk_cons mk_str (mk_cons (mk_tup (mk_cons mk_str (mk_cons mk_str mk_nil)) (by show 2 ≤ 1000; decide)) (mk_cons (mk_tup mk_nil (by show 0 ≤ 1000; decide)) mk_nil))) (by show 3 ≤ 1000; decide)) mk_nil) (by show 1 ≤ 1000; decide)) (mk_cons (mk_repT (k := 7) (mk_var rfl S8.gr) gne (by decide) (by decide) (by rw [List.length_map, lg]; omega)) mk_nil))))))))) (by show 9 ≤ 1000; decide)) fun pb xb Hb sb eb tb => ?_
    have stb := S8.same sb
    have lb : xb.length = 9 := thAll_len tb
    have pbp : pb ≠ p := ne_len stb.pot eb (by omega)
    have NG : Gd (.tuple []) := gd_of (by decide +kernel)
    refine ⟨fun _ σ H' => ∃ w8 w9 : Option V, σ = [some (.ref a), some (.ref p), some (.ref q0), some (.str z), some (.int (cn : Int)), some (.int (wn : Int)), some (.ref qg), some (dueV b), w8, w9, none] ∧ Ext p c Hb H', ⟨_, _, rfl, stb.pot.ref⟩, fun j σ H' ⟨_, _, _, e⟩ => e.get eb pbp, ?_, ?_⟩
    · rintro j x d σ H9 hd th0 ⟨w8, w9, rfl, e9⟩
      have nb := badA_ok B mt d hd
      refine on_go (sq_for ?_)
      refine ⟨6, rfl, by decide, by decide, for_range (n := 6) (fun _ σ H' => ∃ w9 : Option V, σ = [some (.ref a), some (.ref p), some (.ref q0), some (.str z), some (.int (cn : Int)), some (.int (wn : Int)), some (.ref qg), some (dueV b), some x, w9, none] ∧ Ext p c Hb H')
        ⟨_, rfl, e9⟩ ?_ ?_⟩
      · rintro j2 σ H10 hj2 ⟨w9, rfl, e10⟩
        have st8 := stb.ext e10
        have th8 := th_ext stb.pot e10 th0 nb.np
        refine gN_eq (congrArg V.int (Int.zero_add _)) ?_
        refine no_if (p := p) (c := c) (fun Q2 q => ⟨_, rfl, _, rfl, ?_⟩) fun H11 e11 => ⟨_, rfl, e10.trans e11⟩
        refine pick_new (K := K) (p := p) (c := c) (i := 1) (ds := [.tuple [], .none, .tuple ((great cn wn).map Rl.d)]) (mk_cons (mk_tup mk_nil (by show 0 ≤ 1000; decide)) (mk_cons mk_non (mk_cons (mk_var rfl st8.gr) mk_nil))) (by rw [noPotAll, noPotAll, noPotAll, GH.np]; rfl) (by show 0 < 3; decide) (by show 3 ≤ 1000; decide) st8.pot rfl fun v2' d2 H11 hd2 th9 e11 => ?_
        have F2 : Gd d2 ∧ d2.hasDict = false ∧ noLst d2 = true ∧ noPot d2 = true := by
          simp only [List.mem_cons, List.mem_nil_iff, or_false] at hd2
          rcases hd2 with rfl | rfl | rfl
          · exact ⟨NG, rfl, rfl, rfl⟩
          · exact ⟨gd_of (by decide +kernel), rfl, rfl, rfl⟩
          · exact ⟨GH.gd, GH.hd, GH.nl, GH.np⟩
        refine pick_two (K := K) (p := p) (c := c) (i := 1) (mk_var rfl (.str z)) mk_non rfl rfl (st8.ext e11).pot rfl fun v3' d3 H12 hd3 th10 e12 => ?_
        have t1 := th_ext (st8.ext e11).pot e12 (th_ext st8.pot e11 th8 nb.np) nb.np
        have t2 := th_ext (st8.ext e11).pot e12 th9 F2.2.2.2
        have g3 : Gd d3 ∧ d3.hasDict = false ∧ noLst d3 = true := by
          rcases hd3 with rfl | rfl
          · exact ⟨gz, rfl, rfl⟩
          · exact ⟨gd_of (by decide +kernel), rfl, rfl⟩
        refine word_ha (K := K) (z := 0) (by omega) t1 t2 th10 nb.gd F2.1 g3.1 (fun y => ?_) (err_book nb.no _) fun H' s => q H' ((e11.trans e12).same s)
        rw [F2.2.1, g3.2.1, Bool.or_false, Bool.or_false] at y
        exact ⟨.flat t1 (nb.nl y), .flat t2 F2.2.2.1, .flat th10 g3.2.2⟩
      · rintro σ H10 ⟨w9, rfl, e10⟩
        have st8 := stb.ext e10
        have th8 := th_ext stb.pot e10 th0 nb.np
        refine ends_go ?_
        refine no_if (p := p) (c := c) (fun Q2 q => ?_) fun H11 e11 => ⟨_, _, rfl, e10.trans e11⟩
        refine pick_two (K := K) (p := p) (c := c) (i := 1) (mk_var rfl st8.bk) (mk_var rfl st8.gr) (book_flat) (GH.np) st8.pot rfl fun v1' d1 H11 hd1 th9 e11 => ?_
        have B1 : Gd d1 ∧ d1.hasDict = false ∧ noLst d1 = true := by
          rcases hd1 with rfl | rfl
          · exact ⟨BD.gd, BD.nd, BD.nl⟩
          · exact ⟨GH.gd, GH.hd, GH.nl⟩
        have t2 := th_ext st8.pot e11 th8 nb.np
        refine ⟨_, rfl, _, rfl, ?_⟩
        refine word_ha (K := K) (k := 2) (z := 0) (by decide) th9 t2 (.str z) B1.1 nb.gd gz (fun y => ?_) (err_book2 nb.no) fun H' s => q H' (e11.same s)
        rw [B1.2.1, Bool.false_or] at y
        exact ⟨.flat th9 B1.2.2, .flat t2 (nb.nl (by rw [show (PyData.str z).hasDict = false from rfl, Bool.or_false] at y; exact y)), .flat (.str z) rfl⟩
    rintro σ H9 ⟨w8, w9, rfl, e9⟩
    have st9 := stb.ext e9
    -- no files
    refine ends_go (sq_for ?_)
    refine for_mkL (K := K) (ds := badB) (mk_lstL (mk_cons mk_non (mk_cons mk_int (mk_cons mk_lstS (mk_cons mk_dict0 (mk_cons mk_str (mk_cons (mk_tup (mk_cons mk_str (mk_cons mk_str mk_nil)) (by show 2 ≤ 1000; decide)) (mk_cons (mk_tup (mk_cons mk_str mk_nil) (by show 1 ≤ 1000; decide))
      (mk_cons (mk_tup (mk_cons mk_str (mk_cons mk_str mk_nil)) (by show 2 ≤ 1000; decide)) mk_nil)))))))) (by show 8 ≤ 1000; decide)) fun L xL H10 s10 eL tL => ?_
    have stL := st9.same s10
    have lL : xL.length = 8 := thAll_len tL
    have Lp : L ≠ p := ne_len stL.pot eL (by omega)
    refine ⟨fun _ σ H' => ∃ w8 w9 : Option V, σ = [some (.ref a), some (.ref p), some (.ref q0), some (.str z), some (.int (cn : Int)), some (.int (wn : Int)), some (.ref qg), some (dueV b), w8, w9, none] ∧ Ext p c H10 H', ⟨_, _, rfl, stL.pot.ref⟩, fun j σ H' ⟨_, _, _, e⟩ => e.get eL Lp, ?_, ?_⟩
    · rintro j x d σ H11 hd th0 ⟨w8, w9, rfl, e11⟩
      have nf := badB_ok d hd
      have st11 := stL.ext e11
      have th11 := th_ext stL.pot e11 th0 nf.np
      refine on_go ?_
      refine for_mkT (K := K) (ds := [.int 3, .int 4, .int 5]) (mk_tup (mk_cons mk_int (mk_cons mk_int (mk_cons mk_int mk_nil))) (by show 3 ≤ 1000; decide)) fun t3 x3 H12 s12 ht3 _ => ?_
      have st12 := st11.same s12
      have th12 := th_same s12 th11
      refine ⟨fun _ σ H' => ∃ w9 : Option V, σ = [some (.ref a), some (.ref p), some (.ref q0), some (.str z), some (.int (cn : Int)), some (.int (wn : Int)), some (.ref qg), some (dueV b), some x, w9, none] ∧ Ext p c H12 H', ⟨_, rfl, st12.pot.ref⟩, fun j σ H' ⟨_, _, e⟩ => seqT_ext st12.pot e ht3, ?_, ?_⟩
      · rintro j2 x2 d2 σ H13 hd2 thk ⟨w9, rfl, e13⟩
        obtain ⟨k2, rfl, g1, g2⟩ := tri hd2 thk
        have st13 := st12.ext e13
        have th13 := th_ext st12.pot e13 th12 nf.np
        refine no_if (p := p) (c := c) (fun Q2 q => ⟨_, rfl, _, rfl, _, rfl, ?_⟩) fun H16 e16 => ⟨_, rfl, e13.trans e16⟩
        refine pick_two (K := K) (p := p) (c := c) (i := 1) (mk_var rfl (.str z)) mk_non rfl rfl st13.pot rfl fun v3' d3 H15 hd3 th15 e15 => ?_
        have g3 : Gd d3 ∧ d3.hasDict = false ∧ noLst d3 = true := by
          rcases hd3 with rfl | rfl
          · exact ⟨gz, rfl, rfl⟩
          · exact ⟨gd_of (by decide +kernel), rfl, rfl⟩
        have t1 := (st13.ext e15).gr
        have t2 := th_ext st13.pot e15 th13 nf.np
        refine word_ha (K := K) (k := k2) (z := 1) g2 t1 t2 th15 GH.gd nf.gd g3.1 (fun y => ?_) (err_files GH.bk nf.no g1) fun H' s => q H' (e15.same s)
        rw [GH.hd, g3.2.1, Bool.or_false, Bool.false_or] at y
        exact ⟨.flat t1 GH.nl, .flat t2 (nf.nl y), .flat th15 g3.2.2⟩
      · rintro σ H13 ⟨w9, rfl, e13⟩
        exact ⟨_, _, rfl, (e11.same s12).trans e13⟩
    rintro σ H11 ⟨w8, w9, rfl, e11⟩
    have st11 := stL.ext e11
    -- no names
    refine ends_go (sq_for ?_)
    refine for_mkL (K := K) (ds := badC z) (mk_lstL (mk_cons mk_non (mk_cons mk_int (mk_cons (mk_tup mk_nil (by show 0 ≤ 1000; decide)) (mk_cons mk_lstS (mk_cons mk_dict0 (mk_cons mk_str (mk_cons mk_str (mk_cons (mk_tup (mk_cons (mk_var rfl (.str z)) mk_nil) (by show 1 ≤ 1000; decide)) (mk_cons mk_bl mk_nil))))))))) (by show 9 ≤ 1000; decide)) fun L2 xL2 H12 s12 eL2 tL2 => ?_
    have stC := st11.same s12
    have lC : xL2.length = 9 := thAll_len tL2
    have Cp : L2 ≠ p := ne_len stC.pot eL2 (by omega)
    refine ⟨fun _ σ H' => ∃ w8 w9 : Option V, σ = [some (.ref a), some (.ref p), some (.ref q0), some (.str z), some (.int (cn : Int)), some (.int (wn : Int)), some (.ref qg), some (dueV b), w8, w9, none] ∧ Ext p c H12 H', ⟨_, _, rfl, stC.pot.ref⟩, fun j σ H' ⟨_, _, _, e⟩ => e.get eL2 Cp, ?_, ?_⟩
    · rintro j x d σ H13 hd th0 ⟨w8, w9, rfl, e13⟩
      have nn := badC_ok okz lz d hd
      have st13 := stC.ext e13
      have th13 := th_ext stC.pot e13 th0 nn.np
      refine on_go ?_
      refine for_mkT (K := K) (ds := [.int 3, .int 4, .int 5]) (mk_tup (mk_cons mk_int (mk_cons mk_int (mk_cons mk_int mk_nil))) (by show 3 ≤ 1000; decide)) fun t3 x3 H14 s14 ht3 _ => ?_
      have st14 := st13.same s14
      have th14 := th_same s14 th13
      refine ⟨fun _ σ H' => ∃ w9 : Option V, σ = [some (.ref a), some (.ref p), some (.ref q0), some (.str z), some (.int (cn : Int)), some (.int (wn : Int)), some (.ref qg), some (dueV b), some x, w9, none] ∧ Ext p c H14 H', ⟨_, rfl, st14.pot.ref⟩, fun j σ H' ⟨_, _, e⟩ => seqT_ext st14.pot e ht3, ?_, ?_⟩
      · rintro j2 x2 d2 σ H15 hd2 thk ⟨w9, rfl, e15⟩
        obtain ⟨k2, rfl, g1, g2⟩ := tri hd2 thk
        have st15 := st14.ext e15
        have th15 := th_ext st14.pot e15 th14 nn.np
        refine no_if (p := p) (c := c) (fun Q2 q => ⟨_, rfl, _, rfl, ?_⟩) fun H16 e16 => ⟨_, rfl, e15.trans e16⟩
        refine mk_tup (K := K) mk_nil (by show 0 ≤ 1000; decide) H15 (Same.refl H15) _ fun v8 H16 s16 th16 => ?_
        refine ⟨_, rfl, ?_⟩
        refine word_ha (K := K) (k := k2) (z := 2) g2 (th_same s16 st15.gr) th16 (th_same s16 th15) GH.gd NG nn.gd (fun y => ?_) (err_name GH.bk (by decide +kernel) nn.no g1) fun H' s => q H' (Ext.same st15.pot.ref (s16.trans s))
        rw [GH.hd, show (PyData.tuple []).hasDict = false from rfl, Bool.false_or, Bool.false_or] at y
        exact ⟨.flat (th_same s16 st15.gr) GH.nl, .flat th16 rfl, .flat (th_same s16 th15) (nn.nl y)⟩
      · rintro σ H15 ⟨w9, rfl, e15⟩
        exact ⟨_, _, rfl, (e13.same s14).trans e15⟩
    rintro σ H13 ⟨w8, w9, rfl, e13⟩
    have st13 := stC.ext e13
    clear tL2 tL tb stC stL st11 st9 stb eL2 eL eb
    -- few and many open ways
    refine ends_go (sq_if (go_if (go_tt ?_)))
    have nzF : dFiles (.tuple []) = true := by decide +kernel
    have hqx : ∀ {H' : Hp}, Th K H' (.ref qg) (.tuple ((great cn wn).map Rl.d)) → ∃ xs, SqT K H' qg xs ∧ ThAll K H' xs ((great cn wn).map Rl.d) := fun h => by
      obtain ⟨q, xs, e, h1, h2⟩ := th_of_tup h
      cases e
      exact ⟨xs, h1, h2⟩
    refine two_words (K := K) (i := 0) (j := 3) (b := b) (fun _ => rfl) (fun kk H14 Q' hk s14 q' => ?_) fun D H14 s14 hD => ?_
    · refine ⟨_, rfl, _, rfl, ?_⟩
      refine mk_tup (K := K) mk_nil (by show 0 ≤ 1000; decide) H14 (Same.refl H14) _ fun v8 H15 s15 th15 => ?_
      refine ⟨_, rfl, ?_⟩
      obtain ⟨fe, xf, rfl, hfe, hxf⟩ := th_of_tup th15
      cases hxf
      have tg := th_same (s14.trans s15) st13.gr
      rcases hk with rfl | rfl
      · exact word_o (K := K) (k := 0) (b := b) (by decide) tg th15 (.str z) GH.gd NG gz GH.hd rfl rfl (err_none0 GH.bk (by decide)) (fun y => .tab (yesG y)) (fun y => .tab (noG y)) fun H' s => q' H' (s15.trans s)
      · exact word_o (K := K) (k := 3) (b := b) (by decide) tg th15 (.str z) GH.gd NG gz GH.hd rfl rfl (err_none GH.bk nzF nz (by decide)) (fun y => .row (F := []) (yesG y) hfe lz) (fun y => .row (F := []) (noG y) hfe lz) fun H' s => q' H' (s15.trans s)
    refine two_eq (b := b) hD (fun H' Q s q => ⟨_, rfl, q⟩) fun H15 s15 => iteF' rfl (nxt_go ?_)
    have st15 := st13.same (s14.trans s15)
    clear hD s14 s15
    -- blocks
    refine sq_if (go_if (go_tt ?_))
    refine two_words (K := K) (i := 4) (j := 5) (b := true) (fun _ => rfl) (fun kk H16 Q' hk s16 q' => ?_) fun D H16 s16 hD => ?_
    · refine ⟨_, rfl, _, rfl, ?_⟩
      refine mk_tup (K := K) mk_nil (by show 0 ≤ 1000; decide) H16 (Same.refl H16) _ fun v8 H17 s17 th17 => ?_
      obtain ⟨fe, xf, rfl, hfe, hxf⟩ := th_of_tup th17
      cases hxf
      have tg := th_same (s16.trans s17) st15.gr
      obtain ⟨xs, h1, h2⟩ := hqx tg
      have gZ : Gd (.str "Zo") := gd_of (by decide +kernel)
      rcases hk with rfl | rfl
      · exact go_lastS (word_o (K := K) (k := 4) (b := true) (by decide) tg th17 (.str "Zo") GH.gd NG gZ GH.hd rfl rfl (err_none GH.bk nzF (by decide +kernel) (by decide)) (fun _ => fin_blk h1 h2 hfe (great_ok mt)) (fun y => nomatch y) fun H' s => q' H' (s17.trans s))
      · exact go_lastS (word_o (K := K) (k := 5) (b := true) (by decide) tg th17 (.str "Zo") GH.gd NG gZ GH.hd rfl rfl (err_none GH.bk nzF (by decide +kernel) (by decide)) (fun _ => .shw) (fun y => nomatch y) fun H' s => q' H' (s17.trans s))
    refine two_eq (b := true) hD (fun H' Q s q => q) fun H17 s17 => iteF' rfl (nxt_go ?_)
    have st17 := st15.same (s16.trans s17)
    clear hD s16 s17
    -- two books
    have FB : FewB rs := one_few (by omega)
    refine sq_if (go_if ?_)
    refine ⟨_, rfl, _, rfl, ?_⟩
    refine go_lastV (v := .str z) rfl ?_
    refine word_o (K := K) (k := 2) (b := b) (by decide) st17.bk st17.gr (.str z) BD.gd GH.gd gz BD.nd GH.hd rfl (err_none2 BD.bk GH.bk) (fun y => .part FB (yesG y)) (fun y => .part fun x => noG y x.2) fun H18 s18 => ?_
    have st18 := st17.same s18
    refine ⟨_, rfl, due_sc b b, _, rfl, iteF' (by simp) ?_⟩
    refine great_and (b := b) rfl (fun y Q' q' => ?_) fun H19 s19 => iteF' rfl (nxt_go ?_)
    · refine ⟨_, rfl, _, rfl, go_lastV (v := .str z) rfl ?_⟩
      refine word_o (K := K) (k := 2) (b := false) (by decide) st18.gr st18.gr (.str z) GH.gd GH.gd gz GH.hd GH.hd rfl (err_none2 GH.bk GH.bk) (fun x => nomatch x) (fun _ => .part fun x => noG y x.1) q'
    have st19 := st18.same s19
    -- the row, the edge
    refine sq_if (go_if ?_)
    refine ⟨_, rfl, ?_⟩
    refine mk_tup (K := K) (mk_cons (mk_var rfl (.str z)) mk_nil) (by show 1 ≤ 1000; decide) H19 (Same.refl H19) _ fun v8 H20 s20 th20 => ?_
    refine go_lastV (v := .str z) rfl ?_
    obtain ⟨fe, xf, rfl, hfe, hxf⟩ := th_of_tup th20
    have ex : xf = [.str z] := by
      cases hxf with
      | cons h1 t1 =>
        cases h1
        cases t1
        rfl
    subst ex
    have zF : dFiles (.tuple [.str z]) = true := by
      have ea : ascL [z] = [z] := (ascL_is [z]).uniq ⟨List.pairwise_singleton _ _, fun x => Iff.rfl, List.pairwise_singleton _ _⟩
      show (decide (1 ≤ 60) && (([.str z] : List PyData).all dName && decide ([z] = ascL [z]))) = true
      rw [ea, List.all_cons, nz]
      simp
    refine word_o (K := K) (k := 3) (b := b) (by decide) (th_same s20 st19.gr) th20 (.str z) GH.gd (gd_tup1 okz lz) gz GH.hd rfl rfl (err_none GH.bk zF nz (by decide)) (fun y => .row (F := [z]) (yesG y) hfe lz) (fun y => .row (F := [z]) (noG y) hfe lz) fun H21 s21 => ?_
    have st21 := (st19.same s20).same s21
    refine ⟨_, rfl, due_sc b b, _, rfl, iteF' (by simp) ?_⟩
    refine ⟨_, rfl, p, c, rfl, st21.pot, fun H22 e22 => ⟨_, rfl, iteF' rfl (nxt_go ?_)⟩⟩
    have st22 := st21.ext e22
    refine go_ret ?_
    refine great_last (b := b) rfl (fun y Q' q' => ?_) (fun y H23 Q' s23 q' => ?_) fun H' _ => k H'
    · refine ⟨_, rfl, ?_⟩
      refine mk_tup (K := K) mk_nil (by show 0 ≤ 1000; decide) H22 (Same.refl H22) _ fun v9 H23 s23 th23 => ?_
      refine go_lastV (v := .str z) rfl ?_
      exact word_o (K := K) (k := 1) (b := false) (by decide) (th_same s23 st22.gr) th23 (.str z) GH.gd NG gz GH.hd rfl rfl (err_none0 GH.bk (by decide)) (fun x => nomatch x) (fun _ => .lean (noG y)) fun H' s => q' H' (s23.trans s)
    · refine ⟨_, rfl, _, rfl, go_lastV (v := .str z) rfl ?_⟩
      have st23 := st22.same s23
      exact word_o (K := K) (k := 2) (b := false) (by decide) st23.gr st23.bk (.str z) GH.gd BD.gd gz GH.hd BD.nd rfl (err_none2 GH.bk BD.bk) (fun x => nomatch x) (fun _ => .part fun x => noG y x.1) q'
end
end Lk
/-! K36z -/
set_option Elab.async false
set_option linter.all false
set_option maxRecDepth 100000
set_option maxHeartbeats 4000000
namespace Lk
open PySem PySem.Spec PyProof.Rows L2
theorem all_mk {l : PySem.W.OpenLaw} {w : World} {K : PySem.W.Frag} {h : Heap} {mg : Str → Option Value} {fa : Addr} (X : K.In h) (G : h.Ns mainGlobals mg) (hfa : mg "law" = some (.ref fa))
    {f0 : Addr} {od0 an0 : Option Addr} {sl0 : Array (Option Value)} {oc0 kV0 dc0 pm0 cd0 ct0 : Value}
    (a0 : PySem.W.nsIn K mainGlobals "_wall" = some (some (.ref f0))) (l0 : K.lookup f0 = some ⟨oc0, od0, .func (PySem.W.fnOf "_wall" "_wall" (defArgs s_p__wall) (defBody s_p__wall) (defScope s_p__wall) .none kV0 dc0 pm0 an0 cd0 ct0), sl0⟩) (c0 : PySem.W.codeIn K cd0 "_wall" = true) (k0 : PySem.W.keepIn K (.ref f0) = true)
    {f1 : Addr} {od1 an1 : Option Addr} {sl1 : Array (Option Value)} {oc1 kV1 dc1 pm1 cd1 ct1 : Value}
    (a1 : PySem.W.nsIn K mainGlobals "is_name" = some (some (.ref f1))) (l1 : K.lookup f1 = some ⟨oc1, od1, .func (PySem.W.fnOf "is_name" "is_name" (defArgs s_p_is_name) (defBody s_p_is_name) (defScope s_p_is_name) .none kV1 dc1 pm1 an1 cd1 ct1), sl1⟩) (c1 : PySem.W.codeIn K cd1 "is_name" = true) (k1 : PySem.W.keepIn K (.ref f1) = true)
    {f2 : Addr} {od2 an2 : Option Addr} {sl2 : Array (Option Value)} {oc2 kV2 dc2 pm2 cd2 ct2 : Value}
    (a2 : PySem.W.nsIn K mainGlobals "is_pattern" = some (some (.ref f2))) (l2 : K.lookup f2 = some ⟨oc2, od2, .func (PySem.W.fnOf "is_pattern" "is_pattern" (defArgs s_p_is_pattern) (defBody s_p_is_pattern) (defScope s_p_is_pattern) .none kV2 dc2 pm2 an2 cd2 ct2), sl2⟩) (c2 : PySem.W.codeIn K cd2 "is_pattern" = true) (k2 : PySem.W.keepIn K (.ref f2) = true)
    {f3 : Addr} {od3 an3 : Option Addr} {sl3 : Array (Option Value)} {oc3 kV3 dc3 pm3 cd3 ct3 : Value}
    (a3 : PySem.W.nsIn K mainGlobals "is_end" = some (some (.ref f3))) (l3 : K.lookup f3 = some ⟨oc3, od3, .func (PySem.W.fnOf "is_end" "is_end" (defArgs s_p_is_end) (defBody s_p_is_end) (defScope s_p_is_end) .none kV3 dc3 pm3 an3 cd3 ct3), sl3⟩) (c3 : PySem.W.codeIn K cd3 "is_end" = true) (k3 : PySem.W.keepIn K (.ref f3) = true)
    {f4 : Addr} {od4 an4 : Option Addr} {sl4 : Array (Option Value)} {oc4 kV4 dc4 pm4 cd4 ct4 : Value}
    (a4 : PySem.W.nsIn K mainGlobals "need_name" = some (some (.ref f4))) (l4 : K.lookup f4 = some ⟨oc4, od4, .func (PySem.W.fnOf "need_name" "need_name" (defArgs s_p_need_name) (defBody s_p_need_name) (defScope s_p_need_name) .none kV4 dc4 pm4 an4 cd4 ct4), sl4⟩) (c4 : PySem.W.codeIn K cd4 "need_name" = true) (k4 : PySem.W.keepIn K (.ref f4) = true)
    {f5 : Addr} {od5 an5 : Option Addr} {sl5 : Array (Option Value)} {oc5 kV5 dc5 pm5 cd5 ct5 : Value}
    (a5 : PySem.W.nsIn K mainGlobals "stem_within" = some (some (.ref f5))) (l5 : K.lookup f5 = some ⟨oc5, od5, .func (PySem.W.fnOf "stem_within" "stem_within" (defArgs s_p_stem_within) (defBody s_p_stem_within) (defScope s_p_stem_within) .none kV5 dc5 pm5 an5 cd5 ct5), sl5⟩) (c5 : PySem.W.codeIn K cd5 "stem_within" = true) (k5 : PySem.W.keepIn K (.ref f5) = true)
    {f6 : Addr} {od6 an6 : Option Addr} {sl6 : Array (Option Value)} {oc6 kV6 dc6 pm6 cd6 ct6 : Value}
    (a6 : PySem.W.nsIn K mainGlobals "filled" = some (some (.ref f6))) (l6 : K.lookup f6 = some ⟨oc6, od6, .func (PySem.W.fnOf "filled" "filled" (defArgs s_p_filled) (defBody s_p_filled) (defScope s_p_filled) .none kV6 dc6 pm6 an6 cd6 ct6), sl6⟩) (c6 : PySem.W.codeIn K cd6 "filled" = true) (k6 : PySem.W.keepIn K (.ref f6) = true)
    {f7 : Addr} {od7 an7 : Option Addr} {sl7 : Array (Option Value)} {oc7 kV7 dc7 pm7 cd7 ct7 : Value}
    (a7 : PySem.W.nsIn K mainGlobals "ascending" = some (some (.ref f7))) (l7 : K.lookup f7 = some ⟨oc7, od7, .func (PySem.W.fnOf "ascending" "ascending" (defArgs s_p_ascending) (defBody s_p_ascending) (defScope s_p_ascending) .none kV7 dc7 pm7 an7 cd7 ct7), sl7⟩) (c7 : PySem.W.codeIn K cd7 "ascending" = true) (k7 : PySem.W.keepIn K (.ref f7) = true)
    {f8 : Addr} {od8 an8 : Option Addr} {sl8 : Array (Option Value)} {oc8 kV8 dc8 pm8 cd8 ct8 : Value}
    (a8 : PySem.W.nsIn K mainGlobals "is_rule" = some (some (.ref f8))) (l8 : K.lookup f8 = some ⟨oc8, od8, .func (PySem.W.fnOf "is_rule" "is_rule" (defArgs s_p_is_rule) (defBody s_p_is_rule) (defScope s_p_is_rule) .none kV8 dc8 pm8 an8 cd8 ct8), sl8⟩) (c8 : PySem.W.codeIn K cd8 "is_rule" = true) (k8 : PySem.W.keepIn K (.ref f8) = true)
    {f9 : Addr} {od9 an9 : Option Addr} {sl9 : Array (Option Value)} {oc9 kV9 dc9 pm9 cd9 ct9 : Value}
    (a9 : PySem.W.nsIn K mainGlobals "is_label" = some (some (.ref f9))) (l9 : K.lookup f9 = some ⟨oc9, od9, .func (PySem.W.fnOf "is_label" "is_label" (defArgs s_p_is_label) (defBody s_p_is_label) (defScope s_p_is_label) .none kV9 dc9 pm9 an9 cd9 ct9), sl9⟩) (c9 : PySem.W.codeIn K cd9 "is_label" = true) (k9 : PySem.W.keepIn K (.ref f9) = true)
    {f10 : Addr} {od10 an10 : Option Addr} {sl10 : Array (Option Value)} {oc10 kV10 dc10 pm10 cd10 ct10 : Value}
    (a10 : PySem.W.nsIn K mainGlobals "are_sources" = some (some (.ref f10))) (l10 : K.lookup f10 = some ⟨oc10, od10, .func (PySem.W.fnOf "are_sources" "are_sources" (defArgs s_p_are_sources) (defBody s_p_are_sources) (defScope s_p_are_sources) .none kV10 dc10 pm10 an10 cd10 ct10), sl10⟩) (c10 : PySem.W.codeIn K cd10 "are_sources" = true) (k10 : PySem.W.keepIn K (.ref f10) = true)
    {f11 : Addr} {od11 an11 : Option Addr} {sl11 : Array (Option Value)} {oc11 kV11 dc11 pm11 cd11 ct11 : Value}
    (a11 : PySem.W.nsIn K mainGlobals "is_rule_source" = some (some (.ref f11))) (l11 : K.lookup f11 = some ⟨oc11, od11, .func (PySem.W.fnOf "is_rule_source" "is_rule_source" (defArgs s_p_is_rule_source) (defBody s_p_is_rule_source) (defScope s_p_is_rule_source) .none kV11 dc11 pm11 an11 cd11 ct11), sl11⟩) (c11 : PySem.W.codeIn K cd11 "is_rule_source" = true) (k11 : PySem.W.keepIn K (.ref f11) = true)
    {f12 : Addr} {od12 an12 : Option Addr} {sl12 : Array (Option Value)} {oc12 kV12 dc12 pm12 cd12 ct12 : Value}
    (a12 : PySem.W.nsIn K mainGlobals "is_book" = some (some (.ref f12))) (l12 : K.lookup f12 = some ⟨oc12, od12, .func (PySem.W.fnOf "is_book" "is_book" (defArgs s_p_is_book) (defBody s_p_is_book) (defScope s_p_is_book) .none kV12 dc12 pm12 an12 cd12 ct12), sl12⟩) (c12 : PySem.W.codeIn K cd12 "is_book" = true) (k12 : PySem.W.keepIn K (.ref f12) = true)
    {f13 : Addr} {od13 an13 : Option Addr} {sl13 : Array (Option Value)} {oc13 kV13 dc13 pm13 cd13 ct13 : Value}
    (a13 : PySem.W.nsIn K mainGlobals "are_files" = some (some (.ref f13))) (l13 : K.lookup f13 = some ⟨oc13, od13, .func (PySem.W.fnOf "are_files" "are_files" (defArgs s_p_are_files) (defBody s_p_are_files) (defScope s_p_are_files) .none kV13 dc13 pm13 an13 cd13 ct13), sl13⟩) (c13 : PySem.W.codeIn K cd13 "are_files" = true) (k13 : PySem.W.keepIn K (.ref f13) = true)
    {f14 : Addr} {od14 an14 : Option Addr} {sl14 : Array (Option Value)} {oc14 kV14 dc14 pm14 cd14 ct14 : Value}
    (a14 : PySem.W.nsIn K mainGlobals "fitted" = some (some (.ref f14))) (l14 : K.lookup f14 = some ⟨oc14, od14, .func (PySem.W.fnOf "fitted" "fitted" (defArgs s_p_fitted) (defBody s_p_fitted) (defScope s_p_fitted) .none kV14 dc14 pm14 an14 cd14 ct14), sl14⟩) (c14 : PySem.W.codeIn K cd14 "fitted" = true) (k14 : PySem.W.keepIn K (.ref f14) = true)
    {f15 : Addr} {od15 an15 : Option Addr} {sl15 : Array (Option Value)} {oc15 kV15 dc15 pm15 cd15 ct15 : Value}
    (a15 : PySem.W.nsIn K mainGlobals "need_book" = some (some (.ref f15))) (l15 : K.lookup f15 = some ⟨oc15, od15, .func (PySem.W.fnOf "need_book" "need_book" (defArgs s_p_need_book) (defBody s_p_need_book) (defScope s_p_need_book) .none kV15 dc15 pm15 an15 cd15 ct15), sl15⟩) (c15 : PySem.W.codeIn K cd15 "need_book" = true) (k15 : PySem.W.keepIn K (.ref f15) = true)
    {f16 : Addr} {od16 an16 : Option Addr} {sl16 : Array (Option Value)} {oc16 kV16 dc16 pm16 cd16 ct16 : Value}
    (a16 : PySem.W.nsIn K mainGlobals "need_files" = some (some (.ref f16))) (l16 : K.lookup f16 = some ⟨oc16, od16, .func (PySem.W.fnOf "need_files" "need_files" (defArgs s_p_need_files) (defBody s_p_need_files) (defScope s_p_need_files) .none kV16 dc16 pm16 an16 cd16 ct16), sl16⟩) (c16 : PySem.W.codeIn K cd16 "need_files" = true) (k16 : PySem.W.keepIn K (.ref f16) = true)
    {f17 : Addr} {od17 an17 : Option Addr} {sl17 : Array (Option Value)} {oc17 kV17 dc17 pm17 cd17 ct17 : Value}
    (a17 : PySem.W.nsIn K mainGlobals "need_things" = some (some (.ref f17))) (l17 : K.lookup f17 = some ⟨oc17, od17, .func (PySem.W.fnOf "need_things" "need_things" (defArgs s_p_need_things) (defBody s_p_need_things) (defScope s_p_need_things) .none kV17 dc17 pm17 an17 cd17 ct17), sl17⟩) (c17 : PySem.W.codeIn K cd17 "need_things" = true) (k17 : PySem.W.keepIn K (.ref f17) = true)
    {f18 : Addr} {od18 an18 : Option Addr} {sl18 : Array (Option Value)} {oc18 kV18 dc18 pm18 cd18 ct18 : Value}
    (a18 : PySem.W.nsIn K mainGlobals "is_number_in" = some (some (.ref f18))) (l18 : K.lookup f18 = some ⟨oc18, od18, .func (PySem.W.fnOf "is_number_in" "is_number_in" (defArgs s_p_is_number_in) (defBody s_p_is_number_in) (defScope s_p_is_number_in) .none kV18 dc18 pm18 an18 cd18 ct18), sl18⟩) (c18 : PySem.W.codeIn K cd18 "is_number_in" = true) (k18 : PySem.W.keepIn K (.ref f18) = true)
    {f19 : Addr} {od19 an19 : Option Addr} {sl19 : Array (Option Value)} {oc19 kV19 dc19 pm19 cd19 ct19 : Value}
    (a19 : PySem.W.nsIn K mainGlobals "table" = some (some (.ref f19))) (l19 : K.lookup f19 = some ⟨oc19, od19, .func (PySem.W.fnOf "table" "table" (defArgs s_p_table) (defBody s_p_table) (defScope s_p_table) .none kV19 dc19 pm19 an19 cd19 ct19), sl19⟩) (c19 : PySem.W.codeIn K cd19 "table" = true) (k19 : PySem.W.keepIn K (.ref f19) = true)
    {f20 : Addr} {od20 an20 : Option Addr} {sl20 : Array (Option Value)} {oc20 kV20 dc20 pm20 cd20 ct20 : Value}
    (a20 : PySem.W.nsIn K mainGlobals "row_for" = some (some (.ref f20))) (l20 : K.lookup f20 = some ⟨oc20, od20, .func (PySem.W.fnOf "row_for" "row_for" (defArgs s_p_row_for) (defBody s_p_row_for) (defScope s_p_row_for) .none kV20 dc20 pm20 an20 cd20 ct20), sl20⟩) (c20 : PySem.W.codeIn K cd20 "row_for" = true) (k20 : PySem.W.keepIn K (.ref f20) = true)
    {f21 : Addr} {od21 an21 : Option Addr} {sl21 : Array (Option Value)} {oc21 kV21 dc21 pm21 cd21 ct21 : Value}
    (a21 : PySem.W.nsIn K mainGlobals "parting" = some (some (.ref f21))) (l21 : K.lookup f21 = some ⟨oc21, od21, .func (PySem.W.fnOf "parting" "parting" (defArgs s_p_parting) (defBody s_p_parting) (defScope s_p_parting) .none kV21 dc21 pm21 an21 cd21 ct21), sl21⟩) (c21 : PySem.W.codeIn K cd21 "parting" = true) (k21 : PySem.W.keepIn K (.ref f21) = true)
    {f22 : Addr} {od22 an22 : Option Addr} {sl22 : Array (Option Value)} {oc22 kV22 dc22 pm22 cd22 ct22 : Value}
    (a22 : PySem.W.nsIn K mainGlobals "lean" = some (some (.ref f22))) (l22 : K.lookup f22 = some ⟨oc22, od22, .func (PySem.W.fnOf "lean" "lean" (defArgs s_p_lean) (defBody s_p_lean) (defScope s_p_lean) .none kV22 dc22 pm22 an22 cd22 ct22), sl22⟩) (c22 : PySem.W.codeIn K cd22 "lean" = true) (k22 : PySem.W.keepIn K (.ref f22) = true)
    {f23 : Addr} {od23 an23 : Option Addr} {sl23 : Array (Option Value)} {oc23 kV23 dc23 pm23 cd23 ct23 : Value}
    (a23 : PySem.W.nsIn K mainGlobals "open_ways" = some (some (.ref f23))) (l23 : K.lookup f23 = some ⟨oc23, od23, .func (PySem.W.fnOf "open_ways" "open_ways" (defArgs s_p_open_ways) (defBody s_p_open_ways) (defScope s_p_open_ways) .none kV23 dc23 pm23 an23 cd23 ct23), sl23⟩) (c23 : PySem.W.codeIn K cd23 "open_ways" = true) (k23 : PySem.W.keepIn K (.ref f23) = true)
    {f24 : Addr} {od24 an24 : Option Addr} {sl24 : Array (Option Value)} {oc24 kV24 dc24 pm24 cd24 ct24 : Value}
    (a24 : PySem.W.nsIn K mainGlobals "choices" = some (some (.ref f24))) (l24 : K.lookup f24 = some ⟨oc24, od24, .func (PySem.W.fnOf "choices" "choices" (defArgs s_p_choices) (defBody s_p_choices) (defScope s_p_choices) .none kV24 dc24 pm24 an24 cd24 ct24), sl24⟩) (c24 : PySem.W.codeIn K cd24 "choices" = true) (k24 : PySem.W.keepIn K (.ref f24) = true)
    {f25 : Addr} {od25 an25 : Option Addr} {sl25 : Array (Option Value)} {oc25 kV25 dc25 pm25 cd25 ct25 : Value}
    (a25 : PySem.W.nsIn K mainGlobals "joined" = some (some (.ref f25))) (l25 : K.lookup f25 = some ⟨oc25, od25, .func (PySem.W.fnOf "joined" "joined" (defArgs s_p_joined) (defBody s_p_joined) (defScope s_p_joined) .none kV25 dc25 pm25 an25 cd25 ct25), sl25⟩) (c25 : PySem.W.codeIn K cd25 "joined" = true) (k25 : PySem.W.keepIn K (.ref f25) = true)
    {f26 : Addr} {od26 an26 : Option Addr} {sl26 : Array (Option Value)} {oc26 kV26 dc26 pm26 cd26 ct26 : Value}
    (a26 : PySem.W.nsIn K mainGlobals "need_few" = some (some (.ref f26))) (l26 : K.lookup f26 = some ⟨oc26, od26, .func (PySem.W.fnOf "need_few" "need_few" (defArgs s_p_need_few) (defBody s_p_need_few) (defScope s_p_need_few) .none kV26 dc26 pm26 an26 cd26 ct26), sl26⟩) (c26 : PySem.W.codeIn K cd26 "need_few" = true) (k26 : PySem.W.keepIn K (.ref f26) = true)
    {f27 : Addr} {od27 an27 : Option Addr} {sl27 : Array (Option Value)} {oc27 kV27 dc27 pm27 cd27 ct27 : Value}
    (a27 : PySem.W.nsIn K mainGlobals "meeting" = some (some (.ref f27))) (l27 : K.lookup f27 = some ⟨oc27, od27, .func (PySem.W.fnOf "meeting" "meeting" (defArgs s_p_meeting) (defBody s_p_meeting) (defScope s_p_meeting) .none kV27 dc27 pm27 an27 cd27 ct27), sl27⟩) (c27 : PySem.W.codeIn K cd27 "meeting" = true) (k27 : PySem.W.keepIn K (.ref f27) = true)
    {f28 : Addr} {od28 an28 : Option Addr} {sl28 : Array (Option Value)} {oc28 kV28 dc28 pm28 cd28 ct28 : Value}
    (a28 : PySem.W.nsIn K mainGlobals "together" = some (some (.ref f28))) (l28 : K.lookup f28 = some ⟨oc28, od28, .func (PySem.W.fnOf "together" "together" (defArgs s_p_together) (defBody s_p_together) (defScope s_p_together) .none kV28 dc28 pm28 an28 cd28 ct28), sl28⟩) (c28 : PySem.W.codeIn K cd28 "together" = true) (k28 : PySem.W.keepIn K (.ref f28) = true)
    {f29 : Addr} {od29 an29 : Option Addr} {sl29 : Array (Option Value)} {oc29 kV29 dc29 pm29 cd29 ct29 : Value}
    (a29 : PySem.W.nsIn K mainGlobals "one_begins" = some (some (.ref f29))) (l29 : K.lookup f29 = some ⟨oc29, od29, .func (PySem.W.fnOf "one_begins" "one_begins" (defArgs s_p_one_begins) (defBody s_p_one_begins) (defScope s_p_one_begins) .none kV29 dc29 pm29 an29 cd29 ct29), sl29⟩) (c29 : PySem.W.codeIn K cd29 "one_begins" = true) (k29 : PySem.W.keepIn K (.ref f29) = true)
    {f30 : Addr} {od30 an30 : Option Addr} {sl30 : Array (Option Value)} {oc30 kV30 dc30 pm30 cd30 ct30 : Value}
    (a30 : PySem.W.nsIn K mainGlobals "one_ends" = some (some (.ref f30))) (l30 : K.lookup f30 = some ⟨oc30, od30, .func (PySem.W.fnOf "one_ends" "one_ends" (defArgs s_p_one_ends) (defBody s_p_one_ends) (defScope s_p_one_ends) .none kV30 dc30 pm30 an30 cd30 ct30), sl30⟩) (c30 : PySem.W.codeIn K cd30 "one_ends" = true) (k30 : PySem.W.keepIn K (.ref f30) = true)
    {f31 : Addr} {od31 an31 : Option Addr} {sl31 : Array (Option Value)} {oc31 kV31 dc31 pm31 cd31 ct31 : Value}
    (a31 : PySem.W.nsIn K mainGlobals "ahead" = some (some (.ref f31))) (l31 : K.lookup f31 = some ⟨oc31, od31, .func (PySem.W.fnOf "ahead" "ahead" (defArgs s_p_ahead) (defBody s_p_ahead) (defScope s_p_ahead) .none kV31 dc31 pm31 an31 cd31 ct31), sl31⟩) (c31 : PySem.W.codeIn K cd31 "ahead" = true) (k31 : PySem.W.keepIn K (.ref f31) = true)
    {f32 : Addr} {od32 an32 : Option Addr} {sl32 : Array (Option Value)} {oc32 kV32 dc32 pm32 cd32 ct32 : Value}
    (a32 : PySem.W.nsIn K mainGlobals "widened" = some (some (.ref f32))) (l32 : K.lookup f32 = some ⟨oc32, od32, .func (PySem.W.fnOf "widened" "widened" (defArgs s_p_widened) (defBody s_p_widened) (defScope s_p_widened) .none kV32 dc32 pm32 an32 cd32 ct32), sl32⟩) (c32 : PySem.W.codeIn K cd32 "widened" = true) (k32 : PySem.W.keepIn K (.ref f32) = true)
    {f33 : Addr} {od33 an33 : Option Addr} {sl33 : Array (Option Value)} {oc33 kV33 dc33 pm33 cd33 ct33 : Value}
    (a33 : PySem.W.nsIn K mainGlobals "different" = some (some (.ref f33))) (l33 : K.lookup f33 = some ⟨oc33, od33, .func (PySem.W.fnOf "different" "different" (defArgs s_p_different) (defBody s_p_different) (defScope s_p_different) .none kV33 dc33 pm33 an33 cd33 ct33), sl33⟩) (c33 : PySem.W.codeIn K cd33 "different" = true) (k33 : PySem.W.keepIn K (.ref f33) = true)
    {f34 : Addr} {od34 an34 : Option Addr} {sl34 : Array (Option Value)} {oc34 kV34 dc34 pm34 cd34 ct34 : Value}
    (a34 : PySem.W.nsIn K mainGlobals "source_text" = some (some (.ref f34))) (l34 : K.lookup f34 = some ⟨oc34, od34, .func (PySem.W.fnOf "source_text" "source_text" (defArgs s_p_source_text) (defBody s_p_source_text) (defScope s_p_source_text) .none kV34 dc34 pm34 an34 cd34 ct34), sl34⟩) (c34 : PySem.W.codeIn K cd34 "source_text" = true) (k34 : PySem.W.keepIn K (.ref f34) = true)
    {f35 : Addr} {od35 an35 : Option Addr} {sl35 : Array (Option Value)} {oc35 kV35 dc35 pm35 cd35 ct35 : Value}
    (a35 : PySem.W.nsIn K mainGlobals "row_text" = some (some (.ref f35))) (l35 : K.lookup f35 = some ⟨oc35, od35, .func (PySem.W.fnOf "row_text" "row_text" (defArgs s_p_row_text) (defBody s_p_row_text) (defScope s_p_row_text) .none kV35 dc35 pm35 an35 cd35 ct35), sl35⟩) (c35 : PySem.W.codeIn K cd35 "row_text" = true) (k35 : PySem.W.keepIn K (.ref f35) = true)
    {f36 : Addr} {od36 an36 : Option Addr} {sl36 : Array (Option Value)} {oc36 kV36 dc36 pm36 cd36 ct36 : Value}
    (a36 : PySem.W.nsIn K mainGlobals "lies_under" = some (some (.ref f36))) (l36 : K.lookup f36 = some ⟨oc36, od36, .func (PySem.W.fnOf "lies_under" "lies_under" (defArgs s_p_lies_under) (defBody s_p_lies_under) (defScope s_p_lies_under) .none kV36 dc36 pm36 an36 cd36 ct36), sl36⟩) (c36 : PySem.W.codeIn K cd36 "lies_under" = true) (k36 : PySem.W.keepIn K (.ref f36) = true)
    {f37 : Addr} {od37 an37 : Option Addr} {sl37 : Array (Option Value)} {oc37 kV37 dc37 pm37 cd37 ct37 : Value}
    (a37 : PySem.W.nsIn K mainGlobals "parted" = some (some (.ref f37))) (l37 : K.lookup f37 = some ⟨oc37, od37, .func (PySem.W.fnOf "parted" "parted" (defArgs s_p_parted) (defBody s_p_parted) (defScope s_p_parted) .none kV37 dc37 pm37 an37 cd37 ct37), sl37⟩) (c37 : PySem.W.codeIn K cd37 "parted" = true) (k37 : PySem.W.keepIn K (.ref f37) = true)
    {f38 : Addr} {od38 an38 : Option Addr} {sl38 : Array (Option Value)} {oc38 kV38 dc38 pm38 cd38 ct38 : Value}
    (a38 : PySem.W.nsIn K mainGlobals "block" = some (some (.ref f38))) (l38 : K.lookup f38 = some ⟨oc38, od38, .func (PySem.W.fnOf "block" "block" (defArgs s_p_block) (defBody s_p_block) (defScope s_p_block) .none kV38 dc38 pm38 an38 cd38 ct38), sl38⟩) (c38 : PySem.W.codeIn K cd38 "block" = true) (k38 : PySem.W.keepIn K (.ref f38) = true)
    {f39 : Addr} {od39 an39 : Option Addr} {sl39 : Array (Option Value)} {oc39 kV39 dc39 pm39 cd39 ct39 : Value}
    (a39 : PySem.W.nsIn K mainGlobals "shows_block" = some (some (.ref f39))) (l39 : K.lookup f39 = some ⟨oc39, od39, .func (PySem.W.fnOf "shows_block" "shows_block" (defArgs s_p_shows_block) (defBody s_p_shows_block) (defScope s_p_shows_block) .none kV39 dc39 pm39 an39 cd39 ct39), sl39⟩) (c39 : PySem.W.codeIn K cd39 "shows_block" = true) (k39 : PySem.W.keepIn K (.ref f39) = true)
    {f40 : Addr} {od40 an40 : Option Addr} {sl40 : Array (Option Value)} {oc40 kV40 dc40 pm40 cd40 ct40 : Value}
    (a40 : PySem.W.nsIn K mainGlobals "with_one_more" = some (some (.ref f40))) (l40 : K.lookup f40 = some ⟨oc40, od40, .func (PySem.W.fnOf "with_one_more" "with_one_more" (defArgs s_p_with_one_more) (defBody s_p_with_one_more) (defScope s_p_with_one_more) .none kV40 dc40 pm40 an40 cd40 ct40), sl40⟩) (c40 : PySem.W.codeIn K cd40 "with_one_more" = true) (k40 : PySem.W.keepIn K (.ref f40) = true)
    {f41 : Addr} {od41 an41 : Option Addr} {sl41 : Array (Option Value)} {oc41 kV41 dc41 pm41 cd41 ct41 : Value}
    (a41 : PySem.W.nsIn K mainGlobals "rows_behind" = some (some (.ref f41))) (l41 : K.lookup f41 = some ⟨oc41, od41, .func (PySem.W.fnOf "rows_behind" "rows_behind" (defArgs s_p_rows_behind) (defBody s_p_rows_behind) (defScope s_p_rows_behind) .none kV41 dc41 pm41 an41 cd41 ct41), sl41⟩) (c41 : PySem.W.codeIn K cd41 "rows_behind" = true) (k41 : PySem.W.keepIn K (.ref f41) = true)
    {f42 : Addr} {od42 an42 : Option Addr} {sl42 : Array (Option Value)} {oc42 kV42 dc42 pm42 cd42 ct42 : Value}
    (a42 : PySem.W.nsIn K mainGlobals "is_row" = some (some (.ref f42))) (l42 : K.lookup f42 = some ⟨oc42, od42, .func (PySem.W.fnOf "is_row" "is_row" (defArgs s_p_is_row) (defBody s_p_is_row) (defScope s_p_is_row) .none kV42 dc42 pm42 an42 cd42 ct42), sl42⟩) (c42 : PySem.W.codeIn K cd42 "is_row" = true) (k42 : PySem.W.keepIn K (.ref f42) = true)
    {f43 : Addr} {od43 an43 : Option Addr} {sl43 : Array (Option Value)} {oc43 kV43 dc43 pm43 cd43 ct43 : Value}
    (a43 : PySem.W.nsIn K mainGlobals "holds_out" = some (some (.ref f43))) (l43 : K.lookup f43 = some ⟨oc43, od43, .func (PySem.W.fnOf "holds_out" "holds_out" (defArgs s_p_holds_out) (defBody s_p_holds_out) (defScope s_p_holds_out) .none kV43 dc43 pm43 an43 cd43 ct43), sl43⟩) (c43 : PySem.W.codeIn K cd43 "holds_out" = true) (k43 : PySem.W.keepIn K (.ref f43) = true)
    {f44 : Addr} {od44 an44 : Option Addr} {sl44 : Array (Option Value)} {oc44 kV44 dc44 pm44 cd44 ct44 : Value}
    (a44 : PySem.W.nsIn K mainGlobals "_law_kneaded" = some (some (.ref f44))) (l44 : K.lookup f44 = some ⟨oc44, od44, .func (PySem.W.fnOf "_law_kneaded" "_law_kneaded" (defArgs s_kneaded) (defBody s_kneaded) (defScope s_kneaded) .none kV44 dc44 pm44 an44 cd44 ct44), sl44⟩) (c44 : PySem.W.codeIn K cd44 "_law_kneaded" = true) (k44 : PySem.W.keepIn K (.ref f44) = true)
    {f45 : Addr} {od45 an45 : Option Addr} {sl45 : Array (Option Value)} {oc45 kV45 dc45 pm45 cd45 ct45 : Value}
    (a45 : PySem.W.nsIn K mainGlobals "_law_pot_of" = some (some (.ref f45))) (l45 : K.lookup f45 = some ⟨oc45, od45, .func (PySem.W.fnOf "_law_pot_of" "_law_pot_of" (defArgs s_pot_of) (defBody s_pot_of) (defScope s_pot_of) .none kV45 dc45 pm45 an45 cd45 ct45), sl45⟩) (c45 : PySem.W.codeIn K cd45 "_law_pot_of" = true) (k45 : PySem.W.keepIn K (.ref f45) = true)
    {f46 : Addr} {od46 an46 : Option Addr} {sl46 : Array (Option Value)} {oc46 kV46 dc46 pm46 cd46 ct46 : Value}
    (a46 : PySem.W.nsIn K mainGlobals "_law_below" = some (some (.ref f46))) (l46 : K.lookup f46 = some ⟨oc46, od46, .func (PySem.W.fnOf "_law_below" "_law_below" (defArgs s_below) (defBody s_below) (defScope s_below) .none kV46 dc46 pm46 an46 cd46 ct46), sl46⟩) (c46 : PySem.W.codeIn K cd46 "_law_below" = true) (k46 : PySem.W.keepIn K (.ref f46) = true)
    {f47 : Addr} {od47 an47 : Option Addr} {sl47 : Array (Option Value)} {oc47 kV47 dc47 pm47 cd47 ct47 : Value}
    (a47 : PySem.W.nsIn K mainGlobals "_law_pick" = some (some (.ref f47))) (l47 : K.lookup f47 = some ⟨oc47, od47, .func (PySem.W.fnOf "_law_pick" "_law_pick" (defArgs s_pick) (defBody s_pick) (defScope s_pick) .none kV47 dc47 pm47 an47 cd47 ct47), sl47⟩) (c47 : PySem.W.codeIn K cd47 "_law_pick" = true) (k47 : PySem.W.keepIn K (.ref f47) = true)
    {f48 : Addr} {od48 an48 : Option Addr} {sl48 : Array (Option Value)} {oc48 kV48 dc48 pm48 cd48 ct48 : Value}
    (a48 : PySem.W.nsIn K mainGlobals "_law_some_name" = some (some (.ref f48))) (l48 : K.lookup f48 = some ⟨oc48, od48, .func (PySem.W.fnOf "_law_some_name" "_law_some_name" (defArgs s_some_name) (defBody s_some_name) (defScope s_some_name) .none kV48 dc48 pm48 an48 cd48 ct48), sl48⟩) (c48 : PySem.W.codeIn K cd48 "_law_some_name" = true) (k48 : PySem.W.keepIn K (.ref f48) = true)
    {f49 : Addr} {od49 an49 : Option Addr} {sl49 : Array (Option Value)} {oc49 kV49 dc49 pm49 cd49 ct49 : Value}
    (a49 : PySem.W.nsIn K mainGlobals "_law_whole" = some (some (.ref f49))) (l49 : K.lookup f49 = some ⟨oc49, od49, .func (PySem.W.fnOf "_law_whole" "_law_whole" (defArgs s_whole) (defBody s_whole) (defScope s_whole) .none kV49 dc49 pm49 an49 cd49 ct49), sl49⟩) (c49 : PySem.W.codeIn K cd49 "_law_whole" = true) (k49 : PySem.W.keepIn K (.ref f49) = true)
    {f50 : Addr} {od50 an50 : Option Addr} {sl50 : Array (Option Value)} {oc50 kV50 dc50 pm50 cd50 ct50 : Value}
    (a50 : PySem.W.nsIn K mainGlobals "_law_some_source" = some (some (.ref f50))) (l50 : K.lookup f50 = some ⟨oc50, od50, .func (PySem.W.fnOf "_law_some_source" "_law_some_source" (defArgs s_some_source) (defBody s_some_source) (defScope s_some_source) .none kV50 dc50 pm50 an50 cd50 ct50), sl50⟩) (c50 : PySem.W.codeIn K cd50 "_law_some_source" = true) (k50 : PySem.W.keepIn K (.ref f50) = true)
    {f51 : Addr} {od51 an51 : Option Addr} {sl51 : Array (Option Value)} {oc51 kV51 dc51 pm51 cd51 ct51 : Value}
    (a51 : PySem.W.nsIn K mainGlobals "_law_some_rule" = some (some (.ref f51))) (l51 : K.lookup f51 = some ⟨oc51, od51, .func (PySem.W.fnOf "_law_some_rule" "_law_some_rule" (defArgs s_some_rule) (defBody s_some_rule) (defScope s_some_rule) .none kV51 dc51 pm51 an51 cd51 ct51), sl51⟩) (c51 : PySem.W.codeIn K cd51 "_law_some_rule" = true) (k51 : PySem.W.keepIn K (.ref f51) = true)
    {f52 : Addr} {od52 an52 : Option Addr} {sl52 : Array (Option Value)} {oc52 kV52 dc52 pm52 cd52 ct52 : Value}
    (a52 : PySem.W.nsIn K mainGlobals "_law_some_book" = some (some (.ref f52))) (l52 : K.lookup f52 = some ⟨oc52, od52, .func (PySem.W.fnOf "_law_some_book" "_law_some_book" (defArgs s_some_book) (defBody s_some_book) (defScope s_some_book) .none kV52 dc52 pm52 an52 cd52 ct52), sl52⟩) (c52 : PySem.W.codeIn K cd52 "_law_some_book" = true) (k52 : PySem.W.keepIn K (.ref f52) = true)
    {f53 : Addr} {od53 an53 : Option Addr} {sl53 : Array (Option Value)} {oc53 kV53 dc53 pm53 cd53 ct53 : Value}
    (a53 : PySem.W.nsIn K mainGlobals "_law_do" = some (some (.ref f53))) (l53 : K.lookup f53 = some ⟨oc53, od53, .func (PySem.W.fnOf "_law_do" "_law_do" (defArgs s_do) (defBody s_do) (defScope s_do) .none kV53 dc53 pm53 an53 cd53 ct53), sl53⟩) (c53 : PySem.W.codeIn K cd53 "_law_do" = true) (k53 : PySem.W.keepIn K (.ref f53) = true)
    {f54 : Addr} {od54 an54 : Option Addr} {sl54 : Array (Option Value)} {oc54 kV54 dc54 pm54 cd54 ct54 : Value}
    (a54 : PySem.W.nsIn K mainGlobals "_law_word" = some (some (.ref f54))) (l54 : K.lookup f54 = some ⟨oc54, od54, .func (PySem.W.fnOf "_law_word" "_law_word" (defArgs s_word) (defBody s_word) (defScope s_word) .none kV54 dc54 pm54 an54 cd54 ct54), sl54⟩) (c54 : PySem.W.codeIn K cd54 "_law_word" = true) (k54 : PySem.W.keepIn K (.ref f54) = true)
    {f55 : Addr} {od55 an55 : Option Addr} {sl55 : Array (Option Value)} {oc55 kV55 dc55 pm55 cd55 ct55 : Value}
    (a55 : PySem.W.nsIn K mainGlobals "_law_edge_right" = some (some (.ref f55))) (l55 : K.lookup f55 = some ⟨oc55, od55, .func (PySem.W.fnOf "_law_edge_right" "_law_edge_right" (defArgs s_edge_right) (defBody s_edge_right) (defScope s_edge_right) .none kV55 dc55 pm55 an55 cd55 ct55), sl55⟩) (c55 : PySem.W.codeIn K cd55 "_law_edge_right" = true) (k55 : PySem.W.keepIn K (.ref f55) = true)
    {f56 : Addr} {od56 an56 : Option Addr} {sl56 : Array (Option Value)} {oc56 kV56 dc56 pm56 cd56 ct56 : Value}
    (a56 : PySem.W.nsIn K mainGlobals "law" = some (some (.ref f56))) (l56 : K.lookup f56 = some ⟨oc56, od56, .func (PySem.W.fnOf "law" "law" (defArgs s_law) (defBody s_law) (defScope s_law) .none kV56 dc56 pm56 an56 cd56 ct56), sl56⟩) (c56 : PySem.W.codeIn K cd56 "law" = true) (k56 : PySem.W.keepIn K (.ref f56) = true)
    (z0 : PySem.W.nsIn K mainGlobals "int" = some none)
    (z1 : PySem.W.nsIn K mainGlobals "abs" = some none)
    (z2 : PySem.W.nsIn K mainGlobals "range" = some none)
    (z3 : PySem.W.nsIn K mainGlobals "enumerate" = some none)
    (z4 : PySem.W.nsIn K mainGlobals "len" = some none)
    (z5 : PySem.W.nsIn K mainGlobals "isinstance" = some none)
    (z6 : PySem.W.nsIn K mainGlobals "str" = some none)
    (z7 : PySem.W.nsIn K mainGlobals "tuple" = some none)
    (z8 : PySem.W.nsIn K mainGlobals "repr" = some none)
    (z9 : PySem.W.nsIn K mainGlobals "list" = some none)
    (z10 : PySem.W.nsIn K mainGlobals "sorted" = some none)
    (z11 : PySem.W.nsIn K mainGlobals "set" = some none)
    (z12 : PySem.W.nsIn K mainGlobals "all" = some none)
    (z13 : PySem.W.nsIn K mainGlobals "max" = some none)
    (z14 : PySem.W.nsIn K mainGlobals "reversed" = some none)
    {tk0 : Tok} (q0 : PySem.W.nsIn K mainGlobals "CAPITALS" = some (some (.str "ABCDEFGHIJKLMNOPQRSTUVWXYZ" tk0)))
    {tk1 : Tok} (q1 : PySem.W.nsIn K mainGlobals "SMALLS" = some (some (.str "abcdefghijklmnopqrstuvwxyz" tk1)))
    {tk2 : Tok} (q2 : PySem.W.nsIn K mainGlobals "MOST_END_LETTERS" = some (some (.int 3 tk2)))
    {tk3 : Tok} (q3 : PySem.W.nsIn K mainGlobals "MOST_LABEL_LETTERS" = some (some (.int 8 tk3)))
    {tk4 : Tok} (q4 : PySem.W.nsIn K mainGlobals "MOST_NAME_LETTERS" = some (some (.int 6 tk4)))
    {tk5 : Tok} (q5 : PySem.W.nsIn K mainGlobals "MOST_SOURCES" = some (some (.int 3 tk5)))
    {tk6 : Tok} (q6 : PySem.W.nsIn K mainGlobals "MOST_RULES" = some (some (.int 6 tk6)))
    {tk7 : Tok} (q7 : PySem.W.nsIn K mainGlobals "MOST_FILES" = some (some (.int 60 tk7)))
    {tk8 : Tok} (q8 : PySem.W.nsIn K mainGlobals "MOST_WAYS" = some (some (.int 300 tk8)))
    {C0 : Addr} (ca0 : PySem.W.nsIn K mainGlobals "NoBook" = some (some (.ref C0))) (cx0 : PySem.W.excIn K C0 [.type "ValueError", .type "Exception", .type "BaseException", .type "object"] "ValueError.__new__" = true)
    (ck0 : PySem.W.keepIn K (.ref C0) = true) (cb0 : PySem.W.subIn K (.ref C0) (.type "BaseException") = some true) (ct0 : PySem.W.typeIn K (.ref C0) = some (.type "type")) (ci0 : PySem.W.isClsIn K C0 = true)
    {C1 : Addr} (ca1 : PySem.W.nsIn K mainGlobals "NoFiles" = some (some (.ref C1))) (cx1 : PySem.W.excIn K C1 [.type "ValueError", .type "Exception", .type "BaseException", .type "object"] "ValueError.__new__" = true)
    (ck1 : PySem.W.keepIn K (.ref C1) = true) (cb1 : PySem.W.subIn K (.ref C1) (.type "BaseException") = some true) (ct1 : PySem.W.typeIn K (.ref C1) = some (.type "type")) (ci1 : PySem.W.isClsIn K C1 = true)
    {C2 : Addr} (ca2 : PySem.W.nsIn K mainGlobals "NoName" = some (some (.ref C2))) (cx2 : PySem.W.excIn K C2 [.type "ValueError", .type "Exception", .type "BaseException", .type "object"] "ValueError.__new__" = true)
    (ck2 : PySem.W.keepIn K (.ref C2) = true) (cb2 : PySem.W.subIn K (.ref C2) (.type "BaseException") = some true) (ct2 : PySem.W.typeIn K (.ref C2) = some (.type "type")) (ci2 : PySem.W.isClsIn K C2 = true)
    {B0 : Addr} (ba0 : PySem.W.nsIn K mainGlobals "Search" = some (some (.ref B0)))
    (bp0 : PySem.W.plainGet K B0 Str.empty = true) (bh0 : PySem.W.hasDictIn K B0 = true) (bo0 : PySem.W.plainOver K B0 = true) (bs0 : PySem.W.findIn K (.ref B0) "__setattr__" = some (some (.builtin "object.__setattr__"))) (bm0 : PySem.W.makesIn K B0 = true) (bk0 : PySem.W.keepIn K (.ref B0) = true)
    (bf0_0 : PySem.W.findIn K (.ref B0) "book" = some none)
    (bf0_1 : PySem.W.findIn K (.ref B0) "there" = some none)
    (bf0_2 : PySem.W.findIn K (.ref B0) "known" = some none)
    {g0_0 : Addr} {god0_0 gan0_0 : Option Addr} {gsl0_0 : Array (Option Value)} {goc0_0 gkV0_0 gdc0_0 gpm0_0 gcd0_0 gct0_0 : Value}
    (ga0_0 : PySem.W.findIn K (.ref B0) "__init__" = some (some (.ref g0_0))) (gi0_0 : PySem.W.isFn K (.ref g0_0) = true) (gl0_0 : K.lookup g0_0 = some ⟨goc0_0, god0_0, .func (PySem.W.fnOf "__init__" "Search.__init__" (defArgs s_Search_init) (defBody s_Search_init) (defScope s_Search_init) .none gkV0_0 gdc0_0 gpm0_0 gan0_0 gcd0_0 gct0_0), gsl0_0⟩) (gc0_0 : PySem.W.codeIn K gcd0_0 "Search.__init__" = true) (gk0_0 : PySem.W.keepIn K (.ref g0_0) = true)
    {g0_1 : Addr} {god0_1 gan0_1 : Option Addr} {gsl0_1 : Array (Option Value)} {goc0_1 gkV0_1 gdc0_1 gpm0_1 gcd0_1 gct0_1 : Value}
    (ga0_1 : PySem.W.findIn K (.ref B0) "told" = some (some (.ref g0_1))) (gi0_1 : PySem.W.isFn K (.ref g0_1) = true) (gl0_1 : K.lookup g0_1 = some ⟨goc0_1, god0_1, .func (PySem.W.fnOf "told" "Search.told" (defArgs s_Search_told) (defBody s_Search_told) (defScope s_Search_told) .none gkV0_1 gdc0_1 gpm0_1 gan0_1 gcd0_1 gct0_1), gsl0_1⟩) (gc0_1 : PySem.W.codeIn K gcd0_1 "Search.told" = true) (gk0_1 : PySem.W.keepIn K (.ref g0_1) = true)
    {g0_2 : Addr} {god0_2 gan0_2 : Option Addr} {gsl0_2 : Array (Option Value)} {goc0_2 gkV0_2 gdc0_2 gpm0_2 gcd0_2 gct0_2 : Value}
    (ga0_2 : PySem.W.findIn K (.ref B0) "forget" = some (some (.ref g0_2))) (gi0_2 : PySem.W.isFn K (.ref g0_2) = true) (gl0_2 : K.lookup g0_2 = some ⟨goc0_2, god0_2, .func (PySem.W.fnOf "forget" "Search.forget" (defArgs s_Search_forget) (defBody s_Search_forget) (defScope s_Search_forget) .none gkV0_2 gdc0_2 gpm0_2 gan0_2 gcd0_2 gct0_2), gsl0_2⟩) (gc0_2 : PySem.W.codeIn K gcd0_2 "Search.forget" = true) (gk0_2 : PySem.W.keepIn K (.ref g0_2) = true)
    {g0_3 : Addr} {god0_3 gan0_3 : Option Addr} {gsl0_3 : Array (Option Value)} {goc0_3 gkV0_3 gdc0_3 gpm0_3 gcd0_3 gct0_3 : Value}
    (ga0_3 : PySem.W.findIn K (.ref B0) "first_right" = some (some (.ref g0_3))) (gi0_3 : PySem.W.isFn K (.ref g0_3) = true) (gl0_3 : K.lookup g0_3 = some ⟨goc0_3, god0_3, .func (PySem.W.fnOf "first_right" "Search.first_right" (defArgs s_Search_first_right) (defBody s_Search_first_right) (defScope s_Search_first_right) .none gkV0_3 gdc0_3 gpm0_3 gan0_3 gcd0_3 gct0_3), gsl0_3⟩) (gc0_3 : PySem.W.codeIn K gcd0_3 "Search.first_right" = true) (gk0_3 : PySem.W.keepIn K (.ref g0_3) = true)
    {g0_4 : Addr} {god0_4 gan0_4 : Option Addr} {gsl0_4 : Array (Option Value)} {goc0_4 gkV0_4 gdc0_4 gpm0_4 gcd0_4 gct0_4 : Value}
    (ga0_4 : PySem.W.findIn K (.ref B0) "missing" = some (some (.ref g0_4))) (gi0_4 : PySem.W.isFn K (.ref g0_4) = true) (gl0_4 : K.lookup g0_4 = some ⟨goc0_4, god0_4, .func (PySem.W.fnOf "missing" "Search.missing" (defArgs s_Search_missing) (defBody s_Search_missing) (defScope s_Search_missing) .none gkV0_4 gdc0_4 gpm0_4 gan0_4 gcd0_4 gct0_4), gsl0_4⟩) (gc0_4 : PySem.W.codeIn K gcd0_4 "Search.missing" = true) (gk0_4 : PySem.W.keepIn K (.ref g0_4) = true)
    (em0_0 : PySem.W.subIn K (.ref C0) (.ref C0) = some true)
    (em1_0 : PySem.W.subIn K (.ref C1) (.ref C0) = some false)
    (em1_1 : PySem.W.subIn K (.ref C1) (.ref C1) = some true)
    (em2_0 : PySem.W.subIn K (.ref C2) (.ref C0) = some false)
    (em2_1 : PySem.W.subIn K (.ref C2) (.ref C1) = some false)
    (em2_2 : PySem.W.subIn K (.ref C2) (.ref C2) = some true)
    {TM : Addr}
    (tca : PySem.W.nsIn K mainGlobals "TooMany" = some (some (.ref TM)))
    (tck : PySem.W.keepIn K (.ref TM) = true)
    (tcb : PySem.W.subIn K (.ref TM) (.type "BaseException") = some true)
    (tcy : PySem.W.typeIn K (.ref TM) = some (.type "type"))
    (tci : PySem.W.isClsIn K TM = true)
    (teg : PySem.W.findIn K (.ref TM) "__getattribute__" = some (some (.builtin "BaseException.__getattribute__")))
    (tea : PySem.W.findIn K (.ref TM) "__getattr__" = some none)
    {tnm tq : Str} {tN : Addr} {tbs tbm : List Value} {tsn : List Str} {tsub : List Value} {tab : Bool} {tcol : Option Bool} {tdd : Option Addr} {tka tkb tkc tkd tke : Option Value}
    (tlk : K.lookup TM = some (excClassObj tnm tq TM tN tbs tbm true tsn tsub tab tcol tdd tka tkb tkc tkd tke "ValueError.__new__"))
    (trv : PySem.HandSPX.refsVE tbm = true)
    (tsa : PySem.W.findIn K (.ref TM) "__setattr__" = some (some (.builtin "object.__setattr__")))
    {tg : Addr} {tgodd tgan : Option Addr} {tgsl : Array (Option Value)} {tgoc tgkV tgdc tgpm tgcd tgct : Value}
    (tiC : PySem.W.findIn K (.ref TM) "__init__" = some (some (.ref tg)))
    (ttI : PySem.W.typeIn K (.ref tg) = some (.type "function"))
    (tgl : K.lookup tg = some ⟨tgoc, tgodd, .func (PySem.W.fnOf "__init__" "TooMany.__init__" (defArgs s_init1) (defBody s_init1) (defScope s_init1) .none tgkV tgdc tgpm tgan tgcd tgct), tgsl⟩)
    (tgc : PySem.W.codeIn K tgcd "TooMany.__init__" = true)
    (tgk : PySem.W.keepIn K (.ref tg) = true)
    (thd : PySem.W.hasDictIn K TM = true)
    (tno : PySem.W.findIn K (.ref TM) "limit" = some none)
    (tm_0 : PySem.W.subIn K (.ref TM) (.ref C0) = some false)
    (tm_1 : PySem.W.subIn K (.ref TM) (.ref C1) = some false)
    (tm_2 : PySem.W.subIn K (.ref TM) (.ref C2) = some false)
    (tm_t : PySem.W.subIn K (.ref TM) (.ref TM) = some true)
    : ∃ fd : FuncData, (∀ (s : Shared) (v : Value), BindsTo s fd ⟨[v], []⟩ [("script", v)]) ∧ ∀ base : Heap, K.In base → base.Ns mainGlobals mg → FnG l.prog w K mg base CX0 30 fa fd ["script"] (spLaw K) := by
  have e := hfa.symm.trans (PySem.W.mg_of X G a56)
  cases e
  refine ⟨PySem.W.fnOf "law" "law" (defArgs s_law) (defBody s_law) (defScope s_law) .none kV56 dc56 pm56 an56 cd56 ct56, fun s v => .of_eq rfl, fun base _ _ => ?_⟩
  have d_p__wall : Def1 K mg "_wall" s_p__wall := ⟨_, _, fun_mk l0 c0 k0, PySem.W.mg_of X G a0⟩
  have d_p_is_name : Def1 K mg "is_name" s_p_is_name := ⟨_, _, fun_mk l1 c1 k1, PySem.W.mg_of X G a1⟩
  have d_p_is_pattern : Def1 K mg "is_pattern" s_p_is_pattern := ⟨_, _, fun_mk l2 c2 k2, PySem.W.mg_of X G a2⟩
  have d_p_is_end : Def1 K mg "is_end" s_p_is_end := ⟨_, _, fun_mk l3 c3 k3, PySem.W.mg_of X G a3⟩
  have d_p_need_name : Def1 K mg "need_name" s_p_need_name := ⟨_, _, fun_mk l4 c4 k4, PySem.W.mg_of X G a4⟩
  have d_p_stem_within : Def1 K mg "stem_within" s_p_stem_within := ⟨_, _, fun_mk l5 c5 k5, PySem.W.mg_of X G a5⟩
  have d_p_filled : Def1 K mg "filled" s_p_filled := ⟨_, _, fun_mk l6 c6 k6, PySem.W.mg_of X G a6⟩
  have d_p_ascending : Def1 K mg "ascending" s_p_ascending := ⟨_, _, fun_mk l7 c7 k7, PySem.W.mg_of X G a7⟩
  have d_p_is_rule : Def1 K mg "is_rule" s_p_is_rule := ⟨_, _, fun_mk l8 c8 k8, PySem.W.mg_of X G a8⟩
  have d_p_is_label : Def1 K mg "is_label" s_p_is_label := ⟨_, _, fun_mk l9 c9 k9, PySem.W.mg_of X G a9⟩
  have d_p_are_sources : Def1 K mg "are_sources" s_p_are_sources := ⟨_, _, fun_mk l10 c10 k10, PySem.W.mg_of X G a10⟩
  have d_p_is_rule_source : Def1 K mg "is_rule_source" s_p_is_rule_source := ⟨_, _, fun_mk l11 c11 k11, PySem.W.mg_of X G a11⟩
  have d_p_is_book : Def1 K mg "is_book" s_p_is_book := ⟨_, _, fun_mk l12 c12 k12, PySem.W.mg_of X G a12⟩
  have d_p_are_files : Def1 K mg "are_files" s_p_are_files := ⟨_, _, fun_mk l13 c13 k13, PySem.W.mg_of X G a13⟩
  have d_p_fitted : Def1 K mg "fitted" s_p_fitted := ⟨_, _, fun_mk l14 c14 k14, PySem.W.mg_of X G a14⟩
  have d_p_need_book : Def1 K mg "need_book" s_p_need_book := ⟨_, _, fun_mk l15 c15 k15, PySem.W.mg_of X G a15⟩
  have d_p_need_files : Def1 K mg "need_files" s_p_need_files := ⟨_, _, fun_mk l16 c16 k16, PySem.W.mg_of X G a16⟩
  have d_p_need_things : Def1 K mg "need_things" s_p_need_things := ⟨_, _, fun_mk l17 c17 k17, PySem.W.mg_of X G a17⟩
  have d_p_is_number_in : Def1 K mg "is_number_in" s_p_is_number_in := ⟨_, _, fun_mk l18 c18 k18, PySem.W.mg_of X G a18⟩
  have d_p_table : Def1 K mg "table" s_p_table := ⟨_, _, fun_mk l19 c19 k19, PySem.W.mg_of X G a19⟩
  have d_p_row_for : Def1 K mg "row_for" s_p_row_for := ⟨_, _, fun_mk l20 c20 k20, PySem.W.mg_of X G a20⟩
  have d_p_parting : Def1 K mg "parting" s_p_parting := ⟨_, _, fun_mk l21 c21 k21, PySem.W.mg_of X G a21⟩
  have d_p_lean : Def1 K mg "lean" s_p_lean := ⟨_, _, fun_mk l22 c22 k22, PySem.W.mg_of X G a22⟩
  have d_p_open_ways : Def1 K mg "open_ways" s_p_open_ways := ⟨_, _, fun_mk l23 c23 k23, PySem.W.mg_of X G a23⟩
  have d_p_choices : Def1 K mg "choices" s_p_choices := ⟨_, _, fun_mk l24 c24 k24, PySem.W.mg_of X G a24⟩
  have d_p_joined : Def1 K mg "joined" s_p_joined := ⟨_, _, fun_mk l25 c25 k25, PySem.W.mg_of X G a25⟩
  have d_p_need_few : Def1 K mg "need_few" s_p_need_few := ⟨_, _, fun_mk l26 c26 k26, PySem.W.mg_of X G a26⟩
  have d_p_meeting : Def1 K mg "meeting" s_p_meeting := ⟨_, _, fun_mk l27 c27 k27, PySem.W.mg_of X G a27⟩
  have d_p_together : Def1 K mg "together" s_p_together := ⟨_, _, fun_mk l28 c28 k28, PySem.W.mg_of X G a28⟩
  have d_p_one_begins : Def1 K mg "one_begins" s_p_one_begins := ⟨_, _, fun_mk l29 c29 k29, PySem.W.mg_of X G a29⟩
  have d_p_one_ends : Def1 K mg "one_ends" s_p_one_ends := ⟨_, _, fun_mk l30 c30 k30, PySem.W.mg_of X G a30⟩
  have d_p_ahead : Def1 K mg "ahead" s_p_ahead := ⟨_, _, fun_mk l31 c31 k31, PySem.W.mg_of X G a31⟩
  have d_p_widened : Def1 K mg "widened" s_p_widened := ⟨_, _, fun_mk l32 c32 k32, PySem.W.mg_of X G a32⟩
  have d_p_different : Def1 K mg "different" s_p_different := ⟨_, _, fun_mk l33 c33 k33, PySem.W.mg_of X G a33⟩
  have d_p_source_text : Def1 K mg "source_text" s_p_source_text := ⟨_, _, fun_mk l34 c34 k34, PySem.W.mg_of X G a34⟩
  have d_p_row_text : Def1 K mg "row_text" s_p_row_text := ⟨_, _, fun_mk l35 c35 k35, PySem.W.mg_of X G a35⟩
  have d_p_lies_under : Def1 K mg "lies_under" s_p_lies_under := ⟨_, _, fun_mk l36 c36 k36, PySem.W.mg_of X G a36⟩
  have d_p_parted : Def1 K mg "parted" s_p_parted := ⟨_, _, fun_mk l37 c37 k37, PySem.W.mg_of X G a37⟩
  have d_p_block : Def1 K mg "block" s_p_block := ⟨_, _, fun_mk l38 c38 k38, PySem.W.mg_of X G a38⟩
  have d_p_shows_block : Def1 K mg "shows_block" s_p_shows_block := ⟨_, _, fun_mk l39 c39 k39, PySem.W.mg_of X G a39⟩
  have d_p_with_one_more : Def1 K mg "with_one_more" s_p_with_one_more := ⟨_, _, fun_mk l40 c40 k40, PySem.W.mg_of X G a40⟩
  have d_p_rows_behind : Def1 K mg "rows_behind" s_p_rows_behind := ⟨_, _, fun_mk l41 c41 k41, PySem.W.mg_of X G a41⟩
  have d_p_is_row : Def1 K mg "is_row" s_p_is_row := ⟨_, _, fun_mk l42 c42 k42, PySem.W.mg_of X G a42⟩
  have d_p_holds_out : Def1 K mg "holds_out" s_p_holds_out := ⟨_, _, fun_mk l43 c43 k43, PySem.W.mg_of X G a43⟩
  have d_kneaded : Def1 K mg "_law_kneaded" s_kneaded := ⟨_, _, fun_mk l44 c44 k44, PySem.W.mg_of X G a44⟩
  have d_pot_of : Def1 K mg "_law_pot_of" s_pot_of := ⟨_, _, fun_mk l45 c45 k45, PySem.W.mg_of X G a45⟩
  have d_below : Def1 K mg "_law_below" s_below := ⟨_, _, fun_mk l46 c46 k46, PySem.W.mg_of X G a46⟩
  have d_pick : Def1 K mg "_law_pick" s_pick := ⟨_, _, fun_mk l47 c47 k47, PySem.W.mg_of X G a47⟩
  have d_some_name : Def1 K mg "_law_some_name" s_some_name := ⟨_, _, fun_mk l48 c48 k48, PySem.W.mg_of X G a48⟩
  have d_whole : Def1 K mg "_law_whole" s_whole := ⟨_, _, fun_mk l49 c49 k49, PySem.W.mg_of X G a49⟩
  have d_some_source : Def1 K mg "_law_some_source" s_some_source := ⟨_, _, fun_mk l50 c50 k50, PySem.W.mg_of X G a50⟩
  have d_some_rule : Def1 K mg "_law_some_rule" s_some_rule := ⟨_, _, fun_mk l51 c51 k51, PySem.W.mg_of X G a51⟩
  have d_some_book : Def1 K mg "_law_some_book" s_some_book := ⟨_, _, fun_mk l52 c52 k52, PySem.W.mg_of X G a52⟩
  have d_do : Def1 K mg "_law_do" s_do := ⟨_, _, fun_mk l53 c53 k53, PySem.W.mg_of X G a53⟩
  have d_word : Def1 K mg "_law_word" s_word := ⟨_, _, fun_mk l54 c54 k54, PySem.W.mg_of X G a54⟩
  have d_edge_right : Def1 K mg "_law_edge_right" s_edge_right := ⟨_, _, fun_mk l55 c55 k55, PySem.W.mg_of X G a55⟩
  have z_int : mg "int" = none := PySem.W.mg_none_of X G z0
  have z_abs : mg "abs" = none := PySem.W.mg_none_of X G z1
  have z_range : mg "range" = none := PySem.W.mg_none_of X G z2
  have z_enumerate : mg "enumerate" = none := PySem.W.mg_none_of X G z3
  have z_len : mg "len" = none := PySem.W.mg_none_of X G z4
  have z_isinstance : mg "isinstance" = none := PySem.W.mg_none_of X G z5
  have z_str : mg "str" = none := PySem.W.mg_none_of X G z6
  have z_tuple : mg "tuple" = none := PySem.W.mg_none_of X G z7
  have z_repr : mg "repr" = none := PySem.W.mg_none_of X G z8
  have z_list : mg "list" = none := PySem.W.mg_none_of X G z9
  have z_sorted : mg "sorted" = none := PySem.W.mg_none_of X G z10
  have z_set : mg "set" = none := PySem.W.mg_none_of X G z11
  have z_all : mg "all" = none := PySem.W.mg_none_of X G z12
  have z_max : mg "max" = none := PySem.W.mg_none_of X G z13
  have z_reversed : mg "reversed" = none := PySem.W.mg_none_of X G z14
  have k_CAPITALS : Con1 mg "CAPITALS" (.str capS) := ⟨_, PySem.W.mg_of X G q0, ⟨_, rfl⟩⟩
  have k_SMALLS : Con1 mg "SMALLS" (.str smaS) := ⟨_, PySem.W.mg_of X G q1, ⟨_, rfl⟩⟩
  have k_MOST_END_LETTERS : Con1 mg "MOST_END_LETTERS" (.int 3) := ⟨_, PySem.W.mg_of X G q2, ⟨_, rfl⟩⟩
  have k_MOST_LABEL_LETTERS : Con1 mg "MOST_LABEL_LETTERS" (.int 8) := ⟨_, PySem.W.mg_of X G q3, ⟨_, rfl⟩⟩
  have k_MOST_NAME_LETTERS : Con1 mg "MOST_NAME_LETTERS" (.int 6) := ⟨_, PySem.W.mg_of X G q4, ⟨_, rfl⟩⟩
  have k_MOST_SOURCES : Con1 mg "MOST_SOURCES" (.int 3) := ⟨_, PySem.W.mg_of X G q5, ⟨_, rfl⟩⟩
  have k_MOST_RULES : Con1 mg "MOST_RULES" (.int 6) := ⟨_, PySem.W.mg_of X G q6, ⟨_, rfl⟩⟩
  have k_MOST_FILES : Con1 mg "MOST_FILES" (.int 60) := ⟨_, PySem.W.mg_of X G q7, ⟨_, rfl⟩⟩
  have k_MOST_WAYS : Con1 mg "MOST_WAYS" (.int 300) := ⟨_, PySem.W.mg_of X G q8, ⟨_, rfl⟩⟩
  have e_NoBook : Err K mg "NoBook" C0 := ⟨PySem.W.mg_of X G ca0, cx0, ck0, cb0, ct0⟩
  have e_NoFiles : Err K mg "NoFiles" C1 := ⟨PySem.W.mg_of X G ca1, cx1, ck1, cb1, ct1⟩
  have e_NoName : Err K mg "NoName" C2 := ⟨PySem.W.mg_of X G ca2, cx2, ck2, cb2, ct2⟩
  have em0_0 := exm_of cb0 ci0 ct0 em0_0
  have em1_0 := exm_of cb0 ci0 ct0 em1_0
  have em1_1 := exm_of cb1 ci1 ct1 em1_1
  have em2_0 := exm_of cb0 ci0 ct0 em2_0
  have em2_1 := exm_of cb1 ci1 ct1 em2_1
  have em2_2 := exm_of cb2 ci2 ct2 em2_2
  have Z_Search : Kls K mg "Search" B0 := ⟨⟨bp0, bh0, bo0, bs0⟩, bm0, bk0, PySem.W.mg_of X G ba0⟩
  have n_Search_book : NoAttr K B0 "book" := bf0_0
  have n_Search_there : NoAttr K B0 "there" := bf0_1
  have n_Search_known : NoAttr K B0 "known" := bf0_2
  have m_Search_init : DefM K B0 "__init__" "Search.__init__" s_Search_init := ⟨_, _, fun_mk gl0_0 gc0_0 gk0_0, ⟨ga0_0, gi0_0, gk0_0⟩⟩
  have m_Search_told : DefM K B0 "told" "Search.told" s_Search_told := ⟨_, _, fun_mk gl0_1 gc0_1 gk0_1, ⟨ga0_1, gi0_1, gk0_1⟩⟩
  have m_Search_forget : DefM K B0 "forget" "Search.forget" s_Search_forget := ⟨_, _, fun_mk gl0_2 gc0_2 gk0_2, ⟨ga0_2, gi0_2, gk0_2⟩⟩
  have m_Search_first_right : DefM K B0 "first_right" "Search.first_right" s_Search_first_right := ⟨_, _, fun_mk gl0_3 gc0_3 gk0_3, ⟨ga0_3, gi0_3, gk0_3⟩⟩
  have m_Search_missing : DefM K B0 "missing" "Search.missing" s_Search_missing := ⟨_, _, fun_mk gl0_4 gc0_4 gk0_4, ⟨ga0_4, gi0_4, gk0_4⟩⟩
  have GB : Glb mg := ⟨z_int, z_abs, z_range, z_enumerate, z_len⟩
  have GC : Glc mg := ⟨z_isinstance, z_str, z_tuple, k_CAPITALS, k_SMALLS, k_MOST_END_LETTERS⟩
  have GA : Gla mg := ⟨z_tuple, z_sorted, z_set, z_len⟩
  have GK : Glk mg := ⟨z_all, k_MOST_LABEL_LETTERS, k_MOST_NAME_LETTERS, k_MOST_SOURCES, k_MOST_RULES⟩
  have c1 := cal_kneaded (P := l.prog) (w := w) (base := base) d_kneaded GB
  have c2 := cal_pot_of (P := l.prog) (w := w) (base := base) d_pot_of GB
  have c3 := cal_below d_below GB c1
  have c4 := cal_pick d_pick GB c3
  have c5 := cal_some_name d_some_name GB c3 c4
  have p1 := cal_p_is_name (P := l.prog) (w := w) (base := base) d_p_is_name GC
  have p2 := cal_p_is_end (P := l.prog) (w := w) (base := base) d_p_is_end GC GB
  have p3 := cal_p_is_pattern d_p_is_pattern GC GB p2
  have b1 := cal_p_is_label (P := l.prog) (w := w) (base := base) d_p_is_label GC GB GK
  have b2 := cal_p_is_rule_source d_p_is_rule_source GB GK p1 p3
  have b3 := cal_p_are_sources d_p_are_sources GC GB GK b2
  have b4 := cal_p_is_rule d_p_is_rule GC GB b1 p3 b3
  have b5 := cal_p_is_book d_p_is_book GC GB GK b4
  have s1 := cal_p_stem_within (P := l.prog) (w := w) (base := base) d_p_stem_within GB
  have s2 := cal_p_filled (P := l.prog) (w := w) (base := base) d_p_filled GC
  have a1 := cal_p_ascending (P := l.prog) (w := w) (base := base) d_p_ascending GA
  have e1 := cal_p_are_files d_p_are_files GC GB GK k_MOST_FILES p1 a1
  have f1 := cal_p_fitted d_p_fitted GB s1 s2
  have f2 := cal_onemore (P := l.prog) (w := w) (base := base) d_p_with_one_more GC z_sorted
  have cl : SCls K B0 := ⟨Z_Search.cl, n_Search_book, n_Search_there, n_Search_known⟩
  have t1 := told_all m_Search_told m_Search_first_right m_Search_missing cl z_all f1 f2
  have t2 := cal_init (P := l.prog) (w := w) (base := base) (mg := mg) m_Search_init cl
  have w1 := cal_whole (P := l.prog) (w := w) (base := base) d_whole
  have w2 := cal_some_source d_some_source c3 c4 w1
  have w3 := cal_some_rule d_some_rule GB z_tuple c3 c4 w1 w2
  have w4 := cal_some_book d_some_book GB z_tuple c3 w3
  have tm := PySem.W.mg_of X G tca
  have tx : OexC K TM := ⟨⟨_, _, _, _, _, _, _, _, _, _, _, _, _, _, _, tlk, trv⟩, tsa, tcb, tcy, tck⟩
  have tF := fun_mk (st := s_init1) tgl tgc tgk
  have ti := ini1 (P := l.prog) (w := w) (mg := mg) (base := base) tF tx tiC ttI tno tm
  have RE : Err32 K mg ⟨C0, C1, C2, C0, C0⟩ TM := ⟨e_NoBook, e_NoFiles, e_NoName, tm, ⟨teg, tea, tcb, thd⟩, tno⟩
  have XM : Exm32 K ⟨C0, C1, C2, C0, C0⟩ TM := ⟨em0_0, em1_0, em1_1, em2_0, em2_1, em2_2, exm_of cb0 ci0 ct0 tm_0, exm_of cb1 ci1 ct1 tm_1, exm_of cb2 ci2 ct2 tm_2, exm_of tcb tci tcy tm_t⟩
  have n1 := calx_need_book d_p_need_book RE.b b5
  have n2 := calx_need_files d_p_need_files RE.f e1
  have n3 := calx_need_name d_p_need_name RE.n p1
  have N : Nd l.prog w K mg base ⟨C0, C1, C2, C0, C0⟩ := ⟨n1, n2, n3⟩
  have n5 := calx_things32 d_p_need_things N
  have o1 := cal_p_one_begins (P := l.prog) (w := w) (base := base) d_p_one_begins
  have o2 := cal_p_one_ends (P := l.prog) (w := w) (base := base) d_p_one_ends
  have o3 := cal_p_ahead (P := l.prog) (w := w) (base := base) d_p_ahead GB z_max
  have o4 := cal_p_widened (P := l.prog) (w := w) (base := base) d_p_widened GC
  have o5 := cal_p_meeting d_p_meeting GB GC o1 o2 o3 o4 s1 s2
  have o6 := cal_p_together d_p_together GB GC z_max o1 o2 o3 o4
  have o7 := calx_need_few d_p_need_few GB k_MOST_WAYS ti
  have o8 := calx_joined d_p_joined o6 o7
  have o9 := open_allX d_p_open_ways d_p_choices GB o5 o7 o8
  have q1 := cal_p_stext (P := l.prog) (w := w) (base := base) d_p_source_text GC
  have q2 := cal_p_diff d_p_different GC z_sorted q1
  have q3 := cal_p_rtext d_p_row_text q1
  have q4 := cal_p_lies d_p_lies_under GB z_all o3 o4
  have q5 := calx_table d_p_table GB GC z_sorted n1 o9 q2 q3 q4
  have q6 := calx_rowfor d_p_row_for z_all n5 q5 s1 s2
  have q7 := cal_p_parted d_p_parted GB GC k_CAPITALS z_max a1 s2
  have q8 := calx_parting d_p_parting n1 q5 q4 q7
  have q9 := calx_lean d_p_lean GB GC z_list z_reversed q5
  have cm := cal_missing m_Search_missing cl (t1 7)
  have r1 := cal_p_behind d_p_rows_behind cl f1 f2 cm
  have r2 := calx_block d_p_block z_list Z_Search cl n5 t2 (t1 7) r1
  have r3 := calx_shows_block d_p_shows_block GC z_list n5
  have y1 := calx_do d_do q5 q9 q8 r3 q6 r2
  have y2 := calg_word d_word z_repr RE XM y1
  have y3 := calg_edge d_edge_right c3 y2
  exact fn_law (fun_mk l56 c56 k56) ⟨c2, c4, c5, w4, y2, y3⟩ GB ⟨z_list, z_tuple⟩
end Lk
open PySem PySem.W PyProof.Rows in
set_option maxRecDepth 100000 in
set_option maxHeartbeats 0 in
theorem PySem.Challenge.cw_stemrules_k36_tables_refused_holds : PySem.Challenge.rw_stemrules_k36_tables_refused.Holds := by
  w_on; o_law; k_head; (case hw => w_witness2)
  k_fill
  refine Lk.walkG (l := PySem.Challenge.rw_stemrules_k36_tables_refused) (k := 30) (x := "script") (CX := fun w => L2.CX0) (sp := fun w => Lk.spLaw _) rfl rfl ⟨rfl, by decide, by decide⟩ (fun w h Y => PySem.W.kIn_of Y) ?F (fun _ _ a ns hl _ hS => ⟨a, ns, rfl, hS, hl, fun _ => rfl⟩) (fun _ _ _ _ _ z => z)
  case F =>
    intro w mg fa h KX G hmg
    refine' Lk.all_mk KX G hmg ?a0 ?l0 ?c0 ?k0 ?a1 ?l1 ?c1 ?k1 ?a2 ?l2 ?c2 ?k2 ?a3 ?l3 ?c3 ?k3 ?a4 ?l4 ?c4 ?k4 ?a5 ?l5 ?c5 ?k5 ?a6 ?l6 ?c6 ?k6 ?a7 ?l7 ?c7 ?k7 ?a8 ?l8 ?c8 ?k8 ?a9 ?l9 ?c9 ?k9 ?a10 ?l10 ?c10 ?k10 ?a11 ?l11 ?c11 ?k11 ?a12 ?l12 ?c12 ?k12 ?a13 ?l13 ?c13 ?k13 ?a14 ?l14 ?c14 ?k14 ?a15 ?l15 ?c15 ?k15 ?a16 ?l16 ?c16 ?k16 ?a17 ?l17 ?c17 ?k17 ?a18 ?l18 ?c18 ?k18 ?a19 ?l19 ?c19 ?k19 ?a20 ?l20 ?c20 ?k20 ?a21 ?l21 ?c21 ?k21 ?a22 ?l22 ?c22 ?k22 ?a23 ?l23 ?c23 ?k23 ?a24 ?l24 ?c24 ?k24 ?a25 ?l25 ?c25 ?k25 ?a26 ?l26 ?c26 ?k26 ?a27 ?l27 ?c27 ?k27 ?a28 ?l28 ?c28 ?k28 ?a29 ?l29 ?c29 ?k29 ?a30 ?l30 ?c30 ?k30 ?a31 ?l31 ?c31 ?k31 ?a32 ?l32 ?c32 ?k32 ?a33 ?l33 ?c33 ?k33 ?a34 ?l34 ?c34 ?k34 ?a35 ?l35 ?c35 ?k35 ?a36 ?l36 ?c36 ?k36 ?a37 ?l37 ?c37 ?k37 ?a38 ?l38 ?c38 ?k38 ?a39 ?l39 ?c39 ?k39 ?a40 ?l40 ?c40 ?k40 ?a41 ?l41 ?c41 ?k41 ?a42 ?l42 ?c42 ?k42 ?a43 ?l43 ?c43 ?k43 ?a44 ?l44 ?c44 ?k44 ?a45 ?l45 ?c45 ?k45 ?a46 ?l46 ?c46 ?k46 ?a47 ?l47 ?c47 ?k47 ?a48 ?l48 ?c48 ?k48 ?a49 ?l49 ?c49 ?k49 ?a50 ?l50 ?c50 ?k50 ?a51 ?l51 ?c51 ?k51 ?a52 ?l52 ?c52 ?k52 ?a53 ?l53 ?c53 ?k53 ?a54 ?l54 ?c54 ?k54 ?a55 ?l55 ?c55 ?k55 ?a56 ?l56 ?c56 ?k56 ?z0 ?z1 ?z2 ?z3 ?z4 ?z5 ?z6 ?z7 ?z8 ?z9 ?z10 ?z11 ?z12 ?z13 ?z14 ?q0 ?q1 ?q2 ?q3 ?q4 ?q5 ?q6 ?q7 ?q8 ?ca0 ?cx0 ?ck0 ?cb0 ?ct0 ?ci0 ?ca1 ?cx1 ?ck1 ?cb1 ?ct1 ?ci1 ?ca2 ?cx2 ?ck2 ?cb2 ?ct2 ?ci2 ?ba0 ?bp0 ?bh0 ?bo0 ?bs0 ?bm0 ?bk0 ?bf0_0 ?bf0_1 ?bf0_2 ?ga0_0 ?gi0_0 ?gl0_0 ?gc0_0 ?gk0_0 ?ga0_1 ?gi0_1 ?gl0_1 ?gc0_1 ?gk0_1 ?ga0_2 ?gi0_2 ?gl0_2 ?gc0_2 ?gk0_2 ?ga0_3 ?gi0_3 ?gl0_3 ?gc0_3 ?gk0_3 ?ga0_4 ?gi0_4 ?gl0_4 ?gc0_4 ?gk0_4 ?em0_0 ?em1_0 ?em1_1 ?em2_0 ?em2_1 ?em2_2 ?tca ?tck ?tcb ?tcy ?tci ?teg ?tea ?tlk ?trv ?tsa ?tiC ?ttI ?tgl ?tgc ?tgk ?thd ?tno ?tm_0 ?tm_1 ?tm_2 ?tm_t
    (case a0 => k_is)
    (case l0 => k_is)
    (case c0 => k_is)
    (case k0 => k_is)
    (case a1 => k_is)
    (case l1 => k_is)
    (case c1 => k_is)
    (case k1 => k_is)
    (case a2 => k_is)
    (case l2 => k_is)
    (case c2 => k_is)
    (case k2 => k_is)
    (case a3 => k_is)
    (case l3 => k_is)
    (case c3 => k_is)
    (case k3 => k_is)
    (case a4 => k_is)
    (case l4 => k_is)
    (case c4 => k_is)
    (case k4 => k_is)
    (case a5 => k_is)
    (case l5 => k_is)
    (case c5 => k_is)
    (case k5 => k_is)
    (case a6 => k_is)
    (case l6 => k_is)
    (case c6 => k_is)
    (case k6 => k_is)
    (case a7 => k_is)
    (case l7 => k_is)
    (case c7 => k_is)
    (case k7 => k_is)
    (case a8 => k_is)
    (case l8 => k_is)
    (case c8 => k_is)
    (case k8 => k_is)
    (case a9 => k_is)
    (case l9 => k_is)
    (case c9 => k_is)
    (case k9 => k_is)
    (case a10 => k_is)
    (case l10 => k_is)
    (case c10 => k_is)
    (case k10 => k_is)
    (case a11 => k_is)
    (case l11 => k_is)
    (case c11 => k_is)
    (case k11 => k_is)
    (case a12 => k_is)
    (case l12 => k_is)
    (case c12 => k_is)
    (case k12 => k_is)
    (case a13 => k_is)
    (case l13 => k_is)
    (case c13 => k_is)
    (case k13 => k_is)
    (case a14 => k_is)
    (case l14 => k_is)
    (case c14 => k_is)
    (case k14 => k_is)
    (case a15 => k_is)
    (case l15 => k_is)
    (case c15 => k_is)
    (case k15 => k_is)
    (case a16 => k_is)
    (case l16 => k_is)
    (case c16 => k_is)
    (case k16 => k_is)
    (case a17 => k_is)
    (case l17 => k_is)
    (case c17 => k_is)
    (case k17 => k_is)
    (case a18 => k_is)
    (case l18 => k_is)
    (case c18 => k_is)
    (case k18 => k_is)
    (case a19 => k_is)
    (case l19 => k_is)
    (case c19 => k_is)
    (case k19 => k_is)
    (case a20 => k_is)
    (case l20 => k_is)
    (case c20 => k_is)
    (case k20 => k_is)
    (case a21 => k_is)
    (case l21 => k_is)
    (case c21 => k_is)
    (case k21 => k_is)
    (case a22 => k_is)
    (case l22 => k_is)
    (case c22 => k_is)
    (case k22 => k_is)
    (case a23 => k_is)
    (case l23 => k_is)
    (case c23 => k_is)
    (case k23 => k_is)
    (case a24 => k_is)
    (case l24 => k_is)
    (case c24 => k_is)
    (case k24 => k_is)
    (case a25 => k_is)
    (case l25 => k_is)
    (case c25 => k_is)
    (case k25 => k_is)
    (case a26 => k_is)
    (case l26 => k_is)
    (case c26 => k_is)
    (case k26 => k_is)
    (case a27 => k_is)
    (case l27 => k_is)
    (case c27 => k_is)
    (case k27 => k_is)
    (case a28 => k_is)
    (case l28 => k_is)
    (case c28 => k_is)
    (case k28 => k_is)
    (case a29 => k_is)
    (case l29 => k_is)
    (case c29 => k_is)
    (case k29 => k_is)
    (case a30 => k_is)
    (case l30 => k_is)
    (case c30 => k_is)
    (case k30 => k_is)
    (case a31 => k_is)
    (case l31 => k_is)
    (case c31 => k_is)
    (case k31 => k_is)
    (case a32 => k_is)
    (case l32 => k_is)
    (case c32 => k_is)
    (case k32 => k_is)
    (case a33 => k_is)
    (case l33 => k_is)
    (case c33 => k_is)
    (case k33 => k_is)
    (case a34 => k_is)
    (case l34 => k_is)
    (case c34 => k_is)
    (case k34 => k_is)
    (case a35 => k_is)
    (case l35 => k_is)
    (case c35 => k_is)
    (case k35 => k_is)
    (case a36 => k_is)
    (case l36 => k_is)
    (case c36 => k_is)
    (case k36 => k_is)
    (case a37 => k_is)
    (case l37 => k_is)
    (case c37 => k_is)
    (case k37 => k_is)
    (case a38 => k_is)
    (case l38 => k_is)
    (case c38 => k_is)
    (case k38 => k_is)
    (case a39 => k_is)
    (case l39 => k_is)
    (case c39 => k_is)
    (case k39 => k_is)
    (case a40 => k_is)
    (case l40 => k_is)
    (case c40 => k_is)
    (case k40 => k_is)
    (case a41 => k_is)
    (case l41 => k_is)
    (case c41 => k_is)
    (case k41 => k_is)
    (case a42 => k_is)
    (case l42 => k_is)
    (case c42 => k_is)
    (case k42 => k_is)
    (case a43 => k_is)
    (case l43 => k_is)
    (case c43 => k_is)
    (case k43 => k_is)
    (case a44 => k_is)
    (case l44 => k_is)
    (case c44 => k_is)
    (case k44 => k_is)
    (case a45 => k_is)
    (case l45 => k_is)
    (case c45 => k_is)
    (case k45 => k_is)
    (case a46 => k_is)
    (case l46 => k_is)
    (case c46 => k_is)
    (case k46 => k_is)
    (case a47 => k_is)
    (case l47 => k_is)
    (case c47 => k_is)
    (case k47 => k_is)
    (case a48 => k_is)
    (case l48 => k_is)
    (case c48 => k_is)
    (case k48 => k_is)
    (case a49 => k_is)
    (case l49 => k_is)
    (case c49 => k_is)
    (case k49 => k_is)
    (case a50 => k_is)
    (case l50 => k_is)
    (case c50 => k_is)
    (case k50 => k_is)
    (case a51 => k_is)
    (case l51 => k_is)
    (case c51 => k_is)
    (case k51 => k_is)
    (case a52 => k_is)
    (case l52 => k_is)
    (case c52 => k_is)
    (case k52 => k_is)
    (case a53 => k_is)
    (case l53 => k_is)
    (case c53 => k_is)
    (case k53 => k_is)
    (case a54 => k_is)
    (case l54 => k_is)
    (case c54 => k_is)
    (case k54 => k_is)
    (case a55 => k_is)
    (case l55 => k_is)
    (case c55 => k_is)
    (case k55 => k_is)
    (case a56 => k_is)
    (case l56 => k_is)
    (case c56 => k_is)
    (case k56 => k_is)
    (case z0 => k_is)
    (case z1 => k_is)
    (case z2 => k_is)
    (case z3 => k_is)
    (case z4 => k_is)
    (case z5 => k_is)
    (case z6 => k_is)
    (case z7 => k_is)
    (case z8 => k_is)
    (case z9 => k_is)
    (case z10 => k_is)
    (case z11 => k_is)
    (case z12 => k_is)
    (case z13 => k_is)
    (case z14 => k_is)
    (case q0 => k_is)
    (case q1 => k_is)
    (case q2 => k_is)
    (case q3 => k_is)
    (case q4 => k_is)
    (case q5 => k_is)
    (case q6 => k_is)
    (case q7 => k_is)
    (case q8 => k_is)
    (case ca0 => k_is)
    (case cx0 => k_exc)
    (case ck0 => k_is)
    (case cb0 => k_is)
    (case ct0 => k_is)
    (case ci0 => k_is)
    (case ca1 => k_is)
    (case cx1 => k_exc)
    (case ck1 => k_is)
    (case cb1 => k_is)
    (case ct1 => k_is)
    (case ci1 => k_is)
    (case ca2 => k_is)
    (case cx2 => k_exc)
    (case ck2 => k_is)
    (case cb2 => k_is)
    (case ct2 => k_is)
    (case ci2 => k_is)
    (case ba0 => k_is)
    (case bp0 => k_is)
    (case bh0 => k_is)
    (case bo0 => k_is)
    (case bs0 => k_is)
    (case bm0 => k_is)
    (case bk0 => k_is)
    (case bf0_0 => k_is)
    (case bf0_1 => k_is)
    (case bf0_2 => k_is)
    (case ga0_0 => k_is)
    (case gi0_0 => k_is)
    (case gl0_0 => k_is)
    (case gc0_0 => k_is)
    (case gk0_0 => k_is)
    (case ga0_1 => k_is)
    (case gi0_1 => k_is)
    (case gl0_1 => k_is)
    (case gc0_1 => k_is)
    (case gk0_1 => k_is)
    (case ga0_2 => k_is)
    (case gi0_2 => k_is)
    (case gl0_2 => k_is)
    (case gc0_2 => k_is)
    (case gk0_2 => k_is)
    (case ga0_3 => k_is)
    (case gi0_3 => k_is)
    (case gl0_3 => k_is)
    (case gc0_3 => k_is)
    (case gk0_3 => k_is)
    (case ga0_4 => k_is)
    (case gi0_4 => k_is)
    (case gl0_4 => k_is)
    (case gc0_4 => k_is)
    (case gk0_4 => k_is)
    (case em0_0 => first | rfl | k_is)
    (case em1_0 => first | rfl | k_is)
    (case em1_1 => first | rfl | k_is)
    (case em2_0 => first | rfl | k_is)
    (case em2_1 => first | rfl | k_is)
    (case em2_2 => first | rfl | k_is)
    (case tca => k_is)
    (case tck => k_is)
    (case tcb => k_is)
    (case tcy => k_is)
    (case tci => k_is)
    (case teg => k_is)
    (case tea => k_is)
    (case tlk => k_is)
    (case trv => first | rfl | decide)
    (case tsa => k_is)
    (case tiC => k_is)
    (case ttI => k_is)
    (case tgl => k_is)
    (case tgc => k_is)
    (case tgk => k_is)
    (case thd => k_is)
    (case tno => k_is)
    (case tm_0 => first | rfl | k_is)
    (case tm_1 => first | rfl | k_is)
    (case tm_2 => first | rfl | k_is)
    (case tm_t => first | rfl | k_is)
