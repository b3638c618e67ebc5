import PyProof.Rows.All
import Wide.All
import OpenK.AllK
import Wide.FinOn
import HandS.Base
import HandS.Call
import HandS.List
import HandS.Comp
import HandS.Ends
import HandS.Dict
import HandS.Iter
import HandS.Text
import HandS.Words
import HandS.WordsList
import PyProof.ReprRoads
import PyProof.ReprBulk
import PyProof.Rows.StrBoot
import HandS.IsInst
import HandS.StrMore
import HandS.Style
import PyProof.StrOps2
import HandS.Exc
import HandS.ExcOwn
import HandS.WordsExc
import PyProof.NeKinds
import HandS.Set
import HandS.Strs
import KE.SortData
import HandS.SetFor
import KE.SortKeyHeap
import HandS.SortKw
import PyProof.StrLaws
import HandS.Walk
import KE.GoesEnum
import HandS.More
import PyProof.DictUpdate
import HandS.TupSets
import KE.KDictKeyed
import HandS.TupAny
import HandS.TupMul
import HandS.ListEq
import KE.KeyNested
import PyProof.Rows.TupTab
import HandS.CallRecv
import HandS.Star
import HandS.DictComp
import HandS.Conv
import HandS.TupLen
import HandS.Deep
import HandS.Zip
import PySem.Challenge.RW_stemrules_k22_whole_ways_or_blocks
/-! Pot0 -/
set_option Elab.async false
set_option maxRecDepth 100000
set_option maxHeartbeats 4000000
namespace Lk
open PySem PySem.Spec PyProof.Rows L2

/-- a def of the module, as it stands behind the top -/
structure Def1 (K : PySem.W.Frag) (mg : Str → Option Value) (x : String) (st : Stmt) : Prop where
  ex : ∃ (f : Addr) (fd : FuncData), L2.Fun K x x st f fd ∧ mg x = some (.ref f)
/-- a def that may be called by its name, with its promise -/
structure Cal (P : Program) (w : World) (K : PySem.W.Frag) (mg : Str → Option Value) (base : Heap) (k : Nat) (x : String) (sp : Sp) : Prop where
  ex : ∃ (f : Addr) (fd : FuncData) (ps : List Str), FnOk P w K mg base CX0 k f fd ps sp ∧ mg x = some (.ref f) ∧ PySem.W.keepIn K (.ref f) = true ∧ Binds K fd ps []
section
variable {P : Program} {w : World} {K : PySem.W.Frag} {mg : Str → Option Value} {base : Heap}
theorem mkCal {x : String} {st : Stmt} {N ps : List Str} {k : Nat} {sp : Sp} (D : Def1 K mg x st) (S : FnScope N ps (defScope st))
    (hb : ∀ (kV doc pm : Value) (an : Option Addr) (cdv ct : Value) (us : List Value), us.length = ps.length → bindArgs (PySem.W.fnOf x x (defArgs st) (defBody st) (defScope st) .none kV doc pm an cdv ct) ⟨us, []⟩ = pure (ps.zip us))
    (len : ∀ vs H Q E, sp vs H Q E → vs.length = ps.length)
    (hbody : ∀ (f : Addr) (cdv : Value) (A : Around) (outer : List Env) (s : Shared) (H : Hp) (vs : List V) (Q : VK) (E : XK), Room k (A.deeper (envOfC x (defScope st) s.heap.objs.size f cdv)) → sp vs H Q E →
      ∃ t, PSs (cxOf CX0 P w K mg base N x (defScope st) f cdv A outer s H E).nox (defBody st) t ∧ t { nx := fun _ H' => Q .non H', rt := Q } (start N vs) H) : Cal P w K mg base (k + 1) x sp := by
  obtain ⟨f, fd, F, m⟩ := D.ex
  exact ⟨f, fd, ps, F.ok S len fun cdv A outer s H vs Q E hr h => hbody f cdv A outer s H vs Q E hr h, m, F.kp, F.binds hb⟩
theorem Cal.imp {x : String} {k : Nat} {sp sp' : Sp} (c : Cal P w K mg base k x sp) (h : ∀ vs H Q E, sp' vs H Q E → sp vs H Q E) : Cal P w K mg base k x sp' := by
  obtain ⟨f, fd, ps, F, a, b, d⟩ := c.ex
  exact ⟨f, fd, ps, F.imp h, a, b, d⟩
end
section
variable {X : Cx} {k j : Nat} {x : String} {sp : Sp} {p pos : Pos} {e : Expr} {es : List Expr} {t : TA}
theorem pe_cal (c : Cal X.prog X.w X.K X.mg X.base k x sp) (hr : Room j X.A) (hk : k ≤ j) (ha : PA X (e :: es) t) (hg : Gl X x := by rfl)
    (hdb : ((x : Str) == ("__debug__" : Str)) = false := by decide) (he : starEach (e :: es) X.env = (false, eval e X.env) :: starEach es X.env := by rfl) (hpl : (backTo pos (starEach es X.env)).any (·.1) = false := by rfl) :
    PE X (.Call (.Name x p) (e :: es) [] pos) (tCall sp [] E0 t) := by
  obtain ⟨f, fd, ps, F, m, kp, b⟩ := c.ex
  exact pe_call F (hr.mono hk) hg m kp b .nil pass0 ha hdb he hpl
end

/-! ### heaps -/
theorem same_upd {H : Hp} {p : Addr} {o : HO} (h : H p = none) : Same H (upd H p o) := fun b x e => by
  rw [upd_ne (ne_of_none e h)]
  exact e
theorem same_mut {H0 H : Hp} {p : Addr} {o : HO} (s : Same H0 H) (h : H0 p = none) : Same H0 (upd H p o) := fun b x e => by
  rw [upd_ne (ne_of_none e h)]
  exact s b x e
theorem Same.seqT {K : PySem.W.Frag} {H H' : Hp} {a : Addr} {xs : List V} (e : Same H H') (h : SqT K H a xs) : SqT K H' a xs := by
  rcases h with (h | ⟨o, h⟩) | h
  · exact .inl (.inl (e _ _ h))
  · exact .inl (.inr ⟨o, e _ _ h⟩)
  · exact .inr h
/-- all but p stands as it was -/
def But (p : Addr) (H H' : Hp) : Prop := ∀ q o, H q = some o → q ≠ p → H' q = some o
/-- a pot: [cells, place, amount, room] -/
def PotAt (p c : Addr) (H : Hp) : Prop := p ≠ c ∧ (∃ i a b : Int, H p = some (.lst [.ref c, .int i, .int a, .int b])) ∧ ∃ ns : List Int, H c = some (.lst (ns.map V.int)) ∧ ns.length ≤ 17
structure Ext (p c : Addr) (H H' : Hp) : Prop where
  keep : But p H H'
  pot : PotAt p c H'
theorem PotAt.same {p c : Addr} {H H' : Hp} (h : PotAt p c H) (s : Same H H') : PotAt p c H' := by
  obtain ⟨n, ⟨i, a, b, e⟩, ns, e2, l⟩ := h
  exact ⟨n, ⟨i, a, b, s _ _ e⟩, ns, s _ _ e2, l⟩
theorem PotAt.ref {p c : Addr} {H : Hp} (h : PotAt p c H) : Ext p c H H := ⟨fun _ _ e _ => e, h⟩
theorem Ext.trans {p c : Addr} {H H1 H2 : Hp} (a : Ext p c H H1) (b : Ext p c H1 H2) : Ext p c H H2 := ⟨fun q o e n => b.keep q o (a.keep q o e n) n, b.pot⟩
theorem Ext.same {p c : Addr} {H H1 H2 : Hp} (a : Ext p c H H1) (b : Same H1 H2) : Ext p c H H2 := ⟨fun q o e n => b q o (a.keep q o e n), a.pot.same b⟩
theorem Ext.pre {p c : Addr} {H H1 H2 : Hp} (a : Same H H1) (b : Ext p c H1 H2) : Ext p c H H2 := ⟨fun q o e n => b.keep q o (a q o e) n, b.pot⟩
theorem PotAt.nep {p c q : Addr} {H : Hp} (h : PotAt p c H) (e : H q = none) : q ≠ p := by
  obtain ⟨n, ⟨i, a, b, e1⟩, _⟩ := h
  exact fun z => by
    rw [z, e1] at e
    cases e
theorem PotAt.nec {p c q : Addr} {H : Hp} (h : PotAt p c H) (e : H q = none) : q ≠ c := by
  obtain ⟨n, _, ns, e1, _⟩ := h
  exact fun z => by
    rw [z, e1] at e
    cases e
theorem Ext.new {p c q : Addr} {H H1 : Hp} {o : HO} (a : Ext p c H H1) (h : H1 q = none) : Ext p c H (upd H1 q o) := a.same (same_upd h)
/-- an object that H does not know may change -/
theorem Ext.mut {p c q : Addr} {H H1 : Hp} {o : HO} (h0 : PotAt p c H) (a : Ext p c H H1) (h : H q = none) : Ext p c H (upd H1 q o) := by
  have n1 := h0.nep h
  have n2 := h0.nec h
  obtain ⟨n, ⟨i, x, b, e⟩, ns, e2, l⟩ := a.pot
  exact ⟨fun r u er nr => by
    rw [upd_ne (ne_of_none er h)]
    exact a.keep r u er nr, n, ⟨i, x, b, by rw [upd_ne n1.symm]; exact e⟩, ns, by rw [upd_ne n2.symm]; exact e2, l⟩
theorem Ext.get {p c q : Addr} {H H1 : Hp} {o : HO} (a : Ext p c H H1) (h : H q = some o) (n : q ≠ p) : H1 q = some o := a.keep q o h n
theorem Ext.free {p c q : Addr} {H H1 : Hp} (a : Ext p c H H1) (h : H1 q = none) : H q = none := by
  cases e : H q with
  | none => rfl
  | some o =>
    by_cases n : q = p
    · obtain ⟨_, ⟨i, x, b, e1⟩, _⟩ := a.pot
      rw [n, e1] at h
      cases h
    · rw [a.keep q o e n] at h
      cases h
theorem Ext.seq {K : PySem.W.Frag} {p c l : Addr} {H H1 : Hp} {xs : List V} (a : Ext p c H H1) (n : l ≠ p) (h : SqL K H l xs) : SqL K H1 l xs := by
  rcases h with (h | ⟨o, h⟩) | h
  · exact .inl (.inl (a.keep _ _ h n))
  · exact .inl (.inr ⟨o, a.keep _ _ h n⟩)
  · exact .inr h
theorem Ext.seqT {K : PySem.W.Frag} {p c l : Addr} {H H1 : Hp} {xs : List V} (a : Ext p c H H1) (n : l ≠ p) (h : SqT K H l xs) : SqT K H1 l xs := by
  rcases h with (h | ⟨o, h⟩) | h
  · exact .inl (.inl (a.keep _ _ h n))
  · exact .inl (.inr ⟨o, a.keep _ _ h n⟩)
  · exact .inr h
/-- what of the built-ins' names the module leaves alone -/
structure Glb (mg : Str → Option Value) : Prop where
  int : mg "int" = none
  abs : mg "abs" = none
  range : mg "range" = none
  enumerate : mg "enumerate" = none
  len : mg "len" = none

/-! ### mathematics of the slices -/
theorem sIx_some {n d : Nat} {i : Int} (h : 0 ≤ i) : HT.sIx n d (some i) = min i.toNat n := by
  show (if i < 0 then (i + (n : Int)).toNat else min i.toNat n) = _
  rw [if_neg (by omega)]
theorem cut_to {xs : List V} {i : Int} (h : 0 ≤ i) : cutV xs none (some i) = xs.take i.toNat := by
  unfold cutV
  rw [HT.sIx_none, sIx_some h, List.drop_zero, Nat.sub_zero, Nat.min_comm]
  exact List.take_eq_take_iff.mpr (by omega)
theorem cut_from_to {xs : List V} {i j : Int} (h : 0 ≤ i) (h2 : i ≤ j) : cutV xs (some i) (some j) = (xs.drop i.toNat).take (j.toNat - i.toNat) := by
  unfold cutV
  rw [sIx_some h, sIx_some (by omega)]
  by_cases hi : i.toNat ≤ xs.length
  · rw [Nat.min_eq_left hi]
    refine List.take_eq_take_iff.mpr ?_
    rw [List.length_drop]
    omega
  · have e1 : xs.drop (min i.toNat xs.length) = [] := List.drop_eq_nil_of_le (by omega)
    have e2 : xs.drop i.toNat = [] := List.drop_eq_nil_of_le (by omega)
    rw [e1, e2, List.take_nil, List.take_nil]
/-! ### texts by their signs -/
theorem joinL_nil : ∀ l : List (List Nat), TL.joinL [] l = l.flatten
  | [] => rfl
  | [p] => by simp [TL.joinL]
  | p :: q :: r => by
    show p ++ ([] ++ TL.joinL [] (q :: r)) = _
    rw [joinL_nil (q :: r)]
    simp
theorem tl_join0 {x : Str} (hx : TL.tl x = []) (ys : List Str) : TL.tl (Txt.join x ys) = (ys.map TL.tl).flatten := by
  rw [TL.join_eq, TL.tl_join, hx, joinL_nil]
theorem sum_len_le {k : Nat} : ∀ {ys : List Str}, (∀ y ∈ ys, y.length ≤ k) → (ys.map (·.length)).sum ≤ ys.length * k
  | [], _ => Nat.zero_le _
  | y :: r, h => by
    rw [List.map_cons, List.sum_cons, List.length_cons, Nat.succ_mul]
    have h1 := h y List.mem_cons_self
    have h2 := sum_len_le (ys := r) fun z hz => h z (List.mem_cons_of_mem _ hz)
    omega
theorem flat_all {P : Nat → Prop} {ys : List Str} (h : ∀ y ∈ ys, ∀ c ∈ TL.tl y, P c) : ∀ c ∈ (ys.map TL.tl).flatten, P c := by
  intro c hc
  obtain ⟨l, hl, hc⟩ := List.mem_flatten.mp hc
  obtain ⟨y, hy, rfl⟩ := List.mem_map.mp hl
  exact h y hy c hc
theorem flat_len {k : Nat} {ys : List Str} (h : ∀ y ∈ ys, (TL.tl y).length ≤ k) : ((ys.map TL.tl).flatten).length ≤ ys.length * k := by
  induction ys with
  | nil => exact Nat.zero_le _
  | cons y r ih =>
    rw [List.map_cons, List.flatten_cons, List.length_append, List.length_cons, Nat.succ_mul]
    have h1 := h y List.mem_cons_self
    have h2 := ih fun z hz => h z (List.mem_cons_of_mem _ hz)
    omega
def Up (c : Nat) : Prop := 65 ≤ c ∧ c ≤ 90
def Lo (c : Nat) : Prop := 97 ≤ c ∧ c ≤ 122
instance (c : Nat) : Decidable (Up c) := by unfold Up; exact inferInstance
instance (c : Nat) : Decidable (Lo c) := by unfold Lo; exact inferInstance
/-- a drawn name: its head, its tail -/
structure Nm (z : Str) (h t : List Nat) : Prop where
  e : TL.tl z = h ++ t
  up : ∀ c ∈ h, Up c
  lo : ∀ c ∈ t, Lo c
  ne : h ++ t ≠ []
  lh : h.length ≤ 3
  lt : t.length ≤ 3

/-- the reading of a store, in one step -/
theorem set_read {te : TE} {g : TG} {t : TS} {D : Ends} {σ : L2.St} {H : Hp} (h : te σ H fun x H1 => g x σ H1 (t D)) : tSeq (tAsg te g) t D σ H := h

/-! ### places, loops over pairs -/
theorem ixN_lt {n : Nat} {k : Int} (h0 : 0 ≤ k) (h1 : k < n) : ixN n k = some k.toNat := by
  unfold ixN
  rw [if_pos h0, if_pos h1]
theorem atI_lt {α : Type} {xs : List α} {k : Int} (h0 : 0 ≤ k) (h1 : k < xs.length) : ∃ v, atI xs k = some v ∧ xs[k.toNat]? = some v := by
  have hk : k.toNat < xs.length := by omega
  refine ⟨xs[k.toNat], ?_, List.getElem?_eq_getElem hk⟩
  unfold atI
  rw [ixN_lt h0 h1]
  exact List.getElem?_eq_getElem hk
theorem atI_ints {ns : List Int} {k : Int} (h0 : 0 ≤ k) (h1 : k < ns.length) : ∃ z : Int, atI (ns.map V.int) k = some (.int z) := by
  obtain ⟨v, e, g⟩ := atI_lt (xs := ns.map V.int) h0 (by rw [List.length_map]; exact h1)
  rw [List.getElem?_map] at g
  cases q : ns[k.toNat]? with
  | none =>
    rw [q] at g
    cases g
  | some z =>
    rw [q] at g
    cases g
    exact ⟨z, e⟩
theorem map_item {ns : List Int} {i : Nat} {x : V} (h : (ns.map V.int)[i]? = some x) : ∃ z, x = .int z ∧ ns[i]? = some z := by
  rw [List.getElem?_map] at h
  cases q : ns[i]? with
  | none =>
    rw [q] at h
    cases h
  | some z =>
    rw [q] at h
    cases h
    exact ⟨z, rfl, rfl⟩
/-- for i, x in enumerate(xs), xs a list that the body leaves as it is -/
theorem for_enum {K : PySem.W.Frag} {a : Addr} {xs : List V} {g : TG} {tb : TS} {D : Ends} {σ : L2.St} {H : Hp} (Pv : Nat → L2.St → Hp → Prop) (h0 : Pv 0 σ H) (hl : ∀ i σ H, Pv i σ H → SqL K H a xs)
    (hs : ∀ (i : Nat) (x : V) (σ : L2.St) (H : Hp) (T : Addr), xs[i]? = some x → H T = none → Pv i σ H → g (.ref T) σ (upd H T (.tup [.int (i : Int), x])) fun σ2 H2 => tb { D with nx := Pv (i + 1), ct := Pv (i + 1), bk := D.nx } σ2 H2)
    (hd : ∀ σ H, Pv xs.length σ H → D.nx σ H) :
    ∃ W : Nat → Nat → L2.St → Hp → Prop, (∃ m, W 0 m σ H) ∧ ∀ i m σ H, W i m σ H →
      ((Ite K a).stop i H ∧ D.nx σ H) ∨ ((Ite K a).go i H ∧ ∃ N : L2.St → Hp → Prop, (∀ σ' H', N σ' H' → ∃ m', m' < m ∧ W (i + 1) m' σ' H') ∧ ∀ x H', (Ite K a).yld i H x H' → g x σ H' fun σ2 H2 => tb { D with nx := N, ct := N, bk := D.nx } σ2 H2) := by
  refine ⟨fun i m σ H => i + m = xs.length ∧ Pv i σ H, ⟨xs.length, Nat.zero_add _, h0⟩, ?_⟩
  rintro i m σ H ⟨em, p⟩
  have q := hl i σ H p
  cases m with
  | zero =>
    have e : i = xs.length := em
    subst e
    exact .inl ⟨⟨xs, q, Nat.le_refl _⟩, hd σ H p⟩
  | succ m =>
    have hi : i < xs.length := by omega
    refine .inr ⟨⟨xs, xs[i], q, List.getElem?_eq_getElem hi⟩, Pv (i + 1), fun σ' H' p' => ⟨m, Nat.lt_succ_self m, by omega, p'⟩, fun v H' y => ?_⟩
    obtain ⟨T, x, rfl, nT, rfl, f⟩ := y
    exact hs i x σ H T (f xs q) nT p

/-! ### the promises of the law's own helpers -/
def spKneaded : Sp := fun vs H Q _ => ∃ s l : Int, vs = [.int s, .int l] ∧ ∀ r : Int, Q (.int r) H
def spPotOf (K : PySem.W.Frag) : Sp := fun vs H Q _ => ∃ (a : Addr) (ns : List Int), vs = [.ref a] ∧ SqL K H a (ns.map V.int) ∧ ns.length ≤ 63 ∧ ∀ (p c : Addr) (H' : Hp), Same H H' → H p = none → PotAt p c H' → Q (.ref p) H'
def spBelow : Sp := fun vs H Q _ => ∃ (p c : Addr) (n : Int), vs = [.ref p, .int n] ∧ PotAt p c H ∧ 0 < n ∧ n < 1073741824 ∧ ∀ (r : Int) (H' : Hp), 0 ≤ r → r < n → Ext p c H H' → Q (.int r) H'
def spPick (K : PySem.W.Frag) : Sp := fun vs H Q _ => ∃ (p c l : Addr) (xs : List V), vs = [.ref p, .ref l] ∧ PotAt p c H ∧ SqL K H l xs ∧ l ≠ p ∧ 0 < xs.length ∧ xs.length ≤ 1000 ∧ ∀ (v : V) (H' : Hp), v ∈ xs → Ext p c H H' → Q v H'
def spName : Sp := fun vs H Q _ => ∃ (p c : Addr), vs = [.ref p] ∧ PotAt p c H ∧ ∀ (z : Str) (h t : List Nat) (H' : Hp), Nm z h t → Ext p c H H' → Q (.str z) H'
theorem pot_put {p c : Addr} {H H1 : Hp} {i a b : Int} (_h0 : PotAt p c H) (e : Ext p c H H1) : Ext p c H (upd H1 p (.lst [.ref c, .int i, .int a, .int b])) := by
  obtain ⟨n, _, ns, e2, l⟩ := e.pot
  exact ⟨fun q o eq nq => by
    rw [upd_ne nq]
    exact e.keep q o eq nq, n, ⟨i, a, b, upd_same⟩, ns, by rw [upd_ne n.symm]; exact e2, l⟩
theorem eqv_ints_nil (ns : List Int) : PyData.eqv (.list (ns.map PyData.int)) (.list []) = decide (ns = []) := by
  cases ns with
  | nil => rfl
  | cons x r =>
    rw [decide_eq_false (by simp)]
    rfl
theorem dp_ints {K : PySem.W.Frag} {H : Hp} : ∀ ns : List Int, DpAll K H (ns.map V.int) (ns.map PyData.int)
  | [] => .nil
  | x :: r => .cons (.int x) (dp_ints r)
theorem shaped_ints (ns : List Int) : SeqAt.shaped (.list (ns.map PyData.int)) = true := by
  have h1 : ∀ l : List Int, PyData.canLayAll0 (l.map PyData.int) = true := fun l => by
    induction l with
    | nil => rfl
    | cons x r ih => simpa [PyData.canLayAll0, PyData.canLay0] using ih
  have h2 : ∀ l : List Int, PyData.depthAll (l.map PyData.int) = 0 := fun l => by
    induction l with
    | nil => rfl
    | cons x r ih => simpa [PyData.depthAll, PyData.depth] using ih
  unfold SeqAt.shaped
  simp [PyData.canLay0, PyData.depth, h1, h2]

/-- ''.join([pick(pot, letters) for lap in range(below(pot, n))]) -/
theorem word_read {K : PySem.W.Frag} {p c : Addr} {σ : L2.St} {H : Hp} {n : Int} {iv : Nat} {letters : List Str} {tl : TA} {Q : VK} (hL : ∀ (σ : L2.St) (H : Hp) (Q : List V → Hp → Prop), Q (letters.map V.str) H → tl σ H Q) (hne : 0 < letters.length) (hle : letters.length ≤ 1000)
    (h1 : ∀ y ∈ letters, (TL.tl y).length ≤ 1) (hσ : σ[0]? = some (some (.ref p))) (hσ2 : ∀ v : Option V, ((wipe σ [iv]).set iv v)[0]? = some (some (.ref p))) (hw : ∀ v : Option V, wipe ((wipe σ [iv]).set iv v) [iv] = wipe σ [iv])
    (hP : PotAt p c H) (hn : 0 < n) (hn2 : n ≤ 1000) (k : ∀ (ys : List Str) (H' : Hp), (∀ y ∈ ys, y ∈ letters) → (ys.length : Int) < n → Ext p c H H' → Q (.str (Txt.join "" ys)) H') :
    tM1 (fun x xs H Q => ∃ a p, ∃ ys : List Str, x = .str a ∧ xs = [.ref p] ∧ (SqL K H p (ys.map V.str) ∨ SqT K H p (ys.map V.str)) ∧ (ys.map (·.length)).sum + ys.length * a.length ≤ 16777216 ∧ Q (.str (Txt.join a ys)) H)
      (tC (.str "")) (tLc (iRng1 (tCons (tCall spBelow [] E0 (tCons (tVar 0) (tCons (tC (.int n)) tNil))) tNil)) (gName iv) tYes (tCall (spPick K) [] E0 (tCons (tVar 0) (tCons (tLst tl) tNil))) [iv]) σ H Q := by
  refine ⟨⟨_, rfl⟩, _, hσ, p, c, n, rfl, hP, hn, by omega, fun r H1 r0 r1 e1 => ⟨r, rfl, by omega, by omega, fun D nD => ?_⟩⟩
  have nD0 := e1.free nD
  have nDp : D ≠ p := hP.nep nD0
  refine lc_range (lo := 0) (n := r.toNat) (fun i H' => Ext p c H H' ∧ ∃ ys : List Str, H' D = some (.lst (ys.map V.str)) ∧ ys.length = i ∧ ∀ y ∈ ys, y ∈ letters) ⟨e1.mut hP nD0, [], upd_same, rfl, fun y h => nomatch h⟩ ?_ ?_
  · rintro i H2 hi ⟨e2, ys, hD, hl, hy⟩
    refine ⟨hw _, _, hσ2 _, hL _ _ _ ⟨by rw [List.length_map]; exact Nat.le_of_lt (small1000 hle), fun l nl => ?_⟩⟩
    refine ⟨p, c, l, letters.map V.str, rfl, e2.pot.same (same_upd nl), SqL.of upd_same, e2.pot.nep nl, by rw [List.length_map]; exact hne, by rw [List.length_map]; exact hle, fun v H3 hv e3 => ?_⟩
    obtain ⟨y, my, rfl⟩ := List.mem_map.mp hv
    have e4 := e2.trans (Ext.pre (same_upd nl) e3)
    have hD3 : H3 D = some (.lst (ys.map V.str)) := e3.get (by rw [upd_ne (ne_of_none hD nl)]; exact hD) nDp
    refine ⟨_, hD3, by rw [List.length_map, hl]; exact small1000 (by omega), e4.mut hP nD0, ys ++ [y], by rw [upd_same, List.map_append]; rfl, by rw [List.length_append, hl]; rfl, fun z hz => ?_⟩
    rcases List.mem_append.mp hz with hz | hz
    · exact hy z hz
    · rw [List.mem_singleton.mp hz]
      exact my
  · rintro H2 ⟨e2, ys, hD, hl, hy⟩
    have hs : (ys.map (·.length)).sum ≤ ys.length * 1 := sum_len_le fun y h => by
      rw [TL.len_tl]
      exact h1 y (hy y h)
    exact ⟨"", D, ys, rfl, rfl, .inl (SqL.of hD), by
      show (ys.map (·.length)).sum + ys.length * 0 ≤ 16777216
      omega, k ys H2 hy (by omega) e2⟩
end Lk

/-! Repr0 -/
set_option Elab.async false
set_option maxRecDepth 100000
set_option maxHeartbeats 4000000
namespace Lk
open PySem PySem.Spec PyProof.Rows L2

/-! ### data of any form, dicts too -/
def keyD : Key → PyData
  | .inl i => .int i
  | .inr x => .str x
mutual
inductive Th (K : PySem.W.Frag) (H : Hp) : V → PyData → Prop
  | non : Th K H .non .none
  | bl (b : Bool) : Th K H (.bl b) (.bool b)
  | int (i : Int) : Th K H (.int i) (.int i)
  | str (x : Str) : Th K H (.str x) (.str x)
  | lst {a : Addr} {xs : List V} {ds : List PyData} : SqL K H a xs → ThAll K H xs ds → Th K H (.ref a) (.list ds)
  | tup {a : Addr} {xs : List V} {ds : List PyData} : SqT K H a xs → ThAll K H xs ds → Th K H (.ref a) (.tuple ds)
  | dct {a : Addr} {kvs : List (Key × V)} {ds : List (PyData × PyData)} : H a = some (.dK kvs) → ThAll K H (kvs.map (·.2)) (ds.map (·.2)) → ds.map (·.1) = kvs.map (fun p => keyD p.1) → Th K H (.ref a) (.dict ds)
inductive ThAll (K : PySem.W.Frag) (H : Hp) : List V → List PyData → Prop
  | nil : ThAll K H [] []
  | cons {v : V} {vs : List V} {d : PyData} {ds : List PyData} : Th K H v d → ThAll K H vs ds → ThAll K H (v :: vs) (d :: ds)
end
mutual
def noLst : PyData → Bool
  | .none | .bool _ | .int _ | .str _ => true
  | .list _ => false
  | .tuple xs => noLstAll xs
  | .dict kvs => noLstKv kvs
def noLstAll : List PyData → Bool
  | [] => true
  | x :: xs => noLst x && noLstAll xs
def noLstKv : List (PyData × PyData) → Bool
  | [] => true
  | (_, v) :: r => noLst v && noLstKv r
end
theorem noLstKv_map : ∀ ds : List (PyData × PyData), noLstAll (ds.map (·.2)) = noLstKv ds
  | [] => rfl
  | (k, v) :: r => by
    show (noLst v && noLstAll (r.map (·.2))) = (noLst v && noLstKv r)
    rw [noLstKv_map r]
/-- what may be shown -/
structure Wf (d : PyData) : Prop where
  sh : d.showable = true
  lv : d.leavesShort 13 = true
  bk : d.bulk ≤ 1000000
  dp : d.depth ≤ 60
  sy : d.hasDict = false ∨ noLst d = true
section
variable {X : Cx} {pins : List (Addr × Obj)} {σ : L2.St} {H : Hp} {s : Shared}
theorem keys_read {prog : Program} {w : World} {h : Heap} : ∀ {es : List DictEntry} {kvs : List (Key × V)} {vs : List (Key × Value)}, KV kvs vs → Pairs (mixKind prog w) es vs →
    ReadsAll h (es.map (·.key)) (kvs.map fun p => keyD p.1) [] ∧ Vals (kvs.map (·.2)) (es.map (·.val))
  | _, _, _, .nil, .nil => ⟨.nil, .nil⟩
  | _, _, _, .cons (a := a) q t, .cons (e := e) h1 h2 p => by
    obtain ⟨ih1, ih2⟩ := keys_read (h := h) t p
    obtain ⟨q1, q2⟩ := q
    rw [← q1] at h1
    refine ⟨?_, .cons (by show L2.RelV a.2 e.val; rw [h2]; exact q2) ih2⟩
    obtain ⟨k, v⟩ := a
    have h1' : keyIs k e.key = true := h1
    rcases keyIs_shape h1' with ⟨i, t, rfl, e1⟩ | ⟨x, t, rfl, e1⟩
    · have r : Reads h e.key (.int i) [] := by rw [e1]; exact Reads.int i t
      exact ReadsAll.cons r ih1
    · have r : Reads h e.key (.str x) [] := by rw [e1]; exact Reads.str x t
      exact ReadsAll.cons r ih1
theorem th_reads (I : Inv X pins σ H s) {v : V} {d : PyData} (h : Th X.K H v d) : ∀ u, RelV v u → ∃ as, Reads s.heap u d as ∧ (noLst d = true → sysModules ∉ as) := by
  refine Th.rec (motive_1 := fun v d _ => ∀ u, RelV v u → ∃ as, Reads s.heap u d as ∧ (noLst d = true → sysModules ∉ as)) (motive_2 := fun vs ds _ => ∀ us, Vals vs us → ∃ as, ReadsAll s.heap us ds as ∧ (noLstAll ds = true → sysModules ∉ as))
    ?_ ?_ ?_ ?_ ?_ ?_ ?_ ?_ ?_ h
  · intro u r
    cases r
    exact ⟨_, Reads.none, fun _ h => nomatch h⟩
  · intro b u r
    cases r
    exact ⟨_, Reads.bool b, fun _ h => nomatch h⟩
  · intro i u r
    obtain ⟨t, rfl⟩ := r
    exact ⟨_, Reads.int i t, fun _ h => nomatch h⟩
  · intro x u r
    obtain ⟨t, rfl⟩ := r
    exact ⟨_, Reads.str x t, fun _ h => nomatch h⟩
  · intro a xs ds hs _ ih u r
    cases r
    obtain ⟨its, rv, ⟨o, n, ho, hc, _, hd⟩, _⟩ := I.list hs
    obtain ⟨as, hr, _⟩ := ih its rv
    exact ⟨_, Reads.list ho hc hd hr, fun z => by simp [noLst] at z⟩
  · intro a xs ds hs _ ih u r
    cases r
    obtain ⟨its, rv, ⟨o, ho, hc, n, hd⟩, _⟩ := I.tuple hs
    obtain ⟨as, hr, hn⟩ := ih its rv
    exact ⟨_, Reads.tuple ho hc hd hr, fun z => hn (by simpa [noLst] using z)⟩
  · intro a kvs ds hs _ ek ih u r
    cases r
    obtain ⟨_, hsys, vs, kv, o, es, ep, ho, ex, hd, _, hp, _⟩ := (show ObjOk X.prog X.w H s.heap a (.dK kvs) from I.hok a _ hs)
    obtain ⟨rk, rv⟩ := keys_read (h := s.heap) kv hp
    obtain ⟨bs, hr, hn⟩ := ih _ rv
    refine ⟨_, Reads.dict ho ex.1 hd (by rw [ek]; exact rk) hr, fun z hm => ?_⟩
    rcases List.mem_append.mp hm with hm | hm
    · rw [List.mem_singleton.mp hm] at hsys
      exact absurd hsys (by simp)
    · refine hn ?_ hm
      rw [noLstKv_map]
      simpa [noLst] using z
  · intro us r
    cases r
    exact ⟨_, ReadsAll.nil, fun _ h => nomatch h⟩
  · intro v vs d ds _ _ ih1 ih2 us r
    cases r with
    | cons r1 r2 =>
      obtain ⟨as, q1, n1⟩ := ih1 _ r1
      obtain ⟨bs, q2, n2⟩ := ih2 _ r2
      refine ⟨_, ReadsAll.cons q1 q2, fun z hm => ?_⟩
      have z2 : noLst d = true ∧ noLstAll ds = true := by simpa [noLstAll] using z
      rcases List.mem_append.mp hm with hm | hm
      · exact n1 z2.1 hm
      · exact n2 z2.2 hm
theorem Wf.fits {d : PyData} (h : Wf d) : d.shown.length ≤ sizeLine := PyData.shown_fits_bulk (B := 13) (by decide) (by decide) h.lv (Nat.le_trans h.bk (by decide))
/-- repr(x), x data of any form -/
def rRepr (K : PySem.W.Frag) : List V → Hp → VK → Prop := fun xs H Q => ∃ v d, xs = [v] ∧ Th K H v d ∧ Wf d ∧ Q (.str d.shown) H
theorem call_repr (hg : X.A.guards = some []) (hu : X.A.units + 64 < cLine) : CallR X (.builtin "repr") (rRepr X.K) := by
  intro pins s σ H xs us Q I r h
  obtain ⟨v, d, rfl, ht, hw, q⟩ := h
  cases r with
  | cons r1 rr =>
    cases rr
    obtain ⟨as, hr, hn⟩ := th_reads I ht _ r1
    have hz := hw.fits
    have hsm : d.hasDict = true → sysModules ∉ as := fun z => by
      rcases hw.sy with e | e
      · rw [e] at z
        cases z
      · exact hn e
    have fin : ∀ (h' : Heap) (u tk : Nat), (∀ b o, s.heap.get? b = some o → h'.get? b = some o) → EP X pins σ Q (.str d.shown u) { s with heap := h', toks := tk } := fun h' u tk k => ⟨.str d.shown, H, I.kept (t' := tk) k, ⟨u, rfl⟩, q⟩
    have hd := hw.dp
    cases hr with
    | none => exact PySem.P.repr_of_none (fin s.heap _ _ fun _ _ e => e)
    | bool b => exact PySem.P.repr_of_bool (fin s.heap _ _ fun _ _ e => e)
    | int i t => exact PySem.P.repr_of_int (by simpa [PyData.showable] using hw.sh) (fin s.heap _ _ fun _ _ e => e)
    | str x t => exact PySem.P.repr_of_str (fin s.heap _ _ fun _ _ e => e) hz
    | list h1 h2 h3 h4 => exact repr_of_reads' (.list h1 h2 h3 h4) hw.sh hsm hg (by omega) (fun _ _ e => e) (fun h' u tk k => fin h' u tk k) hz
    | tuple h1 h2 h3 h4 => exact repr_of_reads' (.tuple h1 h2 h3 h4) hw.sh hsm hg (by omega) (fun _ _ e => e) (fun h' u tk k => fin h' u tk k) hz
    | dict h1 h2 h3 h4 h5 => exact repr_of_reads' (.dict h1 h2 h3 h4 h5) hw.sh hsm hg (by omega) (fun _ _ e => e) (fun h' u tk k => fin h' u tk k) hz
end
end Lk

/-! Grd0 -/
set_option Elab.async false
set_option maxRecDepth 100000
set_option maxHeartbeats 4000000
namespace Lk
open PySem PySem.Spec PyProof.Rows L2

/-! ### defs that are called where no guard is on the stack: they may show data -/
structure FnG (P : Program) (w : World) (K : PySem.W.Frag) (mg : Str → Option Value) (base : Heap) (CX : CXT) (k : Nat) (f : Addr) (fd : FuncData) (ps : List Str) (sp : Sp) : Prop where
  len : ∀ vs H Q E, sp vs H Q E → vs.length = ps.length
  go : ∀ (A : Around) (above : List Env) (s : Shared) (H : Hp) (args : Args) (us : List Value) (vs : List V) (Q : VK) (E : XK), Room k A → A.guards = some [] →
    Env0 P w K mg base A above s H → BindsTo s fd args (ps.zip us) → Vals vs us → sp vs H Q E → codeAny (model P w) A (.call (.ref f) args) (CR CX above P w H s Q E) s
section
variable {P : Program} {w : World} {K : PySem.W.Frag} {mg : Str → Option Value} {base : Heap} {CX : CXT}
theorem fnG_of {k : Nat} {f : Addr} {nm qn : Str} {pr : Arguments} {bd : List Stmt} {sc : Scope} {d1 d2 d3 d4 cv ct oc : Value} {an od : Option Addr} {sl : Array (Option Value)} {N ps : List Str} {sp : Sp}
    (at_ : K.lookup f = some ⟨oc, od, .func (PySem.W.fnOf nm qn pr bd sc d1 d2 d3 d4 an cv ct), sl⟩) (hc : PySem.W.codeIn K cv qn = true) (S : FnScope N ps sc) (len : ∀ vs H Q E, sp vs H Q E → vs.length = ps.length)
    (hb : ∀ (A : Around) (above : List Env) (s : Shared) (H : Hp) (vs : List V) (Q : VK) (E : XK), Room k (A.deeper (envOfC qn sc s.heap.objs.size f cv)) → (A.deeper (envOfC qn sc s.heap.objs.size f cv)).guards = some [] → sp vs H Q E →
      ∃ t, PSs (cxOf CX P w K mg base N qn sc f cv A above s H E) bd t ∧ t { nx := fun _ H' => Q .non H', rt := Q } (start N vs) H) :
    FnG P w K mg base CX (k + 1) f (PySem.W.fnOf nm qn pr bd sc d1 d2 d3 d4 an cv ct) ps sp := by
  constructor
  · exact len
  · intro A above s H args us vs Q E room gd env bind rel want
    have old : ∀ b o, base.get? b = some o → s.heap.get? b = some o := fun b o e => (env.bs b o e).1
    have kin := env.mod.kin.keeps old
    have mine : ∀ y ∈ ps.zip us, sc.names.lookup y.1 = some .local ∨ (sc.names.lookup y.1 = some .cell ∧ ((cellsFrom (s.heap.objs.size + 1) sc.names []).lookup y.1).isSome = true) := by
      rintro ⟨n, v⟩ hy
      have := S.par n (List.of_mem_zip hy).1
      exact this.imp id fun c => ⟨c, PySem.W.cellsFrom_some _ _ _ (.inl c)⟩
    apply codeAny_call_function room.depth (kin _ _ at_) rfl S.co S.gen rfl (PySem.W.codeRec_of kin hc)
    apply bind
    apply wpAny_newFunctionEnv_cells S.kind mine
    intro env1 he s1 inside
    subst he
    refine ⟨(env.mod.nolimit.keeps old).keeps inside.toInCall.keep, codeAny_func ?_⟩
    obtain ⟨t, walk, read⟩ := hb A above s H vs Q E (room.deeper _) gd want
    have I0 := inv_start (CX := CX) (P := P) (w := w) (E := E) S room.hd env (len _ _ _ _ want) rel inside
    apply wpAny_mono (walk.run [] s1 (start N vs) H _ I0 read)
    · intro fl s2 out
      match fl, out with
      | .ret u, ⟨v, σ', H', J, rv, q⟩ => exact ⟨v, H', J.os, J.bare, J.base, J.hok, rv, q⟩
      | .next, ⟨σ', H', J, q⟩ => exact ⟨V.non, H', J.os, J.bare, J.base, J.hok, rfl, q⟩
      | .brk, ⟨_, _, _, q⟩ => exact False.elim q
      | .cont, ⟨_, _, _, q⟩ => exact False.elim q
    · intro e s2 out
      exact out
structure CalG (P : Program) (w : World) (K : PySem.W.Frag) (mg : Str → Option Value) (base : Heap) (CX : CXT) (k : Nat) (x : String) (sp : Sp) : Prop where
  ex : ∃ (f : Addr) (fd : FuncData) (ps : List Str), FnG P w K mg base CX k f fd ps sp ∧ mg x = some (.ref f) ∧ PySem.W.keepIn K (.ref f) = true ∧ Binds K fd ps []
theorem mkCalG {x : String} {st : Stmt} {N ps : List Str} {k : Nat} {sp : Sp} (D : Def1 K mg x st) (S : FnScope N ps (defScope st))
    (hb : ∀ (kV doc pm : Value) (an : Option Addr) (cdv ct : Value) (us : List Value), us.length = ps.length → bindArgs (PySem.W.fnOf x x (defArgs st) (defBody st) (defScope st) .none kV doc pm an cdv ct) ⟨us, []⟩ = pure (ps.zip us))
    (len : ∀ vs H Q E, sp vs H Q E → vs.length = ps.length)
    (body : ∀ (f : Addr) (cdv : Value) (A : Around) (above : List Env) (s : Shared) (H : Hp) (vs : List V) (Q : VK) (E : XK), Room k (A.deeper (envOfC x (defScope st) s.heap.objs.size f cdv)) →
      (A.deeper (envOfC x (defScope st) s.heap.objs.size f cdv)).guards = some [] → sp vs H Q E →
      ∃ t, PSs (cxOf CX P w K mg base N x (defScope st) f cdv A above s H E) (defBody st) t ∧ t { nx := fun _ H' => Q .non H', rt := Q } (start N vs) H) : CalG P w K mg base CX (k + 1) x sp := by
  obtain ⟨f, fd, F, m⟩ := D.ex
  have b := F.binds hb
  have kp := F.kp
  obtain ⟨oc, od, kV, doc, pm, an, cdv, ct, sl, rfl, lk, hcd⟩ := F.ex
  exact ⟨f, _, ps, fnG_of lk hcd S len fun A above s H vs Q E hr hg h => body f cdv A above s H vs Q E hr hg h, m, kp, b⟩
/-- the whole law, from its promise -/
theorem lawG {mb : Str → Option Value} {k : Nat} {fa a : Addr} {fd : FuncData} {x : Str} {sp : Sp} {s : Shared} {vs : List Value} {ns : List Int}
    (KX : K.In s.heap) (gl : s.heap.Ns mainGlobals mg) (bl : s.heap.Ns builtinsNs mb) (bb : ∀ x : Str, x ≠ "__name__" → mb x = bootBuiltins x) (nl : s.heap.NoLimit) (gens : s.gens = #[])
    (ha : s.heap.get? a = some { cls := .type "list", data := .seq vs.toArray }) (hin : IntsAre vs ns) (short : ns.length ≤ sizeLine) (room : Room k callerA)
    (F : ∀ base : Heap, K.In base → base.Ns mainGlobals mg → FnG P w K mg base CX k fa fd [x] sp) (bind : ∀ (s : Shared) (u : Value), BindsTo s fd ⟨[u], []⟩ [(x, u)])
    (prom : ∀ H : Hp, Only H → SqL K H a (ns.map V.int) → sp [.ref a] H (fun v _ => v = .bl true) fun _ _ _ => False)
    (noX : ∀ H e s', CX [] H s (fun _ _ _ => False) e s' → False) :
    codeAny (model P w) callerA (.call (.ref fa) ⟨[.ref a], []⟩) (fun r s' => r = .ok (.ret (.bool true)) ∧ OldK s.heap s'.heap ∧ s'.os = s.os ∧ AllBare s'.gens) s := by
  have vals := vals_ints hin
  have run : ∀ H : Hp, Only H → SqL K H a (ns.map V.int) → HOk P w H s.heap → (∀ b, H b ≠ none → b = a ∧ K.lookup a = none) →
      codeAny (model P w) callerA (.call (.ref fa) ⟨[.ref a], []⟩) (fun r s' => r = .ok (.ret (.bool true)) ∧ OldK s.heap s'.heap ∧ s'.os = s.os ∧ AllBare s'.gens) s := by
    intro H only seq ok here
    have dicts : ∀ {b : Addr} {m : Str → Option Value}, s.heap.Ns b m → (hidT s.heap H).Ns b m := by
      rintro b m ⟨o, es, ep, e, d, r⟩
      refine ⟨o, es, ep, hidT_get e ?_, d, r⟩
      apply Classical.byContradiction
      intro z
      obtain ⟨rfl, _⟩ := here b z
      rw [ha] at e
      cases e
      cases d
    have kb : K.In (hidT s.heap H) := by
      intro b o e
      refine hidT_get (KX b o e) ?_
      apply Classical.byContradiction
      intro z
      obtain ⟨rfl, q⟩ := here b z
      rw [q] at e
      cases e
    have md : Mod K mg (hidT s.heap H) := ⟨kb, dicts gl, ⟨mb, dicts bl, bb⟩, by
      obtain ⟨mc, h1, h2⟩ := nl
      exact ⟨mc, dicts h1, h2⟩⟩
    have nof : ∀ b ∈ frs ([] : List Env), H b = none := by
      intro b i
      have i2 : b ∈ ([] : List Addr) := i
      cases i2
    have env : Env0 P w K mg (hidT s.heap H) callerA [] s H := ⟨rfl, md, fun b o e => of_hidT e, Nat.le_of_eq (hidT_size _ _), trivial, nof, ok, .of_eq gens⟩
    apply codeAny_mono ((F _ kb (dicts gl)).go callerA [] s H ⟨[.ref a], []⟩ [.ref a] [.ref a] _ _ room rfl env (bind s (.ref a)) (.cons rfl .nil) (prom H only seq))
    intro r s' out
    match r, out with
    | .error e, out => exact (noX H e s' out).elim
    | .ok .next, out => exact False.elim out
    | .ok .brk, out => exact False.elim out
    | .ok .cont, out => exact False.elim out
    | .ok (.ret u), ⟨v, H', os, bare, un, ok', rel, q⟩ =>
      have e1 : v = .bl true := q
      rw [e1] at rel
      have e2 : u = Value.bool true := rel
      rw [e2]
      refine ⟨rfl, OldK.of_keep ?_, os, bare⟩
      intro b o e
      rcases only b with z | ⟨ob, xs, z⟩
      · exact un.keep b o e z (by
          intro i
          have i2 : b ∈ ([] : List Addr) := i
          cases i2) (by
          intro i
          cases i)
      · have after := (ok' b _ (un.frzs b ob _ z)).1
        rw [(ok b _ z).1] at e
        cases e
        exact after
  match q : K.lookup a with
  | some o =>
    have same := KX a o q
    rw [ha] at same
    cases same
    exact run (fun _ => none) (fun _ => .inl rfl) (.inr ⟨_, vs.toArray, _, q, rfl, rfl, rfl, by rw [List.size_toArray, hin.length]; exact short, by simpa using vals⟩) (fun b u z => nomatch z) fun b z => absurd rfl z
  | none =>
    have mine : ∀ {b : Addr} {u : HO}, (fun b => if b = a then some (HO.frz { cls := .type "list", data := .seq vs.toArray } (.lst (ns.map V.int))) else none) b = some u → b = a ∧ u = HO.frz { cls := .type "list", data := .seq vs.toArray } (.lst (ns.map V.int)) := by
      intro b u z
      by_cases h : b = a
      · exact ⟨h, (Option.some.inj ((if_pos h).symm.trans z)).symm⟩
      · exact absurd ((if_neg h).symm.trans z) (by simp)
    refine run (fun b => if b = a then some (.frz { cls := .type "list", data := .seq vs.toArray } (.lst (ns.map V.int))) else none) (fun b => ?_) (.inl (.inr ⟨{ cls := .type "list", data := .seq vs.toArray }, if_pos rfl⟩)) (fun b u z => ?_) fun b z => ⟨?_, q⟩
    · by_cases h : b = a
      · exact .inr ⟨_, _, if_pos h⟩
      · exact .inl (if_neg h)
    · obtain ⟨rfl, rfl⟩ := mine z
      exact ⟨ha, by rw [List.length_map]; exact short, vs, _, vals, ha⟩
    · apply Classical.byContradiction
      intro h
      exact z (if_neg h)
end
/-- the goal that the law's head leaves, from the law's promise -/
theorem walkG {l : PySem.W.OpenLaw} {k : Nat} {q : Program} {loose : List Str} {XP : (Str → Option Value) → Heap → Prop} {YP : World → Heap → Prop} {d : DefRec} {K : Params → PySem.W.Frag} {CX : World → CXT} {sp : World → Sp} {x : Str}
    (most : l.most = some 63) (noD : d.params.defaults = []) (room : Room k callerA) (hY : ∀ (w : World) (h : Heap), YP w h → (K w.params).In h)
    (F : ∀ (w : World) (mg : Str → Option Value) (fa : Addr) (h : Heap), (K w.params).In h → h.Ns mainGlobals mg → mg d.name = some (.ref fa) →
      ∃ fd : FuncData, (∀ (s : Shared) (u : Value), BindsTo s fd ⟨[u], []⟩ [(x, u)]) ∧ ∀ base : Heap, (K w.params).In base → base.Ns mainGlobals mg → FnG l.prog w (K w.params) mg base (CX w) k fa fd [x] (sp w))
    (prom : ∀ (w : World) (H : Hp) (a : Addr) (ns : List Int), ns.length ≤ 63 → Only H → SqL (K w.params) H a (ns.map V.int) → sp w [.ref a] H (fun v _ => v = .bl true) fun _ _ _ => False)
    (noX : ∀ (w : World) (H : Hp) (s : Shared) (e : Value) (s' : Shared), CX w [] H s (fun _ _ _ => False) e s' → False) :
    PySem.W.WalkO q loose XP YP l.row.toRowW d [] (fun f vs => PySem.call f vs) := by
  apply Att.attach_call most noD
  intro w s0 s1 mg mb fa o pm cd doc a vs ns G Y ho hd hcd hmg hobj hints hlen hg
  obtain ⟨fd, hb, hF⟩ := F w mg fa _ (hY w _ Y) G.T.g hmg
  exact lawG (hY w _ Y) G.T.g G.T.b G.T.builtins G.T.nolimit hg hobj hints (Nat.le_trans hlen (by decide)) room hF hb (fun H only seq => prom w H a ns hlen only seq) fun H e s' => noX w H s1 e s'
end Lk

/-! Nam0 -/
set_option Elab.async false
set_option maxRecDepth 100000
set_option maxHeartbeats 4000000
namespace Lk
open PySem PySem.Spec PyProof.Rows L2

def upB (c : Nat) : Bool := decide (65 ≤ c) && decide (c ≤ 90)
def loB (c : Nat) : Bool := decide (97 ≤ c) && decide (c ≤ 122)
def capS : Str := "ABCDEFGHIJKLMNOPQRSTUVWXYZ"
def smaS : Str := "abcdefghijklmnopqrstuvwxyz"
theorem range_has {n k c : Nat} : (List.range' n k).contains c = (decide (n ≤ c) && decide (c < n + k)) := by
  rw [Bool.eq_iff_iff]
  simp [List.mem_range'_1]
theorem cap_has (c : Nat) : capS.cps.contains c = upB c := by
  have e : capS.cps.toList = List.range' 65 26 := by decide +kernel
  rw [← Array.contains_toList, e, range_has, Bool.eq_iff_iff]
  simp [upB]
  omega
theorem sma_has (c : Nat) : smaS.cps.contains c = loB c := by
  have e : smaS.cps.toList = List.range' 97 26 := by decide +kernel
  rw [← Array.contains_toList, e, range_has, Bool.eq_iff_iff]
  simp [loB]
  omega
/-! ### strip -/
theorem drop_tw (p : Nat → Bool) : ∀ l : List Nat, l.drop (l.takeWhile p).length = l.dropWhile p
  | [] => rfl
  | c :: r => by
    rw [List.takeWhile_cons, List.dropWhile_cons]
    by_cases h : p c = true
    · rw [if_pos h, if_pos h]
      exact drop_tw p r
    · rw [if_neg h, if_neg h]
      rfl
theorem tw_len (p : Nat → Bool) : ∀ l : List Nat, (l.takeWhile p).length ≤ l.length
  | [] => Nat.le_refl _
  | c :: r => by
    rw [List.takeWhile_cons]
    split
    · exact Nat.succ_le_succ (tw_len p r)
    · exact Nat.zero_le _
theorem tl_lstrip (p : Nat → Bool) (x : Str) : TL.tl (Txt.stripBy p true false x) = (TL.tl x).dropWhile p := by
  have hlo : stripLo p true x = ((TL.tl x).takeWhile p).length := if_pos rfl
  have hhi : stripHi p false x (stripLo p true x) = x.length := if_neg Bool.false_ne_true
  unfold Txt.stripBy
  by_cases h : stripSame p true false x = true
  · rw [if_pos h]
    have h0 : stripLo p true x = 0 := by
      unfold stripSame at h
      rw [Bool.and_eq_true] at h
      exact beq_iff_eq.mp h.1
    rw [← drop_tw, ← hlo, h0]
    rfl
  · rw [if_neg h]
    unfold stripped
    rw [hhi, TL.tl_strSub_end, hlo, drop_tw]
theorem dw_all {p : Nat → Bool} : ∀ l : List Nat, (l.dropWhile p = [] ↔ l.all p = true)
  | [] => by simp
  | c :: r => by
    rw [List.dropWhile_cons, List.all_cons]
    by_cases h : p c = true
    · rw [if_pos h, h, Bool.true_and]
      exact dw_all r
    · rw [if_neg h]
      simp [h]
theorem tl_strip (p : Nat → Bool) (x : Str) : TL.tl (Txt.stripBy p true true x) = [] ↔ (TL.tl x).all p = true := by
  have hl : x.length = (TL.tl x).length := TL.len_tl x
  have hlo : stripLo p true x = ((TL.tl x).takeWhile p).length := if_pos rfl
  have hhi : ∀ k, stripHi p true x k = x.length - (((TL.tl x).drop k).reverse.takeWhile p).length := fun k => if_pos rfl
  have key : TL.tl (Txt.stripBy p true true x) = ((TL.tl x).drop (stripLo p true x)).take (stripHi p true x (stripLo p true x) - stripLo p true x) := by
    unfold Txt.stripBy
    by_cases h : stripSame p true true x = true
    · rw [if_pos h]
      unfold stripSame at h
      rw [Bool.and_eq_true] at h
      have h0 := beq_iff_eq.mp h.1
      have h1 := beq_iff_eq.mp h.2
      rw [h1, h0, List.drop_zero, Nat.sub_zero, hl, List.take_length]
    · rw [if_neg h]
      unfold stripped
      rw [TL.tl_strSub]
  rw [key, hlo, drop_tw, hhi, drop_tw]
  cases e : (TL.tl x).dropWhile p with
  | nil =>
    rw [List.take_nil]
    exact ⟨fun _ => (dw_all _).mp e, fun _ => rfl⟩
  | cons c r =>
    have hc : p c = false := by
      have := List.head?_dropWhile_not p (TL.tl x)
      rw [e] at this
      simpa using this
    constructor
    · intro h
      exfalso
      have hlen : (c :: r).length + ((TL.tl x).takeWhile p).length = (TL.tl x).length := by
        rw [← e, ← drop_tw, List.length_drop]
        have := tw_len p (TL.tl x)
        omega
      have hrev : (((c :: r).reverse).takeWhile p).length ≤ r.length := by
        rw [List.reverse_cons]
        by_cases ha : r.reverse.all p = true
        · rw [List.takeWhile_append_of_pos (by simpa using ha), List.takeWhile_cons, if_neg (by rw [hc]; decide)]
          simp
        · have := tw_len p (r.reverse ++ [c])
          have h2 : ((r.reverse ++ [c]).takeWhile p).length ≠ (r.reverse ++ [c]).length := fun z => by
            have e2 : (r.reverse ++ [c]).takeWhile p = r.reverse ++ [c] := (List.takeWhile_sublist p).eq_of_length z
            have := List.all_takeWhile (p := p) (l := r.reverse ++ [c])
            rw [e2, List.all_append, Bool.and_eq_true] at this
            exact ha this.1
          rw [List.length_append, List.length_reverse, List.length_singleton] at this h2
          omega
      rw [List.length_cons] at hlen
      have : (List.take (x.length - (((c :: r).reverse).takeWhile p).length - ((TL.tl x).takeWhile p).length) (c :: r)).length = 0 := by rw [h]; rfl
      rw [List.length_take, List.length_cons] at this
      omega
    · intro h
      have := (dw_all _).mpr h
      rw [e] at this
      cases this

/-! ### what a name, an end, a pattern is -/
def nmB (l : List Nat) : Bool := !l.isEmpty && (l.dropWhile upB).all loB
def dName : PyData → Bool
  | .str x => nmB (TL.tl x)
  | _ => false
def dEnd (p : Nat → Bool) : PyData → Bool
  | .str x => decide (x.length ≤ 3) && (TL.tl x).all p
  | _ => false
def isE : PyData → Bool
  | .str x => decide (x = "")
  | _ => false
def dPat : PyData → Bool
  | .tuple [b, e] => dEnd upB b && (dEnd loB e && !(isE b && isE e))
  | _ => false
/-! ### types of data -/
def tyN : PyData → String
  | .none => "NoneType" | .bool _ => "bool" | .int _ => "int" | .str _ => "str" | .list _ => "list" | .tuple _ => "tuple" | .dict _ => "dict"
def isStr : PyData → Bool
  | .str _ => true
  | _ => false
def isTup : PyData → Bool
  | .tuple _ => true
  | _ => false
def isDct : PyData → Bool
  | .dict _ => true
  | _ => false
def isLst : PyData → Bool
  | .list _ => true
  | _ => false
theorem th_ty {K : PySem.W.Frag} {H : Hp} {v : V} {d : PyData} (h : Th K H v d) : TyX K H v (.type (tyN d)) := by
  cases h with
  | non => exact .base .non
  | bl b => exact .base (.bl b)
  | int i => exact .base (.int i)
  | str x => exact .base (.str x)
  | lst h _ =>
    rcases h with (h | ⟨o, h⟩) | ⟨o, its, n, h, hc, _⟩
    · exact .base (.lst h)
    · exact .base (.frz h)
    · exact .kList h hc
  | tup h _ =>
    rcases h with (h | ⟨o, h⟩) | ⟨o, its, n, h, hc, _⟩
    · exact .base (.tup h)
    · exact .fTuple h
    · exact .kTuple h hc
  | dct h _ _ => exact .base (.dK h)
theorem kit_str {K : PySem.W.Frag} : ∀ d : PyData, PySem.W.kitOne K (.type (tyN d)) (.type "str") = some (isStr d)
  | .none => kit_ty (show kitB "NoneType" "str" = some false by decide +kernel)
  | .bool _ => kit_ty (show kitB "bool" "str" = some false by decide +kernel)
  | .int _ => kit_ty (show kitB "int" "str" = some false by decide +kernel)
  | .str _ => kit_ty (show kitB "str" "str" = some true by decide +kernel)
  | .list _ => kit_ty (show kitB "list" "str" = some false by decide +kernel)
  | .tuple _ => kit_ty (show kitB "tuple" "str" = some false by decide +kernel)
  | .dict _ => kit_ty (show kitB "dict" "str" = some false by decide +kernel)
theorem kit_tup {K : PySem.W.Frag} : ∀ d : PyData, PySem.W.kitOne K (.type (tyN d)) (.type "tuple") = some (isTup d)
  | .none => kit_ty (show kitB "NoneType" "tuple" = some false by decide +kernel)
  | .bool _ => kit_ty (show kitB "bool" "tuple" = some false by decide +kernel)
  | .int _ => kit_ty (show kitB "int" "tuple" = some false by decide +kernel)
  | .str _ => kit_ty (show kitB "str" "tuple" = some false by decide +kernel)
  | .list _ => kit_ty (show kitB "list" "tuple" = some false by decide +kernel)
  | .tuple _ => kit_ty (show kitB "tuple" "tuple" = some true by decide +kernel)
  | .dict _ => kit_ty (show kitB "dict" "tuple" = some false by decide +kernel)
theorem kit_lst {K : PySem.W.Frag} : ∀ d : PyData, PySem.W.kitOne K (.type (tyN d)) (.type "list") = some (isLst d)
  | .none => kit_ty (show kitB "NoneType" "list" = some false by decide +kernel)
  | .bool _ => kit_ty (show kitB "bool" "list" = some false by decide +kernel)
  | .int _ => kit_ty (show kitB "int" "list" = some false by decide +kernel)
  | .str _ => kit_ty (show kitB "str" "list" = some false by decide +kernel)
  | .list _ => kit_ty (show kitB "list" "list" = some true by decide +kernel)
  | .tuple _ => kit_ty (show kitB "tuple" "list" = some false by decide +kernel)
  | .dict _ => kit_ty (show kitB "dict" "list" = some false by decide +kernel)
/-- a module's constant -/
def Con1 (mg : Str → Option Value) (x : String) (v : V) : Prop := ∃ u, mg x = some u ∧ RelV v u
section
variable {X : Cx} {x : String} {v : V} {pos : Pos}
theorem pe_con1 (h : Con1 X.mg x v) (hg : Gl X x := by rfl) (hd : ((x : Str) == ("__debug__" : Str)) = false := by decide) : PE X (.Name x pos) (tC v) := by
  obtain ⟨u, e, r⟩ := h
  exact pe_glob hg e r hd
/-- isinstance(e, T), T one built-in class -/
theorem pe_isi {T : String} {e : Expr} {te : TE} {p q pos : Pos} (he : PE X e te) (hm : X.mg "isinstance" = none) (hT : X.mg T = none) (hb : bootBuiltins T = some (.type T)) (hg : Gl X "isinstance" := by rfl) (hgT : Gl X T := by rfl)
    (hn : (T : Str) ≠ "__name__" := by decide) (hd : ((T : Str) == ("__debug__" : Str)) = false := by decide) (h1 : starEach [e, .Name T q] X.env = (false, eval e X.env) :: starEach [.Name T q] X.env := by rfl) (h2 : starEach [.Name T q] X.env = (false, eval (.Name T q) X.env) :: starEach [] X.env := by rfl)
    (h3 : (backTo pos (starEach [.Name T q] X.env)).any (·.1) = false := by rfl) :
    PE X (.Call (.Name "isinstance" p) [e, .Name T q] [] pos) (tCB (rIsi X.K) (tCons te (tCons (tC (.ty T)) tNil))) :=
  pe_callB call_isi hg hm (by decide +kernel) (pa_cons he (pa_cons (pe_bltn (v := .ty T) hgT hT hb rfl hn hd) pa_nil h2) h1) (he := h1) (hpl := h3)
end
/-! ### promises of the program's first functions -/
structure Glc (mg : Str → Option Value) : Prop where
  isinst : mg "isinstance" = none
  str : mg "str" = none
  tuple : mg "tuple" = none
  caps : Con1 mg "CAPITALS" (.str capS)
  smalls : Con1 mg "SMALLS" (.str smaS)
  ends : Con1 mg "MOST_END_LETTERS" (.int 3)
def spIsName (K : PySem.W.Frag) : Sp := fun vs H Q _ => ∃ v d, vs = [v] ∧ Th K H v d ∧ d.bulk ≤ 1000000 ∧ Q (.bl (dName d)) H
def spIsEnd (K : PySem.W.Frag) : Sp := fun vs H Q _ => ∃ v d L p, vs = [v, .str L] ∧ Th K H v d ∧ d.bulk ≤ 1000000 ∧ (∀ c, L.cps.contains c = p c) ∧ Q (.bl (dEnd p d)) H
def spIsPat (K : PySem.W.Frag) : Sp := fun vs H Q _ => ∃ v d, vs = [v] ∧ Th K H v d ∧ d.bulk ≤ 1000000 ∧ Q (.bl (dPat d)) H
def spIsSrc (K : PySem.W.Frag) : Sp := fun vs H Q _ => ∃ v d, vs = [v] ∧ Th K H v d ∧ d.bulk ≤ 1000000 ∧ Q (.bl (dPat d || dName d)) H
theorem not_str {d : PyData} (h : isStr d = false) : dName d = false ∧ (∀ p, dEnd p d = false) ∧ isE d = false := by
  cases d with
  | str x => cases h
  | _ => exact ⟨rfl, fun _ => rfl, rfl⟩
theorem th_str {K : PySem.W.Frag} {H : Hp} {v : V} {d : PyData} (h : Th K H v d) (e : isStr d = true) : ∃ x, v = .str x ∧ d = .str x := by
  cases h with
  | str x => exact ⟨x, rfl, rfl⟩
  | _ => cases e
theorem th_tup {K : PySem.W.Frag} {H : Hp} {v : V} {d : PyData} (h : Th K H v d) (e : isTup d = true) : ∃ a xs ds, v = .ref a ∧ d = .tuple ds ∧ SqT K H a xs ∧ ThAll K H xs ds := by
  cases h with
  | tup hs ha => exact ⟨_, _, _, rfl, rfl, hs, ha⟩
  | _ => cases e
theorem thAll_len {K : PySem.W.Frag} {H : Hp} : ∀ {xs : List V} {ds : List PyData}, ThAll K H xs ds → xs.length = ds.length
  | _, _, .nil => rfl
  | _, _, .cons _ t => congrArg (· + 1) (thAll_len t)
theorem tl_nil_iff {x : Str} : TL.tl x = [] ↔ x = "" := ⟨fun h => TL.ext_tl (by rw [h]; decide +kernel), fun h => by rw [h]; decide +kernel⟩
theorem not_pat {d : PyData} (h : isTup d = false) : dPat d = false := by
  cases d with
  | tuple xs => cases h
  | _ => rfl
theorem not_pat2 : ∀ {ds : List PyData}, ds.length ≠ 2 → dPat (.tuple ds) = false
  | [], _ => rfl
  | [_], _ => rfl
  | [_, _], h => absurd rfl h
  | _ :: _ :: _ :: _, _ => rfl
theorem th_two {K : PySem.W.Frag} {H : Hp} : ∀ {xs : List V} {ds : List PyData}, ThAll K H xs ds → xs.length = 2 → ∃ b c db dc, xs = [b, c] ∧ ds = [db, dc] ∧ Th K H b db ∧ Th K H c dc
  | _, _, .nil, h => nomatch h
  | _, _, .cons _ .nil, h => nomatch h
  | _, _, .cons h1 (.cons h2 .nil), _ => ⟨_, _, _, _, rfl, rfl, h1, h2⟩
  | _, _, .cons _ (.cons _ (.cons _ _)), h => by simp at h
theorem th_three {K : PySem.W.Frag} {H : Hp} : ∀ {xs : List V} {ds : List PyData}, ThAll K H xs ds → xs.length = 3 → ∃ a b c da db dc, xs = [a, b, c] ∧ ds = [da, db, dc] ∧ Th K H a da ∧ Th K H b db ∧ Th K H c dc
  | _, _, .nil, h => nomatch h
  | _, _, .cons _ .nil, h => nomatch h
  | _, _, .cons _ (.cons _ .nil), h => nomatch h
  | _, _, .cons h1 (.cons h2 (.cons h3 .nil)), _ => ⟨_, _, _, _, _, _, rfl, rfl, h1, h2, h3⟩
  | _, _, .cons _ (.cons _ (.cons _ (.cons _ _))), h => by simp at h
theorem end_str {p : Nat → Bool} {d : PyData} (h : dEnd p d = true) : isStr d = true := by
  cases d with
  | str x => rfl
  | _ => cases h
end Lk

/-! Nam1 -/
set_option Elab.async false
set_option maxRecDepth 100000
set_option maxHeartbeats 4000000
namespace Lk
open PySem PySem.Spec PyProof.Rows L2

theorem lt1 {c d : Nat} : decide (([c] : List Nat) < [d]) = decide (c < d) := by
  rw [Bool.eq_iff_iff, decide_eq_true_iff, decide_eq_true_iff, List.cons_lt_cons_iff]
  constructor
  · rintro (h | ⟨_, h⟩)
    · exact h
    · exact absurd h (List.lt_irrefl _)
  · exact fun h => .inl h
/-- a sign as a text -/
abbrev sg (c : Nat) : Str := ⟨#[c]⟩
theorem tl_sg (c : Nat) : TL.tl (sg c) = [c] := rfl
theorem le_sg {x : Str} {a c : Nat} (h : TL.tl x = [a]) : (!decide ((sg c).cps.toList < x.cps.toList)) = decide (a ≤ c) := by
  rw [show x.cps.toList = [a] from h]
  show (!decide (([c] : List Nat) < [a])) = _
  rw [lt1, Bool.eq_iff_iff]
  simp
theorem sg_le {x : Str} {a c : Nat} (h : TL.tl x = [a]) : (!decide (x.cps.toList < (sg c).cps.toList)) = decide (c ≤ a) := by
  rw [show x.cps.toList = [a] from h]
  show (!decide (([a] : List Nat) < [c])) = _
  rw [lt1, Bool.eq_iff_iff]
  simp
theorem tl_cut_to {z : Str} {k : Nat} (h : k ≤ z.length) : TL.tl (cutS z none (some (k : Int))) = (TL.tl z).take k := by
  show ((z.cps.toList.drop (HT.sIx z.length 0 none)).take (HT.sIx z.length z.length (some (k : Int)) - HT.sIx z.length 0 none)) = _
  rw [HT.sIx_none, HT.sIx_nat, Nat.min_eq_left h, List.drop_zero, Nat.sub_zero]
theorem tl_cut_from {z : Str} {k : Nat} (h : k ≤ z.length) : TL.tl (cutS z (some (k : Int)) none) = (TL.tl z).drop k := by
  show ((z.cps.toList.drop (HT.sIx z.length 0 (some (k : Int)))).take (HT.sIx z.length z.length none - HT.sIx z.length 0 (some (k : Int)))) = _
  rw [HT.sIx_none, HT.sIx_nat, Nat.min_eq_left h]
  refine List.take_of_length_le ?_
  have := TL.len_tl z
  rw [List.length_drop]
  show (TL.tl z).length - k ≤ _
  omega
/-- a comprehension over a text's signs: Pv by the signs taken -/
theorem lc_str {x : Str} {g : TG} {tt : TT} {te : TE} {vs : List Nat} {σ : L2.St} {H1 : Hp} {D : Addr} {Qd : Hp → Prop} (Pv : List Nat → Hp → Prop) (h0 : Pv [] (upd H1 D (.lst [])))
    (hs : ∀ pre c post H, TL.tl x = pre ++ c :: post → Pv pre H → g (.str (sg c)) (wipe σ vs) H fun σ2 H2 => wipe σ2 vs = wipe σ vs ∧ tt σ2 H2 fun b H3 =>
      if b = true then te σ2 H3 fun y H4 => ∃ acc, H4 D = some (.lst acc) ∧ acc.length < sizeLine ∧ Pv (pre ++ [c]) (upd H4 D (.lst (acc ++ [y]))) else Pv (pre ++ [c]) H3) (hd : ∀ H, Pv (TL.tl x) H → Qd H) :
    ∃ W : Nat → Nat → Hp → Prop, (∃ m, W 0 m (upd H1 D (.lst []))) ∧ ∀ i m H, W i m H →
      ((Its x).stop i H ∧ Qd H) ∨ ((Its x).go i H ∧ ∃ Nx : Hp → Prop, (∀ H', Nx H' → ∃ m', m' < m ∧ W (i + 1) m' H') ∧ ∀ y H', (Its x).yld i H y H' → g y (wipe σ vs) H' fun σ2 H2 => wipe σ2 vs = wipe σ vs ∧ tt σ2 H2 fun b H3 =>
        if b = true then te σ2 H3 fun y H4 => ∃ acc, H4 D = some (.lst acc) ∧ acc.length < sizeLine ∧ Nx (upd H4 D (.lst (acc ++ [y]))) else Nx H3) := by
  have hl : x.cps.size = (TL.tl x).length := TL.len_tl x
  refine ⟨fun i m H => i + m = (TL.tl x).length ∧ Pv ((TL.tl x).take i) H, ⟨_, Nat.zero_add _, h0⟩, ?_⟩
  rintro i m H ⟨em, p⟩
  cases m with
  | zero =>
    refine .inl ⟨by show x.cps.size ≤ i; omega, hd H ?_⟩
    rw [List.take_of_length_le (by omega)] at p
    exact p
  | succ m =>
    have hi : i < (TL.tl x).length := by omega
    have split : TL.tl x = (TL.tl x).take i ++ (TL.tl x)[i] :: (TL.tl x).drop (i + 1) := by
      rw [← List.drop_eq_getElem_cons hi, List.take_append_drop]
    have more : (TL.tl x).take (i + 1) = (TL.tl x).take i ++ [(TL.tl x)[i]] := List.take_succ_eq_append_getElem hi
    refine .inr ⟨by show i < x.cps.size; omega, Pv ((TL.tl x).take (i + 1)), fun H' p' => ⟨m, Nat.lt_succ_self m, by omega, p'⟩, ?_⟩
    rintro y H' ⟨rfl, c, hc, rfl⟩
    have ec : c = (TL.tl x)[i] := by
      have : (TL.tl x)[i]? = some c := by
        show x.cps.toList[i]? = some c
        rw [Array.getElem?_toList]
        exact hc
      rw [List.getElem?_eq_getElem hi] at this
      exact (Option.some.inj this).symm
    subst ec
    rw [more]
    exact hs _ _ _ _ split p
/-- for c in x, x a text -/
theorem for_str {x : Str} {g : TG} {tb : TS} {D : Ends} {σ : L2.St} {H : Hp} (Pv : List Nat → L2.St → Hp → Prop) (h0 : Pv [] σ H)
    (hs : ∀ pre c post σ H, TL.tl x = pre ++ c :: post → Pv pre σ H → g (.str (sg c)) σ H fun σ2 H2 => tb { D with nx := Pv (pre ++ [c]), ct := Pv (pre ++ [c]), bk := D.nx } σ2 H2)
    (hd : ∀ σ H, Pv (TL.tl x) σ H → D.nx σ H) :
    ∃ W : Nat → Nat → L2.St → Hp → Prop, (∃ m, W 0 m σ H) ∧ ∀ i m σ H, W i m σ H →
      ((Its x).stop i H ∧ D.nx σ H) ∨ ((Its x).go i H ∧ ∃ N : L2.St → Hp → Prop, (∀ σ' H', N σ' H' → ∃ m', m' < m ∧ W (i + 1) m' σ' H') ∧ ∀ y H', (Its x).yld i H y H' → g y σ H' fun σ2 H2 => tb { D with nx := N, ct := N, bk := D.nx } σ2 H2) := by
  have hl : x.cps.size = (TL.tl x).length := TL.len_tl x
  refine ⟨fun i m σ H => i + m = (TL.tl x).length ∧ Pv ((TL.tl x).take i) σ H, ⟨_, Nat.zero_add _, h0⟩, ?_⟩
  rintro i m σ H ⟨em, p⟩
  cases m with
  | zero =>
    refine .inl ⟨by show x.cps.size ≤ i; omega, hd σ H ?_⟩
    rw [List.take_of_length_le (by omega)] at p
    exact p
  | succ m =>
    have hi : i < (TL.tl x).length := by omega
    have split : TL.tl x = (TL.tl x).take i ++ (TL.tl x)[i] :: (TL.tl x).drop (i + 1) := by
      rw [← List.drop_eq_getElem_cons hi, List.take_append_drop]
    have more : (TL.tl x).take (i + 1) = (TL.tl x).take i ++ [(TL.tl x)[i]] := List.take_succ_eq_append_getElem hi
    refine .inr ⟨by show i < x.cps.size; omega, Pv ((TL.tl x).take (i + 1)), fun σ' H' p' => ⟨m, Nat.lt_succ_self m, by omega, p'⟩, ?_⟩
    rintro y H' ⟨rfl, c, hc, rfl⟩
    have ec : c = (TL.tl x)[i] := by
      have : (TL.tl x)[i]? = some c := by
        show x.cps.toList[i]? = some c
        rw [Array.getElem?_toList]
        exact hc
      rw [List.getElem?_eq_getElem hi] at this
      exact (Option.some.inj this).symm
    subst ec
    rw [more]
    exact hs _ _ _ _ _ split p
theorem take_tw {p : Nat → Bool} {l : List Nat} {k : Nat} (h : ∀ c ∈ l.take k, p c = true) (e : ∀ c, l[k]? = some c → p c = false) (hk : k ≤ l.length) : l.takeWhile p = l.take k ∧ l.dropWhile p = l.drop k := by
  induction l generalizing k with
  | nil => simp
  | cons a r ih =>
    cases k with
    | zero =>
      have := e a rfl
      simp [this]
    | succ k =>
      have ha := h a (by simp)
      obtain ⟨h1, h2⟩ := ih (k := k) (fun c hc => h c (by simp [hc])) (fun c hc => e c (by simpa using hc)) (by simpa using hk)
      simp [ha, h1, h2]
/-! ### lists of texts, compared with the empty one -/
theorem dp_strs {K : PySem.W.Frag} {H : Hp} : ∀ ys : List Str, DpAll K H (ys.map V.str) (ys.map PyData.str)
  | [] => .nil
  | x :: r => .cons (.str x) (dp_strs r)
theorem shaped_strs {ys : List Str} (h : ∀ y ∈ ys, PyData.strOk y = true) : SeqAt.shaped (.list (ys.map PyData.str)) = true := by
  have h1 : ∀ l : List Str, (∀ y ∈ l, PyData.strOk y = true) → PyData.canLayAll0 (l.map PyData.str) = true := fun l => by
    induction l with
    | nil => exact fun _ => rfl
    | cons x r ih =>
      intro h
      rw [List.map_cons, PyData.canLayAll0, PyData.canLay0, h x List.mem_cons_self, Bool.true_and]
      exact ih fun y hy => h y (List.mem_cons_of_mem _ hy)
  have h2 : ∀ l : List Str, PyData.depthAll (l.map PyData.str) = 0 := fun l => by
    induction l with
    | nil => rfl
    | cons x r ih => simpa [PyData.depthAll, PyData.depth] using ih
  unfold SeqAt.shaped
  simp [PyData.canLay0, PyData.depth, h1 ys h, h2]
/-- a text of code points, if it is a text -/
def okS : PyData → Bool
  | .str x => PyData.strOk x
  | _ => true
theorem ok_sg {x : Str} {c : Nat} (h : PyData.strOk x = true) (hc : c ∈ TL.tl x) : PyData.strOk (sg c) = true := by
  unfold PyData.strOk at h ⊢
  rw [Array.all_eq_true'] at h
  have := h c (by simpa using hc)
  simpa using this
theorem eqv_strs_nil (ys : List Str) : PyData.eqv (.list (ys.map PyData.str)) (.list []) = decide (ys = []) := by
  cases ys with
  | nil => rfl
  | cons x r =>
    rw [decide_eq_false (by simp)]
    rfl
/-- the law's own helpers' promises -/
def spSplit : Sp := fun vs H Q _ => ∃ x : Str, vs = [.str x] ∧ x.length ≤ 100000 ∧ ∀ (p : Addr) (hs ts : Str), H p = none → TL.tl hs = (TL.tl x).takeWhile upB → TL.tl ts = (TL.tl x).dropWhile upB → Q (.ref p) (upd H p (.tup [.str hs, .str ts]))
def spLName (K : PySem.W.Frag) : Sp := fun vs H Q _ => ∃ v d, vs = [v] ∧ Th K H v d ∧ d.bulk ≤ 100000 ∧ okS d = true ∧ ∀ H', Same H H' → Q (.bl (dName d)) H'
def spLEnd (K : PySem.W.Frag) : Sp := fun vs H Q _ => ∃ v d x y a b, vs = [v, .str x, .str y] ∧ TL.tl x = [a] ∧ TL.tl y = [b] ∧ Th K H v d ∧ d.bulk ≤ 100000 ∧ okS d = true ∧ ∀ H', Same H H' → Q (.bl (dEnd (fun c => decide (a ≤ c) && decide (c ≤ b)) d)) H'
def spLPat (K : PySem.W.Frag) : Sp := fun vs H Q _ => ∃ v d, vs = [v] ∧ Th K H v d ∧ d.bulk ≤ 100000 ∧ (isTup d = true → SeqAt.shaped d = true) ∧ ∀ H', Same H H' → Q (.bl (dPat d)) H'
theorem th_same {K : PySem.W.Frag} {H H' : Hp} (s : Same H H') {v : V} {d : PyData} (h : Th K H v d) : Th K H' v d := by
  refine Th.rec (motive_1 := fun v d _ => Th K H' v d) (motive_2 := fun vs ds _ => ThAll K H' vs ds) ?_ ?_ ?_ ?_ ?_ ?_ ?_ ?_ ?_ h
  · exact .non
  · exact .bl
  · exact .int
  · exact .str
  · exact fun hs _ ih => .lst (s.seq hs) ih
  · exact fun hs _ ih => .tup (Same.seqT s hs) ih
  · exact fun hs _ ek ih => .dct (s _ _ hs) ih ek
  · exact .nil
  · exact fun _ _ i1 i2 => .cons i1 i2
theorem th_dp {K : PySem.W.Frag} {H : Hp} {v : V} {d : PyData} (h : Th K H v d) : d.canLay0 = true → Dp K H v d := by
  refine Th.rec (motive_1 := fun v d _ => d.canLay0 = true → Dp K H v d) (motive_2 := fun vs ds _ => PyData.canLayAll0 ds = true → DpAll K H vs ds) ?_ ?_ ?_ ?_ ?_ ?_ ?_ ?_ ?_ h
  · exact fun _ => .non
  · exact fun b _ => .bl b
  · exact fun i _ => .int i
  · exact fun x _ => .str x
  · exact fun hs _ ih c => .lst hs (ih (by simpa only [PyData.canLay0] using c))
  · exact fun hs _ ih c => .tup hs (ih (by simpa only [PyData.canLay0] using c))
  · exact fun _ _ _ _ c => by simp [PyData.canLay0] at c
  · exact fun _ => .nil
  · intro v vs d ds _ _ i1 i2 c
    have c2 : d.canLay0 = true ∧ PyData.canLayAll0 ds = true := by simpa only [PyData.canLayAll0, Bool.and_eq_true] using c
    exact .cons (i1 c2.1) (i2 c2.2)
theorem ok_of_lay {d : PyData} (h : d.canLay0 = true) : okS d = true := by
  cases d with
  | str x => exact h
  | _ => rfl
theorem eqv_empty (d : PyData) : PyData.eqv d (.str "") = isE d := by
  cases d with
  | str x =>
    show (x == ("" : Str)) = decide (x = "")
    rw [Bool.eq_iff_iff, beq_iff_eq, decide_eq_true_iff]
  | _ => rfl
/-- ''.join([pick(pot, letters) for lap in range(below(pot, n))]), the letters a list that stands -/
theorem word_readT {K : PySem.W.Frag} {p c : Addr} {σ : L2.St} {H : Hp} {n : Int} {iv : Nat} {letters : List Str} {te : TE} {Q : VK}
    (hte : ∀ (H' : Hp) (v : Option V) (Q : VK), Ext p c H H' → (∀ (l : Addr), SqL K H' l (letters.map V.str) → l ≠ p → Q (.ref l) H') → te ((wipe σ [iv]).set iv v) H' Q) (hne : 0 < letters.length) (hle : letters.length ≤ 1000)
    (h1 : ∀ y ∈ letters, (TL.tl y).length ≤ 1) (hσ : σ[0]? = some (some (.ref p))) (hσ2 : ∀ v : Option V, ((wipe σ [iv]).set iv v)[0]? = some (some (.ref p))) (hw : ∀ v : Option V, wipe ((wipe σ [iv]).set iv v) [iv] = wipe σ [iv])
    (hP : PotAt p c H) (hn : 0 < n) (hn2 : n ≤ 1000) (k : ∀ (ys : List Str) (H' : Hp), (∀ y ∈ ys, y ∈ letters) → (ys.length : Int) < n → Ext p c H H' → Q (.str (Txt.join "" ys)) H') :
    tM1 (fun x xs H Q => ∃ a p, ∃ ys : List Str, x = .str a ∧ xs = [.ref p] ∧ (SqL K H p (ys.map V.str) ∨ SqT K H p (ys.map V.str)) ∧ (ys.map (·.length)).sum + ys.length * a.length ≤ 16777216 ∧ Q (.str (Txt.join a ys)) H)
      (tC (.str "")) (tLc (iRng1 (tCons (tCall spBelow [] E0 (tCons (tVar 0) (tCons (tC (.int n)) tNil))) tNil)) (gName iv) tYes (tCall (spPick K) [] E0 (tCons (tVar 0) (tCons te tNil))) [iv]) σ H Q := by
  refine ⟨⟨_, rfl⟩, _, hσ, p, c, n, rfl, hP, hn, by omega, fun r H1 r0 r1 e1 => ⟨r, rfl, by omega, by omega, fun D nD => ?_⟩⟩
  have nD0 := e1.free nD
  have nDp : D ≠ p := hP.nep nD0
  refine lc_range (lo := 0) (n := r.toNat) (fun i H' => Ext p c H H' ∧ ∃ ys : List Str, H' D = some (.lst (ys.map V.str)) ∧ ys.length = i ∧ ∀ y ∈ ys, y ∈ letters) ⟨e1.mut hP nD0, [], upd_same, rfl, fun y h => nomatch h⟩ ?_ ?_
  · rintro i H2 hi ⟨e2, ys, hD, hl, hy⟩
    refine ⟨hw _, _, hσ2 _, hte _ _ _ e2 fun l hS nl => ?_⟩
    refine ⟨p, c, l, letters.map V.str, rfl, e2.pot, hS, nl, by rw [List.length_map]; exact hne, by rw [List.length_map]; exact hle, fun v H3 hv e3 => ?_⟩
    obtain ⟨y, my, rfl⟩ := List.mem_map.mp hv
    have e4 := e2.trans e3
    have hD3 : H3 D = some (.lst (ys.map V.str)) := e3.get hD nDp
    refine ⟨_, hD3, by rw [List.length_map, hl]; exact small1000 (by omega), e4.mut hP nD0, ys ++ [y], by rw [upd_same, List.map_append]; rfl, by rw [List.length_append, hl]; rfl, fun z hz => ?_⟩
    rcases List.mem_append.mp hz with hz | hz
    · exact hy z hz
    · rw [List.mem_singleton.mp hz]
      exact my
  · rintro H2 ⟨e2, ys, hD, hl, hy⟩
    have hs : (ys.map (·.length)).sum ≤ ys.length * 1 := sum_len_le fun y h => by
      rw [TL.len_tl]
      exact h1 y (hy y h)
    exact ⟨"", D, ys, rfl, rfl, .inl (SqL.of hD), by
      show (ys.map (·.length)).sum + ys.length * 0 ≤ 16777216
      omega, k ys H2 hy (by omega) e2⟩
def spSome : Sp := fun vs H Q _ => ∃ (p c : Addr), vs = [.ref p] ∧ PotAt p c H ∧ ∀ (z : Str) (H' : Hp), z.length ≤ 6 → PyData.strOk z = true → Ext p c H H' → Q (.str z) H'
theorem ok_of_all {z : Str} (h : ∀ c ∈ TL.tl z, c < 1114112) : PyData.strOk z = true := by
  unfold PyData.strOk
  rw [Array.all_eq_true']
  intro c hc
  exact decide_eq_true (h c (by simpa using hc))
theorem Nm.ok {z : Str} {h t : List Nat} (n : Nm z h t) : PyData.strOk z = true := ok_of_all fun c hc => by
  rw [n.e] at hc
  rcases List.mem_append.mp hc with hc | hc
  · have := (n.up c hc).2
    omega
  · have := (n.lo c hc).2
    omega
theorem Nm.len {z : Str} {h t : List Nat} (n : Nm z h t) : z.length ≤ 6 := by
  rw [TL.len_tl, n.e, List.length_append]
  have := n.lh
  have := n.lt
  omega
end Lk

/-! Mak0 -/
set_option Elab.async false
set_option maxRecDepth 100000
set_option linter.all false
set_option maxHeartbeats 4000000
namespace Lk
open PySem PySem.Spec PyProof.Rows L2

/-! ### text * int -/
theorem rep_fold (a : Array Nat) : ∀ (k : Nat) (acc : Array Nat), ((List.replicate k a).foldl (· ++ ·) acc).toList = acc.toList ++ (List.replicate k a.toList).flatten
  | 0, acc => by simp
  | k + 1, acc => by
    rw [List.replicate_succ, List.foldl_cons, rep_fold a k, List.replicate_succ, List.flatten_cons, Array.toList_append, List.append_assoc]
def rStrRep : R2 := fun x y H Q => ∃ (a : Str) (k : Nat), x = .str a ∧ y = .int (k : Int) ∧ 2 ≤ k ∧ k ≤ 5000 ∧ a.length ≤ 1000 ∧ ∀ z : Str, TL.tl z = (List.replicate k (TL.tl a)).flatten → Q (.str z) H
theorem op_strRep {X : Cx} : OpR X (binaryOp .Mult) rStrRep := by
  intro pins s σ H x y v u Q I rx ry h
  obtain ⟨a, k, rfl, rfl, k1, k2, ha, q⟩ := h
  obtain ⟨t, rfl⟩ := rx
  obtain ⟨t', rfl⟩ := ry
  have hm : a.length * k ≤ 5000000 := by
    have := Nat.mul_le_mul ha k2
    omega
  have hl := TL.len_tl a
  have long : Builtin.Str.tooLong (a.length * k) = false := by
    unfold Builtin.Str.tooLong
    refine decide_eq_false (Nat.not_lt.mpr (Nat.le_trans hm ?_))
    decide
  refine PySem.P.mul_str (by rw [decide_eq_false (by omega), decide_eq_false (by omega)]; rfl) (fun _ _ => ?_) (fun _ _ => by rw [Int.toNat_natCast]; exact long) ?_
  · refine Int.not_lt.mpr (Int.le_ediv_of_mul_le (by omega) ?_)
    have : ((a.length * k : Nat) : Int) = (a.length : Int) * (k : Int) := Int.natCast_mul _ _
    omega
  · rw [if_neg (by omega), Int.toNat_natCast]
    have big : ((k : Int) == 1) = false := beq_eq_false_iff_ne.mpr (by omega)
    rw [big, Bool.false_or]
    by_cases h0 : a.length = 0
    · rw [if_pos (beq_iff_eq.mpr h0)]
      have e0 : TL.tl a = [] := List.length_eq_zero_iff.mp (by omega)
      exact ⟨.str a, H, I, ⟨_, rfl⟩, q a (by rw [e0]; simp)⟩
    · rw [if_neg (by rw [beq_iff_eq]; exact h0)]
      have e : TL.tl ⟨(List.replicate k a.cps).foldl (· ++ ·) #[]⟩ = (List.replicate k (TL.tl a)).flatten := by
        show ((List.replicate k a.cps).foldl (· ++ ·) #[]).toList = _
        rw [rep_fold, List.nil_append]
      refine ⟨?_, .str _, H, I.tok _, ⟨_, rfl⟩, q _ e⟩
      rw [TL.len_tl, e, List.length_flatten, List.map_replicate, List.sum_replicate_nat, ← hl, Nat.mul_comm]
      exact Nat.le_trans hm (by decide)

/-! ### made data: an expression's reading gives data, and only adds to the heap -/
def Mk1 (K : PySem.W.Frag) (te : TE) (σ : L2.St) (H0 : Hp) (d : PyData) : Prop := ∀ H, Same H0 H → ∀ Q : VK, (∀ v H', Same H H' → Th K H' v d → Q v H') → te σ H Q
def MkA (K : PySem.W.Frag) (ta : TA) (σ : L2.St) (H0 : Hp) (ds : List PyData) : Prop := ∀ H, Same H0 H → ∀ Q : List V → Hp → Prop, (∀ vs H', Same H H' → ThAll K H' vs ds → Q vs H') → ta σ H Q
/-- .. gives a list that stands by itself -/
def MkL (K : PySem.W.Frag) (te : TE) (σ : L2.St) (H0 : Hp) (ds : List PyData) : Prop := ∀ H, Same H0 H → ∀ Q : VK, (∀ p xs H', Same H H' → H' p = some (.lst xs) → ThAll K H' xs ds → Q (.ref p) H') → te σ H Q
section
variable {K : PySem.W.Frag} {σ : L2.St} {H0 : Hp} {te tf : TE} {ta : TA} {d e : PyData} {ds es : List PyData}
theorem thAll_same {H H' : Hp} (s : Same H H') : ∀ {vs : List V} {ds : List PyData}, ThAll K H vs ds → ThAll K H' vs ds
  | _, _, .nil => .nil
  | _, _, .cons h t => .cons (th_same s h) (thAll_same s t)
theorem thAll_app {H : Hp} : ∀ {vs ws : List V} {ds es : List PyData}, ThAll K H vs ds → ThAll K H ws es → ThAll K H (vs ++ ws) (ds ++ es)
  | _, _, _, _, .nil, h => h
  | _, _, _, _, .cons h t, g => .cons h (thAll_app t g)
theorem mk_var {i : Nat} {v : V} (h : σ[i]? = some (some v)) (t : Th K H0 v d) : Mk1 K (tVar i) σ H0 d := fun H s Q q => ⟨v, h, q v H (Same.refl H) (th_same s t)⟩
theorem mk_non : Mk1 K (tC .non) σ H0 .none := fun H _ Q q => q _ H (Same.refl H) .non
theorem mk_int {i : Int} : Mk1 K (tC (.int i)) σ H0 (.int i) := fun H _ Q q => q _ H (Same.refl H) (.int i)
theorem mk_bl {b : Bool} : Mk1 K (tC (.bl b)) σ H0 (.bool b) := fun H _ Q q => q _ H (Same.refl H) (.bl b)
theorem mk_str {x : Str} : Mk1 K (tC (.str x)) σ H0 (.str x) := fun H _ Q q => q _ H (Same.refl H) (.str x)
theorem mk_nil : MkA K tNil σ H0 [] := fun H _ Q q => q _ H (Same.refl H) .nil
theorem mk_cons (h : Mk1 K te σ H0 d) (t : MkA K ta σ H0 ds) : MkA K (tCons te ta) σ H0 (d :: ds) := fun H s Q q =>
  h H s _ fun v H1 s1 h1 => t H1 (s.trans s1) _ fun vs H2 s2 h2 => q _ H2 (s1.trans s2) (.cons (th_same s2 h1) h2)
theorem mk_tup (h : MkA K ta σ H0 ds) (hl : ds.length ≤ 1000) : Mk1 K (tTup ta) σ H0 (.tuple ds) := fun H s Q q =>
  h H s _ fun vs H1 s1 h1 => ⟨by rw [thAll_len h1]; exact Nat.le_of_lt (small1000 hl), fun p np => q _ _ (s1.trans (same_upd np)) (.tup (.inl (.inl upd_same)) (thAll_same (same_upd np) h1))⟩
theorem mk_lstL (h : MkA K ta σ H0 ds) (hl : ds.length ≤ 1000) : MkL K (tLst ta) σ H0 ds := fun H s Q q =>
  h H s _ fun vs H1 s1 h1 => ⟨by rw [thAll_len h1]; exact Nat.le_of_lt (small1000 hl), fun p np => q _ _ _ (s1.trans (same_upd np)) upd_same (thAll_same (same_upd np) h1)⟩
theorem MkL.mk (h : MkL K te σ H0 ds) : Mk1 K te σ H0 (.list ds) := fun H s Q q => h H s _ fun p xs H1 s1 e h1 => q _ H1 s1 (.lst (SqL.of e) h1)
theorem mk_lst (h : MkA K ta σ H0 ds) (hl : ds.length ≤ 1000) : Mk1 K (tLst ta) σ H0 (.list ds) := (mk_lstL h hl).mk
theorem mk_varL {i : Nat} {p : Addr} {xs : List V} (h : σ[i]? = some (some (.ref p))) (e : H0 p = some (.lst xs)) (t : ThAll K H0 xs ds) : MkL K (tVar i) σ H0 ds := fun H s Q q => ⟨_, h, q p xs H (Same.refl H) (s _ _ e) (thAll_same s t)⟩
theorem mk_cat (h : MkL K te σ H0 ds) (g : MkL K tf σ H0 es) (hl : ds.length + es.length ≤ 1000) : MkL K (tOp rCat te tf) σ H0 (ds ++ es) := fun H s Q q =>
  h H s _ fun p xs H1 s1 e1 h1 => g H1 (s.trans s1) _ fun r ys H2 s2 e2 h2 => ⟨p, r, xs, ys, rfl, rfl, s2 _ _ e1, e2, by rw [thAll_len h1, thAll_len h2]; exact Nat.le_of_lt (small1000 hl), fun l nl =>
    q l _ _ ((s1.trans s2).trans (same_upd nl)) upd_same (thAll_same (same_upd nl) (thAll_app (thAll_same s2 h1) h2))⟩
theorem mk_dict0 : Mk1 K tDNewK σ H0 (.dict []) := fun H _ Q q p np => q _ _ (same_upd np) (.dct upd_same .nil rfl)
theorem mk_dict1 {x y : Str} {i j : Nat} (hi : σ[i]? = some (some (.str x))) (hj : σ[j]? = some (some (.str y))) : Mk1 K (tDisp [(tVar i, tVar j)]) σ H0 (.dict [(.str x, .str y)]) := fun H _ Q q p np =>
  ⟨_, hi, _, hj, upd_same, [(Sum.inr x, .str y)], rfl, (by show 1 ≤ 15; decide), q _ _ (by rw [upd_upd]; exact same_upd np) (.dct upd_same (.cons (.str y) .nil) rfl)⟩
theorem mk_addstr {i j : Nat} {x y : Str} (hi : σ[i]? = some (some (.str x))) (hj : σ[j]? = some (some (.str y))) (hl : x.length + y.length ≤ 1000) :
    Mk1 K (tOp (fun x y H Q => ∃ i j, x = .str i ∧ y = .str j ∧ i.length + j.length ≤ sizeLine ∧ Q (.str (i ++ j)) H) (tVar i) (tVar j)) σ H0 (.str (x ++ y)) := fun H _ Q q =>
  ⟨_, hi, _, hj, x, y, rfl, rfl, Nat.le_of_lt (small1000 hl), q _ H (Same.refl H) (.str _)⟩
end
end Lk

/-! Siz0 -/
set_option Elab.async false
set_option maxRecDepth 100000
set_option linter.all false
set_option maxHeartbeats 4000000
namespace Lk
open PySem PySem.Spec PyProof.Rows L2
/-- data without dicts: how large, how deep -/
structure Sz (n k : Nat) (d : PyData) : Prop where
  sh : d.showable = true
  lv : d.leavesShort 13 = true
  bk : d.bulk ≤ n
  dp : d.depth ≤ k
  cl : d.canLay0 = true
theorem Sz.mono {n k m j : Nat} {d : PyData} (h : Sz n k d) (h1 : n ≤ m) (h2 : k ≤ j) : Sz m j d := ⟨h.sh, h.lv, Nat.le_trans h.bk h1, Nat.le_trans h.dp h2, h.cl⟩
theorem Sz.str {n : Nat} {x : Str} (hl : x.length ≤ n) (ho : PyData.strOk x = true) : Sz n 0 (.str x) := by
  refine ⟨rfl, ?_, hl, Nat.le_refl _, ho⟩
  unfold PyData.strOk at ho
  rw [Array.all_eq_true'] at ho
  show (x.cps.toList.all fun c => decide (c < 16 ^ 8)) = true
  rw [List.all_eq_true]
  intro c hc
  have := of_decide_eq_true (ho c (by simpa using hc))
  exact decide_eq_true (Nat.lt_trans this (by decide))
theorem Sz.none {n k : Nat} : Sz n k .none := ⟨rfl, rfl, Nat.zero_le _, Nat.zero_le _, rfl⟩
theorem Sz.bool {n k : Nat} (b : Bool) : Sz n k (.bool b) := ⟨rfl, rfl, Nat.zero_le _, Nat.zero_le _, rfl⟩
theorem Sz.zero {n k : Nat} : Sz n k (.int 0) := ⟨rfl, by decide +kernel, Nat.zero_le _, Nat.zero_le _, rfl⟩
theorem sz_all {n k : Nat} : ∀ {ds : List PyData}, (∀ d ∈ ds, Sz n k d) → PyData.showableAll ds = true ∧ PyData.leavesShortAll 13 ds = true ∧ PyData.bulkAll ds ≤ ds.length * (n + 1) ∧ PyData.depthAll ds ≤ k ∧ PyData.canLayAll0 ds = true
  | [], _ => ⟨rfl, rfl, Nat.zero_le _, Nat.zero_le _, rfl⟩
  | d :: r, h => by
    obtain ⟨h1, h2, h3, h4, h5⟩ := sz_all (ds := r) fun e he => h e (List.mem_cons_of_mem _ he)
    have hd := h d List.mem_cons_self
    refine ⟨?_, ?_, ?_, ?_, ?_⟩
    · rw [PyData.showableAll, hd.sh, h1]; rfl
    · rw [PyData.leavesShortAll, hd.lv, h2]; rfl
    · have := hd.bk
      rw [PyData.bulkAll, List.length_cons, Nat.succ_mul]
      omega
    · rw [PyData.depthAll]
      exact Nat.max_le.mpr ⟨hd.dp, h4⟩
    · rw [PyData.canLayAll0, hd.cl, h5]; rfl
theorem Sz.tuple {n k m : Nat} {ds : List PyData} (h : ∀ d ∈ ds, Sz n k d) (hm : ds.length * (n + 1) ≤ m) : Sz m (k + 1) (.tuple ds) := by
  obtain ⟨h1, h2, h3, h4, h5⟩ := sz_all h
  exact ⟨by simpa only [PyData.showable] using h1, by simpa only [PyData.leavesShort] using h2, by simpa only [PyData.bulk] using Nat.le_trans h3 hm, by simp only [PyData.depth]; omega, by simpa only [PyData.canLay0] using h5⟩
theorem Sz.list {n k m : Nat} {ds : List PyData} (h : ∀ d ∈ ds, Sz n k d) (hm : ds.length * (n + 1) ≤ m) : Sz m (k + 1) (.list ds) := by
  obtain ⟨h1, h2, h3, h4, h5⟩ := sz_all h
  exact ⟨by simpa only [PyData.showable] using h1, by simpa only [PyData.leavesShort] using h2, by simpa only [PyData.bulk] using Nat.le_trans h3 hm, by simp only [PyData.depth]; omega, by simpa only [PyData.canLay0] using h5⟩
/-- what the law's functions ask of a thing -/
structure Okd (d : PyData) : Prop where
  wf : Wf d
  bk : d.bulk ≤ 100000
  os : okS d = true
  sh : isTup d = true → SeqAt.shaped d = true
theorem Sz.okd {n k : Nat} {d : PyData} (h : Sz n k d) (hn : n ≤ 100000) (hk : k ≤ 60) : Okd d := by
  have hb : d.bulk ≤ 100000 := Nat.le_trans h.bk hn
  have hd : d.depth ≤ 60 := Nat.le_trans h.dp hk
  refine ⟨⟨h.sh, h.lv, by omega, hd, .inl (PyData.hasDict_of_canLay d h.cl)⟩, hb, ok_of_lay h.cl, fun _ => ?_⟩
  unfold SeqAt.shaped
  rw [h.cl, decide_eq_true (by omega)]
  rfl
theorem okd_dict0 : Okd (.dict []) := ⟨⟨by decide +kernel, by decide +kernel, by decide +kernel, by decide +kernel, .inr (by decide +kernel)⟩, by decide +kernel, rfl, fun h => nomatch h⟩
theorem okd_dict1 {x y : Str} (hx : Sz 1000 0 (.str x)) (hy : Sz 1000 0 (.str y)) : Okd (.dict [(.str x, .str y)]) := by
  have e1 := hx.lv
  have e2 := hy.lv
  have b1 := hx.bk
  have b2 := hy.bk
  refine ⟨⟨rfl, ?_, ?_, (by show 1 + max (max 0 0) 0 ≤ 60; decide), .inr rfl⟩, ?_, rfl, fun h => nomatch h⟩
  · simp [PyData.leavesShort, PyData.leavesShortKv] at e1 e2 ⊢
    exact ⟨e1, e2⟩
  · simp only [PyData.bulk, PyData.bulkKv] at b1 b2 ⊢
    omega
  · simp only [PyData.bulk, PyData.bulkKv] at b1 b2 ⊢
    omega
theorem wf_b3 (a b c : Bool) : Wf (.tuple [.bool a, .bool b, .bool c]) := by
  have h : Sz 1000 1 (.tuple [.bool a, .bool b, .bool c]) := Sz.tuple (n := 0) (k := 0) (fun d hd => by
    simp only [List.mem_cons, List.mem_nil_iff, or_false] at hd
    rcases hd with rfl | rfl | rfl <;> exact Sz.bool _) (by show 3 * 1 ≤ 1000; decide)
  exact (h.okd (by decide) (by decide)).wf
def spLaw (K : PySem.W.Frag) : Sp := fun vs H Q _ => ∃ (a : Addr) (ns : List Int), vs = [.ref a] ∧ SqL K H a (ns.map V.int) ∧ ns.length ≤ 63 ∧ ∀ H', Q (.bl true) H'
/-- a law's def, nothing raised -/
theorem mkCalG0 {P : Program} {w : World} {K : PySem.W.Frag} {mg : Str → Option Value} {base : Heap} {x : String} {st : Stmt} {N ps : List Str} {k : Nat} {sp : Sp} (D : Def1 K mg x st) (S : FnScope N ps (defScope st))
    (hb : ∀ (kV doc pm : Value) (an : Option Addr) (cdv ct : Value) (us : List Value), us.length = ps.length → bindArgs (PySem.W.fnOf x x (defArgs st) (defBody st) (defScope st) .none kV doc pm an cdv ct) ⟨us, []⟩ = pure (ps.zip us))
    (len : ∀ vs H Q E, sp vs H Q E → vs.length = ps.length)
    (body : ∀ (f : Addr) (cdv : Value) (A : Around) (above : List Env) (s : Shared) (H : Hp) (vs : List V) (Q : VK) (E : XK), Room k (A.deeper (envOfC x (defScope st) s.heap.objs.size f cdv)) →
      (A.deeper (envOfC x (defScope st) s.heap.objs.size f cdv)).guards = some [] → sp vs H Q E →
      ∃ t, PSs (cxOf CX0 P w K mg base N x (defScope st) f cdv A above s H E).nox (defBody st) t ∧ t { nx := fun _ H' => Q .non H', rt := Q } (start N vs) H) : CalG P w K mg base CX0 (k + 1) x sp :=
  mkCalG D S hb len fun f cdv A above s H vs Q E hr hg h => by
    obtain ⟨t, ht, q⟩ := body f cdv A above s H vs Q E hr hg h
    exact ⟨t, ht.nox, q⟩
theorem iteF' {b : Bool} {A B : Prop} (hb : b = false) (h : B) : if b = true then A else B := by
  rw [hb]
  exact iteF h
theorem iteT' {b : Bool} {A B : Prop} (hb : b = true) (h : A) : if b = true then A else B := by
  rw [hb]
  exact iteT h
/-! ### stores and loops over made data -/
section
variable {K : PySem.W.Frag} {σ : L2.St} {H : Hp} {te : TE} {g : TG} {t : TS} {D : Ends} {ds : List PyData}
theorem set_mkL (h : MkL K te σ H ds) (q : ∀ p xs H', Same H H' → H' p = some (.lst xs) → ThAll K H' xs ds → g (.ref p) σ H' (t D)) : tSeq (tAsg te g) t D σ H := h H (Same.refl H) _ q
theorem thAll_get : ∀ {xs : List V} {ds : List PyData} {i : Nat} {x : V}, ThAll K H xs ds → xs[i]? = some x → ∃ d, d ∈ ds ∧ Th K H x d
  | _, _, _, _, .nil, h => by simp at h
  | _, _, 0, _, .cons h _, e => by
    simp at e
    subst e
    exact ⟨_, List.mem_cons_self, h⟩
  | _, _, i + 1, x, .cons _ tl, e => by
    obtain ⟨d, m, h⟩ := thAll_get (i := i) (x := x) tl (by simpa using e)
    exact ⟨d, List.mem_cons_of_mem _ m, h⟩
def zrep (k : Nat) (x : Str) : Str := ⟨((List.replicate k (TL.tl x)).flatten).toArray⟩
theorem tl_zrep (k : Nat) (x : Str) : TL.tl (zrep k x) = (List.replicate k (TL.tl x)).flatten := rfl
theorem mk_rep {i k : Nat} {x : Str} (h : σ[i]? = some (some (.str x))) (k1 : 2 ≤ k) (k2 : k ≤ 5000) (hx : x.length ≤ 1000) : Mk1 K (tOp rStrRep (tVar i) (tC (.int (k : Int)))) σ H (.str (zrep k x)) := fun H1 _ Q q =>
  ⟨_, h, x, k, rfl, rfl, k1, k2, hx, fun z e => by
    have : z = zrep k x := TL.ext_tl e
    subst this
    exact q _ H1 (Same.refl H1) (.str _)⟩
theorem ok_cut {z : Str} {lo hi : Option Int} (h : PyData.strOk z = true) : PyData.strOk (cutS z lo hi) = true := by
  refine ok_of_all fun c hc => ?_
  have hc2 : c ∈ TL.tl z := (List.drop_sublist _ _).subset ((List.take_sublist _ _).subset hc)
  unfold PyData.strOk at h
  rw [Array.all_eq_true'] at h
  exact of_decide_eq_true (h c (by simpa using hc2))
theorem ok_sub {z y : Str} (h : PyData.strOk z = true) (hs : ∀ c ∈ TL.tl y, c ∈ TL.tl z) : PyData.strOk y = true := by
  refine ok_of_all fun c hc => ?_
  unfold PyData.strOk at h
  rw [Array.all_eq_true'] at h
  exact of_decide_eq_true (h c (by simpa using hs c hc))
theorem ok_rep {k : Nat} {x : Str} (h : PyData.strOk x = true) : PyData.strOk (zrep k x) = true := ok_sub h fun c hc => by
  rw [tl_zrep] at hc
  obtain ⟨l, hl, hc⟩ := List.mem_flatten.mp hc
  rw [(List.mem_replicate.mp hl).2] at hc
  exact hc
theorem ok_add {x y : Str} (h : PyData.strOk x = true) (g : PyData.strOk y = true) : PyData.strOk (x ++ y) = true := by
  refine ok_of_all fun c hc => ?_
  unfold PyData.strOk at h g
  rw [Array.all_eq_true'] at h g
  rw [TL.tl_append] at hc
  rcases List.mem_append.mp hc with hc | hc
  · exact of_decide_eq_true (h c (by simpa using hc))
  · exact of_decide_eq_true (g c (by simpa using hc))
theorem len_add (x y : Str) : (x ++ y).length = x.length + y.length := strLen_append x y
theorem len_rep (k : Nat) (x : Str) : (zrep k x).length = k * x.length := by
  rw [TL.len_tl, tl_zrep, List.length_flatten, List.map_replicate, List.sum_replicate_nat, TL.len_tl x]
end
theorem nmB_app {u l : List Nat} (hu : u.all upB = true) (hl : l.all loB = true) (ne : u ++ l ≠ []) : nmB (u ++ l) = true := by
  have e : (u ++ l).dropWhile upB = l := by
    have e1 : ∀ u : List Nat, u.all upB = true → (u ++ l).dropWhile upB = l.dropWhile upB := fun u => by
      induction u with
      | nil => exact fun _ => rfl
      | cons c r ih =>
        intro h
        rw [List.all_cons, Bool.and_eq_true] at h
        rw [List.cons_append, List.dropWhile_cons, if_pos h.1]
        exact ih h.2
    rw [e1 u hu]
    cases l with
    | nil => rfl
    | cons c r =>
      rw [List.all_cons, Bool.and_eq_true] at hl
      have : upB c = false := by
        have h1 := hl.1
        simp only [loB, Bool.and_eq_true, decide_eq_true_eq] at h1
        simp only [upB, Bool.and_eq_false_iff, decide_eq_false_iff_not]
        omega
      rw [List.dropWhile_cons, if_neg (by rw [this]; exact Bool.false_ne_true)]
  unfold nmB
  rw [e, hl, Bool.and_true]
  cases q : u ++ l with
  | nil => exact absurd q ne
  | cons c r => rfl
theorem nmB_bad {u : List Nat} {c : Nat} (hu : u.all upB = true) (h1 : upB c = false) (h2 : loB c = false) : nmB (u ++ [c]) = false := by
  have e : (u ++ [c]).dropWhile upB = [c] := by
    induction u with
    | nil => rw [List.nil_append, List.dropWhile_cons, if_neg (by rw [h1]; exact Bool.false_ne_true)]
    | cons d r ih =>
      rw [List.all_cons, Bool.and_eq_true] at hu
      rw [List.cons_append, List.dropWhile_cons, if_pos hu.1]
      exact ih hu.2
  unfold nmB
  rw [e, List.all_cons, h2, Bool.false_and, Bool.and_false]
theorem all_rep {k c : Nat} {x : Str} (p : Nat → Bool) (hx : TL.tl x = [c]) (hc : p c = true) : (TL.tl (zrep k x)).all p = true := by
  rw [tl_zrep, hx, List.all_eq_true]
  intro d hd
  obtain ⟨l, hl, hd⟩ := List.mem_flatten.mp hd
  rw [(List.mem_replicate.mp hl).2] at hd
  rw [List.mem_singleton.mp hd]
  exact hc
/-- for x in e, e a list of made data -/
theorem for_mkL {K K' : PySem.W.Frag} {σ : L2.St} {H : Hp} {te : TE} {g : TG} {tb : TS} {D : Ends} {ds : List PyData} (h : MkL K te σ H ds)
    (q : ∀ (L : Addr) (xs : List V) (H' : Hp), Same H H' → H' L = some (.lst xs) → ThAll K H' xs ds → ∃ Pv : Nat → L2.St → Hp → Prop, Pv 0 σ H' ∧ (∀ i σ H2, Pv i σ H2 → H2 L = some (.lst xs)) ∧
      (∀ (i : Nat) (x : V) (d : PyData) (σ : L2.St) (H2 : Hp), d ∈ ds → Th K H' x d → Pv i σ H2 → g x σ H2 fun σ2 H3 => tb { D with nx := Pv (i + 1), ct := Pv (i + 1), bk := D.nx } σ2 H3) ∧ ∀ σ H2, Pv xs.length σ H2 → D.nx σ H2) :
    tFor (iList K' te) g tb D σ H := h H (Same.refl H) _ fun L xs H' s e t => by
  obtain ⟨Pv, p0, pl, ps, pd⟩ := q L xs H' s e t
  exact ⟨L, rfl, ⟨_, SqL.of e⟩, for_list (K := K') (a := L) (xs := xs) Pv p0 (fun i σ H2 _ p => SqL.of (pl i σ H2 p)) (fun i x σ H2 hx p => by
    obtain ⟨d, hd, ht⟩ := thAll_get t hx
    exact ps i x d σ H2 hd ht p) pd⟩
theorem or_pat {K : PySem.W.Frag} {σ : L2.St} {H : Hp} {i : Nat} {v : V} {d : PyData} {Q : VK} (hv : σ[i]? = some (some v)) (th : Th K H v d) (ok : Okd d) (h : ∀ H', Same H H' → Q (.bl (dName d || dPat d)) H') :
    if dName d = true then Q (.bl true) H else tCall (spLPat K) [] E0 (tCons (tVar i) tNil) σ H Q := by
  cases e : dName d with
  | true =>
    rw [e, Bool.true_or] at h
    exact iteT (h H (Same.refl H))
  | false =>
    rw [e, Bool.false_or] at h
    exact iteF ⟨v, hv, v, d, rfl, th, ok.bk, ok.sh, h⟩
theorem mkFnG {P : Program} {w : World} {K : PySem.W.Frag} {mg : Str → Option Value} {base : Heap} {CX : CXT} {x : String} {st : Stmt} {f : Addr} {fd : FuncData} {N ps : List Str} {k : Nat} {sp : Sp} (F : L2.Fun K x x st f fd) (S : FnScope N ps (defScope st))
    (len : ∀ vs H Q E, sp vs H Q E → vs.length = ps.length)
    (body : ∀ (cdv : Value) (A : Around) (above : List Env) (s : Shared) (H : Hp) (vs : List V) (Q : VK) (E : XK), Room k (A.deeper (envOfC x (defScope st) s.heap.objs.size f cdv)) →
      (A.deeper (envOfC x (defScope st) s.heap.objs.size f cdv)).guards = some [] → sp vs H Q E →
      ∃ t, PSs (cxOf CX P w K mg base N x (defScope st) f cdv A above s H E) (defBody st) t ∧ t { nx := fun _ H' => Q .non H', rt := Q } (start N vs) H) : FnG P w K mg base CX (k + 1) f fd ps sp := by
  obtain ⟨oc, od, kV, doc, pm, an, cdv, ct, sl, rfl, lk, hcd⟩ := F.ex
  exact fnG_of lk hcd S len fun A above s H vs Q E hr hg h => body cdv A above s H vs Q E hr hg h
theorem mkFnG0 {P : Program} {w : World} {K : PySem.W.Frag} {mg : Str → Option Value} {base : Heap} {x : String} {st : Stmt} {f : Addr} {fd : FuncData} {N ps : List Str} {k : Nat} {sp : Sp} (F : L2.Fun K x x st f fd) (S : FnScope N ps (defScope st))
    (len : ∀ vs H Q E, sp vs H Q E → vs.length = ps.length)
    (body : ∀ (cdv : Value) (A : Around) (above : List Env) (s : Shared) (H : Hp) (vs : List V) (Q : VK) (E : XK), Room k (A.deeper (envOfC x (defScope st) s.heap.objs.size f cdv)) →
      (A.deeper (envOfC x (defScope st) s.heap.objs.size f cdv)).guards = some [] → sp vs H Q E →
      ∃ t, PSs (cxOf CX0 P w K mg base N x (defScope st) f cdv A above s H E).nox (defBody st) t ∧ t { nx := fun _ H' => Q .non H', rt := Q } (start N vs) H) : FnG P w K mg base CX0 (k + 1) f fd ps sp :=
  mkFnG F S len fun cdv A above s H vs Q E hr hg h => by
    obtain ⟨t, ht, q⟩ := body cdv A above s H vs Q E hr hg h
    exact ⟨t, ht.nox, q⟩
end Lk

/-! Try0 -/
set_option Elab.async false
set_option maxRecDepth 100000
set_option linter.all false
set_option maxHeartbeats 4000000
namespace Lk
open PySem PySem.Spec PyProof.Rows L2

abbrev Suite := Addr → Value → Option Addr → TS
/-- the ends of a suite «as n»: behind it n's slot is empty -/
def endsAs (i : Nat) (D : Ends) : Ends := { nx := fun σ H => D.nx (σ.set i none) H, rt := D.rt, bk := fun σ H => D.bk (σ.set i none) H, ct := fun σ H => D.ct (σ.set i none) H }
/-- several clauses «except C as n», the same n: one of them takes what the body raises -/
def wAsL (K : PySem.W.Frag) (i : Nat) (D : Ends) : List (Value × Suite) → WX
  | [] => fun _ _ _ _ => False
  | (c, ts) :: more => fun cls d σ H => ∃ b, PySem.W.exmOne K cls c = some b ∧ (b = true → ∀ a, H a = none → ts a cls d (endsAs i D) (σ.set i (some (.ref a))) H) ∧ (b = false → wAsL K i D more cls d σ H)
inductive HdAs (X : Cx) (n : Str) : List ExceptHandler → List (Value × Suite) → Prop
  | none : HdAs X n [] []
  | more {x : Str} {c : Value} {ts : Suite} {st : Stmt} {sts : List Stmt} {p1 p2 : Pos} {hds : List ExceptHandler} {l : List (Value × Suite)} (names : Names X x c)
      (run : ∀ (a : Addr) (oe : Obj) (cls : Value) (d : Option Addr) (pn : List (Addr × Obj)), Zc cls d oe → (∃ vs, oe.data = .fields vs) → PSs (X.suite a ((a, oe) :: pn)) (st :: sts) (ts a cls d)) (rest : HdAs X n hds l) :
      HdAs X n (.ExceptHandler (some (.Name x p1)) (some n) (st :: sts) p2 :: hds) ((c, ts) :: l)
section
variable {X : Cx} {n : Str} {i : Nat} {body : List Stmt} {hd : ExceptHandler} {hds : List ExceptHandler} {l : List (Value × Suite)} {pos : Pos} {tb : WX → TS}
theorem ps_try_asL (top : X.stack = X.env :: X.outer) (fr : X.env.frame = some X.env.locals) (nd : X.N.Nodup) (slot : X.N[i]? = some n) (loc : X.env.kindOf n = some .local)
    (bodyOk : ∀ (W : WX) (pn : List (Addr × Obj)) (xe : Value → Shared → Prop), Takes (X.tr pn xe) W → PassesOwn (model X.prog X.w) X.A X.env xe → PSs (X.tr pn xe) body (tb W)) (clauses : HdAs X n (hd :: hds) l) :
    PS X (.Try body (hd :: hds) [] [] pos) (fun D σ H => tb (wAsL X.K i D l) D σ H) := by
  constructor
  intro pins s σ H D I rd
  have xok := I.ok
  have frames : X.A.frames = some (X.env :: X.outer) := xok.frames.trans (congrArg some top)
  apply wpAny_Try_except
  let caught : Value → Shared → Prop := fun e s₁ => wpAny (model X.prog X.w) X.A (noteFrame e X.env) (fun _ s₂ => wpAny (model X.prog X.w) X.A (setFlight e none) (fun _ s₃ => wpAny (model X.prog X.w) X.A (handleBy e X.env (hd :: hds)) (SP X pins D) X.xe s₃) X.xe s₂) X.xe s₁
  have takes : Takes (X.tr (X.pn ++ pins) caught) (wAsL X.K i D l) := by
    rintro u s1 ⟨a, B, sI, pins1, σ1, H1, cls, d, rfl, J0, nb, up, sky, fresh, os, ag, want⟩
    have J : Inv X pins σ1 H1 sI := J0.ofTry xok
    rw [show (X.tr (X.pn ++ pins) caught).stack = X.stack from rfl, top] at sky
    show wpAny (model X.prog X.w) X.A (noteFrame (.ref a) X.env) _ _ _
    apply Sky.land Zc.steady frames fr sky
    intro h2 fly up2
    have J2 : Inv X pins σ1 H1 { s1 with heap := h2 } := J.landed nb fly.1 (up.trans up2) os ag
    obtain ⟨o2, vs2, at2, z2, dat2⟩ := fly.there
    have apart : a ∉ frs (X.env :: X.outer) := by
      intro hm
      obtain ⟨_, o', e', hnf⟩ := fly.2.2.1.mem hm
      rw [at2] at e'
      cases e'
      exact hnf _ dat2
    have nL : a ≠ X.env.locals := by
      rintro rfl
      exact apart (List.mem_filterMap.mpr ⟨X.env, List.mem_cons_self, fr⟩)
    have nF : a ∉ X.fs := by
      intro hm
      obtain ⟨e, he, q⟩ := List.mem_filterMap.mp hm
      exact apart (List.mem_filterMap.mpr ⟨e, List.mem_cons_of_mem _ he, q⟩)
    have S2 := J2.suite at2 dat2 fresh nL nF
    have each : ∀ {hs : List ExceptHandler} {ls : List (Value × Suite)}, HdAs X n hs ls → wAsL X.K i D ls cls d σ1 H1 → wpAny (model X.prog X.w) X.A (handleBy (.ref a) X.env hs) (SP X pins D) X.xe { s1 with heap := h2 } := by
      intro hs ls hk
      induction hk with
      | none => exact fun w => w.elim
      | @more x c ts st sts p1 p2 hds2 l2 names run rest ih =>
        rintro ⟨b, matches_, yes, no⟩
        apply wpAny_handleBy_cons (codeAny_handlers_test ?_) (by intro q; cases q)
        have looksT : PySem.W.Looks (model X.prog X.w) h2 (typeOf (.ref a)) cls := fun A Q E s k q => wpAny_typeOf_ref (k _ _ at2) (by rw [z2.1]; exact q)
        have looksM := PySem.W.exm_one (M := model X.prog X.w) J2.kIn looksT matches_
        have named : ∀ {Q : Value → Shared → Prop} {E : Value → Shared → Prop}, Q c { s1 with heap := h2 } → wpAny (model X.prog X.w) (X.A.mark (some (.ref a))) (eval (.Name x p1) X.env) Q E { s1 with heap := h2 } := by
          intro Q E q
          rcases names with ⟨hg, hdbg, hm | ⟨hm, hv, hnn⟩⟩
          · exact ld_glob (X := X.suite a ((a, o2) :: (X.pn ++ pins))) S2 hg hm q hdbg
          · exact ld_blt (X := X.suite a ((a, o2) :: (X.pn ++ pins))) S2 hg hm hv q hnn hdbg
        apply named
        apply looksM.here
        match b, yes, no with
        | false, _, no => exact ih (no rfl)
        | true, yes, _ =>
          apply codeAny_handlers_suite_as
          apply HandSPX.lands_againZ fly
          intro h3 fly3 up3
          have J3 : Inv X pins σ1 H1 { s1 with heap := h3 } := J.landed nb fly3.1 ((up.trans up2).trans up3) os ag
          obtain ⟨o3, vs3, at3, z3, dat3⟩ := fly3.there
          have S3 := J3.suite at3 dat3 fresh nL nF
          apply store_ok (X := X.suite a ((a, o3) :: (X.pn ++ pins))) (v := .ref a) S3 nd slot (.inl loc) rfl (fun s4 S4 => ?_) (.inr loc)
          apply wpAny_mono ((run a o3 cls d (X.pn ++ pins) z3 ⟨_, dat3⟩).run [] s4 _ H1 _ S4 (yes rfl a fresh)) ?_ (fun _ _ z => False.elim z)
          intro fl s5 out
          have close : ∀ {σ6 : L2.St} {H6 : Hp} {Q : Shared → Prop}, Inv (X.suite a ((a, o3) :: (X.pn ++ pins))) [] σ6 H6 s5 → (∀ s7, Inv X pins (σ6.set i Option.none) H6 s7 → Q s7) →
              wpAny (model X.prog X.w) X.A (do bindName X.env n .none; unbindBehindTheSuite X.env n p2) (fun _ s7 => Q s7) X.xe s5 := fun S6 hq => gone_ok (S6.unsuite xok) nd slot loc hq
          match fl, out with
          | .next, ⟨_, _, S6, q6⟩ => exact close S6 fun _ J7 => ⟨_, _, J7, q6⟩
          | .brk, ⟨_, _, S6, q6⟩ => exact close S6 fun _ J7 => ⟨_, _, J7, q6⟩
          | .cont, ⟨_, _, S6, q6⟩ => exact close S6 fun _ J7 => ⟨_, _, J7, q6⟩
          | .ret _, ⟨_, _, _, S6, r6, q6⟩ => exact close S6 fun _ J7 => ⟨_, _, _, J7, r6, q6⟩
    exact each clauses want
  apply wpAny_mono ((bodyOk _ _ caught takes PassesOwn.looking).run [] s σ H D (I.toTry _) rd) ?_ (fun _ _ he => he)
  intro fl s1 out
  match fl, out with
  | .next, ⟨_, _, J, q⟩ => exact wpAny_execs_nil ⟨_, _, J.ofTry xok, q⟩
  | .brk, ⟨_, _, J, q⟩ => exact ⟨_, _, J.ofTry xok, q⟩
  | .cont, ⟨_, _, J, q⟩ => exact ⟨_, _, J.ofTry xok, q⟩
  | .ret _, ⟨_, _, _, J, r, q⟩ => exact ⟨_, _, _, J.ofTry xok, r, q⟩
end
end Lk

/-! Ne0 -/
set_option Elab.async false
set_option maxRecDepth 100000
set_option linter.all false
set_option maxHeartbeats 4000000
namespace PySem
open PySem.SeqAt
section
variable {prog : Program} {w : World} {A : Around} {E : Value → Shared → Prop} {s : Shared}
theorem lk_dict_ne_str (l : Addr) (es : Array DictEntry) (n : Nat) (dd : Option Addr) (sl : Array (Option Value)) (b : Str) (u : Tok) :
    Meets (Builtin.«dict.__ne__» ⟨[.ref l, .str b u], []⟩) (fun _ R s => s.heap.get? l = some { cls := .type "dict", dict := dd, data := .dict es n, slots := sl } ∧ R (.ok (.ret .notImplemented)) s) := by
  refine .of_wp ?_
  rintro prog w A R ⟨hp, g, d, tk, os⟩ ⟨there, h⟩
  have noSub := F.sub_str_dict
  wp_walk using wpAny_loadPart' there, wpAny_load there
  exact ⟨_, rfl, h⟩
theorem lk_str_ne_dict (l : Addr) (es : Array DictEntry) (n : Nat) (dd : Option Addr) (sl : Array (Option Value)) (b : Str) (u : Tok) :
    Meets (Builtin.«str.__ne__» ⟨[.str b u, .ref l], []⟩) (fun _ R s => s.heap.get? l = some { cls := .type "dict", dict := dd, data := .dict es n, slots := sl } ∧ R (.ok (.ret .notImplemented)) s) := by
  refine .of_wp ?_
  rintro prog w A R ⟨hp, g, d, tk, os⟩ ⟨there, h⟩
  wp_walk using wpAny_loadPart' there, wpAny_load there
  exact ⟨_, rfl, h⟩
theorem lk_rc_dict_str {l : Addr} {o : Obj} {es : Array DictEntry} {n : Nat} (b : Str) (u : Tok) (ho : s.heap.get? l = some o) (hc : o.cls = .type "dict") (hd : o.data = .dict es n) (hu : A.units < cLine) {Q : Value → Shared → Prop} (h : Q (.bool true) s) :
    wpAny (model prog w) A (richCompare .NotEq (.ref l) (.str b u)) Q E s := by
  obtain ⟨cls, dd, data, sl⟩ := o
  simp only at hc hd
  subst hc hd
  refine rc_ne_decline_or (a := .ref l) (b := .str b u) (s := s) (k := false) (show s.TypeIs (.ref l) "dict" from ⟨_, ho, rfl⟩) (typeIs_str s b u) (by decide) F.sub_str_dict F.slot_dict_ne F.slot_str_ne_refl ?_ ?_ ?_ ?_ ?_
  · exact fun _ hq => call_meets F.slot_dict_ne ⟨_, ho, rfl⟩ F.entry_dict_ne (F.args_dict_ne_2 _ _) (lk_dict_ne_str l es n dd sl b u) ⟨ho, hq⟩
  · exact fun _ hq => call_meets F.slot_str_ne_refl (typeIs_str s b u) F.entry_str_ne (F.args_str_ne_2 _ _) (lk_str_ne_dict l es n dd sl b u) ⟨ho, hq⟩
  · exact fun _ hq => wpAny_of_eq (rfl : isSame (.ref l) (.str b u) = pure false) hq
  · exact .inr hu
  · exact h
end
end PySem
namespace Lk
open PySem PySem.Spec PyProof.Rows L2
/-- thing != '', thing of any form -/
def rNeE (K : PySem.W.Frag) : R2 := fun x y H Q => ∃ d, y = .str "" ∧ Th K H x d ∧ (d.hasDict = true → isDct d = true) ∧ (d.hasDict = false → SeqAt.shaped d = true) ∧ Q (.bl (!isE d)) H
theorem op_neE {X : Cx} (hu : X.A.units + 64 < cLine) : OpR X (compareOp .NotEq) (rNeE X.K) := by
  intro pins s σ H x y v u Q I rx ry h
  obtain ⟨d, rfl, ht, hd, hs, q⟩ := h
  cases e : d.hasDict with
  | false =>
    have sh := hs e
    refine op_neD hu pins s σ H x (.str "") v u Q I rx ry ⟨d, .str "", th_dp ht (SeqAt.canLay_of_shaped sh), .str _, sh, by decide +kernel, ?_⟩
    rw [eqv_empty]
    exact q
  | true =>
    have hh := hd e
    cases ht with
    | dct ha _ _ =>
      obtain ⟨t, rfl⟩ := ry
      cases rx
      obtain ⟨_, _, vs, kv, o, es, ep, ho, ex, hda, _⟩ := (show ObjOk X.prog X.w H s.heap _ (.dK _) from I.hok _ _ ha)
      exact PySem.lk_rc_dict_str _ _ ho ex.1 hda (by omega) ⟨.bl true, H, I, rfl, q⟩
    | _ => cases hh
end Lk

/-! Xr0 -/
set_option Elab.async false
set_option maxRecDepth 100000
set_option linter.all false
set_option maxHeartbeats 4000000
namespace Lk
open PySem PySem.Spec PyProof.Rows L2
/-- an own class of errors, under ValueError -/
structure Err (K : PySem.W.Frag) (mg : Str → Option Value) (x : String) (C : Addr) : Prop where
  gC : mg x = some (.ref C)
  xC : PySem.W.excIn K C [.type "ValueError", .type "Exception", .type "BaseException", .type "object"] "ValueError.__new__" = true
  kC : PySem.W.keepIn K (.ref C) = true
  bC : PySem.W.subIn K (.ref C) (.type "BaseException") = some true
  tC : PySem.W.typeIn K (.ref C) = some (.type "type")
/-- an error of the class at S, a clause that names the class at T -/
theorem exm_of {K : PySem.W.Frag} {S T : Addr} {b : Bool} (h1 : PySem.W.subIn K (.ref T) (.type "BaseException") = some true) (h2 : PySem.W.isClsIn K T = true) (h3 : PySem.W.typeIn K (.ref T) = some (.type "type")) (h4 : PySem.W.subIn K (.ref S) (.ref T) = some b) :
    PySem.W.exmOne K (.ref S) (.ref T) = some b := by
  have e1 : (PySem.W.subIn K (.ref T) (.type "BaseException") == some true) = true := by rw [h1] <;> rfl
  have e2 : ((PySem.W.clsIn K T).isSome && PySem.W.typeIn K (.ref T) == some (.type "type")) = true := by
    have h2' : (PySem.W.clsIn K T).isSome = true := h2
    rw [h2', h3] <;> rfl
  show (if (PySem.W.subIn K (.ref T) (.type "BaseException") == some true) = true then (if ((PySem.W.clsIn K T).isSome && PySem.W.typeIn K (.ref T) == some (.type "type")) = true then PySem.W.subIn K (.ref S) (.ref T) else none) else none) = some b
  rw [if_pos e1, if_pos e2]
  exact h4
section
variable {X : Cx} {C : Addr} {W : WX} {x : String}
/-- raise C('m') -/
theorem ps_err (R : Err X.K X.mg x C) (calm : X.calm = true) (tk : Takes X W) {m : Str} {j : Nat} {p p2 p3 pos : Pos} (hg : Gl X x := by rfl) (hdb : ((x : Str) == ("__debug__" : Str)) = false := by decide) :
    PS X (.Raise (some (.Call (.Name x p) [.Constant (.str m) j p2] [] p3)) none pos) (fun _ σ H => W (.ref C) none σ H) :=
  ps_raise calm tk (pmk_own PySem.F.excBase_ValueError R.xC R.gC R.kC (raises_own R.bC R.tC) hg hdb)
end
/-- a def that may raise, called by its name -/
structure CalX (P : Program) (w : World) (K : PySem.W.Frag) (mg : Str → Option Value) (base : Heap) (k : Nat) (x : String) (sp : Sp) : Prop where
  ex : ∃ (f : Addr) (fd : FuncData) (ps : List Str), FnOk P w K mg base (L2.CX P w) k f fd ps sp ∧ mg x = some (.ref f) ∧ PySem.W.keepIn K (.ref f) = true ∧ Binds K fd ps []
section
variable {P : Program} {w : World} {K : PySem.W.Frag} {mg : Str → Option Value} {base : Heap}
theorem mkCalX {x : String} {st : Stmt} {N ps : List Str} {k : Nat} {sp : Sp} (D : Def1 K mg x st) (S : FnScope N ps (defScope st))
    (hb : ∀ (kV doc pm : Value) (an : Option Addr) (cdv ct : Value) (us : List Value), us.length = ps.length → bindArgs (PySem.W.fnOf x x (defArgs st) (defBody st) (defScope st) .none kV doc pm an cdv ct) ⟨us, []⟩ = pure (ps.zip us))
    (len : ∀ vs H Q E, sp vs H Q E → vs.length = ps.length)
    (hbody : ∀ (f : Addr) (cdv : Value) (A : Around) (outer : List Env) (s : Shared) (H : Hp) (vs : List V) (Q : VK) (E : XK), Room k (A.deeper (envOfC x (defScope st) s.heap.objs.size f cdv)) → sp vs H Q E →
      ∃ t, PSs (cxOf (L2.CX P w) P w K mg base N x (defScope st) f cdv A outer s H E) (defBody st) t ∧ t { nx := fun _ H' => Q .non H', rt := Q } (start N vs) H) : CalX P w K mg base (k + 1) x sp := by
  obtain ⟨f, fd, F, m⟩ := D.ex
  exact ⟨f, fd, ps, F.okX S len fun cdv A outer s H vs Q E hr h => hbody f cdv A outer s H vs Q E hr h, m, F.kp, F.binds hb⟩
end
section
variable {X : Cx} {k j : Nat} {x : String} {sp : Sp} {p pos : Pos} {e : Expr} {es : List Expr} {t : TA}
/-- called in a def that lets its errors out -/
theorem pe_calX {E : XK} (c : CalX X.prog X.w X.K X.mg X.base k x sp) (hr : Room j X.A) (hk : k ≤ j) (tk : Takes X (fun cls d _ H => E cls d H)) (ha : PA X (e :: es) t) (hg : Gl X x := by rfl)
    (hdb : ((x : Str) == ("__debug__" : Str)) = false := by decide) (he : starEach (e :: es) X.env = (false, eval e X.env) :: starEach es X.env := by rfl) (hpl : (backTo pos (starEach es X.env)).any (·.1) = false := by rfl) :
    PE X (.Call (.Name x p) (e :: es) [] pos) (tCall sp [] E t) := by
  obtain ⟨f, fd, ps, F, m, kp, b⟩ := c.ex
  exact pe_call F (hr.mono hk) hg m kp b .nil (passes_call tk fun _ _ _ _ h => h) ha hdb he hpl
/-- called in a try's body -/
theorem pe_calT {W : WX} (c : CalX X.prog X.w X.K X.mg X.base k x sp) (hr : Room j X.A) (hk : k ≤ j) (tk : Takes X W) (ha : PA X (e :: es) t) (hg : Gl X x := by rfl)
    (hdb : ((x : Str) == ("__debug__" : Str)) = false := by decide) (he : starEach (e :: es) X.env = (false, eval e X.env) :: starEach es X.env := by rfl) (hpl : (backTo pos (starEach es X.env)).any (·.1) = false := by rfl) :
    PE X (.Call (.Name x p) (e :: es) [] pos) (tCallS sp (WE W) t) := by
  obtain ⟨f, fd, ps, F, m, kp, b⟩ := c.ex
  exact pe_callS F (hr.mono hk) hg m kp b (fun σ => passAt tk σ) ha hdb he hpl
/-- a def that asks for no guard on the stack -/
theorem pe_calG (c : CalG X.prog X.w X.K X.mg X.base CX0 k x sp) (hr : Room j X.A) (hk : k ≤ j) (gd : X.A.guards = some []) (ha : PA X (e :: es) t) (hg : Gl X x := by rfl)
    (hdb : ((x : Str) == ("__debug__" : Str)) = false := by decide) (he : starEach (e :: es) X.env = (false, eval e X.env) :: starEach es X.env := by rfl) (hpl : (backTo pos (starEach es X.env)).any (·.1) = false := by rfl) :
    PE X (.Call (.Name x p) (e :: es) [] pos) (tCall sp [] E0 t) := by
  obtain ⟨f, fd, ps, F, m, kp, b⟩ := c.ex
  refine ⟨fun pins s σ H Q I h => ?_⟩
  refine wpAny_Call_Name_kw (ld_glob I hg m ?_ hdb)
  refine PySem.W.callWith_K (h₀ := X.base) I.ok.mod.kin kp (thn (ha.run pos pins s σ H _ I h) fun us s1 ⟨vs, H1, I1, r, q⟩ => ⟨I1.kIn, ?_⟩) he hpl
  replace q : sp (vs ++ []) H1 Q E0 := q
  rw [List.append_nil] at q
  have hl : us.length = ps.length := by rw [← r.length]; exact F.len _ _ _ _ q
  have b2 := b s1 us I1.kIn (by rw [List.append_nil]; exact hl)
  rw [List.append_nil] at b2
  refine wpAny_call (codeAny_mono (F.go X.A X.stack s1 H1 ⟨us, []⟩ us vs Q E0 (hr.mono hk) gd I1.env0 b2 r q) fun r' s' hq => ?_)
  cases r' with
  | error e' => exact pass0 pins σ H1 s1 e' s' I1 hq
  | ok fl =>
    cases fl with
    | ret u => exact I1.after hq
    | next => exact False.elim hq
    | brk => exact False.elim hq
    | cont => exact False.elim hq
end
/-! ### data stands when the pot changes -/
def potLike : List PyData → Bool
  | [_, .int _, .int _, .int _] => true
  | _ => false
mutual
def noPot : PyData → Bool
  | .none | .bool _ | .int _ | .str _ => true
  | .list xs => !potLike xs && noPotAll xs
  | .tuple xs => noPotAll xs
  | .dict kvs => noPotKv kvs
def noPotAll : List PyData → Bool
  | [] => true
  | x :: xs => noPot x && noPotAll xs
def noPotKv : List (PyData × PyData) → Bool
  | [] => true
  | (_, v) :: r => noPot v && noPotKv r
end
theorem noPotKv_map : ∀ ds : List (PyData × PyData), noPotAll (ds.map (·.2)) = noPotKv ds
  | [] => rfl
  | (k, v) :: r => by
    show (noPot v && noPotAll (r.map (·.2))) = (noPot v && noPotKv r)
    rw [noPotKv_map r]
theorem potLike_of {K : PySem.W.Frag} {H : Hp} {x : V} {i a b : Int} : ∀ {ds : List PyData}, ThAll K H [x, .int i, .int a, .int b] ds → potLike ds = true
  | _, .cons _ (.cons (.int _) (.cons (.int _) (.cons (.int _) .nil))) => rfl
theorem th_ext {K : PySem.W.Frag} {p c : Addr} {H H' : Hp} (hP : PotAt p c H) (e : Ext p c H H') {v : V} {d : PyData} (h : Th K H v d) : noPot d = true → Th K H' v d := by
  obtain ⟨_, ⟨i, a, b, hp⟩, _⟩ := hP
  refine Th.rec (motive_1 := fun v d _ => noPot d = true → Th K H' v d) (motive_2 := fun vs ds _ => noPotAll ds = true → ThAll K H' vs ds) ?_ ?_ ?_ ?_ ?_ ?_ ?_ ?_ ?_ h
  · exact fun _ => .non
  · exact fun b _ => .bl b
  · exact fun i _ => .int i
  · exact fun x _ => .str x
  · intro q xs ds hs ha ih n
    have n2 : potLike ds = false ∧ noPotAll ds = true := by simpa only [noPot, Bool.and_eq_true, Bool.not_eq_true'] using n
    by_cases z : q = p
    · rcases hs with (hs | ⟨o, hs⟩) | hs
      · rw [z, hp] at hs
        cases hs
        rw [potLike_of ha] at n2
        cases n2.1
      · rw [z, hp] at hs
        cases hs
      · exact .lst (.inr hs) (ih n2.2)
    · exact .lst (e.seq z hs) (ih n2.2)
  · intro q xs ds hs ha ih n
    have n2 : noPotAll ds = true := by simpa only [noPot] using n
    by_cases z : q = p
    · rcases hs with (hs | ⟨o, hs⟩) | hs
      · rw [z, hp] at hs
        cases hs
      · rw [z, hp] at hs
        cases hs
      · exact .tup (.inr hs) (ih n2)
    · exact .tup (e.seqT z hs) (ih n2)
  · intro q kvs ds hs _ ek ih n
    have n2 : noPotAll (ds.map (·.2)) = true := by
      rw [noPotKv_map]
      simpa only [noPot] using n
    by_cases z : q = p
    · rw [z, hp] at hs
      cases hs
    · exact .dct (e.get hs z) (ih n2) ek
  · exact fun _ => .nil
  · intro v vs d ds _ _ i1 i2 n
    have n2 : noPot d = true ∧ noPotAll ds = true := by simpa only [noPotAll, Bool.and_eq_true] using n
    exact .cons (i1 n2.1) (i2 n2.2)
theorem thAll_ext {K : PySem.W.Frag} {p c : Addr} {H H' : Hp} (hP : PotAt p c H) (e : Ext p c H H') : ∀ {vs : List V} {ds : List PyData}, ThAll K H vs ds → noPotAll ds = true → ThAll K H' vs ds
  | _, _, .nil, _ => .nil
  | _ :: _, d :: ds, .cons h t, n => by
    have n2 : noPot d = true ∧ noPotAll ds = true := by simpa only [noPotAll, Bool.and_eq_true] using n
    exact .cons (th_ext hP e h n2.1) (thAll_ext hP e t n2.2)
end Lk

/-! Clr0 -/
set_option Elab.async false
set_option maxRecDepth 100000
set_option linter.all false
set_option maxHeartbeats 4000000
namespace Lk
open PySem PySem.Spec PyProof.Rows L2
structure Wf0 (d : PyData) : Prop where
  sh : d.showable = true
  lv : d.leavesShort 13 = true
  bk : d.bulk ≤ 1000000
  dp : d.depth ≤ 60
theorem Wf.wf0 {d : PyData} (h : Wf d) : Wf0 d := ⟨h.sh, h.lv, h.bk, h.dp⟩
/-- its lists are not the table of modules -/
inductive Clr (K : PySem.W.Frag) (H : Hp) : V → PyData → Prop
  | flat {v : V} {d : PyData} : Th K H v d → noLst d = true → Clr K H v d
  | lst {p : Addr} {xs : List V} {ds : List PyData} : SqL K H p xs → (p == sysModules) = false → ThAll K H xs ds → noLstAll ds = true → Clr K H (.ref p) (.list ds)
  | two {q : Addr} {v1 v2 : V} {d1 d2 : PyData} : SqT K H q [v1, v2] → Clr K H v1 d1 → Clr K H v2 d2 → Clr K H (.ref q) (.tuple [d1, d2])
section
variable {X : Cx} {pins : List (Addr × Obj)} {σ : L2.St} {H : Hp} {s : Shared}
theorem all_reads (I : Inv X pins σ H s) : ∀ {vs : List V} {ds : List PyData}, ThAll X.K H vs ds → noLstAll ds = true → ∀ us, Vals vs us → ∃ as, ReadsAll s.heap us ds as ∧ sysModules ∉ as
  | _, _, .nil, _, us, r => by
    cases r
    exact ⟨_, ReadsAll.nil, fun h => nomatch h⟩
  | _ :: _, d :: ds, .cons h t, n, us, r => by
    have n2 : noLst d = true ∧ noLstAll ds = true := by simpa [noLstAll] using n
    cases r with
    | cons r1 r2 =>
      obtain ⟨as, q1, m1⟩ := th_reads I h _ r1
      obtain ⟨bs, q2, m2⟩ := all_reads I t n2.2 _ r2
      refine ⟨_, ReadsAll.cons q1 q2, fun hm => ?_⟩
      rcases List.mem_append.mp hm with hm | hm
      · exact m1 n2.1 hm
      · exact m2 hm
theorem clr_reads (I : Inv X pins σ H s) {v : V} {d : PyData} (h : Clr X.K H v d) : ∀ u, RelV v u → ∃ as, Reads s.heap u d as ∧ sysModules ∉ as := by
  induction h with
  | flat h n =>
    intro u r
    obtain ⟨as, q, m⟩ := th_reads I h u r
    exact ⟨as, q, m n⟩
  | lst hs hp ha n =>
    intro u r
    cases r
    obtain ⟨its, rv, ⟨o, k, ho, hc, _, hd⟩, _⟩ := I.list hs
    obtain ⟨as, hr, m⟩ := all_reads I ha n its rv
    refine ⟨_, Reads.list ho hc hd hr, fun hm => ?_⟩
    rcases List.mem_cons.mp hm with hm | hm
    · rw [hm] at hp
      exact absurd hp (by simp)
    · exact m hm
  | two hs _ _ ih1 ih2 =>
    intro u r
    cases r
    obtain ⟨its, rv, ⟨o, ho, hc, n, hd⟩, _⟩ := I.tuple hs
    cases rv with
    | cons r1 rr =>
      cases rr with
      | cons r2 rz =>
        cases rz
        obtain ⟨as, q1, m1⟩ := ih1 _ r1
        obtain ⟨bs, q2, m2⟩ := ih2 _ r2
        refine ⟨_, Reads.tuple ho hc hd (ReadsAll.cons q1 (ReadsAll.cons q2 ReadsAll.nil)), fun hm => ?_⟩
        rcases List.mem_append.mp hm with hm | hm
        · exact m1 hm
        · rcases List.mem_append.mp hm with hm | hm
          · exact m2 hm
          · exact nomatch hm
def rReprC (K : PySem.W.Frag) : List V → Hp → VK → Prop := fun xs H Q => ∃ v d, xs = [v] ∧ Th K H v d ∧ Wf0 d ∧ (d.hasDict = true → Clr K H v d) ∧ Q (.str d.shown) H
theorem call_reprC (hg : X.A.guards = some []) (hu : X.A.units + 64 < cLine) : CallR X (.builtin "repr") (rReprC X.K) := by
  intro pins s σ H xs us Q I r h
  obtain ⟨v, d, rfl, ht, hw, hc, q⟩ := h
  cases r with
  | cons r1 rr =>
    cases rr
    obtain ⟨as, hr, hsm⟩ : ∃ as, Reads s.heap _ d as ∧ (d.hasDict = true → sysModules ∉ as) := by
      cases e : d.hasDict with
      | true =>
        obtain ⟨as, a, b⟩ := clr_reads I (hc e) _ r1
        exact ⟨as, a, fun _ => b⟩
      | false =>
        obtain ⟨as, a, b⟩ := th_reads I ht _ r1
        exact ⟨as, a, fun z => nomatch z⟩
    have hz : d.shown.length ≤ sizeLine := PyData.shown_fits_bulk (B := 13) (by decide) (by decide) hw.lv (Nat.le_trans hw.bk (by decide))
    have fin : ∀ (h' : Heap) (u tk : Nat), (∀ b o, s.heap.get? b = some o → h'.get? b = some o) → EP X pins σ Q (.str d.shown u) { s with heap := h', toks := tk } := fun h' u tk k => ⟨.str d.shown, H, I.kept (t' := tk) k, ⟨u, rfl⟩, q⟩
    have hd := hw.dp
    cases hr with
    | none => exact PySem.P.repr_of_none (fin s.heap _ _ fun _ _ e => e)
    | bool b => exact PySem.P.repr_of_bool (fin s.heap _ _ fun _ _ e => e)
    | int i t => exact PySem.P.repr_of_int (by simpa [PyData.showable] using hw.sh) (fin s.heap _ _ fun _ _ e => e)
    | str x t => exact PySem.P.repr_of_str (fin s.heap _ _ fun _ _ e => e) hz
    | list h1 h2 h3 h4 => exact repr_of_reads' (.list h1 h2 h3 h4) hw.sh hsm hg (by omega) (fun _ _ e => e) (fun h' u tk k => fin h' u tk k) hz
    | tuple h1 h2 h3 h4 => exact repr_of_reads' (.tuple h1 h2 h3 h4) hw.sh hsm hg (by omega) (fun _ _ e => e) (fun h' u tk k => fin h' u tk k) hz
    | dict h1 h2 h3 h4 h5 => exact repr_of_reads' (.dict h1 h2 h3 h4 h5) hw.sh hsm hg (by omega) (fun _ _ e => e) (fun h' u tk k => fin h' u tk k) hz
/-- a list display; the new list is not the table of modules -/
def tLstS (t : TA) : TE := fun σ H Q => t σ H fun xs H1 => xs.length ≤ sizeLine ∧ ∀ p, H1 p = none → (p == sysModules) = false → Q (.ref p) (upd H1 p (.lst xs))
theorem pe_lstS {es : List Expr} {t : TA} {pos : Pos} (h : PA X es t) : PE X (.List es pos) (tLstS t) := by
  refine ⟨fun pins s σ H Q I hq => ?_⟩
  refine wpAny_List_spliced (thn (h.run pos pins s σ H _ I hq) fun us s1 ⟨xs, H1, I1, r, z, q⟩ => ⟨by rw [← r.length]; exact z, ?_⟩)
  have hf : H1 s1.heap.objs.size = none := I1.hok.fresh (Nat.le_refl _)
  have hm : (s1.heap.objs.size == sysModules) = false := beq_eq_false_iff_ne.mpr (Nat.ne_of_gt I1.big)
  refine ⟨.ref s1.heap.objs.size, upd H1 s1.heap.objs.size (.lst xs), I1.laid (t' := s1.toks) (fun b u e => Heap.get?_push_of_some _ e) (Nat.le_refl _) ?_, rfl, q _ hf hm⟩
  exact ⟨z, us, 0, r, Heap.get?_push_size _ rfl⟩
end
theorem Clr.same {K : PySem.W.Frag} {H H' : Hp} (s : Same H H') {v : V} {d : PyData} (h : Clr K H v d) : Clr K H' v d := by
  induction h with
  | flat h n => exact .flat (th_same s h) n
  | lst hs hp ha n => exact .lst (s.seq hs) hp (thAll_same s ha) n
  | two hs _ _ i1 i2 => exact .two (Same.seqT s hs) i1 i2
end Lk

/-! SetG0 -/
set_option Elab.async false
set_option maxRecDepth 100000
set_option linter.all false
set_option maxHeartbeats 4000000
namespace Lk
open PySem PySem.Spec PyProof.Rows L2
/-! ### a set whose members are told by keys, with a table that can be walked -/
section
variable {P : Program} {w : World} {κ : Type} [DecidableEq κ] {knd : KeyKind P w κ}
/-- the entries l bear the keys ks, none twice -/
def Keyed (knd : KeyKind P w κ) (l : List (Int × Value)) (ks : List κ) : Prop :=
  ∃ f : Int × Value → κ, (∀ e ∈ l, (knd.is (f e) e.2 = true ∧ e.1 = knd.hash (f e)) ∧ e.2.scannable = true) ∧ (l.map f).Perm ks ∧ ks.Nodup
theorem Keyed.elems {l : List (Int × Value)} {ks : List κ} (h : Keyed knd l ks) : ElemsOf knd l := by
  obtain ⟨f, g, _⟩ := h
  exact fun e he => ⟨⟨f e, (g e he).1⟩, (g e he).2⟩
theorem Keyed.mem {l : List (Int × Value)} {ks : List κ} (h : Keyed knd l ks) (k : κ) : k ∈ ks ↔ ∃ e ∈ l, knd.is k e.2 = true := by
  obtain ⟨f, g, pm, _⟩ := h
  rw [← pm.mem_iff, List.mem_map]
  constructor
  · rintro ⟨e, he, rfl⟩
    exact ⟨e, he, (g e he).1.1⟩
  · rintro ⟨e, he, q⟩
    rw [KeyKind.is_eq_decide (g e he).1.1 k, decide_eq_true_eq] at q
    exact ⟨e, he, q.symm⟩
theorem Keyed.perm {l l' : List (Int × Value)} {ks : List κ} (h : Keyed knd l ks) (p : l'.Perm l) : Keyed knd l' ks := by
  obtain ⟨f, g, pm, nd⟩ := h
  exact ⟨f, fun e he => g e (p.mem_iff.mp he), (p.map f).trans pm, nd⟩
theorem Keyed.len {l : List (Int × Value)} {ks : List κ} (h : Keyed knd l ks) : l.length = ks.length := by
  obtain ⟨f, _, pm, _⟩ := h
  rw [← pm.length_eq, List.length_map]
theorem Keyed.more {l : List (Int × Value)} {ks : List κ} {k : κ} {x : Value} (h : Keyed knd l ks) (hx : knd.is k x = true) (sx : x.scannable = true) (n : k ∉ ks) : Keyed knd ((knd.hash k, x) :: l) (k :: ks) := by
  have no : ∀ e ∈ l, knd.is k e.2 = false := fun e he => by
    cases q : knd.is k e.2 with
    | false => rfl
    | true => exact absurd ((h.mem k).2 ⟨e, he, q⟩) n
  obtain ⟨f, g, pm, nd⟩ := h
  obtain ⟨F, F0, F1⟩ : ∃ F : Int × Value → κ, F (knd.hash k, x) = k ∧ ∀ e ∈ l, F e = f e := ⟨fun e => if knd.is k e.2 = true then k else f e, if_pos hx, fun e he => if_neg (by rw [no e he]; exact Bool.false_ne_true)⟩
  refine ⟨F, fun e he => ?_, ?_, List.nodup_cons.mpr ⟨n, nd⟩⟩
  · rcases List.mem_cons.mp he with rfl | he
    · rw [F0]
      exact ⟨⟨hx, rfl⟩, sx⟩
    · rw [F1 e he]
      exact g e he
  · rw [List.map_cons, F0, List.map_congr_left F1]
    exact pm.cons k
def GSet (knd : KeyKind P w κ) (h : Heap) (a : Addr) (ks : List κ) : Prop :=
  ∃ o es ep t, h.get? a = some o ∧ o.ExactSet ∧ o.data = .set es ep t ∧ Keyed knd es.toList ks ∧ es.size < scanBound ∧ t.fits es.size = true ∧ Ris t.place.toList ∧ (w.params.followText "set-order" = true ∨ t.led = true)
theorem GSet.at {h h' : Heap} {a : Addr} {ks : List κ} (R : GSet knd h a ks) (k : ∀ o, h.get? a = some o → h'.get? a = some o) : GSet knd h' a ks := by
  obtain ⟨o, es, ep, t, ho, r⟩ := R
  exact ⟨o, es, ep, t, k o ho, r⟩
end
section
variable {P : Program} {w : World} {κ : Type} [DecidableEq κ] {knd : KeyKind P w κ} {A : Around} {E : Value → Shared → Prop} {s : Shared} {a : Addr} {ks : List κ}
/-- the store behind an add, and the wider table where it is too full -/
theorem gset_tail {g : Bool → Sem Unit} (quiet : ∀ (b : Bool) (s₁ : Shared) (Q' : Unit → Shared → Prop), Q' () s₁ → wpAny (model P w) A (g b) Q' E s₁) {o : Obj} {es es1 : Array (Int × Value)} {ep : Nat} {t t1 : SetTable} {ls : List κ}
    (there : s.heap.get? a = some o) (ex : o.ExactSet) (dat : o.data = .set es ep t) (ky : Keyed knd es1.toList ls) (few : es1.size < scanBound) (fit : t1.fits es1.size = true) (ris : Ris t1.place.toList) (led : w.params.followText "set-order" = true ∨ t1.led = true) {dummy : Bool} {R : Option Bool → Shared → Prop}
    (done : ∀ h', Heap.SameBut a s.heap h' → GSet knd h' a ls → R (some true) { s with heap := h' }) :
    wpAny (model P w) A (do
        storeSet a es1 t1
        if (!dummy && t1.tooFull) = true then do
            g (relayAll t1 es1 (SetTable.grown es1.size)).2.2
            storeSet a (relayAll t1 es1 (SetTable.grown es1.size)).1 (relayAll t1 es1 (SetTable.grown es1.size)).2.1
            pure (some true)
          else pure (some true)) R E s := by
  have at1 := store_at (es' := es1) (t' := t1) there dat
  have but1 := Heap.SameBut.update s.heap a (Obj.putSet es1 t1)
  refine wpAny_bind (wpAny_storeSet_of there dat ?_ (fits_of_scanBound few))
  split
  · obtain ⟨pm, ft, rs, ld⟩ := (⟨relayAll_perm t1 es1 (SetTable.grown es1.size), relayAll_fits t1 es1 (SetTable.grown es1.size), relayAll_ris t1 es1 (SetTable.grown es1.size), relayAll_led t1 es1 (SetTable.grown es1.size)⟩ :
      (relayAll t1 es1 (SetTable.grown es1.size)).1.toList.Perm es1.toList ∧ (relayAll t1 es1 (SetTable.grown es1.size)).2.1.fits (relayAll t1 es1 (SetTable.grown es1.size)).1.size = true ∧ Ris (relayAll t1 es1 (SetTable.grown es1.size)).2.1.place.toList ∧ (relayAll t1 es1 (SetTable.grown es1.size)).2.1.led = t1.led)
    revert pm ft rs ld
    generalize relayAll t1 es1 (SetTable.grown es1.size) = Z
    intro pm ft rs ld
    have few2 : Z.1.size < scanBound := by rw [← Array.length_toList, pm.length_eq, Array.length_toList]; exact few
    refine wpAny_bind (quiet _ _ _ (wpAny_bind (wpAny_storeSet_of at1 rfl ?_ (fits_of_scanBound few2))))
    exact wpAny_pure (done _ (but1.trans (Heap.SameBut.update _ a _)) ⟨_, _, _, _, store_at (es' := Z.1) (t' := Z.2.1) at1 rfl, ex, rfl, ky.perm pm, few2, ft, rs, led.imp id fun z => by rw [ld]; exact z⟩)
  · exact wpAny_pure (done _ but1 ⟨_, _, _, _, at1, ex, rfl, ky, few, fit, ris, led⟩)
/-- one more into the set -/
theorem gset_add {k : κ} {x : Value} {Q : Bool → Shared → Prop} (R : GSet knd s.heap a ks) (hx : knd.is k x = true) (sx : x.scannable = true) (room : ks.length + 1 < scanBound)
    (old : k ∈ ks → Q false s) (new : k ∉ ks → ∀ h', Heap.SameBut a s.heap h' → GSet knd h' a (k :: ks) → Q true { s with heap := h' }) : wpAny (model P w) A (setAddHashed a x (knd.hash k)) Q E s := by
  obtain ⟨o, es, ep, t, there, ex, dat, ky, few, fit, ris, led⟩ := R
  have el := ky.elems
  unfold setAddHashed setAddHashedIn
  refine wpAny_holding (wpAny_bind (wpAny_setState_of there dat fit ?_))
  dsimp only
  rw [byScan_of sx few el]
  simp only [↓reduceIte]
  unfold setAddByScan
  refine wpAny_bind (wpAny_bind (wpAny_rule (wpAny_bind (wpAny_setScan_of hx there dat fit el ?_))))
  cases found : List.findIdx? (fun e => knd.is k e.2) es.toList with
  | some j =>
    obtain ⟨hj, pj, _⟩ := List.findIdx?_eq_some_iff_getElem.mp found
    exact wpAny_pure (wpAny_pure (old ((ky.mem k).2 ⟨_, List.getElem_mem hj, pj⟩)))
  | none =>
    have nk : k ∉ ks := fun z => by
      obtain ⟨e, he, q⟩ := (ky.mem k).1 z
      have c := List.findIdx?_eq_none_iff.mp found e he
      rw [q] at c
      cases c
    dsimp only
    have gaveWay : ∀ (b : Bool) {s₁ : Shared} {Q' : Unit → Shared → Prop}, Q' () s₁ → wpAny (model P w) A (match b with | true => rule "set.scan.the-table-gave-way" | false => pure ()) Q' E s₁ := fun b s₁ Q' q => by
      cases b
      · exact wpAny_pure q
      · exact wpAny_rule q
    have pm := layNew_perm t es (knd.hash k) x
    have ft := layNew_fits t es (knd.hash k) x
    have rs := layNew_ris t es (knd.hash k) x ris
    have ld := layNew_led t es (knd.hash k) x
    generalize layNew t es (knd.hash k) x = Z at pm ft rs ld ⊢
    obtain ⟨es1, t1, dummy, gave⟩ := Z
    dsimp only at pm ft rs ld ⊢
    rw [Array.toList_push] at pm
    have pc : es1.toList.Perm ((knd.hash k, x) :: es.toList) := pm.trans (List.perm_append_singleton _ _)
    have ky1 : Keyed knd es1.toList (k :: ks) := (ky.more hx sx nk).perm pc
    have few1 : es1.size < scanBound := by
      rw [← Array.length_toList, ky1.len, List.length_cons]
      exact room
    have led1 : w.params.followText "set-order" = true ∨ t1.led = true := led.imp id fun z => by rw [ld]; exact z
    refine wpAny_bind (gaveWay _ ?_)
    split
    · refine wpAny_bind ?_
      rw [hashByValue_scannable 8 sx]
      refine wpAny_pure ?_
      refine gset_tail (knd := knd) (ls := k :: ks) (fun b s₁ Q' q => gaveWay b q) there ex dat ky1 few1 ?_ ?_ ?_ fun h' sb r => by dsimp only; exact wpAny_pure (new nk h' sb r)
      · first | exact ft | (split <;> first | exact ft | exact SetTable.fits_plain_off ft)
      · first | exact rs | (split <;> exact rs)
      · first | exact led1 | (split <;> exact led1)
    · refine wpAny_bind (wpAny_pure ?_)
      simp only [↓reduceIte]
      exact gset_tail (knd := knd) (ls := k :: ks) (fun b s₁ Q' q => gaveWay b q) there ex dat ky1 few1 ft rs led1 fun h' sb r => by dsimp only; exact wpAny_pure (new nk h' sb r)
end
end Lk

/-! SetG1 -/
set_option Elab.async false
set_option maxRecDepth 100000
set_option linter.all false
set_option maxHeartbeats 4000000
namespace Lk
open PySem PySem.Spec PyProof.Rows L2
section
variable {P : Program} {w : World} {κ : Type} [DecidableEq κ] {knd : KeyKind P w κ} {A : Around} {E : Value → Shared → Prop} {s : Shared}
/-- s.update(..), turn by turn: the keys so far -/
theorem gset_loop {I S : Addr} {fp wr : List Addr} {G : Array GenState → Array GenState → Prop} {n : Nat} {Pv : Nat → Value → Prop} {St : Nat → Shared → Prop} {R : Result → Shared → Prop} (W : WalksS P w A.in1 I fp wr G n Pv St) (apart : S ∉ fp) {ks : List κ}
    (len : n = ks.length) (room : ks.length + 1 < scanBound) (item : ∀ i v, Pv i v → ∃ k, ks[i]? = some k ∧ knd.is k v = true ∧ v.scannable = true)
    (done : ∀ s' us, Moved (S :: wr) G s s' → GSet knd s'.heap S us → (∀ k, k ∈ us ↔ k ∈ ks) → R (.ok (.ret .none)) s') :
    ∀ (m i : Nat) (s1 : Shared) (us : List κ), n - i = m → i ≤ n → St i s1 → Moved (S :: wr) G s s1 → GSet knd s1.heap S us → (∀ k, k ∈ us ↔ k ∈ ks.take i) → us.length ≤ i →
      codeAny (model P w) A (.builtin "set.update.loop" ⟨[.ref S, .ref I], []⟩) R s1 := by
  have aw : S ∉ wr := fun z => apart (W.sub _ z)
  have up : ∀ b ∈ wr, b ∈ S :: wr := fun b hb => List.mem_cons_of_mem _ hb
  intro m
  induction m with
  | zero =>
    intro i s1 us em hi st mv R1 mem _
    have ei : i = n := by omega
    rw [ei] at st mem
    refine codeAny_builtin F.entry_set_update_loop ?_
    rw [Around.under_plainId F.plain_set_update_loop _]
    show wpAny _ A.in1 (pyNext (.ref I) >>= _) _ _ s1
    refine wpAny_bind (W.done s1 _ _ st fun s2 mv2 => ?_)
    show wpAny _ A.in1 (ret Value.none) _ _ s2
    rw [List.take_of_length_le (Nat.le_of_eq len.symm)] at mem
    exact wpAny_pure (done s2 us (Moved.trans W.gtrans mv (mv2.mono up)) (R1.at fun o e => mv2.heap S o aw e) mem)
  | succ m ih =>
    intro i s1 us em hi st mv R1 mem few
    have lt : i < n := by omega
    refine codeAny_builtin F.entry_set_update_loop ?_
    rw [Around.under_plainId F.plain_set_update_loop _]
    show wpAny _ A.in1 (pyNext (.ref I) >>= _) _ _ s1
    refine wpAny_bind (W.item i s1 _ _ lt st fun v s2 pv st2 mv2 => ?_)
    obtain ⟨k, hk, iv, sv⟩ := item i v pv
    have R2 := R1.at (h' := s2.heap) fun o e => mv2.heap S o aw e
    have next : ∀ j, j ∈ ks.take (i + 1) ↔ j ∈ ks.take i ∨ j = k := fun j => by
      rw [List.take_add_one, hk]
      simp [List.mem_append]
    show wpAny _ A.in1 (holding [v] (setAdd S v) >>= _) _ _ s2
    refine wpAny_bind (wpAny_holding ?_)
    unfold setAdd
    refine wpAny_holding (wpAny_bind (knd.pyHash iv ?_))
    have mv12 := Moved.trans W.gtrans mv (mv2.mono up)
    refine gset_add (s := { s2 with toks := s2.toks + 1 }) R2 iv sv (by omega) (fun old => ?_) fun nk h3 sb R3 => ?_
    · refine wpAny_pure ⟨plainId_quiet F.plain_set_update_loop _, ih (i + 1) _ us (by omega) lt (W.frame _ s2 _ _ st2 (Nat.le_succ _) fun b hb o e => e) (mv12.then_heap (Nat.le_succ _) fun b o hb e => e) R2 (fun j => ?_) (by omega)⟩
      rw [next j, mem j]
      exact ⟨.inl, fun z => z.elim id fun e => e ▸ (mem k).1 old⟩
    · refine wpAny_pure ⟨plainId_quiet F.plain_set_update_loop _, ih (i + 1) _ (k :: us) (by omega) lt (W.frame _ s2 _ _ st2 (Nat.le_succ _) fun b hb o e => ?_) (mv12.then_heap (Nat.le_succ _) fun b o hb e => ?_) R3 (fun j => ?_) (by rw [List.length_cons]; omega)⟩
      · rw [sb.2 b (fun z : b = S => apart (by rw [← z]; exact hb))]
        exact e
      · rw [sb.2 b (fun z : b = S => hb (by rw [z]; exact List.mem_cons_self))]
        exact e
      · rw [next j, List.mem_cons, mem j]
        exact Or.comm
theorem gset_loop0 {I S : Addr} {fp wr : List Addr} {G : Array GenState → Array GenState → Prop} {n : Nat} {Pv : Nat → Value → Prop} {St : Nat → Shared → Prop} {R : Result → Shared → Prop} (W : WalksS P w A.in1 I fp wr G n Pv St) (apart : S ∉ fp) {ks : List κ}
    (len : n = ks.length) (room : ks.length + 1 < scanBound) (item : ∀ i v, Pv i v → ∃ k, ks[i]? = some k ∧ knd.is k v = true ∧ v.scannable = true) (st : St 0 s) (R0 : GSet knd s.heap S [])
    (done : ∀ s' us, Moved (S :: wr) G s s' → GSet knd s'.heap S us → (∀ k, k ∈ us ↔ k ∈ ks) → R (.ok (.ret .none)) s') : codeAny (model P w) A (.builtin "set.update.loop" ⟨[.ref S, .ref I], []⟩) R s :=
  gset_loop W apart len room item done (n - 0) 0 s [] rfl (Nat.zero_le _) st (Moved.refl W.grefl) R0 (fun k => by simp) (Nat.le_refl 0)
theorem gset_new {h : Heap} {a : Addr} (ho : h.get? a = some { cls := .type "set", dict := none, data := .set #[] 0 (.fresh 0 0 (!w.params.followText "set-order")) }) (f : Int × Value → κ) : GSet knd h a [] :=
  ⟨_, #[], 0, _, ho, ⟨rfl, rfl, rfl⟩, rfl, ⟨f, fun e he => by simp at he, List.Perm.nil, List.nodup_nil⟩, by decide, by rfl, List.Pairwise.nil, by
    show _ ∨ (!w.params.followText "set-order") = true
    cases w.params.followText "set-order"
    · exact .inr rfl
    · exact .inl rfl⟩
end
end Lk

/-! SetG2 -/
set_option Elab.async false
set_option maxRecDepth 100000
set_option linter.all false
set_option maxHeartbeats 4000000
namespace Lk
open PySem PySem.Spec PyProof.Rows L2
section
variable {P : Program} {w : World} {κ : Type} [DecidableEq κ] {knd : KeyKind P w κ} {A : Around} {E : Value → Shared → Prop} {s : Shared}
set_option maxRecDepth 100000 in
theorem call_set_L {l : Addr} {items : Array Value} {ks : List κ} {Q : Value → Shared → Prop} (hh : A.handled = none) (hl : s.heap.IsList l items) (f : Int × Value → κ) (len : items.size = ks.length) (room : ks.length + 1 < scanBound)
    (item : ∀ (i : Nat) (v : Value), items[i]? = some v → ∃ k, ks[i]? = some k ∧ knd.is k v = true ∧ v.scannable = true)
    (h : ∀ (h' : Heap) (tk : Nat) (us : List κ), GSet knd h' s.heap.objs.size us → (∀ k, k ∈ us ↔ k ∈ ks) → (∀ b o, s.heap.get? b = some o → h'.get? b = some o) → Q (.ref s.heap.objs.size) { s with heap := h', toks := tk }) :
    wpAny (model P w) A (call (.type "set") [.ref l]) Q E s := by
  obtain ⟨c, tl, hmro⟩ := F.called_set.mro
  have hmade := F.called_set.made
  have hsub := F.called_set.sub
  refine wpAny_call (codeAny_of_tree ?_)
  show wpAny _ _ (callAny (.type "set") _) _ _ _
  refine wpAny_pure ⟨Code.quiet_builtin _ (by decide +kernel), codeAny_builtin F.entry_type_call ?_⟩
  rw [Around.under_plain (weight_type_call_type "set" [.ref l] []) rfl]
  have h1 := F.called_set.notType
  have h2 := F.called_set.canCreate
  have hct := F.typeCall_set_1 (.ref l)
  repeat (any_goals (first | assumption | wp_step))
  refine codeAny_mono (code_set_led1 (.ref l) (E := E) (Q₁ := fun obj s₁ => obj = .ref s.heap.objs.size ∧ s₁ = { s with heap := s.heap.push { cls := .type "set", dict := none, data := .set #[] 0 (.fresh 0 0 (!w.params.followText "set-order")) } }) ⟨rfl, rfl⟩) fun r s₁ hr => ?_
  match r, hr with
  | .error e, hr => exact hr
  | .ok .next, hr => exact hr.elim
  | .ok .brk, hr => exact hr.elim
  | .ok .cont, hr => exact hr.elim
  | .ok (.ret obj), ⟨eo, es⟩ =>
    subst eo es
    have hS : (s.heap.push { cls := .type "set", dict := none, data := .set #[] 0 (.fresh 0 0 (!w.params.followText "set-order")) }).get? s.heap.objs.size = some { cls := .type "set", dict := none, data := .set #[] 0 (.fresh 0 0 (!w.params.followText "set-order")) } := Heap.get?_push_size _ rfl
    have hT : Shared.TypeIs { s with heap := s.heap.push { cls := .type "set", dict := none, data := .set #[] 0 (.fresh 0 0 (!w.params.followText "set-order")) } } (.ref s.heap.objs.size) "set" := ⟨_, hS, rfl⟩
    have hli := F.called_set.init.lookup
    have hbi := F.called_set.init.bind (.ref s.heap.objs.size)
    repeat (any_goals (first | assumption | wp_step))
    refine codeAny_mono (codeAny_call_builtin (R := wants (fun r s₂ => r = .none ∧ ∃ h' tk us, s₂ = { s with heap := h', toks := tk } ∧ GSet knd h' s.heap.objs.size us ∧ (∀ k, k ∈ us ↔ k ∈ ks) ∧
        (∀ b o, s.heap.get? b = some o → h'.get? b = some o)) E) F.called_set.init.plain F.entry_set_init (check_set_init_1 hT ?_)) fun r₂ s₂ hr₂ => ?_
    · obtain ⟨⟨ocls, odict, odata, oslots⟩, hol, hcl, nl, hdl⟩ := hl
      simp only at hcl hdl
      subst hcl hdl
      have hol' : (s.heap.push { cls := .type "set", dict := none, data := .set #[] 0 (.fresh 0 0 (!w.params.followText "set-order")) }).get? l = some { cls := .type "list", dict := odict, data := .seq items nl, slots := oslots } := Heap.get?_push_of_some _ hol
      have hsls := F.sub_list_set
      have hslf := F.sub_list_frozenset
      have hne : (Value.type "list" == Value.type "dict") = false := by decide
      have hl1 : (s.heap.push { cls := .type "set", dict := none, data := .set #[] 0 (.fresh 0 0 (!w.params.followText "set-order")) }).IsList l items := ⟨_, hol', rfl, nl, rfl⟩
      unfold Builtin.«set.__init__» noKeywords Builtin.Frozenset.updateFrom
      generalize hPI : pyIter = PI
      wp_walk
      subst hPI
      refine wpAny_pyIter_list hl1 ?_
      refine wpAny_bind (wpAny_runValue ?_)
      have lt : l < s.heap.objs.size := Heap.lt_size hol
      have sz : (s.heap.push { cls := .type "set", dict := none, data := .set #[] 0 (.fresh 0 0 (!w.params.followText "set-order")) }).objs.size = s.heap.objs.size + 1 := Heap.size_push ..
      have quiet : A.in1.in1.in1.handled = none := by simp [hh]
      have n1 : l ≠ (s.heap.push { cls := .type "set", dict := none, data := .set #[] 0 (.fresh 0 0 (!w.params.followText "set-order")) }).objs.size := by
        rw [Heap.size_push]
        exact Nat.ne_of_lt (Nat.lt_succ_of_lt lt)
      have n2 : s.heap.objs.size ∉ [(s.heap.push { cls := .type "set", dict := none, data := .set #[] 0 (.fresh 0 0 (!w.params.followText "set-order")) }).objs.size, l] := by
        rw [Heap.size_push]
        simp only [List.mem_cons, List.not_mem_nil, or_false, not_or]
        exact ⟨Nat.ne_of_lt (Nat.lt_succ_self _), Nat.ne_of_gt lt⟩
      refine gset_loop0 (knd := knd) (ks := ks) ((Walks.list quiet _ l n1 items).toS) n2 len room item ⟨⟨_, Heap.get?_push_size _ rfl, rfl, rfl⟩, (hl1.push _)⟩ ?hS0 ?hR
      case hS0 => exact gset_new (Heap.get?_push_of_some _ hS) f
      case hR =>
        rintro ⟨h', g2, d', tk', os'⟩ us mv R2 mem
        have eg := mv.gens
        have ed := mv.drawn
        have eo := mv.os
        dsimp only at eg ed eo
        subst eg ed eo
        show wpAny _ _ _ _ _ _
        refine wpAny_pure ?_
        show wpAny _ _ (ret Value.none) _ _ _
        refine wpAny_pure ⟨rfl, h', tk', us, rfl, R2, mem, fun b o e => ?_⟩
        have lb := Heap.lt_size e
        refine mv.heap b o ?_ (Heap.get?_push_of_some _ (Heap.get?_push_of_some _ e))
        rw [Heap.size_push]
        simp only [List.mem_cons, List.not_mem_nil, or_false, not_or]
        exact ⟨Nat.ne_of_lt lb, Nat.ne_of_lt (Nat.lt_succ_of_lt lb)⟩
    · match r₂, hr₂ with
      | .error e, hr₂ => exact hr₂
      | .ok .next, hr₂ => exact hr₂.elim
      | .ok .brk, hr₂ => exact hr₂.elim
      | .ok .cont, hr₂ => exact hr₂.elim
      | .ok (.ret r), ⟨er, h', tk, us, es, R2, mem, kp⟩ =>
        subst er es
        repeat (any_goals (first | assumption | wp_step))
        exact h _ _ _ R2 mem kp
end
end Lk

/-! SetG3 -/
set_option Elab.async false
set_option maxRecDepth 100000
set_option linter.all false
set_option maxHeartbeats 4000000
namespace Lk
open PySem PySem.Spec PyProof.Rows L2
section
variable {P : Program} {w : World} {κ : Type} [DecidableEq κ] {knd : KeyKind P w κ} {A : Around} {E : Value → Shared → Prop} {s : Shared}
set_option maxRecDepth 100000 in
theorem call_set_T {l : Addr} {items : Array Value} {ks : List κ} {Q : Value → Shared → Prop} (hh : A.handled = none) (hl : s.heap.IsTuple l items) (f : Int × Value → κ) (len : items.size = ks.length) (room : ks.length + 1 < scanBound)
    (item : ∀ (i : Nat) (v : Value), items[i]? = some v → ∃ k, ks[i]? = some k ∧ knd.is k v = true ∧ v.scannable = true)
    (h : ∀ (h' : Heap) (tk : Nat) (us : List κ), GSet knd h' s.heap.objs.size us → (∀ k, k ∈ us ↔ k ∈ ks) → (∀ b o, s.heap.get? b = some o → h'.get? b = some o) → Q (.ref s.heap.objs.size) { s with heap := h', toks := tk }) :
    wpAny (model P w) A (call (.type "set") [.ref l]) Q E s := by
  obtain ⟨c, tl, hmro⟩ := F.called_set.mro
  have hmade := F.called_set.made
  have hsub := F.called_set.sub
  refine wpAny_call (codeAny_of_tree ?_)
  show wpAny _ _ (callAny (.type "set") _) _ _ _
  refine wpAny_pure ⟨Code.quiet_builtin _ (by decide +kernel), codeAny_builtin F.entry_type_call ?_⟩
  rw [Around.under_plain (weight_type_call_type "set" [.ref l] []) rfl]
  have h1 := F.called_set.notType
  have h2 := F.called_set.canCreate
  have hct := F.typeCall_set_1 (.ref l)
  repeat (any_goals (first | assumption | wp_step))
  refine codeAny_mono (code_set_led1 (.ref l) (E := E) (Q₁ := fun obj s₁ => obj = .ref s.heap.objs.size ∧ s₁ = { s with heap := s.heap.push { cls := .type "set", dict := none, data := .set #[] 0 (.fresh 0 0 (!w.params.followText "set-order")) } }) ⟨rfl, rfl⟩) fun r s₁ hr => ?_
  match r, hr with
  | .error e, hr => exact hr
  | .ok .next, hr => exact hr.elim
  | .ok .brk, hr => exact hr.elim
  | .ok .cont, hr => exact hr.elim
  | .ok (.ret obj), ⟨eo, es⟩ =>
    subst eo es
    have hS : (s.heap.push { cls := .type "set", dict := none, data := .set #[] 0 (.fresh 0 0 (!w.params.followText "set-order")) }).get? s.heap.objs.size = some { cls := .type "set", dict := none, data := .set #[] 0 (.fresh 0 0 (!w.params.followText "set-order")) } := Heap.get?_push_size _ rfl
    have hT : Shared.TypeIs { s with heap := s.heap.push { cls := .type "set", dict := none, data := .set #[] 0 (.fresh 0 0 (!w.params.followText "set-order")) } } (.ref s.heap.objs.size) "set" := ⟨_, hS, rfl⟩
    have hli := F.called_set.init.lookup
    have hbi := F.called_set.init.bind (.ref s.heap.objs.size)
    repeat (any_goals (first | assumption | wp_step))
    refine codeAny_mono (codeAny_call_builtin (R := wants (fun r s₂ => r = .none ∧ ∃ h' tk us, s₂ = { s with heap := h', toks := tk } ∧ GSet knd h' s.heap.objs.size us ∧ (∀ k, k ∈ us ↔ k ∈ ks) ∧
        (∀ b o, s.heap.get? b = some o → h'.get? b = some o)) E) F.called_set.init.plain F.entry_set_init (check_set_init_1 hT ?_)) fun r₂ s₂ hr₂ => ?_
    · obtain ⟨⟨ocls, odict, odata, oslots⟩, hol, hcl, nl, hdl⟩ := hl
      simp only at hcl hdl
      subst hcl hdl
      have hol' : (s.heap.push { cls := .type "set", dict := none, data := .set #[] 0 (.fresh 0 0 (!w.params.followText "set-order")) }).get? l = some { cls := .type "tuple", dict := odict, data := .seq items nl, slots := oslots } := Heap.get?_push_of_some _ hol
      have hsls := F.sub_tuple_set
      have hslf := F.sub_tuple_frozenset
      have hne : (Value.type "tuple" == Value.type "dict") = false := by decide
      have hl1 : (s.heap.push { cls := .type "set", dict := none, data := .set #[] 0 (.fresh 0 0 (!w.params.followText "set-order")) }).IsTuple l items := ⟨_, hol', rfl, nl, rfl⟩
      unfold Builtin.«set.__init__» noKeywords Builtin.Frozenset.updateFrom
      generalize hPI : pyIter = PI
      wp_walk
      subst hPI
      refine wpAny_pyIter_tuple hl1 ?_
      refine wpAny_bind (wpAny_runValue ?_)
      have lt : l < s.heap.objs.size := Heap.lt_size hol
      have sz : (s.heap.push { cls := .type "set", dict := none, data := .set #[] 0 (.fresh 0 0 (!w.params.followText "set-order")) }).objs.size = s.heap.objs.size + 1 := Heap.size_push ..
      have quiet : A.in1.in1.in1.handled = none := by simp [hh]
      have n1 : l ≠ (s.heap.push { cls := .type "set", dict := none, data := .set #[] 0 (.fresh 0 0 (!w.params.followText "set-order")) }).objs.size := by
        rw [Heap.size_push]
        exact Nat.ne_of_lt (Nat.lt_succ_of_lt lt)
      have n2 : s.heap.objs.size ∉ [(s.heap.push { cls := .type "set", dict := none, data := .set #[] 0 (.fresh 0 0 (!w.params.followText "set-order")) }).objs.size, l] := by
        rw [Heap.size_push]
        simp only [List.mem_cons, List.not_mem_nil, or_false, not_or]
        exact ⟨Nat.ne_of_lt (Nat.lt_succ_self _), Nat.ne_of_gt lt⟩
      refine gset_loop0 (knd := knd) (ks := ks) ((Walks.tuple quiet _ l n1 items).toS) n2 len room item ⟨⟨_, Heap.get?_push_size _ rfl, rfl, rfl⟩, (hl1.push _)⟩ ?hS0 ?hR
      case hS0 => exact gset_new (Heap.get?_push_of_some _ hS) f
      case hR =>
        rintro ⟨h', g2, d', tk', os'⟩ us mv R2 mem
        have eg := mv.gens
        have ed := mv.drawn
        have eo := mv.os
        dsimp only at eg ed eo
        subst eg ed eo
        show wpAny _ _ _ _ _ _
        refine wpAny_pure ?_
        show wpAny _ _ (ret Value.none) _ _ _
        refine wpAny_pure ⟨rfl, h', tk', us, rfl, R2, mem, fun b o e => ?_⟩
        have lb := Heap.lt_size e
        refine mv.heap b o ?_ (Heap.get?_push_of_some _ (Heap.get?_push_of_some _ e))
        rw [Heap.size_push]
        simp only [List.mem_cons, List.not_mem_nil, or_false, not_or]
        exact ⟨Nat.ne_of_lt lb, Nat.ne_of_lt (Nat.lt_succ_of_lt lb)⟩
    · match r₂, hr₂ with
      | .error e, hr₂ => exact hr₂
      | .ok .next, hr₂ => exact hr₂.elim
      | .ok .brk, hr₂ => exact hr₂.elim
      | .ok .cont, hr₂ => exact hr₂.elim
      | .ok (.ret r), ⟨er, h', tk, us, es, R2, mem, kp⟩ =>
        subst er es
        repeat (any_goals (first | assumption | wp_step))
        exact h _ _ _ R2 mem kp
end
end Lk

/-! SetS0 -/
set_option Elab.async false
set_option maxRecDepth 100000
set_option linter.all false
set_option maxHeartbeats 4000000
namespace Lk
open PySem PySem.Spec PyProof.Rows L2
/-! ### sorted(s), s a set of texts -/
def strOf : Value → Str
  | .str x _ => x
  | _ => Str.empty
def leT (x y : Str) : Bool := decide (x.cps.toList ≤ y.cps.toList)
theorem leT_data : PySem.W.dataLe false PyData.str = leT := PySem.W.dataLe_str (β := Str) (fun x => x)
theorem leT_trans (x y z : Str) (h : leT x y = true) (g : leT y z = true) : leT x z = true := decide_eq_true (List.le_trans (of_decide_eq_true h) (of_decide_eq_true g))
theorem leT_total (x y : Str) : (leT x y || leT y x) = true := by
  rw [Bool.or_eq_true]
  exact (List.le_total x.cps.toList y.cps.toList).imp (fun h => decide_eq_true h) fun h => decide_eq_true h
theorem leT_anti (x y : Str) (h : leT x y = true) (g : leT y x = true) : x = y := TL.ext_tl (List.le_antisymm (of_decide_eq_true h) (of_decide_eq_true g))
section
variable {P : Program} {w : World} {A : Around} {E : Value → Shared → Prop} {s : Shared} {a : Addr} {us : List Str}
theorem is_strOf {k : Str} {v : Value} (h : (strKind P w).is k v = true) : ∃ t, v = .str k t := by
  cases v with
  | str x t =>
    have e : x = k := by
      have h2 : Value.isStrOf k (.str x t) = true := h
      simpa [Value.isStrOf] using h2
    exact ⟨t, by rw [e]⟩
  | _ => exact Bool.noConfusion (show false = true from h)
theorem sorted_gset {Q : Value → Shared → Prop} (R : GSet (strKind P w) s.heap a us) (hh : A.handled = none) (hu : A.units + 64 < cLine)
    (hQ : ∀ s' p (out : List Value) (c : Nat) (cs : List Str), (∀ b o, s.heap.get? b = some o → s'.heap.get? b = some o) → s'.gens = s.gens → s'.os = s.os → s.heap.objs.size ≤ p →
      s'.heap.get? p = some (seqObj "list" out.toArray c) → PySem.W.EachIs (fun v x => ∃ t, v = Value.str x t) out cs → cs.Perm us → cs.Pairwise (fun x y => leT x y = true) → Q (.ref p) s') :
    wpAny (model P w) A (call (.builtin "sorted") [.ref a]) Q E s := by
  obtain ⟨o, es, ep, t, ho, hex, hd, ky, few, fit, ris, led⟩ := R
  refine Calls.call_function_entry kind_sorted plain_sorted entry_sorted (args_sorted1 _) ?_
  unfold Builtin.«sorted»
  refine wpAny_bind (m := checkCount "sorted" 1 1 _) (wpAny_pure ?_)
  refine wpAny_bind (collect_set (A := A.in1) hh ⟨o, ho, hex.1, hd⟩ fit few ris led fun s1 vs k1 hz g1 o1 pm => ?_)
  obtain ⟨f, hf, pf, nd⟩ := ky
  have each : ∀ v ∈ vs, ∃ t, v = Value.str (strOf v) t := fun v hv => by
    obtain ⟨e, he, rfl⟩ := List.mem_map.mp (pm.mem_iff.mp hv)
    obtain ⟨t, z⟩ := is_strOf (hf e he).1.1
    rw [z]
    exact ⟨t, rfl⟩
  have pu : (vs.map strOf).Perm us := by
    refine (pm.map strOf).trans ?_
    rw [List.map_map]
    refine List.Perm.trans (List.Perm.of_eq (List.map_congr_left fun e he => ?_)) pf
    obtain ⟨t, z⟩ := is_strOf (hf e he).1.1
    show strOf e.2 = f e
    rw [z]
    rfl
  have hvl : vs.length ≤ sizeLine := by
    rw [pm.length_eq, List.length_map, Array.length_toList]
    exact fits_of_scanBound few
  refine wpAny_bind (wpAny_newList ?_ hvl)
  have hoL : (s1.heap.push (seqObj "list" vs.toArray 0)).get? s1.heap.objs.size = some (seqObj "list" vs.toArray 0) := Heap.get?_push_size _ rfl
  have ev : ∀ {l : List Value}, (∀ v ∈ l, ∃ t, v = Value.str (strOf v) t) → PySem.W.EachIs (fun v x => ∃ t, v = Value.str x t) l (l.map strOf) := by
    intro l
    induction l with
    | nil => exact fun _ => .nil
    | cons v r ih => exact fun h => .cons (h v List.mem_cons_self) (ih fun u hu => h u (List.mem_cons_of_mem _ hu))
  have er : ∀ {l : List Value} {h : Heap}, (∀ v ∈ l, ∃ t, v = Value.str (strOf v) t) → PySem.W.EachIs (fun v x => ∃ as, Reads h v (.str x) as ∧ s1.heap.objs.size ∉ as) l (l.map strOf) := by
    intro l h
    induction l with
    | nil => exact fun _ => .nil
    | cons v r ih =>
      refine fun hv => .cons ?_ (ih fun u hu => hv u (List.mem_cons_of_mem _ hu))
      obtain ⟨t, z⟩ := hv v List.mem_cons_self
      rw [z]
      exact ⟨[], Reads.str _ t, fun h => nomatch h⟩
  refine wpAny_bind (wpAny_holding (PySem.W.list_sort_data (enc := PyData.str) (s := { s1 with heap := s1.heap.push (seqObj "list" vs.toArray 0) }) hoL (ev each) (er each) (PySem.W.AllAlike.of fun _ _ => rfl) (PySem.W.Sortable.others fun _ => ⟨(fun z => nomatch z), (fun _ z => nomatch z)⟩) (by rw [List.length_map]; exact hvl) (fun _ _ => by show A.in1.units + 1 + 0 < cLine; simp; omega) fun out len eo => ?_))
  rw [leT_data] at eo
  obtain ⟨c, hc⟩ := sortedHeap_at (vs := vs) (out := out.toArray) hoL
  refine wpAny_pure ⟨_, rfl, hQ _ s1.heap.objs.size out c _ (fun b u e => ?_) g1 o1 hz hc eo ((List.mergeSort_perm _ _).trans pu) ?_⟩
  · have q := k1 b u e
    have hlt := Heap.lt_size q
    show (sortedHeap (s1.heap.push (seqObj "list" vs.toArray 0)) s1.heap.objs.size vs out.toArray).get? b = some u
    rw [sortedHeap_old (Nat.ne_of_lt hlt) (by rw [size_push']; exact Nat.lt_succ_of_lt hlt)]
    exact Heap.get?_push_of_some _ q
  · exact List.pairwise_mergeSort leT_trans leT_total _
end
end Lk

/-! SetS1 -/
set_option Elab.async false
set_option maxRecDepth 100000
set_option linter.all false
set_option maxHeartbeats 4000000
namespace Lk
open PySem PySem.Spec PyProof.Rows L2
/-! ### sets of texts over the layer -/
def SetTx (P : Program) (w : World) (a : Addr) (us : List Str) : HO := .ext fun h => GSet (strKind P w) h a us
section
variable {X : Cx}
theorem setTx_ok {H : Hp} {h : Heap} {a : Addr} {us : List Str} (R : GSet (strKind X.prog X.w) h a us) : ObjOk X.prog X.w H h a (SetTx X.prog X.w a us) :=
  ⟨R, (by
    obtain ⟨o, _, _, _, ho, _⟩ := R
    exact ⟨o, ho⟩), fun _ _ z k => z.at k⟩
theorem strs_item {us : List Value} {ss : List Str} (r : StrsAre us ss) : ∀ (i : Nat) (v : Value), us.toArray[i]? = some v → ∃ k, ss[i]? = some k ∧ (strKind X.prog X.w).is k v = true ∧ v.scannable = true := fun i v h => by
  have h2 : us[i]? = some v := by simpa using h
  obtain ⟨t, e⟩ := SS.strs_at r i v h2
  have lt : i < ss.length := by
    rw [← StrsAre.length r]
    exact (List.getElem?_eq_some_iff.mp h2).1
  refine ⟨ss[i], List.getElem?_eq_getElem lt, ?_, by rw [e]; rfl⟩
  rw [e, List.getD_eq_getElem?_getD, List.getElem?_eq_getElem lt]
  exact strKind_is _ _ _ _
def rSetS (K : PySem.W.Frag) (P : Program) (w : World) : List V → Hp → VK → Prop := fun xs H Q => ∃ (l : Addr) (ss : List Str), xs = [.ref l] ∧ (SqL K H l (ss.map V.str) ∨ SqT K H l (ss.map V.str)) ∧ ss.length + 1 < scanBound ∧
  ∀ (p : Addr) (us : List Str), H p = none → us.Nodup → (∀ x, x ∈ us ↔ x ∈ ss) → Q (.ref p) (upd H p (SetTx P w p us))
theorem call_setS (calm : X.calm = true) : CallR X (.type "set") (rSetS X.K X.prog X.w) := by
  intro pins s σ H xs us Q I r h
  obtain ⟨l, ss, rfl, hl, room, q⟩ := h
  rw [Vals.ref1 r]
  have hn : H s.heap.objs.size = none := I.hok.fresh (Nat.le_refl _)
  have fin : ∀ (h' : Heap) (tk : Nat) (us : List Str), GSet (strKind X.prog X.w) h' s.heap.objs.size us → (∀ k, k ∈ us ↔ k ∈ ss) → (∀ b o, s.heap.get? b = some o → h'.get? b = some o) → EP X pins σ Q (.ref s.heap.objs.size) { s with heap := h', toks := tk } := fun h' tk us R m k =>
    ⟨.ref s.heap.objs.size, upd H s.heap.objs.size (SetTx X.prog X.w s.heap.objs.size us), I.laid (t' := tk) k (Nat.le_refl _) (setTx_ok R), rfl, q _ us hn (by
      obtain ⟨_, _, _, _, _, _, _, ⟨_, _, _, nd⟩, _⟩ := R
      exact nd) m⟩
  rcases hl with hl | hl
  · obtain ⟨its, rv, pl, hz⟩ := I.list hl
    have rs := strs_of_vals rv
    exact call_set_L (knd := strKind X.prog X.w) (ks := ss) (I.ok.hd calm) pl.isList (fun e => strOf e.2) (by rw [List.size_toArray]; exact StrsAre.length rs) room (strs_item rs) fin
  · obtain ⟨its, rv, pl, hz⟩ := I.tuple hl
    have rs := strs_of_vals rv
    exact call_set_T (knd := strKind X.prog X.w) (ks := ss) (I.ok.hd calm) (by
      obtain ⟨o, ho, hc, n, hd⟩ := pl
      exact ⟨o, ho, hc, n, hd⟩) (fun e => strOf e.2) (by rw [List.size_toArray]; exact StrsAre.length rs) room (strs_item rs) fin
theorem vals_each : ∀ {out : List Value} {cs : List Str}, PySem.W.EachIs (fun v x => ∃ t, v = Value.str x t) out cs → Vals (cs.map V.str) out
  | _, _, .nil => .nil
  | _, _, .cons h t => .cons h (vals_each t)
/-- sorted(s), s a set of texts -/
def rSortedS (P : Program) (w : World) : List V → Hp → VK → Prop := fun xs H Q => ∃ (a : Addr) (us : List Str), xs = [.ref a] ∧ H a = some (SetTx P w a us) ∧
  ∀ (p : Addr) (cs : List Str), H p = none → cs.Perm us → cs.Pairwise (fun x y => leT x y = true) → Q (.ref p) (upd H p (.lst (cs.map V.str)))
theorem call_sortedS (calm : X.calm = true) (hu : X.A.units + 64 < cLine) : CallR X (.builtin "sorted") (rSortedS X.prog X.w) := by
  intro pins s σ H xs us Q I r h
  obtain ⟨a, ks, rfl, ha, q⟩ := h
  have R : GSet (strKind X.prog X.w) s.heap a ks := (I.hok a _ ha).1
  rw [Vals.ref1 r]
  refine sorted_gset R (I.ok.hd calm) hu fun s' p out c cs k g o hp hg ev pm pw => ?_
  have hn : H p = none := I.hok.fresh hp
  have few : ks.length < scanBound := by
    obtain ⟨_, es, _, _, _, _, _, ky, few, _⟩ := R
    rw [← ky.len, Array.length_toList]
    exact few
  have hlen : (cs.map V.str).length ≤ sizeLine := by
    rw [List.length_map, pm.length_eq]
    exact fits_of_scanBound few
  have J : Inv X pins σ (upd H p (.lst (cs.map V.str))) { s with heap := s'.heap, gens := s'.gens, drawn := s'.drawn, toks := s'.toks } :=
    I.call (ch := []) (Un.laid k hp hn) (I.hok.laid k hp ⟨hlen, out, c, vals_each ev, hg⟩) (by rw [g]; exact I.bare) (fun _ z => nomatch z)
  have e : s' = { s with heap := s'.heap, gens := s'.gens, drawn := s'.drawn, toks := s'.toks } := by
    cases s'
    cases s
    cases o
    rfl
  rw [e]
  exact ⟨.ref p, _, J, rfl, q p cs hn pm pw⟩
end
end Lk

/-! SetS2 -/
set_option Elab.async false
set_option maxRecDepth 100000
set_option linter.all false
set_option maxHeartbeats 4000000
namespace Lk
open PySem PySem.Spec PyProof.Rows L2
/-! ### sorted(xs, key=len), xs a list of texts -/
def leL (x y : Str) : Bool := decide ((x.length : Int) ≤ (y.length : Int))
theorem leL_data : PySem.W.dataLe false (fun x : Str => PyData.int x.length) = leL := PySem.W.dataLe_int (β := Str) (fun x => (x.length : Int))
theorem each_vals : ∀ {us : List Value} {ss : List Str}, StrsAre us ss → PySem.W.EachIs (fun v x => ∃ t, v = Value.str x t) us ss
  | _, _, .nil => .nil
  | _, _, .cons x t h => .cons ⟨t, rfl⟩ (each_vals h)
section
variable {X : Cx}
def tSortLen (K : PySem.W.Frag) (te : TE) : TE := fun σ H Q => te σ H fun x H1 => ∃ (l : Addr) (ss : List Str), x = .ref l ∧ SqL K H1 l (ss.map V.str) ∧ (∀ y ∈ ss, y.length ≤ sizeLine) ∧ ∀ p, H1 p = none → Q (.ref p) (upd H1 p (.lst ((ss.mergeSort leL).map V.str)))
theorem pe_sortLen {e : Expr} {te : TE} {p p2 kp pos : Pos} (he : PE X e te) (hm : X.mg "sorted" = none) (hl : X.mg "len" = none) (hu : X.A.units + 64 < cLine) (hg : Gl X "sorted" := by rfl) (hgl : Gl X "len" := by rfl)
    (h1 : backTo pos (starEach [e] X.env) = (false, eval e X.env) :: backTo pos (starEach [] X.env) := by rfl) (h2 : (backTo pos (starEach [e] X.env)).any (·.1) = false := by rfl)
    (hs : starEach [e] X.env = (false, eval e X.env) :: starEach [] X.env := by rfl) :
    PE X (.Call (.Name "sorted" p) [e] [⟨some "key", .Name "len" p2, kp⟩] pos) (tSortLen X.K te) := by
  refine ⟨fun pins s σ H Q I h => ?_⟩
  refine wpAny_Call_Name_kw (ld_blt I hg hm (show bootBuiltins "sorted" = some (.builtin "sorted") by decide +kernel) ?_ (by decide) (by decide))
  let Q' : List V → Hp → Prop := fun vs H1 => match vs with
    | [x] => ∃ (l : Addr) (ss : List Str), x = .ref l ∧ SqL X.K H1 l (ss.map V.str) ∧ (∀ y ∈ ss, y.length ≤ sizeLine) ∧ ∀ p, H1 p = none → Q (.ref p) (upd H1 p (.lst ((ss.mergeSort leL).map V.str)))
    | _ => False
  refine PyProof.Rows.callWith_kw (thn ((pa_cons he pa_nil hs).run pos pins s σ H Q' I h) fun us s1 ⟨vs, H1, I1, r1, q1⟩ => ?_) h1 h2 (by rfl) (by rfl)
  match vs, r1, q1 with
  | [x], r1, ⟨l, ss, ex, hl2, hz, q⟩ =>
    subst ex
    have eu := Vals.ref1 r1
    subst eu
    show wpAny _ _ (evalAll ((do let v ← eval (.Name "len" p2) X.env; standAt pos; pure v) :: [])) _ _ s1
    refine wpAny_evalAll_cons (wpAny_bind (ld_blt I1 hgl hl (show bootBuiltins "len" = some (.builtin "len") by decide +kernel) (wpAny_bind (wpAny_standAt (wpAny_pure ?_))) (by decide) (by decide)))
    refine wpAny_evalAll_nil ?_
    show wpAny _ _ (call (.builtin "sorted") [.ref l] [(Str.ofString "key", .builtin "len")]) _ _ s1
    obtain ⟨its, rv, pl, hz2⟩ := I1.list hl2
    have rs := strs_of_vals rv
    rw [List.length_map] at hz2
    have pm := List.mergeSort_perm ss leL
    refine PySem.W.sorted_key_data (k := fun x : Str => PyData.int x.length) (b := false) (f := .builtin "len") pl.isList (each_vals rs) (PySem.W.AllAlike.of fun _ _ => rfl) (PySem.W.Sortable.others fun _ => ⟨(fun z => nomatch z), (fun _ z => nomatch z)⟩) hz2
      (fun _ _ => by show X.A.units + 2 + 0 < cLine; omega) (PyProof.Rows.ksk_s1 _ _) (fun _ => PyProof.Rows.ksk_l1 _ _) (fun _ => PyProof.Rows.ksk_t4 _ _) (fun v y hv hy h2 tk kp => ?_) fun out c h' tk kp fr hD len eo => ?_
    · obtain ⟨t, rfl⟩ := hv
      have hy2 := hz y hy
      rw [sizeLine_eq] at hy2
      exact len_str (by omega) ⟨h2, _, rfl, fun _ _ q => q, Reads.int _ _⟩
    · rw [leL_data] at eo
      have hlen : ((ss.mergeSort leL).map V.str).length ≤ sizeLine := by
        rw [List.length_map, pm.length_eq]
        exact hz2
      exact ⟨.ref _, upd H1 (s1.heap.objs.size + 1) (.lst ((ss.mergeSort leL).map V.str)), I1.laid (t' := tk) kp (Nat.le_succ _) ⟨hlen, out, c, vals_each eo, hD⟩, rfl, q _ (I1.hok.fresh (Nat.le_succ _))⟩
end
end Lk

/-! Asc0 -/
set_option Elab.async false
set_option maxRecDepth 100000
set_option linter.all false
set_option maxHeartbeats 4000000
namespace Lk
open PySem PySem.Spec PyProof.Rows L2
/-! ### the order of names -/
def leA (x y : Str) : Prop := x.length < y.length ∨ (x.length = y.length ∧ leT x y = true)
/-- the ascending list of the different ones -/
structure IsAsc (cs ss : List Str) : Prop where
  nd : cs.Nodup
  mem : ∀ x, x ∈ cs ↔ x ∈ ss
  pw : cs.Pairwise leA
theorem leA_anti {x y : Str} (h : leA x y) (g : leA y x) : x = y := by
  rcases h with h | ⟨e, h⟩
  · rcases g with g | ⟨f, g⟩ <;> omega
  · rcases g with g | ⟨f, g⟩
    · omega
    · exact leT_anti x y h g
theorem IsAsc.uniq {cs ds ss : List Str} (h : IsAsc cs ss) (g : IsAsc ds ss) : cs = ds :=
  List.Perm.eq_of_pairwise (fun _ _ _ _ a b => leA_anti a b) h.pw g.pw ((List.perm_ext_iff_of_nodup h.nd g.nd).mpr fun x => (h.mem x).trans (g.mem x).symm)
theorem IsAsc.same {cs ss ts : List Str} (h : IsAsc cs ss) (e : ∀ x, x ∈ ss ↔ x ∈ ts) : IsAsc cs ts := ⟨h.nd, fun x => (h.mem x).trans (e x), h.pw⟩
theorem two_way {α : Type} {x y : α} (ne : x ≠ y) : ∀ {l : List α}, x ∈ l → y ∈ l → List.Sublist [x, y] l ∨ List.Sublist [y, x] l
  | a :: l, hx, hy => by
    rcases List.mem_cons.mp hx with e1 | h1
    · rcases List.mem_cons.mp hy with e2 | h2
      · exact absurd (e1.trans e2.symm) ne
      · rw [← e1]
        exact .inl (List.Sublist.cons_cons _ (List.singleton_sublist.mpr h2))
    · rcases List.mem_cons.mp hy with e2 | h2
      · rw [← e2]
        exact .inr (List.Sublist.cons_cons _ (List.singleton_sublist.mpr h1))
      · exact (two_way ne h1 h2).imp (fun z => z.cons _) fun z => z.cons _
theorem one_way {α : Type} {x y : α} (ne : x ≠ y) : ∀ {l : List α}, l.Nodup → List.Sublist [x, y] l → List.Sublist [y, x] l → False
  | [], _, h, _ => by cases h
  | a :: l, nd, h, g => by
    obtain ⟨na, nl⟩ := List.nodup_cons.mp nd
    cases h with
    | cons _ h =>
      cases g with
      | cons _ g => exact one_way ne nl h g
      | cons_cons _ g => exact na (h.subset (by simp))
    | cons_cons _ h =>
      cases g with
      | cons _ g => exact na (g.subset (by simp))
      | cons_cons _ g => exact ne rfl
theorem leL_trans (x y z : Str) (h : leL x y = true) (g : leL y z = true) : leL x z = true := by
  have h2 := of_decide_eq_true h
  have g2 := of_decide_eq_true g
  exact decide_eq_true (by omega)
theorem leL_total (x y : Str) : (leL x y || leL y x) = true := by
  rw [Bool.or_eq_true]
  by_cases h : (x.length : Int) ≤ (y.length : Int)
  · exact .inl (decide_eq_true h)
  · exact .inr (decide_eq_true (by omega))
theorem asc_of {us ss cs : List Str} (nd : us.Nodup) (mem : ∀ x, x ∈ us ↔ x ∈ ss) (pm : cs.Perm us) (pw : cs.Pairwise (fun x y => leT x y = true)) : IsAsc (cs.mergeSort leL) ss := by
  have p2 := (List.mergeSort_perm cs leL).trans pm
  have n2 := p2.nodup_iff.mpr nd
  refine ⟨n2, fun x => (p2.mem_iff).trans (mem x), List.pairwise_iff_forall_sublist.mpr fun {x y} hs => ?_⟩
  have hL : leL x y = true := List.pairwise_iff_forall_sublist.mp (List.pairwise_mergeSort leL_trans leL_total cs) hs
  have h2 := of_decide_eq_true hL
  by_cases lt : x.length < y.length
  · exact .inl lt
  have eq : x.length = y.length := by omega
  refine .inr ⟨eq, ?_⟩
  have ne : x ≠ y := List.pairwise_iff_forall_sublist.mp n2 hs
  have hx : x ∈ cs := (List.mergeSort_perm cs leL).mem_iff.mp (hs.subset (by simp))
  have hy : y ∈ cs := (List.mergeSort_perm cs leL).mem_iff.mp (hs.subset (by simp))
  rcases two_way ne hx hy with z | z
  · exact List.pairwise_iff_forall_sublist.mp pw z
  · have hL2 : leL y x = true := decide_eq_true (by omega)
    exact (one_way ne n2 hs (List.pair_sublist_mergeSort leL_trans leL_total hL2 z)).elim
end Lk

/-! Stem0 -/
set_option Elab.async false
set_option maxRecDepth 100000
set_option linter.all false
set_option maxHeartbeats 4000000
namespace Lk
open PySem PySem.Spec PyProof.Rows L2
/-! ### stems -/
theorem starts_tl {x y : Str} : Txt.startswith x y = true ↔ ∃ r, TL.tl x = TL.tl y ++ r := by
  unfold Txt.startswith
  rw [StrLaws.subAt_eq, Bool.and_eq_true, decide_eq_true_eq, beq_iff_eq, List.drop_zero]
  constructor
  · rintro ⟨_, h⟩
    exact ⟨(TL.tl x).drop y.length, by
      have e : TL.tl x = (TL.tl x).take y.length ++ (TL.tl x).drop y.length := (List.take_append_drop _ _).symm
      rw [show (TL.tl x).take y.length = TL.tl y from h] at e
      exact e⟩
  · rintro ⟨r, h⟩
    have l1 : x.length = (TL.tl y ++ r).length := by rw [TL.len_tl, h]
    rw [List.length_append, ← TL.len_tl] at l1
    refine ⟨by omega, ?_⟩
    show (TL.tl x).take y.length = TL.tl y
    rw [h, TL.len_tl, List.take_left]
theorem ends_tl {x y : Str} : Txt.endswith x y = true ↔ ∃ r, TL.tl x = r ++ TL.tl y := by
  unfold Txt.endswith
  rw [StrLaws.subAt_eq, Bool.and_eq_true, decide_eq_true_eq, beq_iff_eq]
  constructor
  · rintro ⟨l, h⟩
    refine ⟨(TL.tl x).take (x.length - y.length), ?_⟩
    have h2 : ((TL.tl x).drop (x.length - y.length)).take y.length = TL.tl y := h
    have l2 : ((TL.tl x).drop (x.length - y.length)).length ≤ y.length := by
      rw [List.length_drop, ← TL.len_tl]
      omega
    rw [List.take_of_length_le l2] at h2
    rw [← h2, List.take_append_drop]
  · rintro ⟨r, h⟩
    have l1 : x.length = (r ++ TL.tl y).length := by rw [TL.len_tl, h]
    rw [List.length_append, ← TL.len_tl] at l1
    refine ⟨by omega, ?_⟩
    show ((TL.tl x).drop (x.length - y.length)).take y.length = TL.tl y
    rw [h, show x.length - y.length = r.length by omega, List.drop_left, TL.len_tl y, List.take_length]
/-- what lies between two ends, where the one are capitals and the other small letters -/
theorem mid_of {z b e : List Nat} (hb : ∀ c ∈ b, upB c = true) (he : ∀ c ∈ e, loB c = true) (h1 : ∃ r, z = b ++ r) (h2 : ∃ r, z = r ++ e) : ∃ m, z = b ++ m ++ e := by
  obtain ⟨r, rfl⟩ := h1
  obtain ⟨q, h2⟩ := h2
  rcases List.append_eq_append_iff.mp h2 with ⟨m, e1, e2⟩ | ⟨m, e1, e2⟩
  · exact ⟨m, by rw [e2, List.append_assoc]⟩
  · cases m with
    | nil => exact ⟨[], by rw [e2]; simp⟩
    | cons c t =>
      have u := hb c (by rw [e1]; simp)
      have v := he c (by rw [e2]; simp)
      simp only [upB, loB, Bool.and_eq_true, decide_eq_true_eq] at u v
      omega
theorem cut_mid {z : Str} {b m e : List Nat} (h : TL.tl z = b ++ m ++ e) : TL.tl (cutS z (some (b.length : Int)) (some ((z.length : Int) - (e.length : Int)))) = m := by
  have l : z.length = b.length + m.length + e.length := by
    rw [TL.len_tl, h, List.length_append, List.length_append]
  show ((TL.tl z).drop (HT.sIx z.length 0 (some (b.length : Int)))).take (HT.sIx z.length z.length (some ((z.length : Int) - (e.length : Int))) - HT.sIx z.length 0 (some (b.length : Int))) = m
  rw [show ((z.length : Int) - (e.length : Int)) = ((b.length + m.length : Nat) : Int) by omega, HT.sIx_nat, HT.sIx_nat, Nat.min_eq_left (by omega), Nat.min_eq_left (by omega), h, List.append_assoc, List.drop_left, show b.length + m.length - b.length = m.length by omega, List.take_left]
end Lk

/-! EnT0 -/
set_option Elab.async false
set_option maxRecDepth 100000
set_option linter.all false
set_option maxHeartbeats 4000000
namespace Lk
open PySem PySem.Spec PyProof.Rows L2
/-! ### enumerate(t), t a tuple -/
theorem enum_one {v : Value} {o : Obj} {Hh : Heap → Prop} (B : Begins v o Hh) :
    Meets (Builtin.«enumerate.__new__» ⟨[.type "enumerate", v], []⟩) (fun _ R s => Hh s.heap ∧
      R (.ok (.ret (.ref (s.heap.push o).objs.size))) { s with heap := (s.heap.push o).push { cls := .type "enumerate", data := .fields #[.none, .bool false, .ref s.heap.objs.size, rawInt 0, .none, .none] } }) :=
  .of_wp fun prog w A R s h => by
    obtain ⟨hp, g, d, tk, os⟩ := s
    obtain ⟨h1, h⟩ := h
    have hsub := sub_enumerate
    have q1 : ∀ {A' : Around} {E : Value → Shared → Prop} {Q : Value → Shared → Prop}, Q (.ref hp.objs.size) ⟨hp.push o, g, d, tk, os⟩ → wpAny (model prog w) A' (pyIter v) Q E ⟨hp, g, d, tk, os⟩ :=
      fun q => B.iter prog w _ _ ⟨hp, g, d, tk, os⟩ _ (B.keeps _ _ h1 fun b o' e => e) q
    wp_walk
    refine wpAny_stack_any fun st => wpAny_pure ?_
    split
    · rename_i c _ _ _ _ _
      cases (c == Value.type "enumerate")
      · wp_walk using q1
        exact ⟨_, rfl, h⟩
      · wp_walk using q1
        exact ⟨_, rfl, h⟩
    · wp_walk using q1
      exact ⟨_, rfl, h⟩
section
variable {prog : Program} {w : World} {A : Around} {E : Value → Shared → Prop} {s : Shared}
theorem call_enum_tup {l : Addr} {items : Array Value} {Q : Value → Shared → Prop} (hT : s.heap.IsTuple l items)
    (h : ∀ h', IsEnum h' (s.heap.objs.size + 1) s.heap.objs.size 0 .none → h'.IsTupleIter s.heap.objs.size l 0 → h'.objs.size = s.heap.objs.size + 2 →
      (∀ b o, s.heap.get? b = some o → h'.get? b = some o) → Q (.ref (s.heap.objs.size + 1)) { s with heap := h' }) :
    wpAny (model prog w) A (call (.type "enumerate") [.ref l]) Q E s := by
  refine callType_new F.called_enumerate (by decide) (F.typeCall_enumerate_1 _) (F.newCall_enumerate_1 _) (fun obj => F.args_object_init_2 obj _) F.entry_enumerate_new (enum_one (begins_tuple l items)) ⟨hT, ?_⟩
  have z1 : (s.heap.push { cls := .type "tuple_iterator", data := .fields #[.ref l, .int 0 0] }).objs.size = s.heap.objs.size + 1 := Heap.size_push ..
  show _ ∧ _
  have at1 := Heap.get?_push_size (s.heap.push { cls := .type "tuple_iterator", data := .fields #[.ref l, .int 0 0] }) (o := { cls := .type "enumerate", data := .fields #[.none, .bool false, .ref s.heap.objs.size, rawInt 0, .none, .none] }) rfl
  rw [z1] at at1 ⊢
  exact ⟨⟨_, at1, rfl⟩, h _ at1 ⟨_, Heap.get?_push_of_some _ (Heap.get?_push_size _ rfl), rfl, rfl⟩ (by rw [Heap.size_push, z1]) fun b o x => Heap.get?_push_of_some _ (Heap.get?_push_of_some _ x)⟩
end
/-- the pairs of a tuple at a -/
def IteT (K : PySem.W.Frag) (a : Addr) : It :=
  ⟨fun i H => ∃ (xs : List V) (x : V), SqT K H a xs ∧ xs[i]? = some x, fun i H v H' => ∃ T x, v = .ref T ∧ H T = none ∧ H' = upd H T (.tup [.int (i : Nat), x]) ∧ ∀ xs, SqT K H a xs → xs[i]? = some x, fun i H => ∃ xs : List V, SqT K H a xs ∧ xs.length = i⟩
theorem apart_of {h : Heap} {e it a i : Addr} {n : Int} {old : Value} {items : Array Value} (he : IsEnum h e it n old) (hit : h.IsTupleIter it a i) (ht : h.IsTuple a items) : a ≠ it ∧ e ∉ [it, a] ∨ e = it := by
  by_cases q : e = it
  · exact .inr q
  · refine .inl ⟨fun z => ?_, fun m => ?_⟩
    · obtain ⟨o1, h1, c1, _⟩ := hit
      obtain ⟨o2, h2, c2, _⟩ := ht
      rw [z, h1] at h2
      cases h2
      rw [c1] at c2
      exact absurd c2 (by decide)
    · rcases List.mem_cons.mp m with z | m
      · exact q z
      · have z := List.mem_singleton.mp m
        obtain ⟨o2, h2, c2, _⟩ := ht
        rw [← z] at h2
        unfold IsEnum at he
        rw [he] at h2
        injection h2 with h2
        rw [← h2] at c2
        have c3 : Value.type "enumerate" = Value.type "tuple" := c2
        injection c3 with c3
        exact absurd c3 (by decide)
theorem turn_enT {P : Program} {w : World} {K : PySem.W.Frag} {elts : List Expr} {kk : Nat} {tpos : Pos} (a e it : Addr) :
    Turn P w K (.Tuple elts kk tpos) (IteT K a) [e, it] e (fun i h => (∃ old, IsEnum h e it ((i : Nat) : Int) old) ∧ h.IsTupleIter it a i ∧ e ≠ it) where
  mem := by simp
  obj := fun i h st b hb => by
    obtain ⟨⟨old, he⟩, ⟨o, ho, hc, hd⟩, _⟩ := st
    have e' : b = e ∨ b = it := by simpa using hb
    rcases e' with z | z
    · rw [z]
      exact ⟨_, he, fun v q => nomatch q⟩
    · rw [z]
      exact ⟨o, ho, fun v q => by rw [hd] at q; cases q⟩
  keep := fun i h h' st k => let ⟨⟨old, he⟩, hi, hne⟩ := st; ⟨⟨old, k e (by simp) _ he⟩, hi.at fun o q => k it (by simp) o q, hne⟩
  item := by
    intro X hP hw hK hc i pins s σ H E I hf st hg
    subst hP hw hK
    obtain ⟨⟨old, he⟩, hit, hne⟩ := st
    obtain ⟨xs, x, hq, hx⟩ := hg
    obtain ⟨its, rv, p, hz⟩ := I.tuple hq
    obtain ⟨u, hu, ru⟩ := rv.get hx
    have hel : e < s.heap.objs.size := Heap.lt_size he
    have hil : it < s.heap.objs.size := by obtain ⟨_, q, _⟩ := hit; exact Heap.lt_size q
    have ap := (apart_of he hit p).resolve_right hne
    have quiet : X.A.in1.handled = none := by
      have z := I.ok.hd hc
      simp [z]
    refine wpAny_pyNext_enum_itemD (Draws.tuple quiet it a ap.1 its.toArray) he ⟨hit, p⟩ (i := i) (by
      have z := (List.getElem?_eq_some_iff.mp hu).1
      simpa using z) hne ap.2 fun v h' tk pv ho st' hT hsz hk => ?_
    have ev : v = u := by
      have z : its[i]? = some v := by simpa using pv
      rw [hu] at z
      exact (Option.some.inj z).symm
    subst ev
    refine ⟨_, rfl, wpAny_letOwnedTupleGo_enum (s := { s with heap := h', toks := tk + 1 }) ho fun h'' he' sb => ?_⟩
    have hT2 : h''.get? s.heap.objs.size = some { cls := .type "tuple", data := .seq #[.int i tk, v] } := (sb.2 _ (Nat.ne_of_gt hel)).trans hT
    have new : ObjOk X.prog X.w (upd H s.heap.objs.size (.tup [.int (i : Nat), x])) h'' s.heap.objs.size (.tup [.int (i : Nat), x]) :=
      ⟨by show 2 ≤ sizeLine; decide, [.int i tk, v], .cons ⟨_, rfl⟩ (.cons ru .nil), ⟨_, hT2, rfl, _, rfl⟩⟩
    have I1 : Inv X pins σ (upd H s.heap.objs.size (.tup [.int (i : Nat), x])) { s with heap := h'', toks := tk + 1 } :=
      I.turnedNew (ch := [e, it]) (fun b ob hb q => (sb.2 b (fun z => hb (by simp [z]))).trans (hk b ob (fun z => hb (by simp [z])) (fun z => hb (by simp [z])) q)) hf (Nat.le_refl _) new
    refine ⟨.ref s.heap.objs.size, _, I1, rfl, ⟨_, x, rfl, I.hok.fresh (Nat.le_refl _), rfl, fun ys hy => by rw [I.tuple_inj hy hq]; exact hx⟩, ⟨⟨v, ?_⟩, st'.1.at fun o q => (sb.2 it (Ne.symm hne)).trans q, hne⟩, fun b hb => ?_⟩
    · have e1 : ((i + 1 : Nat) : Int) = (i : Int) + 1 := by omega
      rw [e1]
      exact he'
    · have hb' : b < s.heap.objs.size := by
        have e' : b = e ∨ b = it := by simpa using hb
        rcases e' with z | z
        · rw [z]; exact hel
        · rw [z]; exact hil
      rw [upd_ne (Nat.ne_of_lt hb')]
      exact (hf b hb).1
  done := by
    intro X hP hw hK hc i pins s σ H E I hf st hg
    subst hP hw hK
    obtain ⟨⟨old, he⟩, hit, hne⟩ := st
    obtain ⟨xs, hq, hx⟩ := hg
    obtain ⟨its, rv, p, hz⟩ := I.tuple hq
    obtain ⟨f0, f1, f2, f3, f4, f5⟩ := hf it (by simp)
    have hl := rv.length
    have ap := (apart_of he hit p).resolve_right hne
    have quiet : X.A.in1.handled = none := by
      have z := I.ok.hd hc
      simp [z]
    have ei : i = its.toArray.size := by
      rw [List.size_toArray, ← hl, hx]
    subst ei
    exact wpAny_pyNext_enum_endD (Draws.tuple quiet it a ap.1 its.toArray) he ⟨hit, p⟩ fun h' eb => ⟨rfl, I.turned (t' := s.toks) (fun b o hb q => eb b o hb q) f0 f1 f3 f4 f5⟩
  self := fun A i s Q E st h => let ⟨⟨_, he⟩, _⟩ := st; wpAny_pyIter_enum he h
def iEnT (K : PySem.W.Frag) (ta : TA) : TI := fun σ H R => ta σ H fun vs H1 => ∃ a xs, vs = [.ref a] ∧ SqT K H1 a xs ∧ R (IteT K a) H1
theorem pi_enT {X : Cx} {e : Expr} {ta : TA} {p pos tpos : Pos} {elts : List Expr} {kk : Nat} (hg : Gl X "enumerate") (hm : X.mg "enumerate" = none) (ha : PA X [e] ta) (hs : starEach [e] X.env = [(false, eval e X.env)] := by rfl) :
    PI X (.Tuple elts kk tpos) (.Call (.Name "enumerate" p) [e] [] pos) (iEnT X.K ta) := by
  refine ⟨fun pins s σ H R I h => ?_⟩
  refine Call_ (ld_blt I hg hm boot_enumerate (PyProof.Rows.callWith_type1 (thn (ha.run pos pins s σ H _ I h) fun us s1 ⟨vs, H1, I1, r1, q1⟩ => ?_) hs rfl))
  obtain ⟨a, xs, ex, hq, q⟩ := q1
  subst ex
  cases r1 with
  | cons r rr =>
    cases rr
    cases r
    obtain ⟨its, rv, p', hz⟩ := I1.tuple hq
    refine call_enum_tup p' fun h' he hit hsz hk => wpAny_pyIter_enum he ?_
    have I2 : Inv X pins σ H1 { s1 with heap := h' } := I1.kept (t' := s1.toks) hk
    refine ⟨s1.heap.objs.size + 1, [s1.heap.objs.size + 1, s1.heap.objs.size], _, _, H1, rfl, I2, turn_enT a (s1.heap.objs.size + 1) s1.heap.objs.size, ⟨⟨.none, he⟩, hit, Nat.succ_ne_self _⟩, fun b hb => ?_, q⟩
    have e' : b = s1.heap.objs.size + 1 ∨ b = s1.heap.objs.size := by simpa using hb
    have hle : s1.heap.objs.size ≤ b := by
      rcases e' with z | z
      · rw [z]; exact Nat.le_add_right _ _
      · rw [z]; exact Nat.le_refl _
    exact I1.fpOk hle (I1.hok.fresh hle)
theorem for_enT {K : PySem.W.Frag} {a : Addr} {xs : List V} {g : TG} {tb : TS} {D : Ends} {σ : L2.St} {H : Hp} (Pv : Nat → L2.St → Hp → Prop) (h0 : Pv 0 σ H) (hl : ∀ i σ H, Pv i σ H → SqT K H a xs)
    (hs : ∀ (i : Nat) (x : V) (σ : L2.St) (H : Hp) (T : Addr), xs[i]? = some x → H T = none → Pv i σ H → g (.ref T) σ (upd H T (.tup [.int (i : Int), x])) fun σ2 H2 => tb { D with nx := Pv (i + 1), ct := Pv (i + 1), bk := D.nx } σ2 H2)
    (hd : ∀ σ H, Pv xs.length σ H → D.nx σ H) :
    ∃ W : Nat → Nat → L2.St → Hp → Prop, (∃ m, W 0 m σ H) ∧ ∀ i m σ H, W i m σ H →
      ((IteT K a).stop i H ∧ D.nx σ H) ∨ ((IteT K a).go i H ∧ ∃ N : L2.St → Hp → Prop, (∀ σ' H', N σ' H' → ∃ m', m' < m ∧ W (i + 1) m' σ' H') ∧ ∀ x H', (IteT K a).yld i H x H' → g x σ H' fun σ2 H2 => tb { D with nx := N, ct := N, bk := D.nx } σ2 H2) := by
  refine ⟨fun i m σ H => i + m = xs.length ∧ Pv i σ H, ⟨xs.length, Nat.zero_add _, h0⟩, ?_⟩
  rintro i m σ H ⟨em, p⟩
  have q := hl i σ H p
  cases m with
  | zero =>
    have e : i = xs.length := em
    subst e
    exact .inl ⟨⟨xs, q, rfl⟩, hd σ H p⟩
  | succ m =>
    have lt : i < xs.length := by omega
    have hx := List.getElem?_eq_getElem lt
    refine .inr ⟨⟨xs, _, q, hx⟩, fun σ' H' => Pv (i + 1) σ' H', fun σ' H' p' => ⟨m, Nat.lt_succ_self m, by omega, p'⟩, ?_⟩
    rintro v H' ⟨T, x, rfl, nT, rfl, each⟩
    exact hs i x σ H T (each xs q) nT p
theorem walk_enT {K : PySem.W.Frag} {a : Addr} {xs : List V} : Walk (IteT K a) xs.length (fun H => SqT K H a xs) (YPair (fun i => some (.int (i : Nat))) (fun i => xs[i]?)) := by
  refine ⟨fun i _ hi q => ⟨xs, xs[i], q, by simp [hi]⟩, fun _ q => ⟨xs, q, rfl⟩, fun i H v H' _ q y => ?_⟩
  obtain ⟨T, x, h1, h2, h3, h4⟩ := y
  exact ⟨T, .int (i : Nat), x, h1, h2, h3, rfl, h4 xs q⟩
end Lk

/-! Pick0 -/
set_option Elab.async false
set_option maxRecDepth 100000
set_option linter.all false
set_option maxHeartbeats 4000000
namespace Lk
open PySem PySem.Spec PyProof.Rows L2
/-! ### one of a display (law04b.tpl has its own copies: do not build both together) -/
section
variable {K : PySem.W.Frag} {H H' : Hp} {p c : Addr} {σ : L2.St}
theorem th_of_mem : ∀ {xs : List V} {ds : List PyData} {x : V}, ThAll K H xs ds → x ∈ xs → ∃ d, d ∈ ds ∧ Th K H x d
  | _, _, _, .nil, h => by simp at h
  | _, _, x, .cons h t, m => by
    rcases List.mem_cons.mp m with rfl | m
    · exact ⟨_, List.mem_cons_self, h⟩
    · obtain ⟨d, hd, ht⟩ := th_of_mem t m
      exact ⟨d, List.mem_cons_of_mem _ hd, ht⟩
theorem noPot_of : ∀ {ds : List PyData} {d : PyData}, noPotAll ds = true → d ∈ ds → noPot d = true
  | e :: r, d, h, m => by
    have n2 : noPot e = true ∧ noPotAll r = true := by simpa only [noPotAll, Bool.and_eq_true] using h
    rcases List.mem_cons.mp m with rfl | m
    · exact n2.1
    · exact noPot_of n2.2 m
/-- one of a new display; the list may have any length -/
theorem pick_new {ta : TA} {ds : List PyData} {Q : VK} {i : Nat} (h : MkA K ta σ H ds) (hn : noPotAll ds = true) (l0 : 0 < ds.length) (l1 : ds.length ≤ 1000) (hP : PotAt p c H) (hi : σ[i]? = some (some (.ref p)))
    (k : ∀ v d H', d ∈ ds → Th K H' v d → Ext p c H H' → Q v H') : tCall (spPick K) [] E0 (tCons (tVar i) (tCons (tLst ta) tNil)) σ H Q :=
  ⟨_, hi, h H (Same.refl H) _ fun xs H1 s1 t1 => by
    have hl := thAll_len t1
    refine ⟨Nat.le_trans (Nat.le_of_eq hl) (Nat.le_trans l1 (by decide)), fun l nl => ?_⟩
    have P1 := hP.same s1
    have s2 : Same H1 (upd H1 l (.lst xs)) := same_upd nl
    refine ⟨p, c, l, xs, rfl, P1.same s2, SqL.of upd_same, P1.nep nl, by omega, by omega, fun v H2 hv e2 => ?_⟩
    obtain ⟨d, hd, ht⟩ := th_of_mem t1 hv
    exact k v d H2 hd (th_ext (P1.same s2) e2 (th_same s2 ht) (noPot_of hn hd)) (Ext.pre (s1.trans s2) e2)⟩
/-- data without lists stands when a list changes -/
theorem th_mutL {D : Addr} {ys : List V} {o : HO} (hD : H D = some (.lst ys)) {v : V} {d : PyData} (h : Th K H v d) : noLst d = true → Th K (upd H D o) v d := by
  refine Th.rec (motive_1 := fun v d _ => noLst d = true → Th K (upd H D o) v d) (motive_2 := fun vs ds _ => noLstAll ds = true → ThAll K (upd H D o) vs ds) ?_ ?_ ?_ ?_ ?_ ?_ ?_ ?_ ?_ h
  · exact fun _ => .non
  · exact fun b _ => .bl b
  · exact fun i _ => .int i
  · exact fun x _ => .str x
  · intro q xs ds _ _ _ n
    simp [noLst] at n
  · intro q xs ds hs ha ih n
    have n2 : noLstAll ds = true := by simpa only [noLst] using n
    rcases hs with (hs | ⟨u, hs⟩) | hs
    · have ne : q ≠ D := fun z => by
        rw [z, hD] at hs
        cases hs
      exact .tup (.inl (.inl (by rw [upd_ne ne]; exact hs))) (ih n2)
    · have ne : q ≠ D := fun z => by
        rw [z, hD] at hs
        cases hs
      exact .tup (.inl (.inr ⟨u, by rw [upd_ne ne]; exact hs⟩)) (ih n2)
    · exact .tup (.inr hs) (ih n2)
  · intro q kvs ds hs _ ek ih n
    have n2 : noLstAll (ds.map (·.2)) = true := by
      rw [noLstKv_map]
      simpa only [noLst] using n
    have ne : q ≠ D := fun z => by
      rw [z, hD] at hs
      cases hs
    exact .dct (by rw [upd_ne ne]; exact hs) (ih n2) ek
  · exact fun _ => .nil
  · intro v vs d ds _ _ i1 i2 n
    have n2 : noLst d = true ∧ noLstAll ds = true := by simpa only [noLstAll, Bool.and_eq_true] using n
    exact .cons (i1 n2.1) (i2 n2.2)
theorem thAll_mutL {D : Addr} {ys : List V} {o : HO} (hD : H D = some (.lst ys)) : ∀ {vs : List V} {ds : List PyData}, ThAll K H vs ds → noLstAll ds = true → ThAll K (upd H D o) vs ds
  | _, _, .nil, _ => .nil
  | _ :: _, d :: ds, .cons h t, n => by
    have n2 : noLst d = true ∧ noLstAll ds = true := by simpa only [noLstAll, Bool.and_eq_true] using n
    exact .cons (th_mutL hD h n2.1) (thAll_mutL hD t n2.2)
/-- what stands ready: a list that grows while the pot moves -/
theorem grow {H0 : Hp} {D : Addr} {n iv : Nat} {te : TE} {α : Type} {f : α → PyData} {Ok : α → Prop} {Qd : Hp → Prop} (flat : ∀ a, noLst (f a) = true ∧ noPot (f a) = true) (hP : PotAt p c H0) (hD0 : H0 D = none) (small : n ≤ 1000)
    (wp : ∀ (x : V), wipe ((wipe σ [iv]).set iv (some x)) [iv] = wipe σ [iv])
    (call : ∀ (x : V) (H' : Hp) (R : VK), PotAt p c H' → (∀ v a H2, Ok a → Ext p c H' H2 → Th K H2 v (f a) → R v H2) → te ((wipe σ [iv]).set iv (some x)) H' R)
    (k : ∀ (vs : List V) (as : List α) (H' : Hp), H' D = some (.lst vs) → ThAll K H' vs (as.map f) → (∀ a ∈ as, Ok a) → as.length = n → Ext p c H0 H' → Qd H') :
    ∃ W : Nat → Nat → Hp → Prop, (∃ m, W 0 m (upd H0 D (.lst []))) ∧ ∀ i m H, W i m H →
      ((Itr 0 n).stop i H ∧ Qd H) ∨ ((Itr 0 n).go i H ∧ ∃ Nx : Hp → Prop, (∀ H', Nx H' → ∃ m', m' < m ∧ W (i + 1) m' H') ∧ ∀ x H', (Itr 0 n).yld i H x H' → gName iv x (wipe σ [iv]) H' fun σ2 H2 => wipe σ2 [iv] = wipe σ [iv] ∧ tYes σ2 H2 fun b H3 =>
        if b = true then te σ2 H3 fun y H4 => ∃ acc, H4 D = some (.lst acc) ∧ acc.length < sizeLine ∧ Nx (upd H4 D (.lst (acc ++ [y]))) else Nx H3) := by
  have nd := hP.nep hD0
  have flatA : ∀ as : List α, noLstAll (as.map f) = true ∧ noPotAll (as.map f) = true := fun as => by
    induction as with
    | nil => exact ⟨rfl, rfl⟩
    | cons a r ih => exact ⟨by rw [List.map_cons, noLstAll, (flat a).1, ih.1]; rfl, by rw [List.map_cons, noPotAll, (flat a).2, ih.2]; rfl⟩
  refine lc_range (lo := 0) (n := n) (fun i H' => ∃ vs as, H' D = some (.lst vs) ∧ ThAll K H' vs (as.map f) ∧ (∀ a ∈ as, Ok a) ∧ as.length = i ∧ Ext p c H0 H') ⟨[], [], upd_same, .nil, (fun _ h => by simp at h), rfl, Ext.mut hP hP.ref hD0⟩ ?_ ?_
  · rintro i H' hi ⟨vs, as, hD, ta, ok, len, e⟩
    refine ⟨wp _, call _ H' _ e.pot fun v a H2 oka e2 th => ⟨vs, e2.get hD nd, ?_, vs ++ [v], as ++ [a], upd_same, ?_, ?_, ?_, Ext.mut hP (e.trans e2) hD0⟩⟩
    · have := thAll_len ta
      rw [List.length_map] at this
      exact small1000 (by omega)
    · rw [List.map_append]
      exact thAll_app (thAll_mutL (e2.get hD nd) (thAll_ext e.pot e2 ta (flatA as).2) (flatA as).1) (.cons (th_mutL (e2.get hD nd) th (flat a).1) .nil)
    · intro y hy
      rcases List.mem_append.mp hy with hy | hy
      · exact ok y hy
      · rw [List.mem_singleton.mp hy]
        exact oka
    · rw [List.length_append, List.length_singleton, len]
  · rintro H' ⟨vs, as, hD, ta, ok, len, e⟩
    exact k vs as H' hD ta ok len e
end
end Lk

/-! DUpd0 -/
set_option Elab.async false
set_option maxRecDepth 100000
set_option linter.all false
set_option maxHeartbeats 4000000
namespace Lk
open PySem PySem.Spec PyProof.Rows L2
/-! ### d.update(e), both dicts of ints and texts as keys -/
section
variable {X : Cx} {pins : List (Addr × Obj)} {σ : L2.St} {H : Hp} {s : Shared} {a b : Addr} {kvs more : List (Key × V)} {A : Around} {E : Value → Shared → Prop}
theorem d_update {Q : Value → Shared → Prop} (I : Inv X pins σ H s) (e : H a = some (.dK kvs)) (e2 : Rd H b (.dK more)) (ne : a ≠ b) (hz : kvs.length + more.length ≤ sizeLine)
    (h : ∀ s', Inv X pins σ (upd H a (.dK (mergeK kvs more))) s' → Q .none s') : wpAny (model X.prog X.w) A (call (.builtin "dict.update") [.ref a, .ref b]) Q E s := by
  obtain ⟨z, hd, vs, rel, dd⟩ := dk_of I.hok e
  obtain ⟨z2, hd2, ws, rel2, dd2⟩ := dk_rd I.hok e2
  refine call_meetsIn PySem.F.slot_dict_update dd.typeIs PySem.F.entry_dict_update (PySem.F.args_dict_update_2 _ _) (meets_dict_update (mixKind X.prog X.w) a b ne hd2) ⟨vs, ws, dd, dd2, by rw [← rel.length, ← rel2.length]; exact hz, fun h' dd' _ hs => h _ ?_⟩
  have he : ∃ q, h'.get? a = some q := let ⟨q, _, _, hq, _⟩ := dd'; ⟨q, hq⟩
  exact d_write (t' := s.toks) I (by rw [e]; exact True.intro) hs he (dk_new (Nat.le_trans (length_mergeK more kvs) hz) hd (KV.merge rel2 rel) dd')
end
def rDUpd : V → List V → Hp → VK → Prop := fun x vs H Q => ∃ a b kvs more, x = .ref a ∧ vs = [.ref b] ∧ H a = some (.dK kvs) ∧ Rd H b (.dK more) ∧ a ≠ b ∧ kvs.length + more.length ≤ sizeLine ∧ Q .non (upd H a (.dK (mergeK kvs more)))
theorem mt_update {X : Cx} : MtM X "dict.update" rDUpd := by
  intro pins s σ H x vs v us Q I rx rv h
  obtain ⟨a, b, kvs, more, rfl, rfl, e, e2, ne, hz, q⟩ := h
  cases rx
  rw [Vals.ref1 rv]
  exact d_update I e e2 ne hz fun s' I' => ⟨.non, _, I', rfl, q⟩
end Lk

/-! TabB0 -/
set_option Elab.async false
set_option maxRecDepth 100000
set_option linter.all false
set_option maxHeartbeats 4000000
namespace Lk
open PySem PySem.Spec PyProof.Rows L2
/-! ### tables of up to 2048 slots -/
/-- the slots that the round meets, as the bits of a number -/
def metBits (m : Nat) : Nat → Nat → Nat → Nat
  | 0, _, acc => acc
  | f + 1, x, acc => metBits m f ((x * 5 + 1) % (m + 1)) (acc ||| 2 ^ x)
def lastOf (m : Nat) : Nat → Nat → Nat
  | 0, x => x
  | f + 1, x => lastOf m f ((x * 5 + 1) % (m + 1))
theorem met_bits (m : Nat) : ∀ (f b acc j : Nat), (metBits m f (lcgN m b) acc).testBit j = true → acc.testBit j = true ∨ ∃ c, c < b + f ∧ lcgN m c = j
  | 0, b, acc, j, h => .inl h
  | f + 1, b, acc, j, h => by
    rcases met_bits m f (b + 1) (acc ||| 2 ^ lcgN m b) j h with z | ⟨c, lt, e⟩
    · rw [Nat.testBit_or, Bool.or_eq_true, Nat.testBit_two_pow, decide_eq_true_eq] at z
      exact z.imp id fun e => ⟨b, by omega, e⟩
    · exact .inr ⟨c, by omega, e⟩
theorem last_of (m : Nat) : ∀ f b : Nat, lastOf m f (lcgN m b) = lcgN m (b + f)
  | 0, _ => rfl
  | f + 1, b => by
    have z := last_of m f (b + 1)
    rw [show b + (f + 1) = b + 1 + f by omega]
    exact z
def MaskB (m : Nat) : Prop := m = 7 ∨ m = 31 ∨ m = 127 ∨ m = 511 ∨ m = 2047 ∨ m = 8191
theorem round7 : (metBits 7 8 0 0 == 2 ^ 8 - 1 && lastOf 7 8 0 == 0) = true := by decide +kernel
theorem round31 : (metBits 31 32 0 0 == 2 ^ 32 - 1 && lastOf 31 32 0 == 0) = true := by decide +kernel
theorem round127 : (metBits 127 128 0 0 == 2 ^ 128 - 1 && lastOf 127 128 0 == 0) = true := by decide +kernel
theorem round511 : (metBits 511 512 0 0 == 2 ^ 512 - 1 && lastOf 511 512 0 == 0) = true := by decide +kernel
theorem round2047 : (metBits 2047 2048 0 0 == 2 ^ 2048 - 1 && lastOf 2047 2048 0 == 0) = true := by decide +kernel
theorem round8191 : (metBits 8191 8192 0 0 == 2 ^ 8192 - 1 && lastOf 8191 8192 0 == 0) = true := by decide +kernel
theorem roundB {m : Nat} (hm : MaskB m) : (metBits m (m + 1) 0 0 == 2 ^ (m + 1) - 1 && lastOf m (m + 1) 0 == 0) = true := by
  rcases hm with e | e | e | e | e | e <;> subst e
  · exact round7
  · exact round31
  · exact round127
  · exact round511
  · exact round2047
  · exact round8191
theorem circleB {m : Nat} (hm : MaskB m) {j : Nat} (hj : j ≤ m) : ∃ b, b ≤ m ∧ lcgN m b = j := by
  have z := roundB hm
  rw [Bool.and_eq_true, beq_iff_eq, beq_iff_eq] at z
  rcases met_bits m (m + 1) 0 0 j (by
    show (metBits m (m + 1) 0 0).testBit j = true
    rw [z.1, Nat.testBit_two_pow_sub_one, decide_eq_true_eq]
    omega) with e | ⟨c, lt, e⟩
  · rw [Nat.zero_testBit] at e
    cases e
  · exact ⟨c, by omega, e⟩
theorem againB {m : Nat} (hm : MaskB m) (k : Nat) : lcgN m (m + 1 + k) = lcgN m k := by
  have z := roundB hm
  rw [Bool.and_eq_true, beq_iff_eq, beq_iff_eq] at z
  have e : lcgN m (m + 1) = 0 := by
    have y := last_of m (m + 1) 0
    rw [Nat.zero_add] at y
    exact y.symm.trans z.2
  rw [← lcgN_add, e]
  have y := lcgN_add m 0 k
  rw [Nat.zero_add] at y
  exact y
/-- a search meets each slot as the start of a run -/
theorem meetB {m : Nat} (hm : MaskB m) (h : Int) {j : Nat} (hj : j ≤ m) : ∃ n, n ≤ m + 12 ∧ runI m (SetTable.bits h) n = j := by
  obtain ⟨a, ha, ea⟩ := circleB hm (runI_le m (SetTable.bits h) 12)
  obtain ⟨b, hb, eb⟩ := circleB hm hj
  have go : ∀ k, lcgI m (runI m (SetTable.bits h) 12) k = lcgN m (a + k) := fun k => by rw [← ea, lcgN_add]
  by_cases c : a ≤ b
  · exact ⟨12 + (b - a), by omega, by rw [runI_tail (bits_lt h), go, Nat.add_sub_cancel' c, eb]⟩
  · exact ⟨12 + (b + (m + 1) - a), by omega, by
      rw [runI_tail (bits_lt h), go, show a + (b + (m + 1) - a) = m + 1 + b by omega, againB hm, eb]⟩
theorem wayB (m : Nat) (h : Int) (k : Nat) : way m h k ≤ m := by
  have lt : SetTable.bits h % (m + 1) ≤ m := Nat.le_of_lt_succ (Nat.mod_lt _ (Nat.succ_pos _))
  have r := runEnd_bd lt
  exact Nat.le_trans (Nat.le_add_right _ _) (nth_in k (runAt m (SetTable.bits h % (m + 1)) (SetTable.bits h)) (show SetTable.bits h % (m + 1) + (SetTable.runEnd m (SetTable.bits h % (m + 1)) - SetTable.bits h % (m + 1)) ≤ m by omega))
/-- a table whose members all are found again by their hashes -/
structure TabB (t : SetTable) (hs : List Int) : Prop where
  ris : Ris t.place.toList
  dm : t.dummies = #[]
  sz : t.place.size = hs.length
  mok : MaskB t.mask
  bd : ∀ x ∈ t.place.toList, x ≤ t.mask
  reach : ∀ (i : Nat) (h : Int) (j : Nat), hs[i]? = some h → t.place.toList[i]? = some j → ∃ k, way t.mask h k = j ∧ ∀ k', k' < k → way t.mask h k' ∈ t.place.toList
theorem oddB {m : Nat} (h : MaskB m) : m % 2 = 1 := by
  rcases h with e | e | e | e | e | e <;> subst e <;> rfl
theorem topB {m : Nat} (h : MaskB m) : m ≤ 8191 := by
  rcases h with e | e | e | e | e | e <;> omega
section
variable {t : SetTable} {hs : List Int}
theorem TabB.first (T : TabB t hs) (hl : hs.length ≤ t.mask) (h : Int) : ∃ K, K < 10 * SetTable.turns t.mask ∧ way t.mask h K ∉ t.place.toList ∧ ∀ k, k < K → way t.mask h k ∈ t.place.toList := by
  obtain ⟨j, hj, hn⟩ := st_missing t.place.toList (t.mask + 1) (by rw [Array.length_toList, T.sz]; omega)
  obtain ⟨n, le, e⟩ := meetB T.mok h (Nat.le_of_lt_succ hj)
  obtain ⟨k, lk, ek⟩ := run_nth t.mask (SetTable.bits h) n
  have free : way t.mask h k ∉ t.place.toList := by
    have z : way t.mask h k = j := (congrArg SetTable.Probe.j ek).trans e
    rwa [z]
  obtain ⟨K, h1, h2, h3⟩ := st_least (p := fun k => way t.mask h k ∉ t.place.toList) k free
  exact ⟨K, by unfold SetTable.turns; omega, h2, fun k' lt => Classical.byContradiction (h3 k' lt)⟩
theorem TabB.before (T : TabB t hs) {h : Int} {K i j : Nat} (hK : way t.mask h K ∉ t.place.toList) (hi : hs[i]? = some h) (hj : t.place.toList[i]? = some j) : ∃ k, k < K ∧ way t.mask h k = j := by
  obtain ⟨k, e, hb⟩ := T.reach i h j hi hj
  refine ⟨k, Nat.lt_of_not_le fun le => hK ?_, e⟩
  rcases Nat.eq_or_lt_of_le le with c | c
  · rw [c, e]
    exact List.mem_of_getElem? hj
  · exact hb K c
theorem TabB.put (T : TabB t hs) {h : Int} {K : Nat} (hK : way t.mask h K ∉ t.place.toList) (hb : ∀ k, k < K → way t.mask h k ∈ t.place.toList) {p : Nat} (ep : p = SetTable.below t.place (way t.mask h K)) :
    (t.put (way t.mask h K)).2 = p ∧ p ≤ hs.length ∧ TabB (t.put (way t.mask h K)).1 (hs.take p ++ h :: hs.drop p) ∧ (t.put (way t.mask h K)).1.mask = t.mask ∧ (t.put (way t.mask h K)).1.led = t.led ∧ (t.put (way t.mask h K)).1.fill = hs.length + 1 := by
  have top := wayB t.mask h K
  have pp := put_place t (way t.mask h K)
  have pd := put_dm T.dm (way t.mask h K)
  obtain ⟨c1, _, _⟩ := below_cut T.ris (way t.mask h K)
  rw [← ep] at pp c1
  have long : t.place.toList.length = hs.length := by
    rw [Array.length_toList]
    exact T.sz
  have hp1 : p ≤ t.place.toList.length := by
    rw [Array.length_toList]
    exact c1
  have hp2 : p ≤ hs.length := by rw [← long]; exact hp1
  have n1 : (t.put (way t.mask h K)).1.place.size = hs.length + 1 := by rw [← Array.length_toList, pp, len_ins _ hp1, long]
  have up : ∀ x ∈ t.place.toList, x ∈ (t.put (way t.mask h K)).1.place.toList := fun x m => by
    rw [pp]
    exact mem_ins.2 (.inr m)
  refine ⟨ep.symm, hp2, ⟨ris_insert T.ris fun e => hK (List.mem_of_getElem? (by rw [Array.getElem?_toList]; exact e)), pd, by rw [len_ins _ hp2]; exact n1, T.mok, fun x m => ?_, fun i h' j h1 h2 => ?_⟩, rfl, rfl, ?_⟩
  · rw [pp] at m
    rcases mem_ins.1 m with e | m
    · rw [e]
      exact top
    · exact T.bd x m
  · rw [tins_get hs hp2] at h1
    rw [pp, tins_get _ hp1] at h2
    have old : ∀ i', hs[i']? = some h' → t.place.toList[i']? = some j → ∃ k, way t.mask h' k = j ∧ ∀ k', k' < k → way t.mask h' k' ∈ (t.put (way t.mask h K)).1.place.toList := fun i' g1 g2 => by
      obtain ⟨k, e, z⟩ := T.reach i' h' j g1 g2
      exact ⟨k, e, fun k' lt => up _ (z k' lt)⟩
    by_cases c : i < p
    · rw [if_pos c] at h1 h2
      exact old i h1 h2
    · rw [if_neg c] at h1 h2
      by_cases d : i = p
      · rw [if_pos d] at h1 h2
        cases h1
        cases h2
        exact ⟨K, rfl, fun k' lt => up _ (hb k' lt)⟩
      · rw [if_neg d] at h1 h2
        exact old (i - 1) h1 h2
  · show (t.put (way t.mask h K)).1.place.size + (t.put (way t.mask h K)).1.dummies.size = hs.length + 1
    rw [n1, pd]
    rfl
end
/-! laid out anew -/
theorem freeB {m : Nat} (hm : MaskB m) (owner : Array (Option Nat)) (h : Int) {j : Nat} (hj : j ≤ m) (hf : oAt owner j = none) :
    ∃ K, SetTable.layClean.free m owner (SetTable.turns m) (SetTable.bits h % (m + 1)) (SetTable.bits h) = some (way m h K) ∧ oAt owner (way m h K) = none ∧ ∀ k, k < K → oAt owner (way m h k) ≠ none := by
  obtain ⟨n, le, e⟩ := meetB hm h hj
  have hit : oAt owner (way m h (off m (SetTable.bits h % (m + 1)) (SetTable.bits h) n)) = none := by
    have z : way m h (off m (SetTable.bits h % (m + 1)) (SetTable.bits h) n) = j := by
      have y := congrArg SetTable.Probe.j (nth_off m n (SetTable.bits h % (m + 1)) (SetTable.bits h))
      rw [itL_run] at y
      exact y.trans e
    rw [z]
    exact hf
  obtain ⟨K, k1, k2, k3⟩ := st_least (p := fun k => oAt owner (way m h k) = none) _ hit
  refine ⟨K, free_spec m owner (SetTable.turns m) n _ _ K (by unfold SetTable.turns; omega) k1 (fun k lt => ?_) (by rw [show oAt owner _ = none from k2]; rfl), k2, k3⟩
  have y := k3 k lt
  cases z : oAt owner (nth m (runAt m (SetTable.bits h % (m + 1)) (SetTable.bits h)) k).j with
  | none => exact absurd z y
  | some _ => rfl
theorem sitB {m : Nat} (hm : MaskB m) {done : List Int} {owner : Array (Option Nat)} (W : Own m done owner) (hl : done.length ≤ m) (h : Int) :
    ∃ j, SetTable.layClean.free m owner (SetTable.turns m) (SetTable.bits h % (m + 1)) (SetTable.bits h) = some j ∧ Own m (done ++ [h]) (owner.setIfInBounds j (some done.length)) := by
  obtain ⟨ps, n, hin⟩ := W.ps
  obtain ⟨j0, lt0, no0⟩ := st_missing ps (m + 1) (by omega)
  have free0 : oAt owner j0 = none := Classical.byContradiction fun z => no0 (hin j0 (Nat.le_of_lt_succ lt0) z)
  obtain ⟨K, e1, e2, e3⟩ := freeB hm owner h (Nat.le_of_lt_succ lt0) free0
  have top := wayB m h K
  refine ⟨way m h K, e1, ?_⟩
  generalize ej : way m h K = j at e1 e2 top
  have self := oAt_set_self (owner := owner) (j := j) (some done.length) (by rw [W.sz]; omega)
  have keep : ∀ i, i ≠ j → oAt (owner.setIfInBounds j (some done.length)) i = oAt owner i := fun i => oAt_set_ne _
  have busy : ∀ i, oAt owner i ≠ none → oAt (owner.setIfInBounds j (some done.length)) i ≠ none := fun i hi => by
    rw [keep i fun z => hi (by rw [z, e2])]
    exact hi
  constructor
  · rw [Array.size_setIfInBounds]
    exact W.sz
  · intro i k hi e
    by_cases c : i = j
    · subst c
      rw [self] at e
      cases e
      exact ⟨h, K, by simp, ej, fun k' lt => busy _ (e3 k' lt)⟩
    · rw [keep i c] at e
      obtain ⟨h', K', a1, a2, a3⟩ := W.at_ i k hi e
      exact ⟨h', K', by rw [List.getElem?_append_left (List.getElem?_eq_some_iff.mp a1).1]; exact a1, a2, fun k' lt => busy _ (a3 k' lt)⟩
  · intro k lt
    rw [List.length_append, List.length_singleton] at lt
    rcases Nat.lt_or_ge k done.length with c | c
    · obtain ⟨i, hi, e⟩ := W.all k c
      exact ⟨i, hi, by rw [keep i fun z => by rw [z, e2] at e; cases e]; exact e⟩
    · have z : k = done.length := by omega
      subst z
      exact ⟨j, top, self⟩
  · refine ⟨j :: ps, by rw [List.length_cons, List.length_append, n]; rfl, fun i hi e => ?_⟩
    by_cases c : i = j
    · rw [c]
      exact List.mem_cons_self
    · rw [keep i c] at e
      exact List.mem_cons_of_mem _ (hin i hi e)
theorem layB {m : Nat} (hm : MaskB m) : ∀ (rest done : List Int) (owner : Array (Option Nat)), Own m done owner → done.length + rest.length ≤ m →
    ∃ owner' n, rest.foldl (stepF m) (some (owner, done.length)) = some (owner', n) ∧ Own m (done ++ rest) owner'
  | [], done, owner, W, _ => ⟨owner, done.length, rfl, by rw [List.append_nil]; exact W⟩
  | h :: rest, done, owner, W, hl => by
    rw [List.length_cons] at hl
    obtain ⟨j, e, W1⟩ := sitB hm W (by omega) h
    have n1 : (done ++ [h]).length = done.length + 1 := by rw [List.length_append]; rfl
    obtain ⟨owner', n, f, W2⟩ := layB hm rest _ _ W1 (by omega)
    rw [List.append_assoc] at W2
    refine ⟨owner', n, ?_, W2⟩
    rw [List.foldl_cons, stepF_some e, ← n1]
    exact f
theorem relaidB (t : SetTable) {hs : Array Int} {wanted M : Nat} (hw : SetTable.sizeAbove wanted = M + 1) (hM : MaskB M) (hn : hs.size ≤ M) :
    ∃ t' order, t.relaid hs wanted = some (t', order) ∧ order.toList.Perm (List.range hs.size) ∧ TabB t' (order.toList.map fun i => hs.getD i 0) ∧ t'.mask = M ∧ t'.led = t.led := by
  obtain ⟨owner, n, f, W⟩ := layB hM hs.toList [] _ (Own.init M) (by rw [Array.length_toList]; show 0 + hs.size ≤ M; omega)
  rw [List.nil_append] at W
  have lc : SetTable.layClean M hs = some owner := by
    rw [layClean_eq]
    exact congrArg (Option.map Prod.fst) f
  have made : t.relaid hs wanted = some (tabOf t M owner, ((liveOf M owner).map (·.2)).toArray) := by
    rw [relaid_eq, show SetTable.sizeAbove wanted - 1 = M by omega, lc]
    rfl
  obtain ⟨r1, r2⟩ : Ris ((liveOf M owner).map (·.1)) ∧ ∀ x ∈ (liveOf M owner).map (·.1), x ∈ List.range (M + 1) := ris_live (fun j => owner.getD j none) (List.range (M + 1)) (by
    unfold Ris
    first | exact List.pairwise_lt_range | exact List.pairwise_lt_range _)
  have every : ∀ k, k < hs.size → k ∈ (liveOf M owner).map (·.2) := fun k lt => by
    obtain ⟨j, b1, b2⟩ := W.all k (by rw [Array.length_toList]; exact lt)
    exact List.mem_map.mpr ⟨(j, k), (mem_live W.sz).2 ⟨b1, b2⟩, rfl⟩
  have many : (liveOf M owner).length = hs.size := by
    obtain ⟨ps, p1, p2⟩ := W.ps
    have a := nat_nodup_len ((liveOf M owner).map (·.1)) ps (show ((liveOf M owner).map (·.1)).Nodup from List.Pairwise.imp (fun h => Nat.ne_of_lt h) r1) fun x m => by
      obtain ⟨⟨y, k⟩, m2, rfl⟩ := List.mem_map.mp m
      obtain ⟨b1, b2⟩ := (mem_live W.sz).1 m2
      exact p2 y b1 (by rw [b2]; exact fun z => nomatch z)
    have b := nat_nodup_len (List.range hs.size) ((liveOf M owner).map (·.2)) List.nodup_range fun k m => every k (List.mem_range.mp m)
    rw [List.length_map] at a
    rw [List.length_map, List.length_range] at b
    have hz : hs.toList.length = hs.size := rfl
    omega
  refine ⟨_, _, made, perm_range hs.size _ (by show ((liveOf M owner).map (·.2)).length = _; rw [List.length_map]; exact many) every, ⟨r1, rfl, ?_, hM, fun x m => Nat.le_of_lt_succ (List.mem_range.mp (r2 x m)), fun i h j h1 h2 => ?_⟩, rfl, rfl⟩
  · show ((liveOf M owner).map (·.1)).toArray.size = (((liveOf M owner).map (·.2)).map fun i => hs.getD i 0).length
    simp
  · replace h1 : (((liveOf M owner).map (·.2)).map fun i => hs.getD i 0)[i]? = some h := h1
    replace h2 : ((liveOf M owner).map (·.1))[i]? = some j := h2
    rw [List.getElem?_map, Option.map_eq_some_iff] at h2
    obtain ⟨⟨j1, k⟩, at_, ej⟩ := h2
    replace ej : j1 = j := ej
    subst ej
    obtain ⟨b1, b2⟩ := (mem_live W.sz).1 (List.mem_of_getElem? at_)
    obtain ⟨h', K, g1, g2, g3⟩ := W.at_ j1 k b1 b2
    rw [List.getElem?_map, List.getElem?_map, at_] at h1
    have eh : h' = h := by
      have z : hs.getD k 0 = h := Option.some.inj h1
      rw [Array.getElem?_toList] at g1
      rw [← z, Array.getD_eq_getD_getElem?, g1]
      rfl
    subst eh
    refine ⟨K, g2, fun k' lt => ?_⟩
    cases z : oAt owner (way M h' k') with
    | none => exact absurd z (g3 k' lt)
    | some k2 => exact List.mem_map.mpr ⟨(way M h' k', k2), (mem_live W.sz).2 ⟨wayB M h' k', z⟩, rfl⟩
end Lk

/-! TupG0 -/
set_option Elab.async false
set_option maxRecDepth 100000
set_option linter.all false
set_option maxHeartbeats 4000000
namespace Lk
open PySem PySem.Spec PyProof.Rows L2
/-! ### a set whose members are told by what stands at their addresses: tuples of whatever kind, found by the table -/
section
variable {α β : Type} {R : α → β → Prop}
theorem each_at : ∀ {as : List α} {bs : List β}, PySem.W.EachIs R as bs → ∀ {i : Nat} {b : β}, bs[i]? = some b → ∃ a, as[i]? = some a ∧ R a b
  | _, _, .nil, i, b, h => by cases h
  | _, _, .cons r t, 0, b, h => by
    cases h
    exact ⟨_, rfl, r⟩
  | _, _, .cons r t, i + 1, b, h => each_at t (i := i) h
theorem each_app : ∀ {as cs : List α} {bs ds : List β}, PySem.W.EachIs R as bs → PySem.W.EachIs R cs ds → PySem.W.EachIs R (as ++ cs) (bs ++ ds)
  | _, _, _, _, .nil, g => g
  | _, _, _, _, .cons r t, g => .cons r (each_app t g)
theorem each_take : ∀ {as : List α} {bs : List β} (p : Nat), PySem.W.EachIs R as bs → PySem.W.EachIs R (as.take p) (bs.take p)
  | _, _, 0, _ => .nil
  | _, _, p + 1, .nil => .nil
  | _, _, p + 1, .cons r t => .cons r (each_take p t)
theorem each_drop : ∀ {as : List α} {bs : List β} (p : Nat), PySem.W.EachIs R as bs → PySem.W.EachIs R (as.drop p) (bs.drop p)
  | _, _, 0, h => h
  | _, _, p + 1, .nil => .nil
  | _, _, p + 1, .cons r t => each_drop p t
theorem each_ins {as : List α} {bs : List β} {a : α} {b : β} (p : Nat) (h : PySem.W.EachIs R as bs) (r : R a b) : PySem.W.EachIs R (as.take p ++ a :: as.drop p) (bs.take p ++ b :: bs.drop p) :=
  each_app (each_take p h) (.cons r (each_drop p h))
/-- some of them, by their places -/
theorem each_pick {as : List α} {bs : List β} (h : PySem.W.EachIs R as bs) : ∀ l : List Nat, (∀ i ∈ l, i < bs.length) → PySem.W.EachIs R (l.filterMap fun i => as[i]?) (l.filterMap fun i => bs[i]?)
  | [], _ => .nil
  | i :: l, hl => by
    have e := List.getElem?_eq_getElem (hl i List.mem_cons_self)
    obtain ⟨a, ea, r⟩ := each_at h e
    rw [List.filterMap_cons_some ea, List.filterMap_cons_some e]
    exact .cons r (each_pick h l fun j hj => hl j (List.mem_cons_of_mem _ hj))
theorem pick_all : ∀ bs : List β, (List.range bs.length).filterMap (fun i => bs[i]?) = bs
  | [] => rfl
  | b :: bs => by
    rw [List.length_cons, List.range_succ_eq_map, List.filterMap_cons_some (show (b :: bs)[0]? = some b from rfl), List.filterMap_map]
    exact congrArg (b :: ·) (pick_all bs)
theorem pick_perm {bs : List β} {l : List Nat} (h : l.Perm (List.range bs.length)) : (l.filterMap fun i => bs[i]?).Perm bs := by
  have z := h.filterMap fun i => bs[i]?
  rw [pick_all] at z
  exact z
theorem ins_perm (l : List β) (p : Nat) (b : β) : (l.take p ++ b :: l.drop p).Perm (b :: l) := by
  have z : (l.take p ++ b :: l.drop p).Perm (b :: (l.take p ++ l.drop p)) := List.perm_middle
  rwa [List.take_append_drop] at z
end
/-! the steps of a search -/
def stp (m : Nat) (h : Int) (c : Nat) : SetTable.Probe := nth m (runAt m (SetTable.bits h % (m + 1)) (SetTable.bits h)) c
theorem stp_on (m : Nat) (h : Int) (c q : Nat) : nth m (stp m h c) q = stp m h (c + q) := (nth_add m c _ q).symm
theorem stp_clean (m : Nat) (h : Int) : ∀ c, (stp m h c).dummy = none
  | 0 => rfl
  | c + 1 => by
    have e : stp m h (c + 1) = adv m (stp m h c) := nth_succ m _ c
    rw [e]
    unfold adv
    split
    · exact stp_clean m h c
    · exact stp_clean m h c
/-- what the probe meets from the c-th step on, in steps from the start -/
theorem probe_met {t : SetTable} {hs : List Int} (T : TabB t hs) {h : Int} {g : Nat → Int} {K c : Nat} (lim : K < 10 * SetTable.turns t.mask) (free : way t.mask h K ∉ t.place.toList) (busy : ∀ d, d < K → way t.mask h d ∈ t.place.toList) (le : c ≤ K) :
    (∃ d i, c ≤ d ∧ d < K ∧ t.place.toList[i]? = some (way t.mask h d) ∧ (∀ d' i', c ≤ d' → d' < d → t.place.toList[i']? = some (way t.mask h d') → g i' ≠ h) ∧ t.probe g h (stp t.mask h c) = some (.candidate (way t.mask h d) i (stp t.mask h (d + 1)))) ∨
    ((∀ d' i', c ≤ d' → d' < K → t.place.toList[i']? = some (way t.mask h d') → g i' ≠ h) ∧ t.probe g h (stp t.mask h c) = some (.empty (way t.mask h K) none)) := by
  have ej : ∀ q, (nth t.mask (stp t.mask h c) q).j = way t.mask h (c + q) := fun q => congrArg SetTable.Probe.j (stp_on t.mask h c q)
  have eK : c + (K - c) = K := by omega
  have shift : ∀ {d : Nat}, c ≤ d → way t.mask h d = (nth t.mask (stp t.mask h c) (d - c)).j := fun {d} hd => by
    rw [ej]
    exact congrArg (way t.mask h) (by omega)
  rcases go_spec t T.ris T.dm g h (10 * SetTable.turns t.mask) (K - c) (stp t.mask h c) (stp_clean _ _ _) (by omega) (fun q hq => by
    rw [ej]
    exact busy _ (by omega)) (by rw [ej, eK]; exact free) with ⟨q, i, lt, at_, _, early, e⟩ | ⟨early, e⟩
  · refine .inl ⟨c + q, i, Nat.le_add_right _ _, by omega, by rw [← ej]; exact at_, fun d' i' h1 h2 h3 => early (d' - c) i' (by omega) (by rw [← shift h1]; exact h3), ?_⟩
    rw [ej, stp_on] at e
    exact e
  · refine .inr ⟨fun d' i' h1 h2 h3 => early (d' - c) i' (by omega) (by rw [← shift h1]; exact h3), ?_⟩
    rw [ej, eK] at e
    exact e
section
variable {P : Program} {w : World} {κ : Type} [DecidableEq κ]
/-- what a set asks of such members, besides hash and equality -/
structure Mem (knd : HeapKind P w κ) : Prop where
  st : knd.Stays
  cls : ∀ {A : Around} {E : Value → Shared → Prop} {s : Shared} {k : κ} {b : Addr} {Q : Bool → Shared → Prop}, knd.is s.heap k b → Q false s → wpAny (model P w) A (ofAClassStatement 8 (.ref b)) Q E s
  byV : ∀ {A : Around} {E : Value → Shared → Prop} {s : Shared} {k : κ} {b : Addr} {Q : Bool → Shared → Prop}, knd.is s.heap k b → (∀ v, Q v s) → wpAny (model P w) A (hashByValue 8 (.ref b)) Q E s
variable {knd : HeapKind P w κ}
theorem Mem.keep (M : Mem knd) {h h' : Heap} {k : κ} {b : Addr} (x : knd.is h k b) (kp : ∀ c u, h.get? c = some u → h'.get? c = some u) : knd.is h' k b := M.st.stays (fun c u _ _ hc _ => kp c u hc) x
/-- an entry of the table, and the key that it bears; B tells which key stands at which address -/
def Row (knd : HeapKind P w κ) (B : κ → Addr → Prop) (e : Int × Value) (k : κ) : Prop := ∃ b, e = (knd.hash k, Value.ref b) ∧ B k b
structure TRow (knd : HeapKind P w κ) (B : κ → Addr → Prop) (h : Heap) (a : Addr) (ks : List κ) (es : Array (Int × Value)) (ep : Nat) (t : SetTable) : Prop where
  here : ∃ o, h.get? a = some o ∧ o.ExactSet ∧ o.data = .set es ep t
  each : PySem.W.EachIs (Row knd B) es.toList ks
  tab : TabB t (ks.map knd.hash)
  diff : ks.Nodup
  led : w.params.followText "set-order" = true ∨ t.led = true
  loose : ks.length * 5 < t.mask * 3
  few : ks.length ≤ 4000
def Sees (knd : HeapKind P w κ) (B : κ → Addr → Prop) (h : Heap) : Prop := ∀ k b, B k b → knd.is h k b
variable {B : κ → Addr → Prop} {A : Around} {E : Value → Shared → Prop} {s : Shared} {a : Addr} {ks : List κ} {es : Array (Int × Value)} {ep : Nat} {t : SetTable}
theorem TRow.many (R : TRow knd B s.heap a ks es ep t) : es.size = ks.length := by
  have z := R.each.length
  rwa [Array.length_toList] at z
theorem fits_tab {hs : List Int} (T : TabB t hs) {n : Nat} (e : hs.length = n) (le : n ≤ t.mask) : t.fits n = true := by
  have z := T.sz
  unfold SetTable.fits SetTable.fill
  simp only [T.dm, Bool.and_eq_true, beq_iff_eq, decide_eq_true_eq, List.size_toArray, List.length_nil]
  omega
theorem TRow.fit (R : TRow knd B s.heap a ks es ep t) : t.fits es.size = true := by
  have z := R.loose
  exact fits_tab R.tab (by rw [List.length_map, R.many]) (by rw [R.many]; omega)
theorem TRow.at (R : TRow knd B s.heap a ks es ep t) {i : Nat} {k : κ} (h : ks[i]? = some k) : ∃ b, es[i]? = some (knd.hash k, Value.ref b) ∧ B k b := by
  obtain ⟨e, he, b, eb, z⟩ := each_at R.each h
  refine ⟨b, ?_, z⟩
  rw [← Array.getElem?_toList, he, eb]
theorem TRow.odd (R : TRow knd B s.heap a ks es ep t) : t.gaveWay = false := by
  unfold SetTable.gaveWay
  rw [oddB R.tab.mok]
  rfl
/-- a search shows nothing of such members -/
theorem seen_none (M : Mem knd) {k : κ} {x : Addr} {Q : Bool → Shared → Prop} (hx : knd.is s.heap k x) {ys : List Value} (hy : ∀ y ∈ ys, ∃ k' c, y = Value.ref c ∧ knd.is s.heap k' c) (q : Q false s) : wpAny (model P w) A (searchCouldBeSeen (.ref x) ys) Q E s := by
  unfold searchCouldBeSeen
  refine wpAny_bind (wpAny_forIn_list _ (fun l z u => z.1 = none ∧ u = s ∧ ∀ y ∈ l, y ∈ ys) _ ?step ?stop _ _ ⟨rfl, rfl, fun _ m => m⟩)
  case step =>
    rintro v l z u ⟨hz, rfl, sub⟩
    obtain ⟨k', c, rfl, hc⟩ := hy v (sub v List.mem_cons_self)
    have on : ∀ y ∈ l, y ∈ ys := fun y m => sub y (List.mem_cons_of_mem _ m)
    dsimp only
    by_cases same : (x == c || (carriedByValue (.ref x) && carriedByValue (.ref c))) = true
    · exact wp_if_pos same (wpAny_pure ⟨rfl, rfl, on⟩)
    · refine wp_if_neg same (wpAny_bind (knd.quiet hx ?_))
      simp only [Bool.not_true, Bool.false_eq_true, if_false]
      refine wpAny_bind (knd.quiet hc ?_)
      simp only [Bool.not_true, Bool.false_eq_true, if_false]
      refine wpAny_bind (M.cls hx ?_)
      simp only [Bool.false_eq_true, if_false]
      refine wpAny_bind (M.cls hc ?_)
      simp only [Bool.false_eq_true, if_false]
      exact wpAny_pure ⟨rfl, rfl, on⟩
  case stop =>
    rintro ⟨z1, z2⟩ u ⟨hz, rfl, _⟩
    cases hz
    exact wpAny_pure q
/-- the search from the c-th step on -/
theorem search_on (M : Mem knd) (C : Sees knd B s.heap) (R : TRow knd B s.heap a ks es ep t) {x : Addr} {k : κ} (hx : knd.is s.heap k x) (room : knd.room A) {K : Nat} (lim : K < 10 * SetTable.turns t.mask) (free : way t.mask (knd.hash k) K ∉ t.place.toList)
    (busy : ∀ d, d < K → way t.mask (knd.hash k) d ∈ t.place.toList) {Q : SetFound → Shared → Prop} (old : k ∈ ks → Q (.there none) s) (new : k ∉ ks → Q (.free (way t.mask (knd.hash k) K) false) s) :
    ∀ (f c : Nat) (stand : Option SetTable.Probe), stand.getD (t.probeStart (knd.hash k)) = stp t.mask (knd.hash k) c → c ≤ K → K - c < f → (∀ i : Nat, ks[i]? = some k → ∃ d, c ≤ d ∧ d < K ∧ t.place.toList[i]? = some (way t.mask (knd.hash k) d)) →
      wpAny (model P w) A (setSearchFrom a (.ref x) (knd.hash k) true f stand) Q E s := by
  obtain ⟨o, ho, hex, hd⟩ := R.here
  intro f
  induction f with
  | zero => exact fun c _ _ _ lt => absurd lt (Nat.not_lt_zero _)
  | succ f ih =>
    intro c stand es0 le lt ahead
    rw [setSearchFrom_succ]
    refine wpAny_bind (wpAny_setState_of (a := a) ho hd (TRow.fit R) ?_)
    dsimp only
    rw [R.odd]
    simp only [Bool.false_eq_true, if_false]
    try refine wpAny_bind (wpAny_pure ?_)
    rw [es0]
    have bears : ∀ (i : Nat) (k' : κ), ks[i]? = some k' → (es[i]?.map (·.1)).getD 0 = knd.hash k' := fun i k' h => by
      obtain ⟨b, e, _⟩ := R.at h
      rw [e]
      rfl
    rcases probe_met R.tab (g := fun i => (es[i]?.map (·.1)).getD 0) lim free busy le with ⟨d, i, h1, h2, h3, early, e⟩ | ⟨early, e⟩
    · rw [e]
      dsimp only
      have lti : i < ks.length := by
        have z := (List.getElem?_eq_some_iff.mp h3).1
        have z2 := R.tab.sz
        rw [List.length_map] at z2
        rw [Array.length_toList] at z
        omega
      have hk : ks[i]? = some ks[i] := List.getElem?_eq_getElem lti
      generalize ks[i] = k' at hk
      obtain ⟨b, eb, hb⟩ := R.at hk
      have live : t.slot (way t.mask (knd.hash k) d) = .live i := slot_live R.tab.ris h3
      have tail : wpAny (model P w) A (searchRest a (.ref x) (knd.hash k) true f es t (way t.mask (knd.hash k) d) i (stp t.mask (knd.hash k) (d + 1))) Q E s := by
        unfold searchRest
        rw [eb]
        dsimp only
        refine wpAny_bind (wpAny_holding (knd.eqBool room (C _ _ hb) hx ?_))
        refine wpAny_bind (wpAny_setState_of (a := a) ho hd (TRow.fit R) ?_)
        dsimp only
        by_cases eq : k' = k
        · refine wp_if_pos (by rw [decide_eq_true eq]; rfl) (wpAny_pure (old ?_))
          rw [← eq]
          exact List.mem_of_getElem? hk
        · refine wp_if_neg (by rw [decide_eq_false eq]; exact Bool.false_ne_true) ?_
          try refine wpAny_bind (wpAny_pure ?_)
          rw [sameMem]
          dsimp only
          simp only [↓reduceIte, live, eb]
          refine wpAny_bind (wpAny_isSame_ref_self (wpAny_bind (wpAny_pure ?_)))
          simp only [↓reduceIte]
          refine wp_if_neg (by rw [decide_eq_false eq]; exact Bool.false_ne_true) ?_
          refine ih (d + 1) _ rfl h2 (by omega) fun i0 h0 => ?_
          obtain ⟨d0, g1, g2, g3⟩ := ahead i0 h0
          refine ⟨d0, ?_, g2, g3⟩
          rcases Nat.lt_trichotomy d0 d with z | z | z
          · exact absurd (bears i0 k h0) (early d0 i0 g1 z g3)
          · rw [z] at g3
            have s0 := slot_live R.tab.ris g3
            rw [live] at s0
            injection s0 with s0
            rw [s0, h0] at hk
            exact absurd (Option.some.inj hk).symm eq
          · exact z
      by_cases hl : t.led = true
      · rw [hl]
        simp only [Bool.not_true, Bool.false_eq_true, if_false]
        try refine wpAny_bind (wpAny_pure ?_)
        exact tail
      · rw [Bool.not_eq_true] at hl
        rw [hl]
        simp only [Bool.not_false, if_true]
        refine wpAny_bind (seen_none M hx (fun y hy => ?_) ?_)
        · obtain ⟨e1, m, ey⟩ := List.mem_map.mp hy
          have m2 : e1 ∈ es.toList := by
            have z : e1 ∈ es ∧ e1.1 = knd.hash k := by simpa using m
            exact Array.mem_toList_iff.mpr z.1
          obtain ⟨k2, _, b2, z2, z3⟩ := PySem.W.EachIs.left R.each e1 m2
          refine ⟨k2, b2, ?_, C _ _ z3⟩
          rw [← ey, z2]
        · simp only [Bool.false_eq_true, if_false]
          try refine wpAny_bind (wpAny_pure ?_)
          exact tail
    · rw [e]
      dsimp only
      refine wpAny_pure (new fun m => ?_)
      obtain ⟨i0, lt0, e0⟩ := List.getElem_of_mem m
      have h0 : ks[i0]? = some k := by rw [List.getElem?_eq_getElem lt0, e0]
      obtain ⟨d0, g1, g2, g3⟩ := ahead i0 h0
      exact early d0 i0 g1 g2 g3 (bears i0 k h0)
theorem search_all (M : Mem knd) (C : Sees knd B s.heap) (R : TRow knd B s.heap a ks es ep t) {x : Addr} {k : κ} (hx : knd.is s.heap k x) (room : knd.room A) {Q : SetFound → Shared → Prop} (old : k ∈ ks → Q (.there none) s)
    (new : ∀ K, k ∉ ks → way t.mask (knd.hash k) K ∉ t.place.toList → (∀ d, d < K → way t.mask (knd.hash k) d ∈ t.place.toList) → Q (.free (way t.mask (knd.hash k) K) false) s) : wpAny (model P w) A (setSearch a (.ref x) (knd.hash k) true) Q E s := by
  have lo := R.loose
  obtain ⟨K, lim, free, busy⟩ := R.tab.first (by rw [List.length_map]; omega) (knd.hash k)
  have big : 10 * SetTable.turns t.mask ≤ 90000 := by
    have z := topB R.tab.mok
    unfold SetTable.turns
    omega
  unfold setSearch
  refine search_on M C R hx room lim free busy old (fun n => new K n free busy) 100000 0 none rfl (Nat.zero_le _) (by omega) fun i hi => ?_
  have h1 : (ks.map knd.hash)[i]? = some (knd.hash k) := by rw [List.getElem?_map, hi]; rfl
  have h2 : i < t.place.toList.length := by
    have z := (List.getElem?_eq_some_iff.mp h1).1
    rw [Array.length_toList, R.tab.sz]
    exact z
  have h3 := List.getElem?_eq_getElem h2
  obtain ⟨d, lt, e⟩ := R.tab.before free h1 h3
  exact ⟨d, Nat.zero_le _, lt, by rw [h3, e]⟩
end
end Lk

/-! TupG1 -/
set_option Elab.async false
set_option maxRecDepth 100000
set_option linter.all false
set_option maxHeartbeats 4000000
namespace Lk
open PySem PySem.Spec PyProof.Rows L2
section
variable {P : Program} {w : World} {κ : Type} [DecidableEq κ] {knd : HeapKind P w κ} {A : Around} {E : Value → Shared → Prop} {s : Shared} {a : Addr} {B : κ → Addr → Prop}
/-- a set with these keys, in whatever order -/
def TSet (knd : HeapKind P w κ) (B : κ → Addr → Prop) (h : Heap) (a : Addr) (ks : List κ) : Prop := ∃ ls es ep t, TRow knd B h a ls es ep t ∧ ls.Perm ks
theorem size_308 : SetTable.sizeAbove (SetTable.grown 77) = 512 := by decide +kernel
theorem size_1228 : SetTable.sizeAbove (SetTable.grown 307) = 2048 := by decide +kernel
theorem size_4914 : SetTable.sizeAbove (SetTable.grown 1229) = 8192 := by decide +kernel
/-- a table laid out anew, with more room -/
theorem tset_relay {o : Obj} {es : Array (Int × Value)} {ep : Nat} {t : SetTable} {ls ks : List κ} (ho : s.heap.get? a = some o) (hex : o.ExactSet) (hd : o.data = .set es ep t) (each : PySem.W.EachIs (Row knd B) es.toList ls) (T : TabB t (ls.map knd.hash)) (inside : ls.length ≤ t.mask)
    (pm : ls.Perm ks) (nd : ks.Nodup) (led : w.params.followText "set-order" = true ∨ t.led = true) (few : ks.length ≤ 4000) {wanted N : Nat} (hw : SetTable.sizeAbove wanted = N + 1) (hN : MaskB N) (loose : ks.length * 5 < N * 3) {Q : Unit → Shared → Prop}
    (q : ∀ h', Heap.SameBut a s.heap h' → TSet knd B h' a ks → Q () { s with heap := h' }) : wpAny (model P w) A (setRelay a wanted) Q E s := by
  have n0 : es.size = ls.length := by
    have z := each.length
    rwa [Array.length_toList] at z
  have n1 : ls.length = ks.length := pm.length_eq
  have nN := topB hN
  obtain ⟨t', order, e, hp, T', em, el⟩ := relaidB t (hs := es.map (·.1)) (wanted := wanted) (M := N) hw hN (by rw [Array.size_map]; omega)
  rw [Array.size_map, n0] at hp
  have sub : ∀ i ∈ order.toList, i < ls.length := fun i hi => List.mem_range.mp (hp.mem_iff.mp hi)
  have each' := each_pick each order.toList sub
  have perm' : (order.toList.filterMap fun i => ls[i]?).Perm ls := pick_perm hp
  have hashes : ∀ l : List Nat, (∀ i ∈ l, i < ls.length) → (l.filterMap fun i => ls[i]?).map knd.hash = l.map fun i => (es.map (·.1)).getD i 0 := by
    intro l
    induction l with
    | nil => exact fun _ => rfl
    | cons i l ih =>
      intro hl
      have lt := hl i List.mem_cons_self
      have ei := List.getElem?_eq_getElem lt
      obtain ⟨e1, he, b, eb, _⟩ := each_at each ei
      rw [Array.getElem?_toList] at he
      have eh : (es.map (·.1)).getD i 0 = knd.hash (ls[i]'lt) := by
        rw [Array.getD_eq_getD_getElem?, Array.getElem?_map, he, eb]
        rfl
      rw [List.filterMap_cons_some ei, List.map_cons, List.map_cons, ih fun j hj => hl j (List.mem_cons_of_mem _ hj), eh]
  rw [← hashes _ sub] at T'
  have toL : (order.filterMap (es[·]?)).toList = order.toList.filterMap fun i => es.toList[i]? := by
    simp
  have n2 : (order.filterMap (es[·]?)).size = es.size := by
    rw [← Array.length_toList, toL, each'.length, perm'.length_eq, n0]
  have sb : Heap.SameBut a s.heap (s.heap.update a (Obj.putSet (order.filterMap (es[·]?)) t')) := Heap.SameBut.update ..
  rw [setRelay_eq]
  refine wpAny_bind (wpAny_setState_of (a := a) ho hd (fits_tab T (by rw [List.length_map, n0]) (by omega)) ?_)
  dsimp only
  refine wp_if_neg (by rw [hw, sizeLine_eq]; omega) ?_
  try refine wpAny_bind (wpAny_pure ?_)
  rw [e]
  dsimp only
  refine wpAny_bind (wp_if_neg (by rw [n2]; simp) ?_)
  try refine wpAny_bind (wpAny_pure ?_)
  refine wpAny_pure ?_
  dsimp only
  refine wpAny_storeSet_of (a := a) ho hd (q _ sb ⟨_, order.filterMap (es[·]?), ep + 1, t', ⟨⟨_, store_at ho hd, ⟨hex.1, hex.2.1, hex.2.2⟩, rfl⟩, ?_, T', ?_, ?_, ?_, ?_⟩, perm'.trans pm⟩) (by rw [n2, n0, sizeLine_eq]; omega)
  · rw [toL]
    exact each'
  · exact (perm'.trans pm).nodup_iff.mpr nd
  · exact led.imp id fun z => by rw [el]; exact z
  · rw [(perm'.trans pm).length_eq, em]
    exact loose
  · rw [(perm'.trans pm).length_eq]
    exact few
/-- one more -/
theorem tset_add (M : Mem knd) {ks : List κ} (C : Sees knd B s.heap) (R0 : TSet knd B s.heap a ks) {x : Addr} {k : κ} (hx : B k x) (room : knd.room A) (few : ks.length + 1 ≤ 4000) {Q : Bool → Shared → Prop} (old : k ∈ ks → Q false s)
    (new : k ∉ ks → ∀ h', Heap.SameBut a s.heap h' → TSet knd B h' a (k :: ks) → Q true { s with heap := h' }) : wpAny (model P w) A (setAddHashed a (.ref x) (knd.hash k)) Q E s := by
  obtain ⟨ls, es, ep, t, R, pm⟩ := R0
  obtain ⟨o, ho, hex, hd⟩ := R.here
  have n0 := R.many
  have n1 : ls.length = ks.length := pm.length_eq
  have lo := R.loose
  unfold setAddHashed
  refine wpAny_holding ?_
  rw [show (100000 : Nat) = 99999 + 1 from rfl, setAddHashedIn_succ]
  refine wpAny_bind (wpAny_setState_of (a := a) ho hd (TRow.fit R) ?_)
  dsimp only
  refine wp_if_neg (by simp [byScan, Value.scannable]) ?_
  try refine wpAny_bind (wpAny_pure ?_)
  refine wpAny_bind (search_all M C R (C _ _ hx) room (fun m => ?_) fun K m free busy => ?_)
  · dsimp only
    exact wpAny_pure (old (pm.mem_iff.mp m))
  · have nm : k ∉ ks := fun z => m (pm.mem_iff.mpr z)
    dsimp only
    refine wpAny_bind (wpAny_setState_of (a := a) ho hd (TRow.fit R) ?_)
    dsimp only
    obtain ⟨q1, q2, q3, q4, q5, q9⟩ := R.tab.put free busy rfl
    generalize t.put (way t.mask (knd.hash k) K) = Z at q1 q3 q4 q5 q9 ⊢
    obtain ⟨t1, p⟩ := Z
    dsimp only at q1 q3 q4 q5 q9 ⊢
    rw [← q1] at q3
    have hs1 : (ls.map knd.hash).take p ++ knd.hash k :: (ls.map knd.hash).drop p = (ls.take p ++ k :: ls.drop p).map knd.hash := by
      rw [List.map_append, List.map_cons, List.map_take, List.map_drop]
    rw [hs1] at q3
    have toL : (SetTable.insertAt es p (knd.hash k, Value.ref x)).toList = es.toList.take p ++ (knd.hash k, Value.ref x) :: es.toList.drop p := SetTable.toList_insertAt ..
    have each1 : PySem.W.EachIs (Row knd B) (SetTable.insertAt es p (knd.hash k, Value.ref x)).toList (ls.take p ++ k :: ls.drop p) := by
      rw [toL]
      exact each_ins p R.each ⟨x, rfl, hx⟩
    have pm1 : (ls.take p ++ k :: ls.drop p).Perm (k :: ks) := (ins_perm ls p k).trans (pm.cons k)
    have nd1 : (k :: ks).Nodup := List.nodup_cons.mpr ⟨nm, pm.nodup_iff.mp R.diff⟩
    have n3 : (ls.take p ++ k :: ls.drop p).length = ks.length + 1 := pm1.length_eq
    rw [List.length_map, n1] at q9
    generalize SetTable.insertAt es p (knd.hash k, Value.ref x) = es1 at toL each1 ⊢
    generalize ls.take p ++ k :: ls.drop p = l1 at each1 pm1 q3 n3
    have n4 : es1.size = ks.length + 1 := by
      rw [← Array.length_toList, each1.length, n3]
    have led1 : w.params.followText "set-order" = true ∨ t1.led = true := R.led.imp id fun z => by rw [q5]; exact z
    -- whatever the table says of its members' hashes from here on, the rest is the same
    have rest : ∀ t2 : SetTable, TabB t2 (l1.map knd.hash) → t2.mask = t.mask → (w.params.followText "set-order" = true ∨ t2.led = true) → t2.fill = ks.length + 1 →
        wpAny (model P w) A (do
          storeSet a es1 t2
          if (!false && t2.tooFull) = true then setRelay a (SetTable.grown (es.size + 1))
          pure true) Q E s := by
      intro t2 T2 em led2 fl
      have sb : Heap.SameBut a s.heap (s.heap.update a (Obj.putSet es1 t2)) := Heap.SameBut.update ..
      have at2 := store_at (es' := es1) (t' := t2) ho hd
      refine wpAny_bind (wpAny_storeSet_of (a := a) ho hd ?_ (by rw [n4, sizeLine_eq]; omega))
      generalize s.heap.update a (Obj.putSet es1 t2) = h1 at sb at2 ⊢
      by_cases full : t2.tooFull = true
      · have tight : (ks.length + 1) * 5 ≥ t.mask * 3 := by
          have z := full
          unfold SetTable.tooFull at z
          rw [decide_eq_true_eq, fl, em] at z
          exact z
        have two : (t.mask = 7 ∧ ks.length = 4) ∨ (t.mask = 31 ∧ ks.length = 18) ∨ (t.mask = 127 ∧ ks.length = 76) ∨ (t.mask = 511 ∧ ks.length = 306) ∨ (t.mask = 2047 ∧ ks.length = 1228) := by
          rcases R.tab.mok with e | e | e | e | e | e
          · exact .inl ⟨e, by omega⟩
          · exact .inr (.inl ⟨e, by omega⟩)
          · exact .inr (.inr (.inl ⟨e, by omega⟩))
          · exact .inr (.inr (.inr (.inl ⟨e, by omega⟩)))
          · exact .inr (.inr (.inr (.inr ⟨e, by omega⟩)))
          · omega
        simp only [full, Bool.not_false, Bool.and_true, if_true]
        rw [n0, n1]
        have go : ∀ N, SetTable.sizeAbove (SetTable.grown (ks.length + 1)) = N + 1 → MaskB N → (ks.length + 1) * 5 < N * 3 → wpAny (model P w) A (setRelay a (SetTable.grown (ks.length + 1)) >>= fun _ => pure true) Q E { s with heap := h1 } := fun N c1 c2 c3 =>
          wpAny_bind (tset_relay (s := { s with heap := h1 }) at2 ⟨hex.1, hex.2.1, hex.2.2⟩ rfl each1 T2 (by rw [em]; rcases two with ⟨e, f⟩ | ⟨e, f⟩ | ⟨e, f⟩ | ⟨e, f⟩ | ⟨e, f⟩ <;> omega) pm1 nd1 led2 few c1 c2 c3 fun h2 sb2 r => wpAny_pure (new nm h2 (sb.trans sb2) r))
        rcases two with ⟨_, e⟩ | ⟨_, e⟩ | ⟨_, e⟩ | ⟨_, e⟩ | ⟨_, e⟩
        · exact go 31 (by rw [e]; exact size_20) (.inr (.inl rfl)) (by omega)
        · exact go 127 (by rw [e]; exact size_76) (.inr (.inr (.inl rfl))) (by omega)
        · exact go 511 (by rw [e]; exact size_308) (.inr (.inr (.inr (.inl rfl)))) (by omega)
        · exact go 2047 (by rw [e]; exact size_1228) (.inr (.inr (.inr (.inr (.inl rfl))))) (by omega)
        · exact go 8191 (by rw [e]; exact size_4914) (.inr (.inr (.inr (.inr (.inr rfl))))) (by omega)
      · rw [Bool.not_eq_true] at full
        simp only [full, Bool.not_false, Bool.and_false, Bool.false_eq_true, if_false]
        refine wpAny_bind (wpAny_pure (wpAny_pure (new nm h1 sb ⟨l1, es1, ep + 1, t2, ⟨⟨_, at2, ⟨hex.1, hex.2.1, hex.2.2⟩, rfl⟩, each1, T2, pm1.nodup_iff.mpr nd1, led2, ?_, by omega⟩, pm1⟩)))
        unfold SetTable.tooFull at full
        rw [decide_eq_false_iff_not, fl, em] at full
        rw [n3, em]
        omega
    have plainOff : TabB { t1 with plain := false } (l1.map knd.hash) := ⟨q3.ris, q3.dm, q3.sz, q3.mok, q3.bd, q3.reach⟩
    by_cases pl : t1.plain = true
    · rw [pl]
      simp only [if_true]
      refine wpAny_bind (M.byV (C _ _ hx) fun v => ?_)
      cases v
      · exact rest { t1 with plain := false } plainOff q4 led1 q9
      · exact rest t1 q3 q4 led1 q9
    · rw [Bool.not_eq_true] at pl
      rw [pl]
      simp only [Bool.false_eq_true, if_false]
      refine wpAny_bind (wpAny_pure ?_)
      exact rest t1 q3 q4 led1 q9
end
end Lk

/-! TupG2 -/
set_option Elab.async false
set_option maxRecDepth 100000
set_option linter.all false
set_option maxHeartbeats 4000000
namespace Lk
open PySem PySem.Spec PyProof.Rows L2
section
variable {P : Program} {w : World} {κ : Type} [DecidableEq κ] {knd : HeapKind P w κ} {B : κ → Addr → Prop} {A : Around} {E : Value → Shared → Prop} {s : Shared}
theorem TSet.at {h h' : Heap} {a : Addr} {ks : List κ} (R : TSet knd B h a ks) (ha : ∀ o, h.get? a = some o → h'.get? a = some o) : TSet knd B h' a ks := by
  obtain ⟨ls, es, ep, t, r, pm⟩ := R
  obtain ⟨o, ho, hx⟩ := r.here
  exact ⟨ls, es, ep, t, ⟨⟨o, ha o ho, hx⟩, r.each, r.tab, r.diff, r.led, r.loose, r.few⟩, pm⟩
theorem TSet.nodup {h : Heap} {a : Addr} {ks : List κ} (R : TSet knd B h a ks) : ks.Nodup := by
  obtain ⟨_, _, _, _, r, pm⟩ := R
  exact pm.nodup_iff.mp r.diff
theorem tset_new {h : Heap} {a : Addr} (ho : h.get? a = some { cls := .type "set", dict := none, data := .set #[] 0 (.fresh 0 0 (!w.params.followText "set-order")) }) : TSet knd B h a [] :=
  ⟨[], #[], 0, _, ⟨⟨_, ho, ⟨rfl, rfl, rfl⟩, rfl⟩, .nil, ⟨List.Pairwise.nil, rfl, rfl, .inl rfl, fun x m => (by cases m), fun i z j hi => (by cases hi)⟩, List.nodup_nil, by
    show _ ∨ (!w.params.followText "set-order") = true
    cases w.params.followText "set-order"
    · exact .inr rfl
    · exact .inl rfl, (by decide : 0 * 5 < 7 * 3), (by decide : 0 ≤ 4000)⟩, .nil⟩
/-- s.update(..), turn by turn; h0: a heap in which the members stand, and which is not written -/
theorem tset_loop (M : Mem knd) {I S : Addr} {fp wr : List Addr} {G : Array GenState → Array GenState → Prop} {n : Nat} {Pv : Nat → Value → Prop} {St : Nat → Shared → Prop} {R : Result → Shared → Prop} (W : WalksS P w A.in1 I fp wr G n Pv St) (apart : S ∉ fp) {ks : List κ}
    (len : n = ks.length) (few : ks.length ≤ 4000) (room : knd.room A.in1) {h0 : Heap} (fresh : ∀ b ∈ S :: wr, h0.get? b = none) (C : Sees knd B h0) (item : ∀ i v, Pv i v → ∃ k b, ks[i]? = some k ∧ v = .ref b ∧ B k b)
    (done : ∀ s' us, Moved (S :: wr) G s s' → (∀ b o, h0.get? b = some o → s'.heap.get? b = some o) → TSet knd B s'.heap S us → (∀ k, k ∈ us ↔ k ∈ ks) → R (.ok (.ret .none)) s') :
    ∀ (m i : Nat) (s1 : Shared) (us : List κ), n - i = m → i ≤ n → St i s1 → Moved (S :: wr) G s s1 → (∀ b o, h0.get? b = some o → s1.heap.get? b = some o) → TSet knd B s1.heap S us → (∀ k, k ∈ us ↔ k ∈ ks.take i) → us.length ≤ i →
      codeAny (model P w) A (.builtin "set.update.loop" ⟨[.ref S, .ref I], []⟩) R s1 := by
  have aw : S ∉ wr := fun z => apart (W.sub _ z)
  have up : ∀ b ∈ wr, b ∈ S :: wr := fun b hb => List.mem_cons_of_mem _ hb
  have kept : ∀ {s1 s2 : Shared}, Moved wr G s1 s2 → (∀ b o, h0.get? b = some o → s1.heap.get? b = some o) → ∀ b o, h0.get? b = some o → s2.heap.get? b = some o := fun mv kp b o e =>
    mv.heap b o (fun hb => by
      rw [fresh b (up b hb)] at e
      cases e) (kp b o e)
  intro m
  induction m with
  | zero =>
    intro i s1 us em hi st mv kp R1 mem _
    have ei : i = n := by omega
    rw [ei] at st mem
    refine codeAny_builtin F.entry_set_update_loop ?_
    rw [Around.under_plainId F.plain_set_update_loop _]
    show wpAny _ A.in1 (pyNext (.ref I) >>= _) _ _ s1
    refine wpAny_bind (W.done s1 _ _ st fun s2 mv2 => ?_)
    show wpAny _ A.in1 (ret Value.none) _ _ s2
    rw [List.take_of_length_le (Nat.le_of_eq len.symm)] at mem
    exact wpAny_pure (done s2 us (Moved.trans W.gtrans mv (mv2.mono up)) (kept mv2 kp) (R1.at fun o e => mv2.heap S o aw e) mem)
  | succ m ih =>
    intro i s1 us em hi st mv kp R1 mem most
    have lt : i < n := by omega
    refine codeAny_builtin F.entry_set_update_loop ?_
    rw [Around.under_plainId F.plain_set_update_loop _]
    show wpAny _ A.in1 (pyNext (.ref I) >>= _) _ _ s1
    refine wpAny_bind (W.item i s1 _ _ lt st fun v s2 pv st2 mv2 => ?_)
    obtain ⟨k, b, hk, ev, hb⟩ := item i v pv
    subst ev
    have kp2 := kept mv2 kp
    have C2 : Sees knd B s2.heap := fun k b z => M.keep (C k b z) kp2
    have R2 := R1.at (h' := s2.heap) fun o e => mv2.heap S o aw e
    have next : ∀ j, j ∈ ks.take (i + 1) ↔ j ∈ ks.take i ∨ j = k := fun j => by
      rw [List.take_add_one, hk]
      simp [List.mem_append]
    show wpAny _ A.in1 (holding [Value.ref b] (setAdd S (.ref b)) >>= _) _ _ s2
    refine wpAny_bind (wpAny_holding ?_)
    unfold setAdd
    refine wpAny_holding (wpAny_bind (knd.pyHash room (C2 _ _ hb) ?_))
    have mv12 := Moved.trans W.gtrans mv (mv2.mono up)
    refine tset_add (s := { s2 with toks := s2.toks + knd.draws k }) M C2 R2 hb room (by omega) (fun old => ?_) fun nk h3 sb R3 => ?_
    · refine wpAny_pure ⟨plainId_quiet F.plain_set_update_loop _, ih (i + 1) _ us (by omega) lt (W.frame _ s2 _ _ st2 (Nat.le_add_right _ _) fun b hb o e => e) (mv12.then_heap (Nat.le_add_right _ _) fun b o hb e => e) kp2 R2 (fun j => ?_) (by omega)⟩
      rw [next j, mem j]
      exact ⟨.inl, fun z => z.elim id fun e => e ▸ (mem k).1 old⟩
    · refine wpAny_pure ⟨plainId_quiet F.plain_set_update_loop _, ih (i + 1) _ (k :: us) (by omega) lt (W.frame _ s2 _ _ st2 (Nat.le_add_right _ _) fun b hb o e => ?_) (mv12.then_heap (Nat.le_add_right _ _) fun b o hb e => ?_) (fun b o e => ?_) R3 (fun j => ?_) (by rw [List.length_cons]; omega)⟩
      · rw [sb.2 b (fun z : b = S => apart (by rw [← z]; exact hb))]
        exact e
      · rw [sb.2 b (fun z : b = S => hb (by rw [z]; exact List.mem_cons_self))]
        exact e
      · refine (sb.2 b fun z => ?_).trans (kp2 b o e)
        rw [z, fresh S List.mem_cons_self] at e
        cases e
      · rw [next j, List.mem_cons, mem j]
        exact Or.comm
end
end Lk

/-! TupS0 -/
set_option Elab.async false
set_option maxRecDepth 100000
set_option linter.all false
set_option maxHeartbeats 4000000
namespace Lk
open PySem PySem.Spec PyProof.Rows L2
/-! ### sorted(s), s a set of tuples -/
theorem each_perm {α β : Type} {R : α → β → Prop} {as' as : List α} (p : as'.Perm as) : ∀ {bs : List β}, PySem.W.EachIs R as bs → ∃ bs', PySem.W.EachIs R as' bs' ∧ bs'.Perm bs := by
  induction p with
  | nil => exact fun h => ⟨_, h, .refl _⟩
  | cons a _ ih =>
    intro bs h
    cases h with
    | cons r t =>
      obtain ⟨cs, h1, h2⟩ := ih t
      exact ⟨_, .cons r h1, h2.cons _⟩
  | swap a b l =>
    intro bs h
    cases h with
    | cons r t =>
      cases t with
      | cons r2 t => exact ⟨_, .cons r2 (.cons r t), List.Perm.swap ..⟩
  | trans _ _ ih1 ih2 =>
    intro bs h
    obtain ⟨cs, h1, h2⟩ := ih2 h
    obtain ⟨ds, h3, h4⟩ := ih1 h1
    exact ⟨ds, h3, h4.trans h2⟩
theorem each_map_left {α β γ : Type} {R : α → β → Prop} {S : γ → β → Prop} {f : α → γ} (g : ∀ a b, R a b → S (f a) b) : ∀ {as : List α} {bs : List β}, PySem.W.EachIs R as bs → PySem.W.EachIs S (as.map f) bs
  | _, _, .nil => .nil
  | _, _, .cons r t => .cons (g _ _ r) (each_map_left g t)
theorem each_with {α β : Type} {R : α → β → Prop} {p : β → Prop} : ∀ {as : List α} {bs : List β}, PySem.W.EachIs R as bs → (∀ b ∈ bs, p b) → PySem.W.EachIs (fun a b => R a b ∧ p b) as bs
  | _, _, .nil, _ => .nil
  | _, _, .cons r t, h => .cons ⟨r, h _ List.mem_cons_self⟩ (each_with t fun b m => h b (List.mem_cons_of_mem _ m))
section
variable {P : Program} {w : World} {κ : Type} [DecidableEq κ] {knd : HeapKind P w κ} {B : κ → Addr → Prop} {A : Around} {E : Value → Shared → Prop} {s : Shared} {a : Addr} {ks : List κ}
def At (B : κ → Addr → Prop) (v : Value) (k : κ) : Prop := ∃ b, v = .ref b ∧ B k b
theorem tset_sorted {Q : Value → Shared → Prop} (R0 : TSet knd B s.heap a ks) (hh : A.handled = none) (enc : κ → PyData) (rd : ∀ k b, k ∈ ks → B k b → Reads s.heap (.ref b) (enc k) []) (al : PySem.W.AllAlike (ks.map enc)) (so : PySem.W.Sortable (ks.map enc)) (hu : ∀ k ∈ ks, A.units + 2 + (enc k).depth < cLine)
    (hQ : ∀ s' p (out : List Value) (c : Nat) (cs : List κ), (∀ b o, s.heap.get? b = some o → s'.heap.get? b = some o) → s'.gens = s.gens → s'.os = s.os → s.heap.objs.size ≤ p →
      s'.heap.get? p = some (seqObj "list" out.toArray c) → PySem.W.EachIs (At B) out cs → cs.Perm ks → cs.Pairwise (fun x y => PySem.W.dataLe false enc x y = true) → Q (.ref p) s') :
    wpAny (model P w) A (call (.builtin "sorted") [.ref a]) Q E s := by
  obtain ⟨ls, es, ep, t, R, pm0⟩ := R0
  obtain ⟨o, ho, hex, hd⟩ := R.here
  have n0 : ks.length ≤ 4000 := by
    rw [← pm0.length_eq]
    exact R.few
  have n1 : es.size = ks.length := by
    rw [R.many]
    exact pm0.length_eq
  refine Calls.call_function_entry kind_sorted plain_sorted entry_sorted (args_sorted1 _) ?_
  unfold Builtin.«sorted»
  refine wpAny_bind (m := checkCount "sorted" 1 1 _) (wpAny_pure ?_)
  refine wpAny_bind (collect_set (A := A.in1) hh ⟨o, ho, hex.1, hd⟩ (TRow.fit R) (by unfold scanBound; omega) R.tab.ris R.led fun s1 vs kp hz g1 o1 pm => ?_)
  obtain ⟨cs, each, pc⟩ := each_perm pm (each_map_left (S := At B) (f := Prod.snd) (fun e k ⟨b, e1, h⟩ => ⟨b, by rw [e1], h⟩) R.each)
  have pk : cs.Perm ks := pc.trans pm0
  have n2 : cs.length = ks.length := pk.length_eq
  have n3 : vs.length = ks.length := each.length.trans n2
  refine wpAny_bind (wpAny_newList ?_ (by rw [n3, sizeLine_eq]; omega))
  have hoL : (s1.heap.push (seqObj "list" vs.toArray 0)).get? s1.heap.objs.size = some (seqObj "list" vs.toArray 0) := Heap.get?_push_size _ rfl
  have kp1 : ∀ b u, s.heap.get? b = some u → (s1.heap.push (seqObj "list" vs.toArray 0)).get? b = some u := fun b u e => Heap.get?_push_of_some _ (kp b u e)
  have er : PySem.W.EachIs (fun v k => ∃ as, Reads (s1.heap.push (seqObj "list" vs.toArray 0)) v (enc k) as ∧ s1.heap.objs.size ∉ as) vs cs := by
    refine (each_with each fun k m => pk.mem_iff.mp m).mono fun v k ⟨⟨b, ev, hb⟩, m⟩ => ⟨[], ?_, fun z => nomatch z⟩
    rw [ev]
    exact PyProof.Rows.Reads.keeps kp1 (rd k b m hb)
  have al' : PySem.W.AllAlike (cs.map enc) := fun d m d' m' => al d ((pk.map enc).mem_iff.mp m) d' ((pk.map enc).mem_iff.mp m')
  have so' : PySem.W.Sortable (cs.map enc) := so.imp (fun z d m => z d ((pk.map enc).mem_iff.mp m)) fun z d m => z d ((pk.map enc).mem_iff.mp m)
  refine wpAny_bind (wpAny_holding (PySem.W.list_sort_data (enc := enc) (s := { s1 with heap := s1.heap.push (seqObj "list" vs.toArray 0) }) hoL each er al' so' (by rw [n2, sizeLine_eq]; omega) (fun k m => ?_) fun out len eo => ?_))
  · have z := hu k (pk.mem_iff.mp m)
    show A.in1.units + 1 + (enc k).depth < cLine
    simp
    omega
  · obtain ⟨c, hc⟩ := sortedHeap_at (vs := vs) (out := out.toArray) hoL
    refine wpAny_pure ⟨_, rfl, hQ _ s1.heap.objs.size out c _ (fun b u e => ?_) g1 o1 hz hc eo ((List.mergeSort_perm _ _).trans pk) (PySem.W.sort_pairwise (PySem.W.sortLe_total _ _ _) _)⟩
    have q := kp b u e
    have lt := Heap.lt_size q
    show (sortedHeap (s1.heap.push (seqObj "list" vs.toArray 0)) s1.heap.objs.size vs out.toArray).get? b = some u
    rw [sortedHeap_old (Nat.ne_of_lt lt) (by rw [size_push']; exact Nat.lt_succ_of_lt lt)]
    exact Heap.get?_push_of_some _ q
end
/-! ### tuples of ints and texts as members -/
section
variable {P : Program} {w : World}
theorem mix_items {k : List Key} {vs : List Value} (h : ItemsAre (mixKind P w) k vs) : ∀ v ∈ vs, (∃ i t, v = Value.int i t) ∨ ∃ x t, v = Value.str x t := by
  induction h with
  | nil => exact fun v m => nomatch m
  | cons r _ ih =>
    intro v m
    rcases List.mem_cons.mp m with e | m
    · rcases keyIs_shape r with ⟨i, t, e2, _⟩ | ⟨x, t, e2, _⟩
      · exact .inl ⟨i, t, e.trans (by first | exact e2 | exact (by assumption))⟩
      · exact .inr ⟨x, t, e.trans (by first | exact e2 | exact (by assumption))⟩
    · exact ih v m
theorem mixMem : Mem (tupleKind (mixKind P w)) where
  st := tupleKind_stays
  cls := fun {A E s k b Q} x q => by
    have hT := IsTupleKey.typeIs x
    obtain ⟨o, its, n, ho, _, hd, hi⟩ := x
    have low : ∀ (d : Nat) (v : Value), v ∈ its.toList → ofAClassStatement d v = pure false := fun d v m => by
      rcases mix_items hi v m with ⟨i, t, rfl⟩ | ⟨z, t, rfl⟩ <;> cases d <;> rfl
    unfold ofAClassStatement
    refine wpAny_bind (wpAny_typeOf hT ?_)
    dsimp only
    simp only [show (("tuple" : String) == "tuple") = true by decide, if_true, Bool.not_true, Bool.false_eq_true, if_false]
    try refine wpAny_bind (wpAny_pure ?_)
    try simp only [Bool.not_true, Bool.false_eq_true, if_false]
    refine wpAny_bind (wpAny_seqItems (a := b) ho hd ?_)
    dsimp only
    rw [← Array.forIn_toList]
    refine wpAny_bind (wpAny_forIn_list _ (fun l z u => z.1 = none ∧ u = s ∧ ∀ v ∈ l, v ∈ its.toList) _ ?step ?stop _ _ ⟨rfl, rfl, fun _ m => m⟩)
    case step =>
      rintro v l z u ⟨hz, rfl, sub⟩
      rw [low _ v (sub v List.mem_cons_self)]
      refine wpAny_bind (wpAny_pure ?_)
      simp only [Bool.false_eq_true, if_false]
      exact wpAny_pure ⟨rfl, rfl, fun y m => sub y (List.mem_cons_of_mem _ m)⟩
    case stop =>
      rintro ⟨z1, z2⟩ u ⟨hz, rfl, _⟩
      cases hz
      exact wpAny_pure q
  byV := fun {A E s k b Q} x q => by
    have hT := IsTupleKey.typeIs x
    obtain ⟨o, its, n, ho, _, hd, hi⟩ := x
    have low : ∀ (d : Nat) (v : Value), v ∈ its.toList → hashByValue d v = pure true ∨ hashByValue d v = pure false := fun d v m => by
      rcases mix_items hi v m with ⟨i, t, rfl⟩ | ⟨z, t, rfl⟩ <;> cases d <;> first | exact .inl rfl | exact .inr rfl
    unfold hashByValue
    refine wpAny_bind (wpAny_specialOf hT F.slot_tuple_hash.lookup ?_)
    show wpAny _ _ (seqItems? (.ref b) >>= _) _ _ s
    refine wpAny_bind (wpAny_seqItems (a := b) ho hd ?_)
    show wpAny _ _ (forIn its _ _ >>= _) _ _ s
    rw [← Array.forIn_toList]
    refine wpAny_bind (wpAny_forIn_list _ (fun l z u => z.1 = none ∧ u = s ∧ ∀ v ∈ l, v ∈ its.toList) _ ?step ?stop _ _ ⟨rfl, rfl, fun _ m => m⟩)
    case step =>
      rintro v l z u ⟨hz, rfl, sub⟩
      rcases low 7 v (sub v List.mem_cons_self) with e | e
      · rw [e]
        refine wpAny_bind (wpAny_pure ?_)
        simp only [Bool.not_true, Bool.false_eq_true, if_false]
        exact wpAny_pure ⟨rfl, rfl, fun y m => sub y (List.mem_cons_of_mem _ m)⟩
      · rw [e]
        refine wpAny_bind (wpAny_pure ?_)
        simp only [Bool.not_false, if_true]
        exact wpAny_pure (wpAny_pure (q _))
    case stop =>
      rintro ⟨z1, z2⟩ u ⟨hz, rfl, _⟩
      cases hz
      exact wpAny_pure (q _)
end
end Lk

/-! SrtT0 -/
set_option Elab.async false
set_option maxRecDepth 100000
set_option linter.all false
set_option maxHeartbeats 4000000
namespace Lk
open PySem PySem.Spec PyProof.Rows L2
/-! ### sorted(t), t a tuple of ints -/
section
variable {prog : Program} {w : World} {A : Around} {E : Value → Shared → Prop} {s : Shared}
theorem collect_tup {l : Addr} {vs : List Value} {Q : List Value → Shared → Prop} (hl : s.heap.IsTuple l vs.toArray)
    (h : Q vs { s with heap := (s.heap.push (seqObj "list" #[] 0)).update s.heap.objs.size (Obj.mapSeq (· ++ vs.toArray)) }) (hsz : vs.length ≤ sizeLine) :
    wpAny (model prog w) A (collect (.ref l)) Q E s := by
  obtain ⟨o, ho, hc, n, hd⟩ := id hl
  have old : (s.heap.push (seqObj "list" #[] 0)).get? l = some o := Heap.get?_push_of_some _ ho
  have new : (s.heap.push (seqObj "list" #[] 0)).get? s.heap.objs.size = some (seqObj "list" #[] 0) := Heap.get?_push_size _ rfl
  unfold collect
  refine wpAny_bind (wpAny_runValue (codeAny_builtin entry_proto_collect' ?_))
  show wpAny _ _ (do again (.builtin "list.__iadd__" ⟨[← newList [], .ref l], []⟩)) _ _ s
  refine wpAny_bind (wpAny_newList (wpAny_pure ⟨Code.quiet_builtin _ (by decide +kernel), codeAny_builtin entry_list_iadd' ?_⟩))
  show wpAny _ _ (Builtin.List.listExtendWith (.ref s.heap.objs.size) (.ref l) (.ref s.heap.objs.size)) _ _ { s with heap := s.heap.push (seqObj "list" #[] 0) }
  unfold Builtin.List.listExtendWith
  refine wpAny_bind (wpAny_typeOf (T := "tuple") ⟨o, old, hc⟩ ?_)
  have ht : (Value.type "tuple" == Value.type "tuple") = true := by rfl
  rw [if_pos (by rw [ht]; simp)]
  refine wpAny_bind (listItems_at old hd ?_)
  refine wpAny_bind (listItems_at (xs := #[]) (n := 0) new rfl ?_)
  rw [if_neg (by simp)]
  refine wpAny_bind (listUpdate_at (xs := #[]) (n := 0) new rfl ?_ (Nat.zero_le _) (by show (#[] ++ vs.toArray).size ≤ sizeLine + 1; simp only [Array.size_append, List.size_toArray, List.length_nil]; omega))
  refine wpAny_pure ?_
  show wpAny (model prog w) A (do
      let o ← load s.heap.objs.size
      match o.data with
      | .seq xs _ => pure xs.toList
      | _ => unsupported "internal:collect") Q E { s with heap := (s.heap.push (seqObj "list" #[] 0)).update s.heap.objs.size (Obj.mapSeq (· ++ vs.toArray)) }
  refine wpAny_bind (wpAny_load (get?_update_seq new _) ?_)
  show wpAny _ _ (pure ((#[] : Array Value) ++ vs.toArray).toList) Q E _
  rw [show ((#[] : Array Value) ++ vs.toArray).toList = vs by simp]
  exact wpAny_pure h
def AsInt (v : Value) (n : Int) : Prop := ∃ t, v = .int n t
theorem sorted_tup {l : Addr} {vs : List Value} {ns : List Int} {Q : Value → Shared → Prop} (hl : s.heap.IsTuple l vs.toArray) (each : PySem.W.EachIs AsInt vs ns) (hsz : ns.length ≤ sizeLine) (hu : A.units + 2 < cLine)
    (h : ∀ (h' : Heap) (p : Addr) (out : List Value) (c : Nat) (ns' : List Int), (∀ b o, s.heap.get? b = some o → h'.get? b = some o) → s.heap.objs.size ≤ p → h'.get? p = some (seqObj "list" out.toArray c) → PySem.W.EachIs AsInt out ns' → ns'.Perm ns → ns'.Pairwise (· ≤ ·) → Q (.ref p) { s with heap := h' }) :
    wpAny (model prog w) A (call (.builtin "sorted") [.ref l]) Q E s := by
  have n1 : vs.length = ns.length := each.length
  refine Calls.call_function_entry kind_sorted plain_sorted entry_sorted (args_sorted1 _) ?_
  unfold Builtin.«sorted»
  refine wpAny_bind (m := checkCount "sorted" 1 1 _) (wpAny_pure ?_)
  refine wpAny_bind (collect_tup (A := A.in1) hl ?_ (by omega))
  generalize hm : (s.heap.push (seqObj "list" #[] 0)).update s.heap.objs.size (Obj.mapSeq (· ++ vs.toArray)) = h1
  have kp1 : ∀ b o, s.heap.get? b = some o → h1.get? b = some o := fun b o e => by
    have lt := Heap.lt_size e
    rw [← hm, Heap.get?_update_ne _ _ _ _ (Nat.ne_of_lt lt)]
    exact Heap.get?_push_of_some _ e
  have z1 : h1.objs.size = s.heap.objs.size + 1 := by rw [← hm, Heap.size_update, size_push']
  refine wpAny_bind (wpAny_newList ?_ (by omega))
  have hoL : (h1.push (seqObj "list" vs.toArray 0)).get? h1.objs.size = some (seqObj "list" vs.toArray 0) := Heap.get?_push_size _ rfl
  have er : PySem.W.EachIs (fun v (k : Int) => ∃ as, Reads (h1.push (seqObj "list" vs.toArray 0)) v (PyData.int k) as ∧ h1.objs.size ∉ as) vs ns := each.mono fun v k ⟨t, e⟩ => ⟨[], by rw [e]; exact .int _ _, fun z => nomatch z⟩
  have shape : ∀ d ∈ ns.map PyData.int, ∃ k, d = .int k := fun d m => by
    obtain ⟨k, _, e⟩ := List.mem_map.mp m
    exact ⟨k, e.symm⟩
  have al : PySem.W.AllAlike (ns.map PyData.int) := fun d m d' m' => by
    obtain ⟨x, rfl⟩ := shape d m
    obtain ⟨y, rfl⟩ := shape d' m'
    rfl
  refine wpAny_bind (wpAny_holding (PySem.W.list_sort_data (enc := PyData.int) (s := { s with heap := h1.push (seqObj "list" vs.toArray 0) }) hoL each er al (PySem.W.Sortable.others fun b => ⟨(fun z => by cases z), (fun xs z => by cases z)⟩) (by omega) (fun k m => ?_) fun out len eo => ?_))
  · show A.in1.units + 1 + 0 < cLine
    simp
    omega
  · obtain ⟨c, hc⟩ := sortedHeap_at (vs := vs) (out := out.toArray) hoL
    refine wpAny_pure ⟨_, rfl, h _ h1.objs.size out c _ (fun b u e => ?_) (by omega) hc eo (List.mergeSort_perm _ _) ?_⟩
    · have q := kp1 b u e
      have lt := Heap.lt_size q
      show (sortedHeap (h1.push (seqObj "list" vs.toArray 0)) h1.objs.size vs out.toArray).get? b = some u
      rw [sortedHeap_old (Nat.ne_of_lt lt) (by rw [size_push']; exact Nat.lt_succ_of_lt lt)]
      exact Heap.get?_push_of_some _ q
    · have pw : (ns.mergeSort (PySem.W.dataLe false PyData.int)).Pairwise (fun x y => PySem.W.dataLe false PyData.int x y = true) := PySem.W.sort_pairwise (PySem.W.sortLe_total _ _ _) _
      refine pw.imp fun {x y} z => ?_
      rw [PySem.W.dataLe_eq] at z
      have z2 : (!PySem.W.dataLt (.int y) (.int x)) = true := z
      rw [PySem.W.dataLt_int] at z2
      simp at z2
      exact z2
end
section
variable {X : Cx}
def rSortT (K : PySem.W.Frag) : List V → Hp → VK → Prop := fun xs H Q => ∃ (a : Addr) (ns : List Int), xs = [.ref a] ∧ SqT K H a (ns.map V.int) ∧
  ∀ (ns' : List Int) (p : Addr), ns'.Perm ns → ns'.Pairwise (· ≤ ·) → H p = none → Q (.ref p) (upd H p (.lst (ns'.map V.int)))
theorem each_ints : ∀ {ns : List Int} {us : List Value}, Vals (ns.map V.int) us → PySem.W.EachIs AsInt us ns
  | [], _, h => by cases h; exact .nil
  | n :: ns, _, h => by
    cases h with
    | cons r t => exact .cons r (each_ints t)
theorem vals_ints : ∀ {us : List Value} {ns : List Int}, PySem.W.EachIs AsInt us ns → Vals (ns.map V.int) us
  | _, _, .nil => .nil
  | _, _, .cons r t => .cons r (vals_ints t)
theorem call_sortT (hu : X.A.units + 64 < cLine) : CallR X (.builtin "sorted") (rSortT X.K) := by
  intro pins s σ H xs us Q I r h
  obtain ⟨a, ns, rfl, ha, q⟩ := h
  rw [Vals.ref1 r]
  obtain ⟨its, rv, pl, hz⟩ := I.tuple ha
  have n1 : ns.length ≤ sizeLine := by
    have z := hz
    rw [List.length_map] at z
    exact z
  refine sorted_tup pl (each_ints rv) n1 (by omega) fun h' p out c ns' kp hp hg ev pm pw => ?_
  have hn : H p = none := I.hok.fresh hp
  exact ⟨.ref p, upd H p (.lst (ns'.map V.int)), I.laid (t' := s.toks) kp hp ⟨by rw [List.length_map, pm.length_eq]; exact n1, out, c, vals_ints ev, hg⟩, rfl, q ns' p pm pw hn⟩
end
end Lk

/-! Rev0 -/
set_option Elab.async false
set_option maxRecDepth 100000
set_option linter.all false
set_option maxHeartbeats 4000000
namespace Lk
open PySem PySem.Spec PyProof.Rows L2
/-! ### t[::-1], t a tuple -/
section
variable {P : Program} {w : World} {A : Around} {E : Value → Shared → Prop} {s : Shared}
theorem rev_pick (xs : Array Value) : ((List.range xs.size).filterMap fun (k : Nat) => xs[(((xs.size : Int) - 1) + (k : Int) * (-1)).toNat]?) = xs.toList.reverse := by
  have e : ∀ l : List Nat, (∀ k ∈ l, k < xs.size) → (l.filterMap fun (k : Nat) => xs[(((xs.size : Int) - 1) + (k : Int) * (-1)).toNat]?) = l.filterMap fun k => xs.toList.reverse[k]? := by
    intro l
    induction l with
    | nil => exact fun _ => rfl
    | cons k l ih =>
      intro h
      have hk := h k List.mem_cons_self
      have ek : (((xs.size : Int) - 1) + (k : Int) * (-1)).toNat = xs.size - 1 - k := by omega
      have e1 : xs[(((xs.size : Int) - 1) + (k : Int) * (-1)).toNat]? = xs.toList.reverse[k]? := by
        rw [ek, List.getElem?_reverse (by rw [Array.length_toList]; exact hk), Array.length_toList, Array.getElem?_toList]
      simp only [List.filterMap_cons, e1, ih fun j hj => h j (List.mem_cons_of_mem _ hj)]
  rw [e _ fun k hk => List.mem_range.mp hk]
  have n : xs.toList.reverse.length = xs.size := by rw [List.length_reverse, Array.length_toList]
  rw [← n]
  generalize xs.toList.reverse = l
  clear n e
  induction l with
  | nil => rfl
  | cons b bs ih =>
    rw [List.length_cons, List.range_succ_eq_map, List.filterMap_cons_some (show (b :: bs)[0]? = some b from rfl), List.filterMap_map]
    exact congrArg (b :: ·) ih
theorem item_rev {t sl : Addr} {items : Array Value} {u : Tok} {Q : Value → Shared → Prop} (ht : IsTup s.heap t items) (hs : s.heap.IsSliceOf sl .none .none (.int (-1) u)) (h : Q (.ref s.heap.objs.size) { s with heap := s.heap.push { cls := .type "tuple", data := .seq items.toList.reverse.toArray } })
    (small : items.size ≤ sizeLine) : wpAny (model P w) A (getItem (.ref t) (.ref sl)) Q E s := by
  have fits : sizeOk (.seq items.toList.reverse.toArray) := by
    show items.toList.reverse.toArray.size ≤ sizeLine
    rw [List.size_toArray, List.length_reverse, Array.length_toList]
    exact small
  obtain ⟨os, hos, hcs, hds⟩ := id hs
  have sT : s.TypeIs (.ref sl) "slice" := ⟨os, hos, hcs⟩
  unfold getItem
  try with_reducible refine wpAny_holding ?_
  first | refine wpAny_bind (wpAny_pure ?_) | skip
  refine wpAny_bind (wpAny_sequenceKey (IsTup.typeIs ht) (by decide) ?_)
  refine wpAny_bind (wpAny_callSpecial?_slot (name := Str.ofString "__getitem__") (IsTup.typeIs ht) PyProof.Rows.slot_tuple_getitem (wpAny_call_entry PyProof.Rows.slot_tuple_getitem (IsTup.typeIs ht) entry_tuple_getitem ?_ (args_tuple_getitem _ _)))
  show wpAny _ _ (Builtin.Tuple.tupleItemsOf (.ref t) >>= _) _ _ s
  refine wpAny_bind (tupleItemsOf_ (t := t) ht (wpAny_bind (wpAny_typeOf sT ?_)))
  simp only [show (Value.type "slice" == Value.type "slice") = true by decide, if_true]
  refine wpAny_bind ?_
  unfold Builtin.Slice.sliceApplied Builtin.Slice.sliceFields
  refine wpAny_bind (wpAny_bind (wpAny_field (a := sl) hos hds (x := .none) rfl (wpAny_bind (wpAny_field (a := sl) hos hds (x := .none) rfl (wpAny_bind (wpAny_field (a := sl) hos hds (x := .int (-1) u) rfl (wpAny_pure ?_)))))))
  refine wpAny_bind (slicePart_int ?_)
  show wpAny _ _ (if ((-1 : Int) == 0) = true then _ else _) _ _ s
  rw [if_neg (by decide)]
  refine wpAny_bind (slicePart_none (wpAny_bind (slicePart_none (wpAny_bind (wpAny_pure ?_)))))
  have adj : Builtin.Slice.sliceAdjust none none (-1) (items.size : Int) = ((items.size : Int) - 1, -1) := rfl
  have pl : Builtin.Slice.slicePlaces ((items.size : Int) - 1) (-1) (-1) = items.size := by
    unfold Builtin.Slice.slicePlaces
    simp only [show ¬ ((-1 : Int) > 0) by decide, if_false]
    split
    · simp only [Int.neg_neg, Int.ediv_one]
      omega
    · omega
  show wpAny _ _ (match Builtin.Slice.sliceAdjust none none (-1) (items.size : Int) with | (lo, hi) => pure (lo, (-1 : Int), Builtin.Slice.slicePlaces lo hi (-1))) _ _ s
  rw [adj]
  dsimp only
  rw [pl]
  refine wpAny_pure ?_
  dsimp only
  have no : (((items.size : Int) - 1 == 0) && ((-1 : Int) == 1) && (items.size == items.size)) = false := by
    rw [show ((-1 : Int) == 1) = false by decide, Bool.and_false, Bool.false_and]
  rw [no, rev_pick]
  simp only [Bool.false_eq_true, if_false]
  first
    | exact wpAny_bind (m := Builtin.Tuple.tupleExact _) (wpAny_newObj_type (wpAny_pure ⟨_, rfl, wpAny_pure h⟩) fits)
    | exact wpAny_bind (m := Builtin.Tuple.tupleExact _) (wpAny_newObj_type (wpAny_bind (wpAny_pure (wpAny_pure ⟨_, rfl, wpAny_pure h⟩))) fits)
    | exact wpAny_bind (wpAny_bind (m := Builtin.Tuple.tupleExact _) (wpAny_newObj_type (wpAny_pure (wpAny_pure ⟨_, rfl, wpAny_pure h⟩)) fits))
    | exact wpAny_bind (wpAny_bind (m := Builtin.Tuple.tupleExact _) (wpAny_newObj_type (wpAny_pure ⟨_, rfl, wpAny_pure h⟩) fits))
end
section
variable {X : Cx}
def tRevT (K : PySem.W.Frag) (te : TE) : TE := fun σ H Q => te σ H fun x H1 => ∃ a xs, x = .ref a ∧ SqT K H1 a xs ∧ ∀ p, H1 p = none → Q (.ref p) (upd H1 p (.tup xs.reverse))
theorem vals_rev : ∀ {xs : List V} {us : List Value}, Vals xs us → Vals xs.reverse us.reverse
  | _, _, .nil => .nil
  | _, _, .cons r t => by
    rw [List.reverse_cons, List.reverse_cons]
    exact Vals.append (vals_rev t) (.cons r .nil)
theorem pe_revT {e : Expr} {te : TE} {pos p1 p2 p3 : Pos} (he : PE X e te) : PE X (.Subscript e (.Slice none none (some (.UnaryOp .USub (.Constant (.int 1) 0 p1) p2)) p3) pos) (tRevT X.K te) := by
  refine ⟨fun pins s σ H Q I h => ?_⟩
  refine Subscript_ (thn (he.run pins s σ H _ I h) fun v s1 ⟨x, H1, I1, r1, q1⟩ => ?_)
  obtain ⟨a, xs, rfl, hx, q⟩ := q1
  cases r1
  refine wpAny_Slice ?_
  rw [evalPart_none]
  refine wpAny_pure (wpAny_pure ?_)
  rw [evalPart_some]
  have hm : PE X (.UnaryOp .USub (.Constant (.int 1) 0 p1) p2) _ := pe_un un_neg pe_int
  refine thn (hm.run pins s1 σ H1 (fun y H2 => y = .int (-1) ∧ H2 = H1) I1 ⟨1, rfl, rfl, rfl⟩) fun vk s2 ⟨y, H2, I2, r2, ey, eH⟩ => ?_
  subst ey eH
  obtain ⟨tk, rfl⟩ := r2
  have I4 : Inv X pins σ H2 { s2 with heap := s2.heap.push { cls := .type "slice", data := .fields #[.none, .none, .int (-1) tk] } } := I2.kept (t' := s2.toks) fun b ob z => Heap.get?_push_of_some _ z
  obtain ⟨its, r, ht, hz⟩ := I4.tuple hx
  have len : its.toArray.size = xs.length := by rw [List.size_toArray]; exact r.length.symm
  show wpAny (model X.prog X.w) X.A (subscriptTail e _ (.ref a) (.ref s2.heap.objs.size)) (EP X pins σ Q) X.xe { s2 with heap := s2.heap.push { cls := .type "slice", data := .fields #[.none, .none, .int (-1) tk] } }
  refine tail_any (ops := [.ref a, .ref s2.heap.objs.size]) (IsTup.typeIs ht) PyProof.Rows.slot_tuple_getitem.lookup (item_rev (u := tk) ht (Heap.IsSliceOf.new ..) ?_ (by rw [len]; exact hz)) (by with_unfolding_all rfl)
  refine ⟨.ref (s2.heap.push { cls := .type "slice", data := .fields #[.none, .none, .int (-1) tk] }).objs.size, _, I4.laid (t' := s2.toks) (o := .tup xs.reverse) (fun b ob z => Heap.get?_push_of_some _ z) (Nat.le_refl _) ?_, rfl, q _ (I4.hok.fresh (Nat.le_refl _))⟩
  exact ⟨by rw [List.length_reverse]; exact hz, _, vals_rev r, IsTup.new _ _⟩
end
/-! ### text * int, from 1 on -/
def rStrRep1 : R2 := fun x y H Q => ∃ (a : Str) (k : Nat), x = .str a ∧ y = .int (k : Int) ∧ 1 ≤ k ∧ k ≤ 5000 ∧ a.length ≤ 1000 ∧ ∀ z : Str, TL.tl z = (List.replicate k (TL.tl a)).flatten → Q (.str z) H
theorem op_strRep1 {X : Cx} : OpR X (binaryOp .Mult) rStrRep1 := by
  intro pins s σ H x y v u Q I rx ry h
  obtain ⟨a, k, rfl, rfl, k1, k2, ha, q⟩ := h
  obtain ⟨t, rfl⟩ := rx
  obtain ⟨t', rfl⟩ := ry
  have hm : a.length * k ≤ 5000000 := by
    have := Nat.mul_le_mul ha k2
    omega
  have hl := TL.len_tl a
  have long : Builtin.Str.tooLong (a.length * k) = false := by
    unfold Builtin.Str.tooLong
    refine decide_eq_false (Nat.not_lt.mpr (Nat.le_trans hm ?_))
    decide
  refine PySem.P.mul_str (by rw [decide_eq_false (by omega), decide_eq_false (by omega)]; rfl) (fun _ _ => ?_) (fun _ _ => by rw [Int.toNat_natCast]; exact long) ?_
  · refine Int.not_lt.mpr (Int.le_ediv_of_mul_le (by omega) ?_)
    have : ((a.length * k : Nat) : Int) = (a.length : Int) * (k : Int) := Int.natCast_mul _ _
    omega
  · rw [if_neg (by omega), Int.toNat_natCast]
    by_cases one : k = 1
    · rw [if_pos (by rw [one]; rfl)]
      exact ⟨.str a, H, I, ⟨_, rfl⟩, q a (by rw [one]; simp)⟩
    have big : ((k : Int) == 1) = false := beq_eq_false_iff_ne.mpr (by omega)
    rw [big, Bool.false_or]
    by_cases h0 : a.length = 0
    · rw [if_pos (beq_iff_eq.mpr h0)]
      have e0 : TL.tl a = [] := List.length_eq_zero_iff.mp (by omega)
      exact ⟨.str a, H, I, ⟨_, rfl⟩, q a (by rw [e0]; simp)⟩
    · rw [if_neg (by rw [beq_iff_eq]; exact h0)]
      have e : TL.tl ⟨(List.replicate k a.cps).foldl (· ++ ·) #[]⟩ = (List.replicate k (TL.tl a)).flatten := by
        show ((List.replicate k a.cps).foldl (· ++ ·) #[]).toList = _
        rw [rep_fold, List.nil_append]
      refine ⟨?_, .str _, H, I.tok _, ⟨_, rfl⟩, q _ e⟩
      rw [TL.len_tl, e, List.length_flatten, List.map_replicate, List.sum_replicate_nat, ← hl, Nat.mul_comm]
      exact Nat.le_trans hm (by decide)

end Lk

/-! Mak1 -/
set_option Elab.async false
set_option maxRecDepth 100000
set_option linter.all false
set_option maxHeartbeats 4000000
namespace Lk
open PySem PySem.Spec PyProof.Rows L2
/-! ### made data: tuples put together, cut, told again and again -/
def cutL {α : Type} (l : List α) (lo hi : Option Int) : List α := (l.drop (HT.sIx l.length 0 lo)).take (HT.sIx l.length l.length hi - HT.sIx l.length 0 lo)
theorem mem_cutL {α : Type} {l : List α} {lo hi : Option Int} {x : α} (h : x ∈ cutL l lo hi) : x ∈ l := (List.drop_sublist _ _).subset ((List.take_sublist _ _).subset h)
theorem len_cutL {α : Type} (l : List α) (lo hi : Option Int) : (cutL l lo hi).length ≤ l.length := by
  unfold cutL
  rw [List.length_take, List.length_drop]
  omega
section
variable {K : PySem.W.Frag} {σ : L2.St} {H0 : Hp} {te tf : TE} {ds es : List PyData}
theorem thAll_drop {H : Hp} : ∀ (n : Nat) {vs : List V} {ds : List PyData}, ThAll K H vs ds → ThAll K H (vs.drop n) (ds.drop n)
  | 0, _, _, h => h
  | n + 1, _, _, .nil => .nil
  | n + 1, _, _, .cons _ t => thAll_drop n t
theorem thAll_take {H : Hp} : ∀ (n : Nat) {vs : List V} {ds : List PyData}, ThAll K H vs ds → ThAll K H (vs.take n) (ds.take n)
  | 0, _, _, _ => .nil
  | n + 1, _, _, .nil => .nil
  | n + 1, _, _, .cons h t => .cons h (thAll_take n t)
theorem thAll_cut {H : Hp} {vs : List V} {ds : List PyData} (lo hi : Option Int) (h : ThAll K H vs ds) : ThAll K H (cutV vs lo hi) (cutL ds lo hi) := by
  unfold cutV cutL
  rw [thAll_len h]
  exact thAll_take _ (thAll_drop _ h)
theorem thAll_reps {H : Hp} {vs : List V} {ds : List PyData} (h : ThAll K H vs ds) : ∀ k, ThAll K H (List.replicate k vs).flatten (List.replicate k ds).flatten
  | 0 => .nil
  | k + 1 => by
    rw [List.replicate_succ, List.replicate_succ, List.flatten_cons, List.flatten_cons]
    exact thAll_app h (thAll_reps h k)
theorem th_of_tup {H : Hp} {v : V} {ds : List PyData} (h : Th K H v (.tuple ds)) : ∃ a xs, v = .ref a ∧ SqT K H a xs ∧ ThAll K H xs ds := by
  cases h with
  | tup hs ha => exact ⟨_, _, rfl, hs, ha⟩
theorem mk_catT (h : Mk1 K te σ H0 (.tuple ds)) (g : Mk1 K tf σ H0 (.tuple es)) (hl : ds.length + es.length ≤ 1000) : Mk1 K (tOp (rCatA K) te tf) σ H0 (.tuple (ds ++ es)) := fun H s Q q =>
  h H s _ fun v H1 s1 h1 => g H1 (s.trans s1) _ fun u H2 s2 h2 => by
    obtain ⟨a, xs, rfl, ha, ta⟩ := th_of_tup (th_same s2 h1)
    obtain ⟨b, ys, rfl, hb, tb⟩ := th_of_tup h2
    have l1 := thAll_len ta
    have l2 := thAll_len tb
    refine ⟨a, b, xs, ys, rfl, rfl, ha, hb, Nat.le_of_lt (small1000 (by omega)), fun e => ?_, fun _ e => ?_, fun _ _ p np => ?_⟩
    · have ed : ds = [] := List.length_eq_zero_iff.mp (by rw [← l1, e]; rfl)
      rw [ed] at q
      exact q _ H2 (s1.trans s2) h2
    · have ed : es = [] := List.length_eq_zero_iff.mp (by rw [← l2, e]; rfl)
      rw [ed, List.append_nil] at q
      exact q _ H2 (s1.trans s2) (th_same s2 h1)
    · exact q _ _ ((s1.trans s2).trans (same_upd np)) (.tup (.inl (.inl upd_same)) (thAll_same (same_upd np) (thAll_app ta tb)))
/-- a part of a slice -/
def MkP (t : TO) (σ : L2.St) (H0 : Hp) (o : Option Int) : Prop := ∀ H, Same H0 H → ∀ Q : Option Int → Hp → Prop, (∀ H', Same H H' → Q o H') → t σ H Q
theorem mkp_none : MkP tNoPart σ H0 none := fun H _ Q q => q H (Same.refl H)
theorem mkp_int {i : Int} : MkP (tPart (tC (.int i))) σ H0 (some i) := fun H _ Q q => ⟨i, rfl, q H (Same.refl H)⟩
theorem mkp_var {i : Int} {j : Nat} (h : σ[j]? = some (some (.int i))) : MkP (tPart (tVar j)) σ H0 (some i) := fun H _ Q q => ⟨_, h, i, rfl, q H (Same.refl H)⟩
theorem mkp_more {i k : Int} {j : Nat} (h : σ[j]? = some (some (.int i))) : MkP (tPart (tOp (rI0 fun a b => V.int (a + b)) (tVar j) (tC (.int k)))) σ H0 (some (i + k)) := fun H _ Q q => ⟨_, h, i, k, rfl, rfl, _, rfl, q H (Same.refl H)⟩
theorem mk_slT {tl th : TO} {lo hi : Option Int} (h : Mk1 K te σ H0 (.tuple ds)) (hl : MkP tl σ H0 lo) (hh : MkP th σ H0 hi) : Mk1 K (tSl (rSlA K) te tl th) σ H0 (.tuple (cutL ds lo hi)) := fun H s Q q =>
  h H s _ fun v H1 s1 h1 => hl H1 (s.trans s1) _ fun H2 s2 => hh H2 ((s.trans s1).trans s2) _ fun H3 s3 => by
    obtain ⟨a, xs, rfl, ha, ta⟩ := th_of_tup (th_same (s2.trans s3) h1)
    have l1 := thAll_len ta
    have x3 := (s1.trans s2).trans s3
    refine ⟨a, xs, rfl, ha, fun e => ?_, fun _ p np => ?_⟩
    · have ec : cutL ds lo hi = ds := by
        unfold cutL
        rw [← l1, e.1, e.2, List.drop_zero, Nat.sub_zero, List.take_of_length_le (Nat.le_of_eq l1.symm)]
      rw [ec] at q
      exact q _ H3 x3 (.tup ha ta)
    · exact q _ _ (x3.trans (same_upd np)) (.tup (.inl (.inl upd_same)) (thAll_same (same_upd np) (thAll_cut lo hi ta)))
theorem mk_revT (h : Mk1 K te σ H0 (.tuple ds)) : Mk1 K (tRevT K te) σ H0 (.tuple ds.reverse) := fun H s Q q =>
  h H s _ fun v H1 s1 h1 => by
    obtain ⟨a, xs, rfl, ha, ta⟩ := th_of_tup h1
    have rev : ∀ {vs : List V} {ds : List PyData}, ThAll K H1 vs ds → ThAll K H1 vs.reverse ds.reverse := fun {vs ds} t => by
      induction vs generalizing ds with
      | nil => cases t; exact .nil
      | cons v vs ih =>
        cases t with
        | cons r t =>
          rw [List.reverse_cons, List.reverse_cons]
          exact thAll_app (ih t) (.cons r .nil)
    exact ⟨a, xs, rfl, ha, fun p np => q _ _ (s1.trans (same_upd np)) (.tup (.inl (.inl upd_same)) (thAll_same (same_upd np) (rev ta)))⟩
/-- list(t) -/
theorem mk_listT (h : Mk1 K te σ H0 (.tuple ds)) : MkL K (tCB (fun xs H Q => ∃ p ys, xs = [.ref p] ∧ (SqL K H p ys ∨ SqT K H p ys) ∧ ∀ l, H l = none → Q (.ref l) (upd H l (.lst ys))) (tCons te tNil)) σ H0 ds := fun H s Q q =>
  h H s _ fun v H1 s1 h1 => by
    obtain ⟨a, xs, rfl, ha, ta⟩ := th_of_tup h1
    exact ⟨a, xs, rfl, .inr ha, fun l nl => q l xs _ (s1.trans (same_upd nl)) upd_same (thAll_same (same_upd nl) ta)⟩
/-- tuple(l) -/
theorem mk_tupL (h : MkL K te σ H0 ds) : Mk1 K (tCB (fun xs H Q => ∃ p ys, xs = [.ref p] ∧ ((SqL K H p ys ∧ ∀ l, H l = none → Q (.ref l) (upd H l (.tup ys))) ∨ (SqT K H p ys ∧ Q (.ref p) H))) (tCons te tNil)) σ H0 (.tuple ds) := fun H s Q q =>
  h H s _ fun p xs H1 s1 e1 t1 => ⟨p, xs, rfl, .inl ⟨SqL.of e1, fun l nl => q _ _ (s1.trans (same_upd nl)) (.tup (.inl (.inl upd_same)) (thAll_same (same_upd nl) t1))⟩⟩
/-- t * k -/
theorem mk_repT {k : Nat} (h : Mk1 K te σ H0 (.tuple ds)) (ne : ds ≠ []) (k1 : 2 ≤ k) (k2 : k ≤ 1000) (hl : ds.length ≤ 1000) : Mk1 K (tOp (rRepT K) te (tC (.int (k : Int)))) σ H0 (.tuple (List.replicate k ds).flatten) := fun H s Q q =>
  h H s _ fun v H1 s1 h1 => by
    obtain ⟨a, xs, rfl, ha, ta⟩ := th_of_tup h1
    have l1 := thAll_len ta
    refine ⟨a, k, xs, rfl, rfl, ha, fun e => ne (List.length_eq_zero_iff.mp (by rw [← l1, e]; rfl)), by omega, by omega, by omega, fun p np => q _ _ (s1.trans (same_upd np)) (.tup (.inl (.inl upd_same)) ?_)⟩
    rw [Int.toNat_natCast]
    exact thAll_same (same_upd np) (thAll_reps ta k)
/-- a list that is new -/
def MkN (K : PySem.W.Frag) (te : TE) (σ : L2.St) (H0 : Hp) (ds : List PyData) : Prop := ∀ H, Same H0 H → ∀ Q : VK, (∀ p xs H1, Same H H1 → H1 p = none → ThAll K H1 xs ds → Q (.ref p) (upd H1 p (.lst xs))) → te σ H Q
theorem mk_catN (h : MkL K te σ H0 ds) (g : MkL K tf σ H0 es) (hl : ds.length + es.length ≤ 1000) : MkN K (tOp rCat te tf) σ H0 (ds ++ es) := fun H s Q q =>
  h H s _ fun p xs H1 s1 e1 h1 => g H1 (s.trans s1) _ fun r ys H2 s2 e2 h2 => ⟨p, r, xs, ys, rfl, rfl, s2 _ _ e1, e2, by rw [thAll_len h1, thAll_len h2]; exact Nat.le_of_lt (small1000 hl), fun l nl =>
    q l _ H2 (s1.trans s2) nl (thAll_app (thAll_same s2 h1) h2)⟩
end
end Lk

/-! Nil0 -/
set_option Elab.async false
set_option maxRecDepth 100000
set_option linter.all false
set_option maxHeartbeats 4000000
namespace Lk
open PySem PySem.Spec PyProof.Rows L2
/-! ### xs == [], xs != [], whatever xs holds -/
def rEqNil (K : PySem.W.Frag) : R2 := fun x y H Q => ∃ (a b : Addr) (xs : List V), x = .ref a ∧ y = .ref b ∧ SqL K H a xs ∧ SqL K H b [] ∧ Q (.bl xs.isEmpty) H
def rNeNil (K : PySem.W.Frag) : R2 := fun x y H Q => ∃ (a b : Addr) (xs : List V), x = .ref a ∧ y = .ref b ∧ SqL K H a xs ∧ SqL K H b [] ∧ Q (.bl (!xs.isEmpty)) H
section
variable {X : Cx}
theorem op_eqNil (hu : X.A.units + 64 < cLine) : OpR X (compareOp .Eq) (rEqNil X.K) := by
  intro pins s σ H x y v u Q I rx ry h
  obtain ⟨a, b, xs, rfl, rfl, ha, hb, q⟩ := h
  cases xs with
  | nil => exact op_eqD hu pins s σ H (.ref a) (.ref b) v u Q I rx ry ⟨.list [], .list [], .lst ha .nil, .lst hb .nil, rfl, rfl, q⟩
  | cons y ys =>
    cases rx
    cases ry
    obtain ⟨us, r1, p1, _⟩ := I.list ha
    obtain ⟨ws, r2, p2, _⟩ := I.list hb
    obtain ⟨⟨c1, d1, e1, l1⟩, ho1, hc1, n1, hd1⟩ := p1.isList
    obtain ⟨⟨c2, d2, e2, l2⟩, ho2, hc2, n2, hd2⟩ := p2.isList
    simp only at hc1 hd1 hc2 hd2
    subst hc1 hd1 hc2 hd2
    have sz : (us.toArray.size != ws.toArray.size) = true := by
      have z1 := r1.length
      have z2 := r2.length
      rw [List.size_toArray, List.size_toArray, ← z1, ← z2]
      rfl
    exact wpAny_richCompare_same_room (op := .Eq) (show s.TypeIs (.ref a) "list" from ⟨_, ho1, rfl⟩) (show s.TypeIs (.ref b) "list" from ⟨_, ho2, rfl⟩) F.slot_list_eq
      (call_meets F.slot_list_eq ⟨_, ho1, rfl⟩ F.entry_list_eq (F.args_list_eq_2 _ _) (SeqAt.list_eq_lengthsAt a b _ _ n1 n2 d1 d2 l1 l2 sz) ⟨ho1, ho2, show Value.bool false ≠ Value.notImplemented ∧ _ from ⟨(fun x => nomatch x), ⟨.bl false, H, I, rfl, q⟩⟩⟩) (by omega)
theorem op_neNil (hu : X.A.units + 64 < cLine) : OpR X (compareOp .NotEq) (rNeNil X.K) := by
  intro pins s σ H x y v u Q I rx ry h
  obtain ⟨a, b, xs, rfl, rfl, ha, hb, q⟩ := h
  cases xs with
  | nil => exact op_neD hu pins s σ H (.ref a) (.ref b) v u Q I rx ry ⟨.list [], .list [], .lst ha .nil, .lst hb .nil, rfl, rfl, q⟩
  | cons y ys =>
    cases rx
    cases ry
    obtain ⟨us, r1, p1, _⟩ := I.list ha
    obtain ⟨ws, r2, p2, _⟩ := I.list hb
    obtain ⟨⟨c1, d1, e1, l1⟩, ho1, hc1, n1, hd1⟩ := p1.isList
    obtain ⟨⟨c2, d2, e2, l2⟩, ho2, hc2, n2, hd2⟩ := p2.isList
    simp only at hc1 hd1 hc2 hd2
    subst hc1 hd1 hc2 hd2
    have sz : (us.toArray.size != ws.toArray.size) = true := by
      have z1 := r1.length
      have z2 := r2.length
      rw [List.size_toArray, List.size_toArray, ← z1, ← z2]
      rfl
    exact wpAny_richCompare_same_room (op := .NotEq) (show s.TypeIs (.ref a) "list" from ⟨_, ho1, rfl⟩) (show s.TypeIs (.ref b) "list" from ⟨_, ho2, rfl⟩) F.slot_list_ne
      (call_meets F.slot_list_ne ⟨_, ho1, rfl⟩ F.entry_list_ne (F.args_list_ne_2 _ _) (SeqAt.list_ne_lengthsAt a b _ _ n1 n2 d1 d2 l1 l2 sz) ⟨ho1, ho2, show Value.bool true ≠ Value.notImplemented ∧ _ from ⟨(fun x => nomatch x), ⟨.bl true, H, I, rfl, q⟩⟩⟩) (by omega)
end
end Lk

/-! TupG3 -/
set_option Elab.async false
set_option maxRecDepth 100000
set_option linter.all false
set_option maxHeartbeats 4000000
namespace Lk
open PySem PySem.Spec PyProof.Rows L2
section
variable {P : Program} {w : World} {κ : Type} [DecidableEq κ] {knd : HeapKind P w κ} {B : κ → Addr → Prop} {A : Around} {E : Value → Shared → Prop} {s : Shared}
set_option maxRecDepth 100000 in
theorem call_set_M (M : Mem knd) {l : Addr} {items : Array Value} {ks : List κ} {Q : Value → Shared → Prop} (hh : A.handled = none) (hl : s.heap.IsList l items) (len : items.size = ks.length) (few : ks.length ≤ 4000) (room : ∀ A' : Around, A'.units ≤ A.units + 8 → knd.room A') (C : Sees knd B s.heap)
    (item : ∀ (i : Nat) (v : Value), items[i]? = some v → ∃ k b, ks[i]? = some k ∧ v = .ref b ∧ B k b)
    (h : ∀ (h' : Heap) (tk : Nat) (us : List κ), TSet knd B h' s.heap.objs.size us → (∀ k, k ∈ us ↔ k ∈ ks) → (∀ b o, s.heap.get? b = some o → h'.get? b = some o) → Q (.ref s.heap.objs.size) { s with heap := h', toks := tk }) :
    wpAny (model P w) A (call (.type "set") [.ref l]) Q E s := by
  obtain ⟨c, tl, hmro⟩ := F.called_set.mro
  have hmade := F.called_set.made
  have hsub := F.called_set.sub
  refine wpAny_call (codeAny_of_tree ?_)
  show wpAny _ _ (callAny (.type "set") _) _ _ _
  refine wpAny_pure ⟨Code.quiet_builtin _ (by decide +kernel), codeAny_builtin F.entry_type_call ?_⟩
  rw [Around.under_plain (weight_type_call_type "set" [.ref l] []) rfl]
  have h1 := F.called_set.notType
  have h2 := F.called_set.canCreate
  have hct := F.typeCall_set_1 (.ref l)
  repeat (any_goals (first | assumption | wp_step))
  refine codeAny_mono (code_set_led1 (.ref l) (E := E) (Q₁ := fun obj s₁ => obj = .ref s.heap.objs.size ∧ s₁ = { s with heap := s.heap.push { cls := .type "set", dict := none, data := .set #[] 0 (.fresh 0 0 (!w.params.followText "set-order")) } }) ⟨rfl, rfl⟩) fun r s₁ hr => ?_
  match r, hr with
  | .error e, hr => exact hr
  | .ok .next, hr => exact hr.elim
  | .ok .brk, hr => exact hr.elim
  | .ok .cont, hr => exact hr.elim
  | .ok (.ret obj), ⟨eo, es⟩ =>
    subst eo es
    have hS : (s.heap.push { cls := .type "set", dict := none, data := .set #[] 0 (.fresh 0 0 (!w.params.followText "set-order")) }).get? s.heap.objs.size = some { cls := .type "set", dict := none, data := .set #[] 0 (.fresh 0 0 (!w.params.followText "set-order")) } := Heap.get?_push_size _ rfl
    have hT : Shared.TypeIs { s with heap := s.heap.push { cls := .type "set", dict := none, data := .set #[] 0 (.fresh 0 0 (!w.params.followText "set-order")) } } (.ref s.heap.objs.size) "set" := ⟨_, hS, rfl⟩
    have hli := F.called_set.init.lookup
    have hbi := F.called_set.init.bind (.ref s.heap.objs.size)
    repeat (any_goals (first | assumption | wp_step))
    refine codeAny_mono (codeAny_call_builtin (R := wants (fun r s₂ => r = .none ∧ ∃ h' tk us, s₂ = { s with heap := h', toks := tk } ∧ TSet knd B h' s.heap.objs.size us ∧ (∀ k, k ∈ us ↔ k ∈ ks) ∧
        (∀ b o, s.heap.get? b = some o → h'.get? b = some o)) E) F.called_set.init.plain F.entry_set_init (check_set_init_1 hT ?_)) fun r₂ s₂ hr₂ => ?_
    · obtain ⟨⟨ocls, odict, odata, oslots⟩, hol, hcl, nl, hdl⟩ := hl
      simp only at hcl hdl
      subst hcl hdl
      have hol' : (s.heap.push { cls := .type "set", dict := none, data := .set #[] 0 (.fresh 0 0 (!w.params.followText "set-order")) }).get? l = some { cls := .type "list", dict := odict, data := .seq items nl, slots := oslots } := Heap.get?_push_of_some _ hol
      have hsls := F.sub_list_set
      have hslf := F.sub_list_frozenset
      have hne : (Value.type "list" == Value.type "dict") = false := by decide
      have hl1 : (s.heap.push { cls := .type "set", dict := none, data := .set #[] 0 (.fresh 0 0 (!w.params.followText "set-order")) }).IsList l items := ⟨_, hol', rfl, nl, rfl⟩
      unfold Builtin.«set.__init__» noKeywords Builtin.Frozenset.updateFrom
      generalize hPI : pyIter = PI
      wp_walk
      subst hPI
      refine wpAny_pyIter_list hl1 ?_
      refine wpAny_bind (wpAny_runValue ?_)
      have lt : l < s.heap.objs.size := Heap.lt_size hol
      have sz : (s.heap.push { cls := .type "set", dict := none, data := .set #[] 0 (.fresh 0 0 (!w.params.followText "set-order")) }).objs.size = s.heap.objs.size + 1 := Heap.size_push ..
      have quiet : A.in1.in1.in1.handled = none := by simp [hh]
      have n1 : l ≠ (s.heap.push { cls := .type "set", dict := none, data := .set #[] 0 (.fresh 0 0 (!w.params.followText "set-order")) }).objs.size := by
        rw [Heap.size_push]
        exact Nat.ne_of_lt (Nat.lt_succ_of_lt lt)
      have n2 : s.heap.objs.size ∉ [(s.heap.push { cls := .type "set", dict := none, data := .set #[] 0 (.fresh 0 0 (!w.params.followText "set-order")) }).objs.size, l] := by
        rw [Heap.size_push]
        simp only [List.mem_cons, List.not_mem_nil, or_false, not_or]
        exact ⟨Nat.ne_of_lt (Nat.lt_succ_self _), Nat.ne_of_gt lt⟩
      have none_at : ∀ b, s.heap.objs.size ≤ b → s.heap.get? b = none := fun b hb => by
        cases q : s.heap.get? b with
        | none => rfl
        | some o => exact absurd (Nat.lt_of_lt_of_le (Heap.lt_size q) hb) (Nat.lt_irrefl _)
      refine tset_loop (knd := knd) (B := B) (ks := ks) (h0 := s.heap) M ((Walks.list quiet _ l n1 items).toS) n2 len few (room _ (by simp)) (fun b hb => ?fresh) C item ?hR (items.size - 0) 0 _ [] rfl (Nat.zero_le _) ⟨⟨_, Heap.get?_push_size _ rfl, rfl, rfl⟩, (hl1.push _)⟩ (Moved.refl fun _ => rfl) (fun b o e => Heap.get?_push_of_some _ (Heap.get?_push_of_some _ e)) ?hS0 (fun k => by simp) (Nat.le_refl 0)
      case fresh =>
        rcases List.mem_cons.mp hb with e | hb
        · rw [e]
          exact none_at _ (Nat.le_refl _)
        · rw [List.mem_singleton.mp hb, Heap.size_push]
          exact none_at _ (Nat.le_succ _)
      case hS0 => exact tset_new (Heap.get?_push_of_some _ hS)
      case hR =>
        rintro ⟨h', g2, d', tk', os'⟩ us mv kp R2 mem
        have eg := mv.gens
        have ed := mv.drawn
        have eo := mv.os
        dsimp only at eg ed eo
        subst eg ed eo
        show wpAny _ _ _ _ _ _
        refine wpAny_pure ?_
        show wpAny _ _ (ret Value.none) _ _ _
        exact wpAny_pure ⟨rfl, h', tk', us, rfl, R2, mem, kp⟩
    · match r₂, hr₂ with
      | .error e, hr₂ => exact hr₂
      | .ok .next, hr₂ => exact hr₂.elim
      | .ok .brk, hr₂ => exact hr₂.elim
      | .ok .cont, hr₂ => exact hr₂.elim
      | .ok (.ret r), ⟨er, h', tk, us, es, R2, mem, kp⟩ =>
        subst er es
        repeat (any_goals (first | assumption | wp_step))
        exact h _ _ _ R2 mem kp
end
end Lk

/-! TupS1 -/
set_option Elab.async false
set_option maxRecDepth 100000
set_option linter.all false
set_option maxHeartbeats 4000000
namespace Lk
open PySem PySem.Spec PyProof.Rows L2
/-! ### sets of pairs (length, text) over the layer -/
def keyP (x : Str) : List Key := [Sum.inl (x.length : Int), Sum.inr x]
def unP : List Key → Str
  | [_, Sum.inr x] => x
  | _ => Str.empty
def vP (x : Str) : List V := [V.int (x.length : Int), V.str x]
def encK : Key → PyData
  | .inl n => .int n
  | .inr x => .str x
def encP (k : List Key) : PyData := .tuple (k.map encK)
/-- which pair stands at which address -/
def InL (L : List (Addr × Str)) (k : List Key) (b : Addr) : Prop := ∃ x, (b, x) ∈ L ∧ k = keyP x
def SetPr (P : Program) (w : World) (L : List (Addr × Str)) (a : Addr) (us : List Str) : HO := .ext fun h => TSet (tupleKind (mixKind P w)) (InL L) h a (us.map keyP)
theorem un_keys {us : List (List Key)} {L : List (Addr × Str)} (h : ∀ k ∈ us, k ∈ L.map fun p => keyP p.2) : (us.map unP).map keyP = us := by
  rw [List.map_map]
  refine (List.map_congr_left fun k m => ?_).trans (List.map_id _)
  obtain ⟨p, _, rfl⟩ := List.mem_map.mp (h k m)
  rfl
theorem keyP_inj {x y : Str} (h : keyP x = keyP y) : x = y := by
  injection h with _ h
  injection h with h _
  injection h
/-- the order of such pairs is the order of names -/
theorem leP {x y : Str} (h : PySem.W.dataLe false encP (keyP x) (keyP y) = true) : leA x y := by
  rw [PySem.W.dataLe_eq] at h
  have h1 : (!PySem.W.dataLt (.tuple [.int (y.length : Int), .str y]) (.tuple [.int (x.length : Int), .str x])) = true := h
  rw [PySem.W.dataLt_pair (by rfl) (by rfl), PySem.W.dataLt_int, PySem.W.dataLt_str] at h1
  simp only [PyData.eqv, beq_iff_eq, Bool.not_eq_true', Int.natCast_inj] at h1
  by_cases e : y.length = x.length
  · rw [if_pos e] at h1
    by_cases f : y = x
    · exact .inr ⟨e.symm, by rw [f]; exact decide_eq_true (List.le_refl _)⟩
    · rw [if_neg f] at h1
      exact .inr ⟨e.symm, decide_eq_true (List.not_lt.mp (of_decide_eq_false h1))⟩
  · rw [if_neg e] at h1
    have z := of_decide_eq_false h1
    exact .inl (by omega)
section
variable {X : Cx}
theorem items_mix {P : Program} {w : World} {n : Int} {x : Str} {us : List Value} (h : Vals [V.int n, V.str x] us) : ItemsAre (mixKind P w) [Sum.inl n, Sum.inr x] us := by
  cases h with
  | cons r t =>
    cases t with
    | cons r2 t =>
      cases t
      obtain ⟨t1, rfl⟩ := r
      obtain ⟨t2, rfl⟩ := r2
      exact .cons (keyIs_int n t1) (.cons (keyIs_str x t2) .nil)
theorem isP {pins : List (Addr × Obj)} {σ : L2.St} {H : Hp} {s : Shared} {b : Addr} {x : Str} (I : Inv X pins σ H s) (h : SqT X.K H b (vP x)) : IsTupleKey (mixKind X.prog X.w) s.heap (keyP x) b ∧ Reads s.heap (.ref b) (encP (keyP x)) [] := by
  obtain ⟨its, r, ⟨o, ho, hc, n, hd⟩, _⟩ := I.tuple h
  refine ⟨⟨o, its.toArray, n, ho, hc, hd, items_mix r⟩, ?_⟩
  cases r with
  | cons r t =>
    cases t with
    | cons r2 t =>
      cases t
      obtain ⟨t1, rfl⟩ := r
      obtain ⟨t2, rfl⟩ := r2
      exact .tuple ho hc hd (.cons (.int _ t1) (.cons (.str _ t2) .nil))
def rSetPr (K : PySem.W.Frag) (P : Program) (w : World) : List V → Hp → VK → Prop := fun xs H Q => ∃ (l : Addr) (L : List (Addr × Str)), xs = [.ref l] ∧ SqL K H l (L.map fun p => V.ref p.1) ∧ (∀ p ∈ L, SqT K H p.1 (vP p.2)) ∧ L.length ≤ 4000 ∧
  ∀ (p : Addr) (us : List Str), H p = none → us.Nodup → (∀ x, x ∈ us ↔ x ∈ L.map (·.2)) → Q (.ref p) (upd H p (SetPr P w L p us))
theorem call_setPr (calm : X.calm = true) (hu : X.A.units + 64 < cLine) : CallR X (.type "set") (rSetPr X.K X.prog X.w) := by
  intro pins s σ H xs us Q I r h
  obtain ⟨l, L, rfl, hl, ht, few, q⟩ := h
  rw [Vals.ref1 r]
  have hn : H s.heap.objs.size = none := I.hok.fresh (Nat.le_refl _)
  obtain ⟨its, rv, pl, hz⟩ := I.list hl
  have ei : its = L.map fun p => Value.ref p.1 := by
    clear hl ht few q hz pl
    induction L generalizing its with
    | nil => cases rv; rfl
    | cons p L ih =>
      cases rv with
      | cons r t =>
        cases r
        rw [ih _ t]
        rfl
  have keys : ∀ (i : Nat) (v : Value), its.toArray[i]? = some v → ∃ k b, (L.map fun p => keyP p.2)[i]? = some k ∧ v = .ref b ∧ InL L k b := fun i v hv => by
    have h2 : its[i]? = some v := by simpa using hv
    rw [ei, List.getElem?_map] at h2
    obtain ⟨p, hp, e⟩ := Option.map_eq_some_iff.mp h2
    exact ⟨keyP p.2, p.1, by rw [List.getElem?_map, hp]; rfl, e.symm, p.2, List.mem_of_getElem? hp, rfl⟩
  refine call_set_M (knd := tupleKind (mixKind X.prog X.w)) (B := InL L) (ks := L.map fun p => keyP p.2) mixMem (I.ok.hd calm) pl.isList (by rw [List.size_toArray, ei, List.length_map, List.length_map]) (by rw [List.length_map]; exact few)
    (fun A' le => by show A'.units < cLine; omega) (fun k b ⟨x, m, e⟩ => by rw [e]; exact (isP I (ht _ m)).1) keys fun h' tk us R mem kp => ?_
  have eu := un_keys fun k m => (mem k).mp m
  refine ⟨.ref s.heap.objs.size, upd H s.heap.objs.size (SetPr X.prog X.w L s.heap.objs.size (us.map unP)), I.laid (t' := tk) kp (Nat.le_refl _) ?_, rfl, q _ (us.map unP) hn ?_ fun x => ?_⟩
  · refine ⟨by show TSet _ _ _ _ _; rw [eu]; exact R, ?_, fun _ _ z k => TSet.at z k⟩
    obtain ⟨_, _, _, _, R1, _⟩ := R
    obtain ⟨o, ho, _⟩ := R1.here
    exact ⟨o, ho⟩
  · have nd := R.nodup
    rw [← eu] at nd
    exact List.Pairwise.of_map keyP (fun _ _ ne e => ne (congrArg keyP e)) nd
  · constructor
    · intro m
      obtain ⟨k, hk, e⟩ := List.mem_map.mp m
      obtain ⟨p, hp, e2⟩ := List.mem_map.mp ((mem k).mp hk)
      rw [← e, ← e2]
      exact List.mem_map.mpr ⟨p, hp, rfl⟩
    · intro m
      obtain ⟨p, hp, e⟩ := List.mem_map.mp m
      exact List.mem_map.mpr ⟨keyP p.2, (mem _).mpr (List.mem_map.mpr ⟨p, hp, rfl⟩), e⟩
/-- sorted(s), s such a set -/
def rSortedPr (K : PySem.W.Frag) (P : Program) (w : World) : List V → Hp → VK → Prop := fun xs H Q => ∃ (a : Addr) (L : List (Addr × Str)) (us : List Str), xs = [.ref a] ∧ H a = some (SetPr P w L a us) ∧ (∀ p ∈ L, SqT K H p.1 (vP p.2)) ∧
  ∀ (p : Addr) (M : List (Addr × Str)), H p = none → (∀ m ∈ M, m ∈ L) → (M.map (·.2)).Perm us → (M.map (·.2)).Pairwise leA → Q (.ref p) (upd H p (.lst (M.map fun m => V.ref m.1)))
theorem each_pairs {L : List (Addr × Str)} : ∀ {out : List Value} {cs : List (List Key)}, PySem.W.EachIs (At (InL L)) out cs → ∃ M : List (Addr × Str), (∀ m ∈ M, m ∈ L) ∧ out = M.map (fun m => Value.ref m.1) ∧ cs = M.map fun m => keyP m.2
  | _, _, .nil => ⟨[], (fun _ m => nomatch m), rfl, rfl⟩
  | _, _, .cons ⟨b, e1, x, m, e2⟩ t => by
    obtain ⟨M, h1, h2, h3⟩ := each_pairs t
    refine ⟨(b, x) :: M, fun y my => ?_, by rw [List.map_cons, ← h2, e1], by rw [List.map_cons, ← h3, e2]⟩
    rcases List.mem_cons.mp my with e | my
    · rw [e]
      exact m
    · exact h1 y my
theorem call_sortedPr (calm : X.calm = true) (hu : X.A.units + 64 < cLine) : CallR X (.builtin "sorted") (rSortedPr X.K X.prog X.w) := by
  intro pins s σ H xs us Q I r h
  obtain ⟨a, L, ks, rfl, ha, ht, q⟩ := h
  have R : TSet (tupleKind (mixKind X.prog X.w)) (InL L) s.heap a (ks.map keyP) := (I.hok a _ ha).1
  rw [Vals.ref1 r]
  have shape : ∀ d ∈ (ks.map keyP).map encP, ∃ x : Str, d = .tuple [.int (x.length : Int), .str x] := fun d m => by
    obtain ⟨k, hk, e⟩ := List.mem_map.mp m
    obtain ⟨x, _, e2⟩ := List.mem_map.mp hk
    exact ⟨x, by rw [← e, ← e2]; rfl⟩
  refine tset_sorted R (I.ok.hd calm) encP (fun k b _ ⟨x, m, e⟩ => by rw [e]; exact (isP I (ht _ m)).2) (fun d m d' m' => ?_) (.inl fun d m => ?_) (fun k m => ?_) fun s' p out c cs kp g o hp hg ev pm pw => ?_
  · obtain ⟨x, rfl⟩ := shape d m
    obtain ⟨y, rfl⟩ := shape d' m'
    rfl
  · obtain ⟨x, rfl⟩ := shape d m
    exact ⟨_, _, rfl⟩
  · obtain ⟨x, _, rfl⟩ := List.mem_map.mp m
    show X.A.units + 2 + 1 < cLine
    omega
  · obtain ⟨M, h1, h2, h3⟩ := each_pairs ev
    have hn : H p = none := I.hok.fresh hp
    have few : (ks.map keyP).length ≤ 4000 := by
      obtain ⟨ls, _, _, _, R1, pm1⟩ := R
      rw [← pm1.length_eq]
      exact R1.few
    have lenM : M.length ≤ 4000 := by
      have z := pm.length_eq
      rw [h3, List.length_map] at z
      omega
    have hlen : (M.map fun m => V.ref m.1).length ≤ sizeLine := by
      rw [List.length_map, sizeLine_eq]
      omega
    have hv : Vals (M.map fun m => V.ref m.1) out := by
      rw [h2]
      clear h1 h2 h3 lenM hlen ev
      induction M with
      | nil => exact .nil
      | cons m M ih => exact .cons rfl ih
    have J : Inv X pins σ (upd H p (.lst (M.map fun m => V.ref m.1))) { s with heap := s'.heap, gens := s'.gens, drawn := s'.drawn, toks := s'.toks } :=
      I.call (ch := []) (Un.laid kp hp hn) (I.hok.laid kp hp ⟨hlen, out, c, hv, hg⟩) (by rw [g]; exact I.bare) (fun _ z => nomatch z)
    have e : s' = { s with heap := s'.heap, gens := s'.gens, drawn := s'.drawn, toks := s'.toks } := by
      cases s'
      cases s
      cases o
      rfl
    rw [e]
    refine ⟨.ref p, _, J, rfl, q p M hn h1 ?_ ?_⟩
    · rw [h3] at pm
      have z := pm.map unP
      rw [List.map_map, List.map_map] at z
      have e1 : (unP ∘ fun m : Addr × Str => keyP m.2) = fun m => m.2 := rfl
      have e2 : ks.map (unP ∘ keyP) = ks := (List.map_congr_left fun _ _ => rfl).trans (List.map_id _)
      rw [e1, e2] at z
      exact z
    · rw [h3, List.pairwise_map] at pw
      rw [List.pairwise_map]
      exact pw.imp fun h => leP h
end
end Lk

/-! DctN0 -/
set_option Elab.async false
set_option maxRecDepth 100000
set_option linter.all false
set_option maxHeartbeats 4000000
namespace Lk
open PySem PySem.Spec PyProof.Rows L2
/-! ### dicts whose keys are pairs of a text and a tuple of numbers -/
abbrev NK := Str × List Nat
def nk (p : NK) : NestedKey := .tup [.text p.1, .tup (p.2.map fun n : Nat => .num (n : Int))]
theorem nums_inj : ∀ {a b : List Nat}, (a.map fun n : Nat => NestedKey.num (n : Int)) = b.map (fun n : Nat => NestedKey.num (n : Int)) → a = b
  | [], [], _ => rfl
  | [], _ :: _, e => nomatch e
  | _ :: _, [], e => nomatch e
  | x :: xs, y :: ys, e => by
    rw [List.map_cons, List.map_cons] at e
    injection e with e1 e2
    injection e1 with e1
    rw [nums_inj e2]
    congr 1
    exact Int.ofNat.inj e1
theorem nk_inj {p q : NK} (h : nk p = nk q) : p = q := by
  obtain ⟨a, b⟩ := p
  obtain ⟨c, d⟩ := q
  unfold nk at h
  injection h with h
  injection h with h1 h2
  injection h1 with h1
  injection h2 with h2 _
  injection h2 with h2
  have e1 : a = c := h1
  have e2 : b = d := nums_inj h2
  rw [e1, e2]
theorem nums_depth : ∀ ns : List Nat, NestedKey.depthAll (ns.map fun n : Nat => NestedKey.num (n : Int)) = 0
  | [] => rfl
  | x :: xs => by
    rw [List.map_cons, NestedKey.depthAll, nums_depth xs]
    rfl
theorem nk_depth (p : NK) : (nk p).depth ≤ 8 := by
  unfold nk
  simp [NestedKey.depth, NestedKey.depthAll, nums_depth]
def KeyAt (H : Hp) (b : Addr) (p : NK) : Prop := ∃ t, H b = some (.tup [.str p.1, .ref t]) ∧ H t = some (.tup (p.2.map fun n : Nat => V.int (n : Int)))
theorem KeyAt.keeps {H H' : Hp} {b : Addr} {p : NK} (h : KeyAt H b p) (k : ∀ c xs, H c = some (.tup xs) → H' c = some (.tup xs)) : KeyAt H' b p := by
  obtain ⟨t, h1, h2⟩ := h
  exact ⟨t, k _ _ h1, k _ _ h2⟩
theorem nested_nums {h : Heap} : ∀ {ns : List Nat} {us : List Value}, Vals (ns.map fun n : Nat => V.int (n : Int)) us → NestedAll h (ns.map fun n : Nat => NestedKey.num (n : Int)) us
  | [], _, r => by
    cases r
    exact .nil
  | n :: ns, _, r => by
    rw [List.map_cons] at r
    cases r with
    | cons h1 t =>
      obtain ⟨tk, rfl⟩ := (show ∃ t, _ = Value.int (n : Int) t from h1)
      rw [List.map_cons]
      exact .cons (.int _ tk) (nested_nums t)
section
variable {P : Program} {w : World} {H : Hp} {h : Heap} {a b d : Addr}
theorem keyN {p : NK} (ok : HOk P w H h) (e : KeyAt H b p) : (nestedKind P w).is h (nk p) b := by
  obtain ⟨t, e1, e2⟩ := e
  obtain ⟨_, its, r, o, h1, h2, n, h3⟩ := (show ObjOk P w H h b (.tup [.str p.1, .ref t]) from ok b _ e1)
  obtain ⟨_, its2, r2, o2, g1, g2, n2, g3⟩ := (show ObjOk P w H h t (.tup (p.2.map fun n : Nat => V.int (n : Int))) from ok t _ e2)
  refine ⟨?_, nk_depth p⟩
  cases r with
  | cons r1 r =>
    cases r with
    | cons r3 r =>
      cases r
      obtain ⟨tk, rfl⟩ := (show ∃ t, _ = Value.str p.1 t from r1)
      cases (show _ = Value.ref t from r3)
      exact .tup h1 h2 h3 (.cons (.text _ tk) (.cons (.tup g1 g2 g3 (by simpa using nested_nums r2)) .nil))
def DN (P : Program) (w : World) (d : Addr) (xs : List (NestedKey × Addr × Value)) : HO :=
  .ext fun h => (d == sysModules) = false ∧ ∃ o es ep, h.get? d = some o ∧ o.ExactDict ∧ o.data = .dict es ep ∧ es.toList = xs.map (entryOfKey (nestedKind P w)) ∧ (xs.map (·.1)).Nodup
abbrev KN (H : Hp) : List (NK × V) → List (NestedKey × Addr × Value) → Prop := Paired fun p q => q.1 = nk p.1 ∧ KeyAt H q.2.1 p.1 ∧ RelV p.2 q.2.2
def NAt (P : Program) (w : World) (H : Hp) (d : Addr) (kvs : List (NK × V)) : Prop := kvs.length ≤ sizeLine ∧ ((kvs = [] ∧ H d = some (.dK [])) ∨ ∃ xs, H d = some (DN P w d xs) ∧ KN H kvs xs)
theorem KN.val {H : Hp} {kvs : List (NK × V)} {xs : List (NestedKey × Addr × Value)} (r : KN H kvs xs) (k : NK) : RelO (valV kvs k) ((atKey xs (nk k)).map (·.2)) := by
  induction r with
  | nil => exact True.intro
  | @cons p q ps qs h t ih =>
    obtain ⟨h1, _, h2⟩ := h
    by_cases e : p.1 = k
    · have e' : q.1 = nk k := h1.trans (congrArg nk e)
      have b : atKey (q :: qs) (nk k) = some q.2 := by simp [atKey, List.find?_cons, e']
      rw [valV_pos e, b]; exact h2
    · have e' : ¬ q.1 = nk k := fun z => e (nk_inj (h1.symm.trans z))
      have b : atKey (q :: qs) (nk k) = atKey qs (nk k) := by simp [atKey, List.find?_cons, e']
      rw [valV_neg e, b]; exact ih
theorem KN.repl {H : Hp} {kvs : List (NK × V)} {xs : List (NestedKey × Addr × Value)} (r : KN H kvs xs) (k : NK) {y : V} {u : Value} (ry : RelV y u) :
    KN H (kvs.map fun kv => if kv.1 = k then (kv.1, y) else kv) (xs.map (putAt (nk k) u)) := by
  induction r with
  | nil => exact .nil
  | @cons p q ps qs h t ih =>
    rw [List.map_cons, List.map_cons]
    refine .cons ?_ ih
    obtain ⟨h1, h2, h3⟩ := h
    unfold putAt
    by_cases e : p.1 = k
    · rw [if_pos e, if_pos (h1.trans (congrArg nk e))]; exact ⟨h1, h2, ry⟩
    · rw [if_neg e, if_neg (fun z => e (nk_inj (h1.symm.trans z)))]; exact ⟨h1, h2, h3⟩
theorem KN.put {H : Hp} {kvs : List (NK × V)} {xs : List (NestedKey × Addr × Value)} (r : KN H kvs xs) (k : NK) {b : Addr} {y : V} {u : Value} (hb : KeyAt H b k) (ry : RelV y u) :
    KN H (putK kvs k y) (storedH xs (nk k) b u) := by
  have e : (kvs.any fun kv => decide (kv.1 = k)) = (atKey xs (nk k)).isSome := by
    rw [valV_any, (r.val k).isSome_eq, Option.isSome_map]
  unfold putK storedH
  rw [e]
  by_cases q : (atKey xs (nk k)).isSome = true
  · rw [if_pos q, if_pos q]; exact r.repl k ry
  · rw [if_neg q, if_neg q]; exact Paired.snoc r ⟨rfl, hb, ry⟩
theorem KN.keeps {H H' : Hp} {kvs : List (NK × V)} {xs : List (NestedKey × Addr × Value)} (r : KN H kvs xs) (ht : ∀ b ys, H b = some (.tup ys) → H' b = some (.tup ys)) : KN H' kvs xs :=
  Paired.mapP r fun _ _ z => ⟨z.1, z.2.1.keeps ht, z.2.2⟩
theorem n_of {kvs : List (NK × V)} (ok : HOk P w H h) (g : NAt P w H d kvs) : (d == sysModules) = false ∧ ∃ xs, KN H kvs xs ∧ h.DictOfH (nestedKind P w) d xs := by
  obtain ⟨_, ⟨rfl, e⟩ | ⟨xs, e, r⟩⟩ := g
  · obtain ⟨_, hd, vs, rel, o, es, ep, h1, h2, h3, _, h5, _⟩ := dk_of ok e
    cases rel
    refine ⟨hd, [], .nil, o, es, ep, h1, h2, h3, ?_, (fun x hx => nomatch hx), List.nodup_nil⟩
    generalize es.toList = l at h5
    cases h5
    rfl
  · obtain ⟨⟨hd, o, es, ep, h1, h2, h3, h4, h5⟩, _⟩ := (show ObjOk P w H h d (DN P w d xs) from ok d _ e)
    refine ⟨hd, xs, r, o, es, ep, h1, h2, h3, h4, fun x hx => ?_, h5⟩
    have all : ∀ {l : List (NK × V)} {m : List (NestedKey × Addr × Value)}, KN H l m → ∀ x ∈ m, (nestedKind P w).is h x.1 x.2.1 := by
      intro l m q
      induction q with
      | nil => intro x hx; exact nomatch hx
      | @cons p q ps qs hq t ih =>
        intro x hx
        rcases List.mem_cons.mp hx with e | hx
        · subst e
          rw [hq.1]
          exact keyN ok hq.2.1
        · exact ih x hx
    exact all r x hx
theorem NAt.mut {kvs : List (NK × V)} (g : NAt P w H d kvs) : Mut (H d) := by
  obtain ⟨_, ⟨_, e⟩ | ⟨xs, e, _⟩⟩ := g
  · rw [e]
    exact True.intro
  · rw [e]
    exact True.intro
theorem NAt.notup {kvs : List (NK × V)} (g : NAt P w H d kvs) {ys : List V} : H d ≠ some (.tup ys) := by
  obtain ⟨_, ⟨_, e⟩ | ⟨xs, e, _⟩⟩ := g
  · rw [e]
    exact fun z => nomatch z
  · rw [e]
    exact fun z => nomatch z
theorem NAt.same {H' : Hp} {kvs : List (NK × V)} (g : NAt P w H d kvs) (hd : ∀ o, H d = some o → H' d = some o) (ht : ∀ b ys, H b = some (.tup ys) → H' b = some (.tup ys)) : NAt P w H' d kvs := by
  obtain ⟨z, ⟨e0, e⟩ | ⟨xs, e, r⟩⟩ := g
  · exact ⟨z, .inl ⟨e0, hd _ e⟩⟩
  · exact ⟨z, .inr ⟨xs, hd _ e, r.keeps ht⟩⟩
theorem NAt.new (e : H d = some (.dK [])) : NAt P w H d [] := ⟨Nat.zero_le _, .inl ⟨rfl, e⟩⟩
end
section
variable {X : Cx} {pins : List (Addr × Obj)} {σ : L2.St} {H : Hp} {s : Shared} {a b : Addr} {p : NK} {kvs : List (NK × V)} {v : V} {u r : Value} {A : Around} {E : Value → Shared → Prop}
theorem n_getItem {Q : Value → Shared → Prop} (hu : A.units + 9 < cLine) (I : Inv X pins σ H s) (g : NAt X.prog X.w H a kvs) (kb : KeyAt H b p) (hv : valV kvs p = some v) (h : ∀ w' s', Inv X pins σ H s' → RelV v w' → Q w' s') :
    wpAny (model X.prog X.w) A (getItem (.ref a) (.ref b)) Q E s := by
  obtain ⟨hd, xs, rel, dd⟩ := n_of I.hok g
  obtain ⟨w', hw, rw'⟩ := RelO.some_of (v := v) (o := (atKey xs (nk p)).map (·.2)) (by rw [← hv]; exact rel.val p)
  obtain ⟨q, hp, hp2⟩ := Option.map_eq_some_iff.mp hw
  refine wpAny_getItem_heap (show (nestedKind X.prog X.w).room A.in1 from (by show A.units + 1 + 8 < cLine; omega)) (keyN I.hok kb) dd hp ?_
  rw [hp2]
  exact h w' _ (I.tok _) rw'
theorem n_notIn {Q : Value → Shared → Prop} (hu : A.units + 9 < cLine) (I : Inv X pins σ H s) (g : NAt X.prog X.w H a kvs) (kb : KeyAt H b p) (h : ∀ s', Inv X pins σ H s' → Q (.bool (!(valV kvs p).isSome)) s') :
    wpAny (model X.prog X.w) A (compareOp .NotIn (.ref b) (.ref a)) Q E s := by
  obtain ⟨hd, xs, rel, dd⟩ := n_of I.hok g
  refine wpAny_notIn_heap (show (nestedKind X.prog X.w).room A.in1 from (by show A.units + 1 + 8 < cLine; omega)) (keyN I.hok kb) hd dd ?_
  have q := (rel.val p).isSome_eq
  rw [Option.isSome_map] at q
  rw [← q]
  exact h _ (I.tok _)
theorem n_setItem {Q : Unit → Shared → Prop} (hu : A.units + 9 < cLine) (I : Inv X pins σ H s) (g : NAt X.prog X.w H a kvs) (hl : kvs.length < sizeLine) (kb : KeyAt H b p) (rv : RelV v r)
    (h : ∀ o s', NAt X.prog X.w (upd H a o) a (putK kvs p v) → Inv X pins σ (upd H a o) s' → Q () s') : wpAny (model X.prog X.w) A (setItem (.ref a) (.ref b) r) Q E s := by
  obtain ⟨hd, xs, rel, dd⟩ := n_of I.hok g
  have hz : xs.length ≤ sizeLine := by rw [← Paired.length rel]; exact Nat.le_of_lt hl
  refine wpAny_setItem_heap (hsz := hz) (show (nestedKind X.prog X.w).room A.in1 from (by show A.units + 1 + 8 < cLine; omega)) (keyN I.hok kb) dd fun h' dd' hs => ?_
  obtain ⟨q, es, ep, hq, h2, h3, h4, _, h5⟩ := dd'
  have keep : ∀ c ys, H c = some (.tup ys) → upd H a (DN X.prog X.w a (storedH xs (nk p) b r)) c = some (.tup ys) := fun c ys ec => by
    have ne : c ≠ a := fun z => g.notup (z ▸ ec)
    rw [upd_ne ne]
    exact ec
  refine h (DN X.prog X.w a (storedH xs (nk p) b r)) _ ⟨?_, .inr ⟨_, upd_same, (rel.put p kb rv).keeps keep⟩⟩ (d_write I g.mut hs ⟨q, hq⟩ ⟨⟨hd, q, es, ep, hq, h2, h3, h4, h5⟩, ⟨q, hq⟩, ?_⟩)
  · have := length_putK kvs p v
    omega
  · rintro h1 h2' ⟨e0, o, es, ep, x1, x2⟩ k
    exact ⟨e0, o, es, ep, k _ x1, x2⟩
end
/-- d[y], y not in d, d[y] = v -/
def tNGet (P : Program) (w : World) (td ty : TE) : TE := fun σ H Q => td σ H fun x H1 => ty σ H1 fun y H2 => ∃ a b p kvs v, x = .ref a ∧ y = .ref b ∧ NAt P w H2 a kvs ∧ KeyAt H2 b p ∧ valV kvs p = some v ∧ Q v H2
def tNNotIn (P : Program) (w : World) (ty td : TE) : TE := fun σ H Q => ty σ H fun y H1 => td σ H1 fun x H2 => ∃ a b p kvs, x = .ref a ∧ y = .ref b ∧ NAt P w H2 a kvs ∧ KeyAt H2 b p ∧ Q (.bl (!(valV kvs p).isSome)) H2
def sNPut (P : Program) (w : World) (td ty tv : TE) : TS := fun D σ H => tv σ H fun v H1 => td σ H1 fun x H2 => ty σ H2 fun y H3 => ∃ a b p kvs, x = .ref a ∧ y = .ref b ∧ NAt P w H3 a kvs ∧ KeyAt H3 b p ∧ kvs.length < sizeLine ∧
  ∀ o, NAt P w (upd H3 a o) a (putK kvs p v) → D.nx σ (upd H3 a o)
section
variable {X : Cx} {o i value : Expr} {td ty tv : TE} {pos pos' : Pos}
theorem pe_nget (hu : X.A.units + 9 < cLine) (ho : PE X o td) (hi : PE X i ty) (hs : NoSl i) : PE X (.Subscript o i pos) (tNGet X.prog X.w td ty) := by
  refine ⟨fun pins s σ H Q I h => ?_⟩
  refine subD_of PySem.F.slot_dict_getitem.lookup hs (thn (ho.run pins s σ H _ I h) fun u s1 ⟨x, H1, I1, rx, q1⟩ => thn (hi.run pins s1 σ H1 _ I1 q1) fun iv s2 ⟨y, H2, I2, ry, a, b, p, kvs, v, ex, ey, g, kb, hv, q2⟩ => ?_)
  subst ex ey
  obtain rfl : u = Value.ref a := rx
  obtain rfl : iv = Value.ref b := ry
  obtain ⟨_, xs, _, dd⟩ := n_of I2.hok g
  exact ⟨dd.typeIs, n_getItem hu I2 g kb hv fun w' s3 I3 rw' => ⟨v, H2, I3, rw', q2⟩⟩
theorem pc_nnotin (hu : X.A.units + 9 < cLine) (hi : PE X i ty) (ho : PE X o td) : PC X .NotIn i o (tNNotIn X.prog X.w ty td) := by
  refine ⟨fun pins s σ H Q I h => ?_⟩
  refine thn (hi.run pins s σ H _ I h) fun iv s1 ⟨y, H1, I1, ry, q1⟩ => thn (ho.run pins s1 σ H1 _ I1 q1) fun u s2 ⟨x, H2, I2, rx, a, b, p, kvs, ex, ey, g, kb, q2⟩ => ?_
  subst ex ey
  obtain rfl : u = Value.ref a := rx
  obtain rfl : iv = Value.ref b := ry
  exact n_notIn hu I2 g kb fun s3 I3 => ⟨.bl (!(valV kvs p).isSome), H2, I3, rfl, q2⟩
theorem ps_nput (hu : X.A.units + 9 < cLine) (ho : PE X o td) (hi : PE X i ty) (hv : PE X value tv) (hs : swapsWith value (some (.Subscript o i pos')) pos.line X.env = pure false) :
    PS X (.Assign [.Subscript o i pos'] value pos) (sNPut X.prog X.w td ty tv) := by
  refine ⟨fun pins s σ H D I h => ?_⟩
  refine wpAny_Assign_Subscript (thn (hv.run pins s σ H _ I h) fun r s1 ⟨v, H1, I1, rv, q1⟩ => thn (ho.run pins s1 σ H1 _ I1 q1) fun u s2 ⟨x, H2, I2, rx, q2⟩ => thn (hi.run pins s2 σ H2 _ I2 q2) fun iv s3 ⟨y, H3, I3, ry, a, b, p, kvs, ex, ey, g, kb, hl, q3⟩ => ?_) hs
  subst ex ey
  obtain rfl : u = Value.ref a := rx
  obtain rfl : iv = Value.ref b := ry
  exact n_setItem hu I3 g hl kb rv fun o s4 g4 I4 => ⟨σ, _, I4, q3 o g4⟩
end
end Lk

/-! Obj0 -/
set_option Elab.async false
set_option maxRecDepth 100000
set_option linter.all false
set_option maxHeartbeats 4000000
namespace Lk
open PySem PySem.Spec PyProof.Rows L2
/-! ### own classes: their methods, called -/
/-- a method of the class at C, as it stands behind the top -/
structure DefM (K : PySem.W.Frag) (C : Addr) (m qn : String) (st : Stmt) : Prop where
  ex : ∃ (f : Addr) (fd : FuncData), L2.Fun K m qn st f fd ∧ Meth K C m f
/-- a class that is made by its own __init__ -/
structure Kls (K : PySem.W.Frag) (mg : Str → Option Value) (x : String) (C : Addr) : Prop where
  cl : Cls K C
  makes : PySem.W.makesIn K C = true
  kp : PySem.W.keepIn K (.ref C) = true
  mgC : mg x = some (.ref C)
/-- a method that may be called, with its promise -/
structure MCal (P : Program) (w : World) (K : PySem.W.Frag) (mg : Str → Option Value) (base : Heap) (C : Addr) (k : Nat) (m : String) (sp : Sp) : Prop where
  ex : ∃ (f : Addr) (fd : FuncData) (ps : List Str), FnOk P w K mg base CX0 k f fd ps sp ∧ Meth K C m f ∧ Binds K fd ps []
section
variable {P : Program} {w : World} {K : PySem.W.Frag} {mg : Str → Option Value} {base : Heap} {C : Addr}
theorem mkMCal {m qn : String} {st : Stmt} {N ps : List Str} {k : Nat} {sp : Sp} (D : DefM K C m qn st) (S : FnScope N ps (defScope st))
    (hb : ∀ (kV doc pm : Value) (an : Option Addr) (cdv ct : Value) (us : List Value), us.length = ps.length → bindArgs (PySem.W.fnOf m qn (defArgs st) (defBody st) (defScope st) .none kV doc pm an cdv ct) ⟨us, []⟩ = pure (ps.zip us))
    (len : ∀ vs H Q E, sp vs H Q E → vs.length = ps.length)
    (hbody : ∀ (f : Addr) (cdv : Value) (A : Around) (outer : List Env) (s : Shared) (H : Hp) (vs : List V) (Q : VK) (E : XK), Room k (A.deeper (envOfC qn (defScope st) s.heap.objs.size f cdv)) → sp vs H Q E →
      ∃ t, PSs (cxOf CX0 P w K mg base N qn (defScope st) f cdv A outer s H E).nox (defBody st) t ∧ t { nx := fun _ H' => Q .non H', rt := Q } (start N vs) H) : MCal P w K mg base C (k + 1) m sp := by
  obtain ⟨f, fd, F, m⟩ := D.ex
  exact ⟨f, fd, ps, F.ok S len fun cdv A outer s H vs Q E hr h => hbody f cdv A outer s H vs Q E hr h, m, F.binds hb⟩
theorem MCal.imp {m : String} {k : Nat} {sp sp' : Sp} (c : MCal P w K mg base C k m sp) (h : ∀ vs H Q E, sp' vs H Q E → sp vs H Q E) : MCal P w K mg base C k m sp' := by
  obtain ⟨f, fd, ps, F, a, b⟩ := c.ex
  exact ⟨f, fd, ps, F.imp h, a, b⟩
theorem MCal.mono {m : String} {j k : Nat} {sp : Sp} (c : MCal P w K mg base C j m sp) (h : j ≤ k) : MCal P w K mg base C k m sp := by
  obtain ⟨f, fd, ps, F, a, b⟩ := c.ex
  exact ⟨f, fd, ps, F.mono h, a, b⟩
/-- a promise that nobody can ask for -/
theorem mcal_never {m qn : String} {st : Stmt} {ps : List Str} {k : Nat} {sp : Sp} (D : DefM K C m qn st)
    (hb : ∀ (kV doc pm : Value) (an : Option Addr) (cdv ct : Value) (us : List Value), us.length = ps.length → bindArgs (PySem.W.fnOf m qn (defArgs st) (defBody st) (defScope st) .none kV doc pm an cdv ct) ⟨us, []⟩ = pure (ps.zip us))
    (no : ∀ vs H Q E, ¬ sp vs H Q E) : MCal P w K mg base C k m sp := by
  obtain ⟨f, fd, F, m⟩ := D.ex
  exact ⟨f, fd, ps, ⟨fun vs H Q E h => absurd h (no vs H Q E), fun A outer s H args us vs Q E _ _ _ _ h => absurd h (no vs H Q E)⟩, m, F.binds hb⟩
theorem Cal.mono {x : String} {j k : Nat} {sp : Sp} (c : Cal P w K mg base j x sp) (h : j ≤ k) : Cal P w K mg base k x sp := by
  obtain ⟨f, fd, ps, F, a, b, d⟩ := c.ex
  exact ⟨f, fd, ps, F.mono h, a, b, d⟩
theorem cal_never {x : String} {st : Stmt} {ps : List Str} {k : Nat} {sp : Sp} (D : Def1 K mg x st)
    (hb : ∀ (kV doc pm : Value) (an : Option Addr) (cdv ct : Value) (us : List Value), us.length = ps.length → bindArgs (PySem.W.fnOf x x (defArgs st) (defBody st) (defScope st) .none kV doc pm an cdv ct) ⟨us, []⟩ = pure (ps.zip us))
    (no : ∀ vs H Q E, ¬ sp vs H Q E) : Cal P w K mg base k x sp := by
  obtain ⟨f, fd, F, m⟩ := D.ex
  exact ⟨f, fd, ps, ⟨fun vs H Q E h => absurd h (no vs H Q E), fun A outer s H args us vs Q E _ _ _ _ h => absurd h (no vs H Q E)⟩, m, F.kp, F.binds hb⟩
end
theorem u9 {k : Nat} {A : Around} (r : Room k A) : A.units + 9 < cLine := by
  have := r.units
  omega
section
variable {X : Cx} {k j : Nat} {C : Addr} {m x : String} {sp : Sp} {p pos apos : Pos} {o e : Expr} {es : List Expr} {ta : TE} {t : TA}
theorem pe_mcal {pl : Sem Bool} (c : MCal X.prog X.w X.K X.mg X.base C k m sp) (cl : Cls X.K C) (hr : Room j X.A) (hk : k ≤ j) (he : PE X o ta) (ha : PA X (e :: es) t)
    (hst : starEach (e :: es) X.env = (false, eval e X.env) :: starEach es X.env := by rfl) (hpl : (backTo pos (starEach es X.env)).any (·.1) = false := by rfl)
    (ht : eval (.Call (.Attribute o m apos) (e :: es) [] pos) X.env = (do
      let ov ← eval o X.env
      standAt apos.atName
      let (f, first) ← holding [ov] (getMethod ov m pl)
      callWith pos f first (backTo pos (starEach (e :: es) X.env)) (backToKw pos (keywordEach [] X.env))) := by rfl) :
    PE X (.Call (.Attribute o m apos) (e :: es) [] pos) (tMeth C m sp [] E0 ta t) := by
  obtain ⟨f, fd, ps, F, hm, b⟩ := c.ex
  exact pe_meth he cl hm F (hr.mono hk) b .nil pass0 ha hst hpl ht
theorem pe_mcal0 {pl : Sem Bool} (c : MCal X.prog X.w X.K X.mg X.base C k m sp) (cl : Cls X.K C) (hr : Room j X.A) (hk : k ≤ j) (he : PE X o ta)
    (ht : eval (.Call (.Attribute o m apos) [] [] pos) X.env = (do
      let ov ← eval o X.env
      standAt apos.atName
      let (f, first) ← holding [ov] (getMethod ov m pl)
      callWith pos f first (backTo pos (starEach [] X.env)) (backToKw pos (keywordEach [] X.env))) := by rfl) :
    PE X (.Call (.Attribute o m apos) [] [] pos) (tMeth C m sp [] E0 ta tNil) := by
  obtain ⟨f, fd, ps, F, hm, b⟩ := c.ex
  exact pe_meth0 he cl hm F (hr.mono hk) b .nil pass0 ht
theorem pe_new (c : MCal X.prog X.w X.K X.mg X.base C k "__init__" sp) (Z : Kls X.K X.mg x C) (hr : Room j X.A) (hk : k + 1 ≤ j) (ha : PA X (e :: es) t) (hg : Gl X x := by rfl)
    (hdb : ((x : Str) == ("__debug__" : Str)) = false := by decide) (he : starEach (e :: es) X.env = (false, eval e X.env) :: starEach es X.env := by rfl) (hpl : (backTo pos (starEach es X.env)).any (·.1) = false := by rfl) :
    PE X (.Call (.Name x p) (e :: es) [] pos) (tMake C sp [] E0 t) := by
  obtain ⟨f, fd, ps, F, hm, b⟩ := c.ex
  exact pe_make ⟨Z.makes, hm.at_, hm.fn, Z.kp⟩ F (hr.mono hk) hg Z.mgC b .nil pass0 ha hdb he hpl
end
/-! within a comprehension: the reading speaks of K, not of the frame's own -/
theorem inL {X : Cx} {K : PySem.W.Frag} {tg l : Expr} {tl : TE} (h : PE X l tl) (e : X.K = K := by rfl) : PI X tg l (iList K tl) := e ▸ pi_list h
theorem inT {X : Cx} {K : PySem.W.Frag} {tg l : Expr} {tl : TE} (h : PE X l tl) (e : X.K = K := by rfl) : PI X tg l (iTup K tl) := e ▸ pi_tup h
/-! ### data of tuples and texts alone: it stands while one other thing is written -/
mutual
def onlyT : PyData → Bool
  | .none | .bool _ | .int _ | .str _ => true
  | .list _ => false
  | .tuple xs => onlyTs xs
  | .dict _ => false
def onlyTs : List PyData → Bool
  | [] => true
  | x :: xs => onlyT x && onlyTs xs
end
theorem onlyTs_all : ∀ {ds : List PyData}, onlyTs ds = true ↔ ∀ d ∈ ds, onlyT d = true
  | [] => ⟨(fun _ _ m => nomatch m), (fun _ => rfl)⟩
  | d :: ds => by
    rw [onlyTs, Bool.and_eq_true, onlyTs_all]
    exact ⟨fun h e m => (List.mem_cons.mp m).elim (fun z => z ▸ h.1) (h.2 e), fun h => ⟨h d List.mem_cons_self, fun e m => h e (List.mem_cons_of_mem _ m)⟩⟩
/-- all tuples and all that is locked stand -/
def Tups (H H' : Hp) : Prop := (∀ b xs, H b = some (.tup xs) → H' b = some (.tup xs)) ∧ ∀ b o u, H b = some (.frz o u) → H' b = some (.frz o u)
theorem Tups.seqT {K : PySem.W.Frag} {H H' : Hp} {a : Addr} {xs : List V} (t : Tups H H') (h : SqT K H a xs) : SqT K H' a xs := by
  rcases h with (h | ⟨o, h⟩) | h
  · exact .inl (.inl (t.1 _ _ h))
  · exact .inl (.inr ⟨o, t.2 _ _ _ h⟩)
  · exact .inr h
theorem Same.tups {H H' : Hp} (s : Same H H') : Tups H H' := ⟨fun b xs h => s _ _ h, fun b o u h => s _ _ h⟩
theorem Tups.trans {H H1 H2 : Hp} (a : Tups H H1) (b : Tups H1 H2) : Tups H H2 := ⟨fun c xs h => b.1 _ _ (a.1 _ _ h), fun c o u h => b.2 _ _ _ (a.2 _ _ _ h)⟩
theorem But.tups {d : Addr} {H H' : Hp} (b : But d H H') (h1 : ∀ ys, H d ≠ some (.tup ys)) (h2 : ∀ o u, H d ≠ some (.frz o u)) : Tups H H' :=
  ⟨fun c xs h => b _ _ h fun z => h1 xs (z ▸ h), fun c o u h => b _ _ h fun z => h2 o u (z ▸ h)⟩
theorem th_tups {K : PySem.W.Frag} {H H' : Hp} (t : Tups H H') {v : V} {d : PyData} (h : Th K H v d) : onlyT d = true → Th K H' v d := by
  refine Th.rec (motive_1 := fun v d _ => onlyT d = true → Th K H' v d) (motive_2 := fun vs ds _ => onlyTs ds = true → ThAll K H' vs ds) ?_ ?_ ?_ ?_ ?_ ?_ ?_ ?_ ?_ h
  · exact fun _ => .non
  · exact fun b _ => .bl b
  · exact fun i _ => .int i
  · exact fun x _ => .str x
  · exact fun _ _ _ n => nomatch n
  · exact fun hs _ ih n => .tup (t.seqT hs) (ih n)
  · exact fun _ _ _ _ n => nomatch n
  · exact fun _ => .nil
  · intro v vs d ds _ _ i1 i2 n
    have n2 : onlyT d = true ∧ onlyTs ds = true := by simpa only [onlyTs, Bool.and_eq_true] using n
    exact .cons (i1 n2.1) (i2 n2.2)
theorem thAll_tups {K : PySem.W.Frag} {H H' : Hp} (t : Tups H H') : ∀ {vs : List V} {ds : List PyData}, ThAll K H vs ds → onlyTs ds = true → ThAll K H' vs ds
  | _, _, .nil, _ => .nil
  | _ :: _, d :: ds, .cons h r, n => by
    have n2 : onlyT d = true ∧ onlyTs ds = true := by simpa only [onlyTs, Bool.and_eq_true] using n
    exact .cons (th_tups t h n2.1) (thAll_tups t r n2.2)
theorem NAt.nofrz {P : Program} {w : World} {H : Hp} {d : Addr} {kvs : List (NK × V)} (g : NAt P w H d kvs) {o : Obj} {u : HO} : H d ≠ some (.frz o u) := by
  obtain ⟨_, ⟨_, e⟩ | ⟨xs, e, _⟩⟩ := g
  · rw [e]
    exact fun z => nomatch z
  · rw [e]
    exact fun z => nomatch z
theorem But.trans {d : Addr} {H H1 H2 : Hp} (a : But d H H1) (b : But d H1 H2) : But d H H2 := fun q o h n => b q o (a q o h n) n
theorem But.same {d : Addr} {H H1 H2 : Hp} (a : But d H H1) (b : Same H1 H2) : But d H H2 := fun q o h n => b q o (a q o h n)
theorem But.refl (d : Addr) (H : Hp) : But d H H := fun _ _ h _ => h
theorem Same.but {d : Addr} {H H1 : Hp} (a : Same H H1) : But d H H1 := fun q o h _ => a q o h
theorem But.upd {d : Addr} {H H1 : Hp} {o : HO} (a : But d H H1) : But d H (upd H1 d o) := fun q u h n => by
  rw [upd_ne n]
  exact a q u h n
theorem But.upd2 {d p : Addr} {H H1 : Hp} {o : HO} (a : But d H H1) (n : H p = none) : But d H (L2.upd H1 p o) := fun q u h nq => by
  rw [upd_ne (ne_of_none h n)]
  exact a q u h nq
theorem But.free {d : Addr} {H H1 : Hp} {q : Addr} (a : But d H H1) (h : H1 q = none) (n : q ≠ d) : H q = none := by
  cases e : H q with
  | none => rfl
  | some o =>
    rw [a q o e n] at h
    cases h
theorem putK_mem {κ : Type} [DecidableEq κ] {kvs : List (κ × V)} {k : κ} {v : V} {p : κ × V} (h : p ∈ putK kvs k v) : p ∈ kvs ∨ p = (k, v) := by
  unfold putK at h
  split at h
  · obtain ⟨q, hq, rfl⟩ := List.mem_map.mp h
    by_cases e : q.1 = k
    · rw [if_pos e, ← e]
      exact .inr (by rw [e])
    · rw [if_neg e]
      exact .inl hq
  · rcases List.mem_append.mp h with h | h
    · exact .inl h
    · exact .inr (List.mem_singleton.mp h)
theorem putK_keys {κ : Type} [DecidableEq κ] {kvs : List (κ × V)} {k : κ} {v : V} (h : (kvs.map (·.1)).Nodup) : ((putK kvs k v).map (·.1)).Nodup := by
  unfold putK
  split
  · have e : (kvs.map fun kv => if kv.1 = k then (kv.1, v) else kv).map (·.1) = kvs.map (·.1) := by
      rw [List.map_map]
      refine List.map_congr_left fun q _ => ?_
      show (if q.1 = k then (q.1, v) else q).1 = q.1
      split <;> rfl
    rw [e]
    exact h
  · rename_i n
    rw [List.map_append, List.nodup_append]
    refine ⟨h, List.nodup_cons.mpr ⟨(fun z => nomatch z), List.nodup_nil⟩, fun a ha b hb e => n ?_⟩
    have hb2 : b = k := by simpa using hb
    obtain ⟨q, hq, e2⟩ := List.mem_map.mp ha
    exact List.any_eq_true.mpr ⟨q, hq, decide_eq_true (e2.trans (e.trans hb2))⟩
theorem valV_mem {κ : Type} [DecidableEq κ] {kvs : List (κ × V)} {k : κ} {v : V} (h : valV kvs k = some v) : (k, v) ∈ kvs := by
  unfold valV at h
  obtain ⟨q, hq, e⟩ := Option.map_eq_some_iff.mp h
  have a := List.find?_some hq
  have b := List.mem_of_find?_eq_some hq
  have c : q.1 = k := of_decide_eq_true a
  rw [← c, ← e]
  exact b
theorem valV_put_self {κ : Type} [DecidableEq κ] {kvs : List (κ × V)} {k : κ} {v : V} : valV (putK kvs k v) k = some v := by
  rw [valV_put, if_pos rfl]
end Lk

/-! DctN1 -/
set_option Elab.async false
set_option maxRecDepth 100000
set_option linter.all false
set_option maxHeartbeats 4000000
namespace Lk
open PySem PySem.Spec PyProof.Rows L2
/-! ### list(d), len(d), y in d: dicts whose keys are pairs of a text and a tuple of numbers -/
def IsKeysN (H : Hp) (kvs : List (NK × V)) (bs : List Addr) : Prop := Paired (fun p b => KeyAt H b p.1) kvs bs
theorem isKeysN_of {H : Hp} {kvs : List (NK × V)} {xs : List (NestedKey × Addr × Value)} (r : KN H kvs xs) : IsKeysN H kvs (xs.map fun x => x.2.1) := by
  unfold IsKeysN
  induction r with
  | nil => exact Paired.nil
  | cons h t ih => exact Paired.cons h.2.1 ih
section
variable {X : Cx}
def rListN (P : Program) (w : World) : List V → Hp → VK → Prop := fun xs H Q => ∃ d kvs, xs = [V.ref d] ∧ NAt P w H d kvs ∧ ∀ p bs, H p = none → IsKeysN H kvs bs → Q (.ref p) (upd H p (.lst (bs.map V.ref)))
theorem call_list_N (hc : X.calm = true) : CallR X (.type "list") (rListN X.prog X.w) := by
  intro pins s σ H xs us Q I r h
  obtain ⟨d, kvs, rfl, g, q⟩ := h
  obtain ⟨u, rfl, rx⟩ := r.one
  cases rx
  obtain ⟨hs, ks, pr, o, es, ep, ho, hx, hdt, he, _, hn⟩ := n_of I.hok g
  have l1 : es.size = ks.length := size_of_entries he
  have l2 : kvs.length = ks.length := Paired.length pr
  have z := g.1
  refine PySem.W.kdl_call (kdl_raw hs hx hdt) (I.ok.hd hc) ho (by omega) fun h' tk acc' c' kp e it => ?_
  have ea : acc'.toList = ks.map fun x => Value.ref x.2.1 := by
    have hl : acc'.toList.length = ks.length := by rw [Array.length_toList, it.1]; exact l1
    apply List.ext_getElem?
    intro j
    rw [List.getElem?_map]
    cases hj : acc'.toList[j]? with
    | none =>
      have h1 := List.getElem?_eq_none_iff.mp hj
      rw [List.getElem?_eq_none (by omega)]
      all_goals rfl
    | some v =>
      obtain ⟨en, hen, hv⟩ := it.2 j v (by rw [← Array.getElem?_toList]; exact hj)
      have qe := entry_at he j
      rw [hen] at qe
      cases hb : ks[j]? with
      | none =>
        rw [hb] at qe
        exact nomatch (show some en = none from qe)
      | some b =>
        rw [hb] at qe
        have e2 : en = entryOfKey (nestedKind X.prog X.w) b := Option.some.inj qe
        rw [hv, e2]
        all_goals rfl
  have eb : acc'.toList = (ks.map fun x => x.2.1).map Value.ref := by rw [ea, List.map_map]; all_goals rfl
  have rv : Vals ((ks.map fun x => x.2.1).map V.ref) acc'.toList := by rw [eb]; exact vals_refs _
  have hz : ((ks.map fun x => x.2.1).map V.ref).length ≤ sizeLine := by rw [List.length_map, List.length_map]; omega
  refine ⟨.ref s.heap.objs.size, _, I.laid (t' := tk) (o := .lst ((ks.map fun x => x.2.1).map V.ref)) kp (Nat.le_refl _) ?_, rfl, q _ _ (I.hok.fresh (Nat.le_refl _)) (isKeysN_of pr)⟩
  exact ⟨hz, acc'.toList, c', rv, by rw [Array.toArray_toList]; exact e⟩
def rLenN (P : Program) (w : World) : List V → Hp → VK → Prop := fun xs H Q => ∃ (p : Addr) (kvs : List (NK × V)), xs = [.ref p] ∧ NAt P w H p kvs ∧ Q (.int ((kvs.length : Nat) : Int)) H
theorem call_len_N : CallR X (.builtin "len") (rLenN X.prog X.w) := by
  intro pins s σ H xs us Q I r h
  obtain ⟨p, kvs, rfl, g, q⟩ := h
  obtain ⟨u, rfl, rx⟩ := vals1 r
  obtain rfl : u = .ref p := rx
  obtain ⟨hd, ys, rel, dd⟩ := n_of I.hok g
  have hl : kvs.length = ys.length := Paired.length rel
  have z := g.1
  refine PySem.call_len_dictH hd dd (by rw [sizeLine_eq] at z; omega) ⟨.int ((kvs.length : Nat) : Int), H, I.tok _, ?_, q⟩
  exact ⟨_, by rw [hl]⟩
def tNIn (P : Program) (w : World) (ty td : TE) : TE := fun σ H Q => ty σ H fun y H1 => td σ H1 fun x H2 => ∃ a b p kvs, x = .ref a ∧ y = .ref b ∧ NAt P w H2 a kvs ∧ KeyAt H2 b p ∧ Q (.bl (valV kvs p).isSome) H2
theorem pc_nin {i o : Expr} {ty td : TE} (hu : X.A.units + 9 < cLine) (hi : PE X i ty) (ho : PE X o td) : PC X .In i o (tNIn X.prog X.w ty td) := by
  refine ⟨fun pins s σ H Q I h => ?_⟩
  refine thn (hi.run pins s σ H _ I h) fun iv s1 ⟨y, H1, I1, ry, q1⟩ => thn (ho.run pins s1 σ H1 _ I1 q1) fun u s2 ⟨x, H2, I2, rx, a, b, p, kvs, ex, ey, g, kb, q2⟩ => ?_
  subst ex ey
  obtain rfl : u = Value.ref a := rx
  obtain rfl : iv = Value.ref b := ry
  obtain ⟨hd, xs, rel, dd⟩ := n_of I2.hok g
  refine wpAny_in_heap (show (nestedKind X.prog X.w).room X.A.in1 from (by show X.A.units + 1 + 8 < cLine; omega)) (keyN I2.hok kb) hd dd ?_
  have q := (rel.val p).isSome_eq
  rw [Option.isSome_map] at q
  rw [← q]
  exact ⟨.bl (valV kvs p).isSome, H2, I2.tok _, rfl, q2⟩
end
end Lk

/-! DCmpN0 -/
set_option Elab.async false
set_option maxRecDepth 100000
set_option linter.all false
set_option maxHeartbeats 4000000
/-! {k: v for .. in .. if ..}, the keys pairs of a text and a tuple of numbers -/
namespace Lk
open PySem PySem.Spec PyProof.Rows L2
section
variable {X : Cx} {pins : List (Addr × Obj)} {σ : L2.St} {H : Hp} {s : Shared} {E : Value → Shared → Prop}
theorem n_dictSet {D b : Addr} {kvs : List (NK × V)} {p : NK} {v : V} {r : Value} {Q : Unit → Shared → Prop} (hu : X.A.units + 9 < cLine) (I : Inv X pins σ H s) (g : NAt X.prog X.w H D kvs) (hl : kvs.length < sizeLine) (kb : KeyAt H b p) (rv : RelV v r)
    (h : ∀ o s', NAt X.prog X.w (upd H D o) D (putK kvs p v) → Inv X pins σ (upd H D o) s' → Q () s') : wpAny (model X.prog X.w) X.A (dictSet D (.ref b) r) Q E s := by
  obtain ⟨hd, xs, rel, dd⟩ := n_of I.hok g
  have hz : xs.length ≤ sizeLine := by rw [← Paired.length rel]; exact Nat.le_of_lt hl
  refine wpAny_dictSet_heap (hsz := hz) (show (nestedKind X.prog X.w).room X.A from (by show X.A.units + 8 < cLine; omega)) (keyN I.hok kb) dd fun h' dd' hs => ?_
  obtain ⟨q, es, ep, hq, h2, h3, h4, _, h5⟩ := dd'
  have keep : ∀ c ys, H c = some (.tup ys) → upd H D (DN X.prog X.w D (storedH xs (nk p) b r)) c = some (.tup ys) := fun c ys ec => by
    have ne : c ≠ D := fun z => g.notup (z ▸ ec)
    rw [upd_ne ne]
    exact ec
  refine h (DN X.prog X.w D (storedH xs (nk p) b r)) _ ⟨?_, .inr ⟨_, upd_same, (rel.put p kb rv).keeps keep⟩⟩ (d_write I g.mut hs ⟨q, hq⟩ ⟨⟨hd, q, es, ep, hq, h2, h3, h4, h5⟩, ⟨q, hq⟩, ?_⟩)
  · have := length_putK kvs p v
    omega
  · rintro h1 h2' ⟨e0, o, es, ep, x1, x2⟩ k
    exact ⟨e0, o, es, ep, k _ x1, x2⟩
end
section
variable {X : Cx}
/-- the reading -/
def tDcN (P : Program) (w : World) (wi : TI) (g : TG) (tt : TT) (tk tv : TE) (l : List Nat) : TE := fun σ H Q => wi σ H fun J H1 => ∀ D, H1 D = none → ∃ W : Nat → Nat → Hp → Prop, (∃ m, W 0 m (upd H1 D (.dK []))) ∧ ∀ i m H, W i m H →
  (J.stop i H ∧ Q (.ref D) H) ∨ (J.go i H ∧ ∃ Nx : Hp → Prop, (∀ H', Nx H' → ∃ m', m' < m ∧ W (i + 1) m' H') ∧ ∀ x H', J.yld i H x H' → g x (wipe σ l) H' fun σ2 H2 => wipe σ2 l = wipe σ l ∧ tt σ2 H2 fun b H3 =>
    if b = true then tk σ2 H3 fun y H7 => tv σ2 H7 fun z H8 => ∃ kvs p b, y = .ref b ∧ KeyAt H8 b p ∧ NAt P w H8 D kvs ∧ kvs.length < sizeLine ∧ ∀ o, NAt P w (upd H8 D o) D (putK kvs p z) → Nx (upd H8 D o) else Nx H3)
abbrev AllN (X : Cx) (sc : Scope) (P : Cx → Prop) : Prop := ∀ (s : Shared) (H : Hp) (C : Addr) (cl : List (Str × Addr)) (fp : List Addr), P (X.blk s H sc (compEnvC sc cl C X.env) fp)
theorem dcN_core {kx vx t0 j0 : Expr} {c0 : List Expr} {sc : Scope} {own : List (Str × Nat)} {ps : Pos} {wi : TI} {g : TG} {tt : TT} {tk tv : TE} (hu : X.A.units + 9 < cLine) (hc : X.calm = true) (hN : X.N.Nodup) (hi : PI X t0 j0 wi) (ok : BlkOk X.N X.env.scope sc own)
    (a1 : AllN X sc fun Y => PG Y t0 g) (a2 : AllN X sc fun Y => PTs Y c0 tt) (a6 : AllN X sc fun Y => PE Y kx tk) (a7 : AllN X sc fun Y => PE Y vx tv)
    (f0 : ∀ x, foldedSetIterable j0 X.env x = pure x) {use : Option (Value → Sem Unit)} {Qf : Value → Shared → Prop} {at0 : Pos} {pins : List (Addr × Obj)} {s : Shared} {σ : L2.St} {H : Hp} {Q : VK} (I : Inv X pins σ H s)
    (h : tDcN X.prog X.w wi g tt tk tv (own.map (·.2)) σ H Q) (done0 : ∀ (D C : Addr) (s' : Shared) (m : Str → Option Value) (H' : Hp), Inv X pins σ H' s' → Q (.ref D) H' → s'.heap.Ns C m → FpOk X pins H' C → compPost (model X.prog X.w) X.A X.xe use Qf (.ref D) C (.ok .next) s') :
    wpAny (model X.prog X.w) X.A (comprehension (.DictComp kx vx [⟨t0, j0, c0, 0⟩] sc ps) sc X.env at0 newDict false (eval j0 X.env) use) Qf X.xe s := by
  have cells : ∀ y ∈ sc.names, y.2 = .free → ∃ c, X.env.cells.lookup y.1 = some c := fun y hy e => I.ok.has _ ((ok.free y hy e).imp id id)
  refine wpAny_comprehension_free (use := use) rfl f0 (closure_ok cells) ok.kind (fun y hy e => by rw [ok.uniq y hy, e]) (thn (hi.run pins s σ H _ I h) fun xv s1 hx => thn hx fun itv s2 h2 => ?_)
  obtain ⟨it, fp, tn, J, H2, rfl, I2, T, st2, f2, q⟩ := h2
  refine wpAny_newObj_type (newEnv_comp ?_)
  obtain ⟨D, hD⟩ : ∃ D, s2.heap.objs.size = D := ⟨_, rfl⟩
  rw [hD]
  have hDn : H2 D = none := I2.hok.fresh (Nat.le_of_eq hD)
  obtain ⟨W, ⟨m0, w0⟩, turn⟩ := q D hDn
  obtain ⟨s3, hs3⟩ : ∃ s3 : Shared, ({ s2 with heap := s2.heap.push { cls := .type "dict", data := .dict #[] } } : Shared) = s3 := ⟨_, rfl⟩
  have h3 : s3.heap = s2.heap.push { cls := .type "dict", data := .dict #[] } := by rw [← hs3]
  rw [hs3]
  obtain ⟨G, hG⟩ : ∃ G, upd H2 D (.dK []) = G := ⟨_, rfl⟩
  rw [hG] at w0
  have I3 : Inv X pins σ G s3 := by
    rw [← hs3, ← hG]
    refine I2.laid (t' := s2.toks) (fun b o e => Heap.get?_push_of_some _ e) (Nat.le_of_eq hD) ?_
    rw [← hD]
    exact dk_empty s2.heap I2.big
  have f3 : ∀ b ∈ fp, FpOk X pins G b ∧ b < s3.heap.objs.size := fun b hb => by
    obtain ⟨o, e, _⟩ := T.obj _ _ st2 b hb
    have hlt := Heap.lt_size e
    refine ⟨⟨?_, (f2 b hb).2⟩, by rw [h3, Heap.size_push]; exact Nat.lt_succ_of_lt hlt⟩
    rw [← hG, upd_ne (by rw [← hD]; exact Nat.ne_of_lt hlt)]
    exact (f2 b hb).1
  have st3 : tn 0 s3.heap := T.keep _ _ _ st2 fun b _ o e => by rw [h3]; exact Heap.get?_push_of_some _ e
  have I4 := block_start I3 ok hN f3
  -- the block
  obtain ⟨ce, hce⟩ : ∃ ce, compEnvC sc (cellsFrom (s3.heap.objs.size + 1) sc.names (cloFrom X.env.cells sc.names [])) s3.heap.objs.size X.env = ce := ⟨_, rfl⟩
  have b1 := a1 s3 G s3.heap.objs.size (cellsFrom (s3.heap.objs.size + 1) sc.names (cloFrom X.env.cells sc.names [])) fp
  have b2 := a2 s3 G s3.heap.objs.size (cellsFrom (s3.heap.objs.size + 1) sc.names (cloFrom X.env.cells sc.names [])) fp
  have b6 := a6 s3 G s3.heap.objs.size (cellsFrom (s3.heap.objs.size + 1) sc.names (cloFrom X.env.cells sc.names [])) fp
  have b7 := a7 s3 G s3.heap.objs.size (cellsFrom (s3.heap.objs.size + 1) sc.names (cloFrom X.env.cells sc.names [])) fp
  rw [hce] at I4 b1 b2 b6 b7
  have cL : ce.locals = s3.heap.objs.size := by rw [← hce]; rfl
  obtain ⟨Y, hY⟩ : ∃ Y, X.blk s3 G sc ce fp = Y := ⟨_, rfl⟩
  show codeAny _ _ (.compStart (.DictComp kx vx [⟨t0, j0, c0, 0⟩] sc ps) 0 (.ref it) (.ref D) (compEnvC sc (cellsFrom (s3.heap.objs.size + 1) sc.names (cloFrom X.env.cells sc.names [])) s3.heap.objs.size X.env)) _ { s3 with heap := pushCells (s3.heap.push { cls := .type "dict", data := .dict #[] }) sc.names }
  rw [hce]
  obtain ⟨s4, hs4⟩ : ∃ s4 : Shared, ({ s3 with heap := pushCells (s3.heap.push { cls := .type "dict", data := .dict #[] }) sc.names } : Shared) = s4 := ⟨_, rfl⟩
  rw [hs4] at I4
  rw [hs4]
  have st4 : tn 0 s4.heap := T.keep _ _ _ st3 fun b _ o e => by rw [← hs4]; exact pushCells_keeps _ _ _ _ (Heap.get?_push_of_some _ e)
  have stand : ∀ {σ' : L2.St} {H' : Hp} {s' : Shared}, Inv (X.blk s3 G sc ce fp) [] σ' H' s' → (∀ b ∈ fp, H' b = none) → ∀ b ∈ fp, FpOk (X.blk s3 G sc ce fp) [] H' b := fun {σ' H' s'} I' hn b hb =>
    ⟨hn b hb, (I'.ok.exf b hb).1, I'.ok.exfs b hb, .inl hb, fun x c e => (I'.ok.exf b hb).2 x c e, fun p hp => absurd (show p ∈ ([] : List (Addr × Obj)) ++ [] from hp) (by simp)⟩
  obtain ⟨R, hR⟩ : ∃ R : Result → Shared → Prop, compPost (model X.prog X.w) X.A X.xe use Qf (.ref D) s3.heap.objs.size = R := ⟨_, rfl⟩
  have done : ∀ (s' : Shared) (m : Str → Option Value) (H' : Hp), Inv X pins σ H' s' → Q (.ref D) H' → s'.heap.Ns s3.heap.objs.size m → FpOk X pins H' s3.heap.objs.size → R (.ok .next) s' := fun s' m H' I' q hn fo => by
    rw [← hR]
    exact done0 D s3.heap.objs.size s' m H' I' q hn fo
  have loop : codeAny (model X.prog X.w) X.A (.compLoop (.DictComp kx vx [⟨t0, j0, c0, 0⟩] sc ps) 0 (.ref it) (.ref D) ce) R s4 := by
    refine compLoop_anyD (fun n s' => ∃ i H', Inv (X.blk s3 G sc ce fp) [] (wipe σ (own.map (·.2))) H' s' ∧ tn i s'.heap ∧ (∀ b ∈ fp, H' b = none) ∧ W i n H') ?_ m0 ⟨0, G, I4, st4, fun b hb => (f3 b hb).1.1, w0⟩
    rintro n s5 ⟨i, H5, I5, st5, n5, w5⟩
    rcases turn i n H5 w5 with ⟨stop, qq⟩ | ⟨go, Nx, hNx, step⟩
    · refine thnF (T.done (X.blk s3 G sc ce fp) rfl rfl rfl hc i [] s5 _ H5 (fun _ _ => False) I5 (stand I5 n5) st5 stop) fun r s6 ⟨hr, I6⟩ => ?_
      cases hr
      have free : H5 s3.heap.objs.size = none := by
        have z : H5 ce.locals = none := I6.free
        rwa [cL] at z
      obtain ⟨m, hn, _⟩ := I6.loc
      replace hn : s6.heap.Ns ce.locals m := hn
      rw [cL] at hn
      refine done s6 m H5 (I3.call' (ch := fp) I6.os I6.base I6.hok I6.bare fun b hb => ?_) qq hn (I3.fpOk (Nat.le_refl _) free)
      obtain ⟨⟨_, z1, z2, z3, z4⟩, z5⟩ := f3 b hb
      exact ⟨(f3 b hb).1.2.2.2.1, (f3 b hb).1.2.1, (f3 b hb).1.2.2.2.2.1, (f3 b hb).1.2.2.2.2.2⟩
    · refine thnF (T.item (X.blk s3 G sc ce fp) rfl rfl rfl hc i [] s5 _ H5 (fun _ _ => False) I5 (stand I5 n5) st5 go) fun r s6 ⟨u, hr, h6⟩ => ?_
      cases hr
      refine thnF h6 fun _ s7 ⟨x, H7, I7, r7, y7, st7, n7⟩ => ?_
      refine thnF (b1.run _ s7 _ H7 x u _ (I7.pinned (stand I7 n7) (T.obj _ _ st7)) r7 (step x H7 y7)) fun _ s8 ⟨σ8, H8, I8, hw8, q8⟩ => ?_
      refine thnF (b2.run _ s8 σ8 H8 _ I8 q8) fun b s9 ⟨H9, I9, q9⟩ => ?_
      -- a turn ends
      have over : ∀ {σ9 : L2.St} {s' : Shared} {H' : Hp}, Inv (X.blk s3 G sc ce fp) ([] ++ pinsAt fp s7.heap) σ9 H' s' → (wipe σ (own.map (·.2))).length = σ9.length → (∀ (j : Nat) v, (wipe σ (own.map (·.2)))[j]? = some (some v) → σ9[j]? = some (some v)) → Nx H' →
          ∃ m, m < n ∧ ∃ i H', Inv (X.blk s3 G sc ce fp) [] (wipe σ (own.map (·.2))) H' s' ∧ tn i s'.heap ∧ (∀ b ∈ fp, H' b = none) ∧ W i m H' := by
        intro σ9 s' H' I' hl hk nx
        obtain ⟨m', hm, w'⟩ := hNx H' nx
        have pinned : ∀ b ∈ fp, ∀ o, s7.heap.get? b = some o → s'.heap.get? b = some o ∧ H' b = none := by
          intro b hb o e
          have z := I'.pin (b, o) (List.mem_append_right _ (List.mem_append_right _ (mem_pinsAt hb e)))
          exact ⟨z.1, z.2.1⟩
        refine ⟨m', hm, i + 1, H', (I'.unpinned (pins := [])).weak hl hk, T.keep _ _ _ st7 fun b hb o e => (pinned b hb o e).1, fun b hb => ?_, w'⟩
        obtain ⟨o, e, _⟩ := T.obj _ _ st7 b hb
        exact (pinned b hb o e).2
      have len8 : (wipe σ (own.map (·.2))).length = σ8.length := by rw [← hw8, wipe_length]
      have know8 : ∀ (j : Nat) v, (wipe σ (own.map (·.2)))[j]? = some (some v) → σ8[j]? = some (some v) := by
        intro j v e
        rw [← hw8] at e
        exact (wipe_some e).1
      cases b with
      | false =>
        rw [if_neg Bool.false_ne_true] at q9 ⊢
        exact over I9 len8 know8 q9
      | true =>
        rw [if_pos rfl] at q9 ⊢
        refine thnF (b6.run _ s9 σ8 H9 _ I9 q9) fun kv s17 ⟨yk, H17, I17, r17, q17⟩ => ?_
        refine thnF (b7.run _ s17 σ8 H17 _ I17 q17) fun vv s18 ⟨yv, H18, I18, r18, kvs, kk, bb, ek, kb18, g18, hz18, nx⟩ => ?_
        subst ek
        cases r17
        exact n_dictSet (X := X.blk s3 G sc ce fp) hu I18 g18 hz18 kb18 r18 fun o s19 g19 I19 => over I19 len8 know8 (nx o g19)
  rw [← hR] at loop
  exact codeAny_compStart_dict loop (T.self X.A 0 _ _ _ st4 loop)
theorem pe_dcN {kx vx t0 j0 : Expr} {c0 : List Expr} {sc : Scope} {own : List (Str × Nat)} {ps : Pos} {wi : TI} {g : TG} {tt : TT} {tk tv : TE} (hu : X.A.units + 9 < cLine) (hc : X.calm = true) (hN : X.N.Nodup) (hi : PI X t0 j0 wi) (ok : BlkOk X.N X.env.scope sc own)
    (a1 : AllN X sc fun Y => PG Y t0 g) (a2 : AllN X sc fun Y => PTs Y c0 tt) (a6 : AllN X sc fun Y => PE Y kx tk) (a7 : AllN X sc fun Y => PE Y vx tv)
    (f0 : ∀ x, foldedSetIterable j0 X.env x = pure x := by intro _; rfl) :
    PE X (.DictComp kx vx [⟨t0, j0, c0, 0⟩] sc ps) (tDcN X.prog X.w wi g tt tk tv (own.map (·.2))) := by
  constructor
  intro pins s σ H Q I h
  rw [arm_eval_DictComp]
  refine dcN_core hu hc hN hi ok a1 a2 a6 a7 f0 I h fun D C s' m H' I' q hn fo => ?_
  refine ⟨m, hn, fun h'' sb => ?_⟩
  obtain ⟨g0, g1, g2, g3, g4, g5⟩ := fo
  exact ⟨.ref D, H', I'.turned (t' := s'.toks) (fun b o hb e => (sb.2 b hb).trans e) g0 g1 g3 g4 g5, rfl, q⟩
end
theorem sameN {H1 H : Hp} {D : Addr} {o : HO} (n : H1 D = none) (s : Same H1 H) : Same H1 (upd H D o) := fun b u e => by
  rw [upd_ne (ne_of_none e n)]
  exact s _ _ e
theorem yes_inN {σ : L2.St} {H : Hp} {Q : Bool → Hp → Prop} (h : Q true H) : tYes σ H Q := h
/-- {row: True for row in l}, l a list that stays -/
theorem dcN_list {P : Program} {w : World} {K : PySem.W.Frag} {a : Addr} {L : List (Addr × NK)} {tx : TE} {i0 : Nat} {l : List Nat} {σ : L2.St} {H H1 : Hp} {Q : VK} (hx : ∀ R : VK, R (.ref a) H1 → tx σ H R) (ha : SqL K H1 a (L.map fun c => V.ref c.1))
    (hk : ∀ c ∈ L, KeyAt H1 c.1 c.2) (hi : ∀ x, ((wipe σ l).set i0 (some x))[i0]? = some (some x)) (wp : ∀ x, wipe ((wipe σ l).set i0 (some x)) l = wipe σ l) (lz : L.length ≤ sizeLine)
    (k : ∀ D kvs H2, H1 D = none → Same H1 H2 → NAt P w H2 D kvs → kvs.length ≤ L.length → (kvs.length = L.length ↔ (L.map (·.2)).Nodup) → (∀ p, (valV kvs p).isSome = true ↔ p ∈ L.map (·.2)) → Q (.ref D) H2) :
    tDcN P w (iList K tx) (gName i0) tYes (tVar i0) (tC (.bl true)) l σ H Q := by
  refine hx _ ⟨a, rfl, ⟨_, ha⟩, fun D nD => ?_⟩
  refine ⟨fun i m H => L.length = m + i ∧ Same H1 H ∧ ∃ kvs, NAt P w H D kvs ∧ kvs.length ≤ i ∧ (kvs.length = i ↔ ((L.take i).map (·.2)).Nodup) ∧ ∀ p, (valV kvs p).isSome = true ↔ p ∈ (L.take i).map (·.2), ⟨L.length, rfl, sameN nD (Same.refl _), [], NAt.new upd_same, Nat.le_refl _, ⟨fun _ => List.nodup_nil, fun _ => rfl⟩, fun p => ⟨(fun z => nomatch z), fun z => nomatch z⟩⟩, ?_⟩
  rintro i m H ⟨em, s, kvs, g, le, nd, mem⟩
  cases m with
  | zero =>
    have e : L.length = i := by omega
    subst e
    rw [List.take_length] at nd mem
    exact .inl ⟨⟨_, s.seq ha, by rw [List.length_map]; exact Nat.le_refl _⟩, k D kvs H nD s g le nd mem⟩
  | succ m =>
    have lt : i < L.length := by omega
    obtain ⟨c, hc⟩ : ∃ c, L[i]? = some c := ⟨_, List.getElem?_eq_getElem lt⟩
    have et : (L.take (i + 1)).map (·.2) = (L.take i).map (·.2) ++ [c.2] := by
      rw [List.take_add_one, hc, List.map_append]
      rfl
    refine .inr ⟨⟨_, _, s.seq ha, by rw [List.getElem?_map, hc]; rfl⟩, fun H' => Same H1 H' ∧ ∃ kvs, NAt P w H' D kvs ∧ kvs.length ≤ i + 1 ∧ (kvs.length = i + 1 ↔ ((L.take (i + 1)).map (·.2)).Nodup) ∧ ∀ p, (valV kvs p).isSome = true ↔ p ∈ (L.take (i + 1)).map (·.2), fun H' p' => ⟨m, Nat.lt_succ_self m, by omega, p'⟩, ?_⟩
    rintro x H' ⟨rfl, hx'⟩
    have ex := hx' _ (s.seq ha)
    rw [List.getElem?_map, hc] at ex
    cases ex
    have go : ∀ (A B : Prop), A → (if true = true then A else B) := fun A B h => by
      rw [if_pos rfl]
      exact h
    refine ⟨wp _, yes_inN (go _ _ ?_)⟩
    refine ⟨_, hi _, kvs, c.2, c.1, rfl, (hk c (List.mem_of_getElem? hc)).keeps fun b xs e => s _ _ e, g, by omega, fun o go' => ⟨sameN nD s, _, go', ?_, ?_, fun p => ?_⟩⟩
    · have := length_putK kvs c.2 (V.bl true)
      omega
    · rw [et, List.nodup_append]
      by_cases hin : c.2 ∈ (L.take i).map (·.2)
      · refine ⟨fun e => ?_, fun z => absurd rfl (z.2.2 c.2 hin c.2 List.mem_cons_self)⟩
        exfalso
        have hv := (mem c.2).mpr hin
        have el : (putK kvs c.2 (V.bl true)).length = kvs.length := by
          unfold putK
          rw [valV_any, hv, if_pos rfl, List.length_map]
        omega
      · have hv : valV kvs c.2 = none := by
          cases hq : valV kvs c.2 with
          | none => rfl
          | some v => exact absurd ((mem c.2).mp (by rw [hq]; rfl)) hin
        rw [putK_new _ hv, List.length_append]
        constructor
        · intro e
          refine ⟨nd.mp (by have e2 : kvs.length + 1 = i + 1 := e; omega), by simp, fun a ma b mb e => ?_⟩
          rw [List.mem_singleton.mp mb] at e
          exact hin (e ▸ ma)
        · intro z
          have := nd.mpr z.1
          show kvs.length + 1 = i + 1
          omega
    · rw [et, List.mem_append, List.mem_singleton, ← mem p]
      by_cases ep : p = c.2
      · subst ep
        rw [valV_put, if_pos rfl]
        exact ⟨fun _ => .inr rfl, fun _ => rfl⟩
      · rw [valV_put, if_neg ep]
        exact ⟨.inl, fun z => z.resolve_right ep⟩
end Lk

/-! DctQ0 -/
set_option Elab.async false
set_option maxRecDepth 100000
set_option linter.all false
set_option maxHeartbeats 4000000
namespace Lk
open PySem PySem.Spec PyProof.Rows L2
/-! ### such dicts, the keys tuples of any standing -/
def KeyQ (K : PySem.W.Frag) (H : Hp) (b : Addr) (p : NK) : Prop := ∃ t, SqT K H b [.str p.1, .ref t] ∧ SqT K H t (p.2.map fun n : Nat => V.int (n : Int))
theorem seqT_same {K : PySem.W.Frag} {H H' : Hp} {a : Addr} {xs : List V} (s : Same H H') (h : SqT K H a xs) : SqT K H' a xs := h.imp (fun h => h.imp (s _ _) fun ⟨o, e⟩ => ⟨o, s _ _ e⟩) id
theorem KeyAt.q {K : PySem.W.Frag} {H : Hp} {b : Addr} {p : NK} (h : KeyAt H b p) : KeyQ K H b p := by
  obtain ⟨t, h1, h2⟩ := h
  exact ⟨t, SqT.of h1, SqT.of h2⟩
theorem KeyQ.keeps {K : PySem.W.Frag} {H H' : Hp} {b : Addr} {p : NK} (h : KeyQ K H b p) (k : ∀ c xs, SqT K H c xs → SqT K H' c xs) : KeyQ K H' b p := by
  obtain ⟨t, h1, h2⟩ := h
  exact ⟨t, k _ _ h1, k _ _ h2⟩
theorem keyQ {X : Cx} {pins : List (Addr × Obj)} {σ : L2.St} {H : Hp} {s : Shared} {b : Addr} {p : NK} (I : Inv X pins σ H s) (e : KeyQ X.K H b p) : (nestedKind X.prog X.w).is s.heap (nk p) b := by
  obtain ⟨t, e1, e2⟩ := e
  obtain ⟨its, r, ⟨o, h1, h2, n, h3⟩, _⟩ := I.tuple e1
  obtain ⟨its2, r2, ⟨o2, g1, g2, n2, g3⟩, _⟩ := I.tuple e2
  refine ⟨?_, nk_depth p⟩
  cases r with
  | cons r1 r =>
    cases r with
    | cons r3 r =>
      cases r
      obtain ⟨tk, rfl⟩ := (show ∃ t, _ = Value.str p.1 t from r1)
      cases (show _ = Value.ref t from r3)
      exact .tup h1 h2 h3 (.cons (.text _ tk) (.cons (.tup g1 g2 g3 (by simpa using nested_nums r2)) .nil))
abbrev KQ (K : PySem.W.Frag) (H : Hp) : List (NK × V) → List (NestedKey × Addr × Value) → Prop := Paired fun p q => q.1 = nk p.1 ∧ KeyQ K H q.2.1 p.1 ∧ RelV p.2 q.2.2
def QAt (P : Program) (w : World) (K : PySem.W.Frag) (H : Hp) (d : Addr) (kvs : List (NK × V)) : Prop := kvs.length ≤ sizeLine ∧ ((kvs = [] ∧ H d = some (.dK [])) ∨ ∃ xs, H d = some (DN P w d xs) ∧ KQ K H kvs xs)
section
variable {P : Program} {w : World} {K : PySem.W.Frag} {H : Hp} {h : Heap} {a b d : Addr}
theorem KQ.val {H : Hp} {kvs : List (NK × V)} {xs : List (NestedKey × Addr × Value)} (r : KQ K H kvs xs) (k : NK) : RelO (valV kvs k) ((atKey xs (nk k)).map (·.2)) := by
  induction r with
  | nil => exact True.intro
  | @cons p q ps qs h t ih =>
    obtain ⟨h1, _, h2⟩ := h
    by_cases e : p.1 = k
    · have e' : q.1 = nk k := h1.trans (congrArg nk e)
      have b : atKey (q :: qs) (nk k) = some q.2 := by simp [atKey, List.find?_cons, e']
      rw [valV_pos e, b]; exact h2
    · have e' : ¬ q.1 = nk k := fun z => e (nk_inj (h1.symm.trans z))
      have b : atKey (q :: qs) (nk k) = atKey qs (nk k) := by simp [atKey, List.find?_cons, e']
      rw [valV_neg e, b]; exact ih
theorem KQ.repl {H : Hp} {kvs : List (NK × V)} {xs : List (NestedKey × Addr × Value)} (r : KQ K H kvs xs) (k : NK) {y : V} {u : Value} (ry : RelV y u) :
    KQ K H (kvs.map fun kv => if kv.1 = k then (kv.1, y) else kv) (xs.map (putAt (nk k) u)) := by
  induction r with
  | nil => exact .nil
  | @cons p q ps qs h t ih =>
    rw [List.map_cons, List.map_cons]
    refine .cons ?_ ih
    obtain ⟨h1, h2, h3⟩ := h
    unfold putAt
    by_cases e : p.1 = k
    · rw [if_pos e, if_pos (h1.trans (congrArg nk e))]; exact ⟨h1, h2, ry⟩
    · rw [if_neg e, if_neg (fun z => e (nk_inj (h1.symm.trans z)))]; exact ⟨h1, h2, h3⟩
theorem KQ.put {H : Hp} {kvs : List (NK × V)} {xs : List (NestedKey × Addr × Value)} (r : KQ K H kvs xs) (k : NK) {b : Addr} {y : V} {u : Value} (hb : KeyQ K H b k) (ry : RelV y u) :
    KQ K H (putK kvs k y) (storedH xs (nk k) b u) := by
  have e : (kvs.any fun kv => decide (kv.1 = k)) = (atKey xs (nk k)).isSome := by
    rw [valV_any, (r.val k).isSome_eq, Option.isSome_map]
  unfold putK storedH
  rw [e]
  by_cases q : (atKey xs (nk k)).isSome = true
  · rw [if_pos q, if_pos q]; exact r.repl k ry
  · rw [if_neg q, if_neg q]; exact Paired.snoc r ⟨rfl, hb, ry⟩
theorem KQ.keeps {H H' : Hp} {kvs : List (NK × V)} {xs : List (NestedKey × Addr × Value)} (r : KQ K H kvs xs) (ht : ∀ b ys, SqT K H b ys → SqT K H' b ys) : KQ K H' kvs xs :=
  Paired.mapP r fun _ _ z => ⟨z.1, z.2.1.keeps ht, z.2.2⟩
theorem QAt.mut {kvs : List (NK × V)} (g : QAt P w K H d kvs) : Mut (H d) := by
  obtain ⟨_, ⟨_, e⟩ | ⟨xs, e, _⟩⟩ := g
  · rw [e]
    exact True.intro
  · rw [e]
    exact True.intro
theorem seq_upd {o : HO} {c : Addr} {ys : List V} (m1 : ∀ ys, H d ≠ some (.tup ys)) (m2 : ∀ o1 o2, H d ≠ some (.frz o1 o2)) (h : SqT K H c ys) : SqT K (upd H d o) c ys := by
  rcases h with (e | ⟨o1, e⟩) | h
  · refine .inl (.inl ?_)
    rw [upd_ne (fun z => m1 _ (z ▸ e))]
    exact e
  · refine .inl (.inr ⟨o1, ?_⟩)
    rw [upd_ne (fun z => m2 _ _ (z ▸ e))]
    exact e
  · exact .inr h
theorem QAt.upd {kvs : List (NK × V)} (g : QAt P w K H d kvs) {o : HO} : ∀ c ys, SqT K H c ys → SqT K (L2.upd H d o) c ys := fun c ys h => by
  obtain ⟨_, ⟨_, e⟩ | ⟨xs, e, _⟩⟩ := g
  · exact seq_upd (fun _ z => nomatch e.symm.trans z) (fun _ _ z => nomatch e.symm.trans z) h
  · exact seq_upd (fun _ z => nomatch e.symm.trans z) (fun _ _ z => nomatch e.symm.trans z) h
theorem QAt.same {H' : Hp} {kvs : List (NK × V)} (g : QAt P w K H d kvs) (s : Same H H') : QAt P w K H' d kvs := by
  have ht : ∀ b ys, SqT K H b ys → SqT K H' b ys := fun b ys h => seqT_same s h
  obtain ⟨z, ⟨e0, e⟩ | ⟨xs, e, r⟩⟩ := g
  · exact ⟨z, .inl ⟨e0, s _ _ e⟩⟩
  · exact ⟨z, .inr ⟨xs, s _ _ e, r.keeps ht⟩⟩
theorem QAt.new (e : H d = some (.dK [])) : QAt P w K H d [] := ⟨Nat.zero_le _, .inl ⟨rfl, e⟩⟩
end
section
variable {X : Cx} {pins : List (Addr × Obj)} {σ : L2.St} {H : Hp} {s : Shared} {E : Value → Shared → Prop} {d a b : Addr}
theorem q_of {kvs : List (NK × V)} (I : Inv X pins σ H s) (g : QAt X.prog X.w X.K H d kvs) : (d == sysModules) = false ∧ ∃ xs, KQ X.K H kvs xs ∧ s.heap.DictOfH (nestedKind X.prog X.w) d xs := by
  obtain ⟨_, ⟨rfl, e⟩ | ⟨xs, e, r⟩⟩ := g
  · obtain ⟨_, hd, vs, rel, o, es, ep, h1, h2, h3, _, h5, _⟩ := dk_of I.hok e
    cases rel
    refine ⟨hd, [], .nil, o, es, ep, h1, h2, h3, ?_, (fun x hx => nomatch hx), List.nodup_nil⟩
    generalize es.toList = l at h5
    cases h5
    rfl
  · obtain ⟨⟨hd, o, es, ep, h1, h2, h3, h4, h5⟩, _⟩ := (show ObjOk X.prog X.w H s.heap d (DN X.prog X.w d xs) from I.hok d _ e)
    refine ⟨hd, xs, r, o, es, ep, h1, h2, h3, h4, fun x hx => ?_, h5⟩
    have all : ∀ {l : List (NK × V)} {m : List (NestedKey × Addr × Value)}, KQ X.K H l m → ∀ x ∈ m, (nestedKind X.prog X.w).is s.heap x.1 x.2.1 := by
      intro l m q
      induction q with
      | nil => intro x hx; exact nomatch hx
      | @cons p q ps qs hq t ih =>
        intro x hx
        rcases List.mem_cons.mp hx with e | hx
        · subst e
          rw [hq.1]
          exact keyQ I hq.2.1
        · exact ih x hx
    exact all r x hx
theorem q_dictSet {D b : Addr} {kvs : List (NK × V)} {p : NK} {v : V} {r : Value} {Q : Unit → Shared → Prop} (hu : X.A.units + 9 < cLine) (I : Inv X pins σ H s) (g : QAt X.prog X.w X.K H D kvs) (hl : kvs.length < sizeLine) (kb : KeyQ X.K H b p) (rv : RelV v r)
    (h : ∀ o s', QAt X.prog X.w X.K (upd H D o) D (putK kvs p v) → Inv X pins σ (upd H D o) s' → Q () s') : wpAny (model X.prog X.w) X.A (dictSet D (.ref b) r) Q E s := by
  obtain ⟨hd, xs, rel, dd⟩ := q_of I g
  have hz : xs.length ≤ sizeLine := by rw [← Paired.length rel]; exact Nat.le_of_lt hl
  refine wpAny_dictSet_heap (hsz := hz) (show (nestedKind X.prog X.w).room X.A from (by show X.A.units + 8 < cLine; omega)) (keyQ I kb) dd fun h' dd' hs => ?_
  obtain ⟨q, es, ep, hq, h2, h3, h4, _, h5⟩ := dd'
  refine h (DN X.prog X.w D (storedH xs (nk p) b r)) _ ⟨?_, .inr ⟨_, upd_same, (rel.put p kb rv).keeps g.upd⟩⟩ (d_write I g.mut hs ⟨q, hq⟩ ⟨⟨hd, q, es, ep, hq, h2, h3, h4, h5⟩, ⟨q, hq⟩, ?_⟩)
  · have := length_putK kvs p v
    omega
  · rintro h1 h2' ⟨e0, o, es, ep, x1, x2⟩ k
    exact ⟨e0, o, es, ep, k _ x1, x2⟩
end
section
variable {X : Cx}
def rLenQ (P : Program) (w : World) (K : PySem.W.Frag) : List V → Hp → VK → Prop := fun xs H Q => ∃ (p : Addr) (kvs : List (NK × V)), xs = [.ref p] ∧ QAt P w K H p kvs ∧ Q (.int ((kvs.length : Nat) : Int)) H
theorem call_len_Q : CallR X (.builtin "len") (rLenQ X.prog X.w X.K) := by
  intro pins s σ H xs us Q I r h
  obtain ⟨p, kvs, rfl, g, q⟩ := h
  obtain ⟨u, rfl, rx⟩ := vals1 r
  obtain rfl : u = .ref p := rx
  obtain ⟨hd, ys, rel, dd⟩ := q_of I g
  have hl : kvs.length = ys.length := Paired.length rel
  have z := g.1
  refine PySem.call_len_dictH hd dd (by rw [sizeLine_eq] at z; omega) ⟨.int ((kvs.length : Nat) : Int), H, I.tok _, ?_, q⟩
  exact ⟨_, by rw [hl]⟩
def tQIn (P : Program) (w : World) (K : PySem.W.Frag) (ty td : TE) : TE := fun σ H Q => ty σ H fun y H1 => td σ H1 fun x H2 => ∃ a b p kvs, x = .ref a ∧ y = .ref b ∧ QAt P w K H2 a kvs ∧ KeyQ K H2 b p ∧ Q (.bl (valV kvs p).isSome) H2
theorem pc_qin {i o : Expr} {ty td : TE} (hu : X.A.units + 9 < cLine) (hi : PE X i ty) (ho : PE X o td) : PC X .In i o (tQIn X.prog X.w X.K ty td) := by
  refine ⟨fun pins s σ H Q I h => ?_⟩
  refine thn (hi.run pins s σ H _ I h) fun iv s1 ⟨y, H1, I1, ry, q1⟩ => thn (ho.run pins s1 σ H1 _ I1 q1) fun u s2 ⟨x, H2, I2, rx, a, b, p, kvs, ex, ey, g, kb, q2⟩ => ?_
  subst ex ey
  obtain rfl : u = Value.ref a := rx
  obtain rfl : iv = Value.ref b := ry
  obtain ⟨hd, xs, rel, dd⟩ := q_of I2 g
  refine wpAny_in_heap (show (nestedKind X.prog X.w).room X.A.in1 from (by show X.A.units + 1 + 8 < cLine; omega)) (keyQ I2 kb) hd dd ?_
  have q := (rel.val p).isSome_eq
  rw [Option.isSome_map] at q
  rw [← q]
  exact ⟨.bl (valV kvs p).isSome, H2, I2.tok _, rfl, q2⟩
def tQNotIn (P : Program) (w : World) (K : PySem.W.Frag) (ty td : TE) : TE := fun σ H Q => ty σ H fun y H1 => td σ H1 fun x H2 => ∃ a b p kvs, x = .ref a ∧ y = .ref b ∧ QAt P w K H2 a kvs ∧ KeyQ K H2 b p ∧ Q (.bl (!(valV kvs p).isSome)) H2
theorem pc_qnotin {i o : Expr} {ty td : TE} (hu : X.A.units + 9 < cLine) (hi : PE X i ty) (ho : PE X o td) : PC X .NotIn i o (tQNotIn X.prog X.w X.K ty td) := by
  refine ⟨fun pins s σ H Q I h => ?_⟩
  refine thn (hi.run pins s σ H _ I h) fun iv s1 ⟨y, H1, I1, ry, q1⟩ => thn (ho.run pins s1 σ H1 _ I1 q1) fun u s2 ⟨x, H2, I2, rx, a, b, p, kvs, ex, ey, g, kb, q2⟩ => ?_
  subst ex ey
  obtain rfl : u = Value.ref a := rx
  obtain rfl : iv = Value.ref b := ry
  obtain ⟨hd, xs, rel, dd⟩ := q_of I2 g
  refine wpAny_notIn_heap (show (nestedKind X.prog X.w).room X.A.in1 from (by show X.A.units + 1 + 8 < cLine; omega)) (keyQ I2 kb) hd dd ?_
  have q := (rel.val p).isSome_eq
  rw [Option.isSome_map] at q
  rw [← q]
  exact ⟨.bl (!(valV kvs p).isSome), H2, I2.tok _, rfl, q2⟩
end
section
variable {X : Cx}
/-- the reading -/
def tDcQ (P : Program) (w : World) (K : PySem.W.Frag) (wi : TI) (g : TG) (tt : TT) (tk tv : TE) (l : List Nat) : TE := fun σ H Q => wi σ H fun J H1 => ∀ D, H1 D = none → ∃ W : Nat → Nat → Hp → Prop, (∃ m, W 0 m (upd H1 D (.dK []))) ∧ ∀ i m H, W i m H →
  (J.stop i H ∧ Q (.ref D) H) ∨ (J.go i H ∧ ∃ Nx : Hp → Prop, (∀ H', Nx H' → ∃ m', m' < m ∧ W (i + 1) m' H') ∧ ∀ x H', J.yld i H x H' → g x (wipe σ l) H' fun σ2 H2 => wipe σ2 l = wipe σ l ∧ tt σ2 H2 fun b H3 =>
    if b = true then tk σ2 H3 fun y H7 => tv σ2 H7 fun z H8 => ∃ kvs p b, y = .ref b ∧ KeyQ K H8 b p ∧ QAt P w K H8 D kvs ∧ kvs.length < sizeLine ∧ ∀ o, QAt P w K (upd H8 D o) D (putK kvs p z) → Nx (upd H8 D o) else Nx H3)
abbrev AllQ (X : Cx) (sc : Scope) (P : Cx → Prop) : Prop := ∀ (s : Shared) (H : Hp) (C : Addr) (cl : List (Str × Addr)) (fp : List Addr), P (X.blk s H sc (compEnvC sc cl C X.env) fp)
theorem dcQ_core {kx vx t0 j0 : Expr} {c0 : List Expr} {sc : Scope} {own : List (Str × Nat)} {ps : Pos} {wi : TI} {g : TG} {tt : TT} {tk tv : TE} (hu : X.A.units + 9 < cLine) (hc : X.calm = true) (hN : X.N.Nodup) (hi : PI X t0 j0 wi) (ok : BlkOk X.N X.env.scope sc own)
    (a1 : AllQ X sc fun Y => PG Y t0 g) (a2 : AllQ X sc fun Y => PTs Y c0 tt) (a6 : AllQ X sc fun Y => PE Y kx tk) (a7 : AllQ X sc fun Y => PE Y vx tv)
    (f0 : ∀ x, foldedSetIterable j0 X.env x = pure x) {use : Option (Value → Sem Unit)} {Qf : Value → Shared → Prop} {at0 : Pos} {pins : List (Addr × Obj)} {s : Shared} {σ : L2.St} {H : Hp} {Q : VK} (I : Inv X pins σ H s)
    (h : tDcQ X.prog X.w X.K wi g tt tk tv (own.map (·.2)) σ H Q) (done0 : ∀ (D C : Addr) (s' : Shared) (m : Str → Option Value) (H' : Hp), Inv X pins σ H' s' → Q (.ref D) H' → s'.heap.Ns C m → FpOk X pins H' C → compPost (model X.prog X.w) X.A X.xe use Qf (.ref D) C (.ok .next) s') :
    wpAny (model X.prog X.w) X.A (comprehension (.DictComp kx vx [⟨t0, j0, c0, 0⟩] sc ps) sc X.env at0 newDict false (eval j0 X.env) use) Qf X.xe s := by
  have cells : ∀ y ∈ sc.names, y.2 = .free → ∃ c, X.env.cells.lookup y.1 = some c := fun y hy e => I.ok.has _ ((ok.free y hy e).imp id id)
  refine wpAny_comprehension_free (use := use) rfl f0 (closure_ok cells) ok.kind (fun y hy e => by rw [ok.uniq y hy, e]) (thn (hi.run pins s σ H _ I h) fun xv s1 hx => thn hx fun itv s2 h2 => ?_)
  obtain ⟨it, fp, tn, J, H2, rfl, I2, T, st2, f2, q⟩ := h2
  refine wpAny_newObj_type (newEnv_comp ?_)
  obtain ⟨D, hD⟩ : ∃ D, s2.heap.objs.size = D := ⟨_, rfl⟩
  rw [hD]
  have hDn : H2 D = none := I2.hok.fresh (Nat.le_of_eq hD)
  obtain ⟨W, ⟨m0, w0⟩, turn⟩ := q D hDn
  obtain ⟨s3, hs3⟩ : ∃ s3 : Shared, ({ s2 with heap := s2.heap.push { cls := .type "dict", data := .dict #[] } } : Shared) = s3 := ⟨_, rfl⟩
  have h3 : s3.heap = s2.heap.push { cls := .type "dict", data := .dict #[] } := by rw [← hs3]
  rw [hs3]
  obtain ⟨G, hG⟩ : ∃ G, upd H2 D (.dK []) = G := ⟨_, rfl⟩
  rw [hG] at w0
  have I3 : Inv X pins σ G s3 := by
    rw [← hs3, ← hG]
    refine I2.laid (t' := s2.toks) (fun b o e => Heap.get?_push_of_some _ e) (Nat.le_of_eq hD) ?_
    rw [← hD]
    exact dk_empty s2.heap I2.big
  have f3 : ∀ b ∈ fp, FpOk X pins G b ∧ b < s3.heap.objs.size := fun b hb => by
    obtain ⟨o, e, _⟩ := T.obj _ _ st2 b hb
    have hlt := Heap.lt_size e
    refine ⟨⟨?_, (f2 b hb).2⟩, by rw [h3, Heap.size_push]; exact Nat.lt_succ_of_lt hlt⟩
    rw [← hG, upd_ne (by rw [← hD]; exact Nat.ne_of_lt hlt)]
    exact (f2 b hb).1
  have st3 : tn 0 s3.heap := T.keep _ _ _ st2 fun b _ o e => by rw [h3]; exact Heap.get?_push_of_some _ e
  have I4 := block_start I3 ok hN f3
  -- the block
  obtain ⟨ce, hce⟩ : ∃ ce, compEnvC sc (cellsFrom (s3.heap.objs.size + 1) sc.names (cloFrom X.env.cells sc.names [])) s3.heap.objs.size X.env = ce := ⟨_, rfl⟩
  have b1 := a1 s3 G s3.heap.objs.size (cellsFrom (s3.heap.objs.size + 1) sc.names (cloFrom X.env.cells sc.names [])) fp
  have b2 := a2 s3 G s3.heap.objs.size (cellsFrom (s3.heap.objs.size + 1) sc.names (cloFrom X.env.cells sc.names [])) fp
  have b6 := a6 s3 G s3.heap.objs.size (cellsFrom (s3.heap.objs.size + 1) sc.names (cloFrom X.env.cells sc.names [])) fp
  have b7 := a7 s3 G s3.heap.objs.size (cellsFrom (s3.heap.objs.size + 1) sc.names (cloFrom X.env.cells sc.names [])) fp
  rw [hce] at I4 b1 b2 b6 b7
  have cL : ce.locals = s3.heap.objs.size := by rw [← hce]; rfl
  obtain ⟨Y, hY⟩ : ∃ Y, X.blk s3 G sc ce fp = Y := ⟨_, rfl⟩
  show codeAny _ _ (.compStart (.DictComp kx vx [⟨t0, j0, c0, 0⟩] sc ps) 0 (.ref it) (.ref D) (compEnvC sc (cellsFrom (s3.heap.objs.size + 1) sc.names (cloFrom X.env.cells sc.names [])) s3.heap.objs.size X.env)) _ { s3 with heap := pushCells (s3.heap.push { cls := .type "dict", data := .dict #[] }) sc.names }
  rw [hce]
  obtain ⟨s4, hs4⟩ : ∃ s4 : Shared, ({ s3 with heap := pushCells (s3.heap.push { cls := .type "dict", data := .dict #[] }) sc.names } : Shared) = s4 := ⟨_, rfl⟩
  rw [hs4] at I4
  rw [hs4]
  have st4 : tn 0 s4.heap := T.keep _ _ _ st3 fun b _ o e => by rw [← hs4]; exact pushCells_keeps _ _ _ _ (Heap.get?_push_of_some _ e)
  have stand : ∀ {σ' : L2.St} {H' : Hp} {s' : Shared}, Inv (X.blk s3 G sc ce fp) [] σ' H' s' → (∀ b ∈ fp, H' b = none) → ∀ b ∈ fp, FpOk (X.blk s3 G sc ce fp) [] H' b := fun {σ' H' s'} I' hn b hb =>
    ⟨hn b hb, (I'.ok.exf b hb).1, I'.ok.exfs b hb, .inl hb, fun x c e => (I'.ok.exf b hb).2 x c e, fun p hp => absurd (show p ∈ ([] : List (Addr × Obj)) ++ [] from hp) (by simp)⟩
  obtain ⟨R, hR⟩ : ∃ R : Result → Shared → Prop, compPost (model X.prog X.w) X.A X.xe use Qf (.ref D) s3.heap.objs.size = R := ⟨_, rfl⟩
  have done : ∀ (s' : Shared) (m : Str → Option Value) (H' : Hp), Inv X pins σ H' s' → Q (.ref D) H' → s'.heap.Ns s3.heap.objs.size m → FpOk X pins H' s3.heap.objs.size → R (.ok .next) s' := fun s' m H' I' q hn fo => by
    rw [← hR]
    exact done0 D s3.heap.objs.size s' m H' I' q hn fo
  have loop : codeAny (model X.prog X.w) X.A (.compLoop (.DictComp kx vx [⟨t0, j0, c0, 0⟩] sc ps) 0 (.ref it) (.ref D) ce) R s4 := by
    refine compLoop_anyD (fun n s' => ∃ i H', Inv (X.blk s3 G sc ce fp) [] (wipe σ (own.map (·.2))) H' s' ∧ tn i s'.heap ∧ (∀ b ∈ fp, H' b = none) ∧ W i n H') ?_ m0 ⟨0, G, I4, st4, fun b hb => (f3 b hb).1.1, w0⟩
    rintro n s5 ⟨i, H5, I5, st5, n5, w5⟩
    rcases turn i n H5 w5 with ⟨stop, qq⟩ | ⟨go, Nx, hNx, step⟩
    · refine thnF (T.done (X.blk s3 G sc ce fp) rfl rfl rfl hc i [] s5 _ H5 (fun _ _ => False) I5 (stand I5 n5) st5 stop) fun r s6 ⟨hr, I6⟩ => ?_
      cases hr
      have free : H5 s3.heap.objs.size = none := by
        have z : H5 ce.locals = none := I6.free
        rwa [cL] at z
      obtain ⟨m, hn, _⟩ := I6.loc
      replace hn : s6.heap.Ns ce.locals m := hn
      rw [cL] at hn
      refine done s6 m H5 (I3.call' (ch := fp) I6.os I6.base I6.hok I6.bare fun b hb => ?_) qq hn (I3.fpOk (Nat.le_refl _) free)
      obtain ⟨⟨_, z1, z2, z3, z4⟩, z5⟩ := f3 b hb
      exact ⟨(f3 b hb).1.2.2.2.1, (f3 b hb).1.2.1, (f3 b hb).1.2.2.2.2.1, (f3 b hb).1.2.2.2.2.2⟩
    · refine thnF (T.item (X.blk s3 G sc ce fp) rfl rfl rfl hc i [] s5 _ H5 (fun _ _ => False) I5 (stand I5 n5) st5 go) fun r s6 ⟨u, hr, h6⟩ => ?_
      cases hr
      refine thnF h6 fun _ s7 ⟨x, H7, I7, r7, y7, st7, n7⟩ => ?_
      refine thnF (b1.run _ s7 _ H7 x u _ (I7.pinned (stand I7 n7) (T.obj _ _ st7)) r7 (step x H7 y7)) fun _ s8 ⟨σ8, H8, I8, hw8, q8⟩ => ?_
      refine thnF (b2.run _ s8 σ8 H8 _ I8 q8) fun b s9 ⟨H9, I9, q9⟩ => ?_
      -- a turn ends
      have over : ∀ {σ9 : L2.St} {s' : Shared} {H' : Hp}, Inv (X.blk s3 G sc ce fp) ([] ++ pinsAt fp s7.heap) σ9 H' s' → (wipe σ (own.map (·.2))).length = σ9.length → (∀ (j : Nat) v, (wipe σ (own.map (·.2)))[j]? = some (some v) → σ9[j]? = some (some v)) → Nx H' →
          ∃ m, m < n ∧ ∃ i H', Inv (X.blk s3 G sc ce fp) [] (wipe σ (own.map (·.2))) H' s' ∧ tn i s'.heap ∧ (∀ b ∈ fp, H' b = none) ∧ W i m H' := by
        intro σ9 s' H' I' hl hk nx
        obtain ⟨m', hm, w'⟩ := hNx H' nx
        have pinned : ∀ b ∈ fp, ∀ o, s7.heap.get? b = some o → s'.heap.get? b = some o ∧ H' b = none := by
          intro b hb o e
          have z := I'.pin (b, o) (List.mem_append_right _ (List.mem_append_right _ (mem_pinsAt hb e)))
          exact ⟨z.1, z.2.1⟩
        refine ⟨m', hm, i + 1, H', (I'.unpinned (pins := [])).weak hl hk, T.keep _ _ _ st7 fun b hb o e => (pinned b hb o e).1, fun b hb => ?_, w'⟩
        obtain ⟨o, e, _⟩ := T.obj _ _ st7 b hb
        exact (pinned b hb o e).2
      have len8 : (wipe σ (own.map (·.2))).length = σ8.length := by rw [← hw8, wipe_length]
      have know8 : ∀ (j : Nat) v, (wipe σ (own.map (·.2)))[j]? = some (some v) → σ8[j]? = some (some v) := by
        intro j v e
        rw [← hw8] at e
        exact (wipe_some e).1
      cases b with
      | false =>
        rw [if_neg Bool.false_ne_true] at q9 ⊢
        exact over I9 len8 know8 q9
      | true =>
        rw [if_pos rfl] at q9 ⊢
        refine thnF (b6.run _ s9 σ8 H9 _ I9 q9) fun kv s17 ⟨yk, H17, I17, r17, q17⟩ => ?_
        refine thnF (b7.run _ s17 σ8 H17 _ I17 q17) fun vv s18 ⟨yv, H18, I18, r18, kvs, kk, bb, ek, kb18, g18, hz18, nx⟩ => ?_
        subst ek
        cases r17
        exact q_dictSet (X := X.blk s3 G sc ce fp) hu I18 g18 hz18 kb18 r18 fun o s19 g19 I19 => over I19 len8 know8 (nx o g19)
  rw [← hR] at loop
  exact codeAny_compStart_dict loop (T.self X.A 0 _ _ _ st4 loop)
theorem pe_dcQ {kx vx t0 j0 : Expr} {c0 : List Expr} {sc : Scope} {own : List (Str × Nat)} {ps : Pos} {wi : TI} {g : TG} {tt : TT} {tk tv : TE} (hu : X.A.units + 9 < cLine) (hc : X.calm = true) (hN : X.N.Nodup) (hi : PI X t0 j0 wi) (ok : BlkOk X.N X.env.scope sc own)
    (a1 : AllQ X sc fun Y => PG Y t0 g) (a2 : AllQ X sc fun Y => PTs Y c0 tt) (a6 : AllQ X sc fun Y => PE Y kx tk) (a7 : AllQ X sc fun Y => PE Y vx tv)
    (f0 : ∀ x, foldedSetIterable j0 X.env x = pure x := by intro _; rfl) :
    PE X (.DictComp kx vx [⟨t0, j0, c0, 0⟩] sc ps) (tDcQ X.prog X.w X.K wi g tt tk tv (own.map (·.2))) := by
  constructor
  intro pins s σ H Q I h
  rw [arm_eval_DictComp]
  refine dcQ_core hu hc hN hi ok a1 a2 a6 a7 f0 I h fun D C s' m H' I' q hn fo => ?_
  refine ⟨m, hn, fun h'' sb => ?_⟩
  obtain ⟨g0, g1, g2, g3, g4, g5⟩ := fo
  exact ⟨.ref D, H', I'.turned (t' := s'.toks) (fun b o hb e => (sb.2 b hb).trans e) g0 g1 g3 g4 g5, rfl, q⟩
end
theorem sameQ {H1 H : Hp} {D : Addr} {o : HO} (n : H1 D = none) (s : Same H1 H) : Same H1 (upd H D o) := fun b u e => by
  rw [upd_ne (ne_of_none e n)]
  exact s _ _ e
theorem yes_inQ {σ : L2.St} {H : Hp} {Q : Bool → Hp → Prop} (h : Q true H) : tYes σ H Q := h
/-- {row: True for row in l}, l a list that stays -/
theorem dcQ_list {P : Program} {w : World} {K : PySem.W.Frag} {a : Addr} {L : List (Addr × NK)} {tx : TE} {i0 : Nat} {l : List Nat} {σ : L2.St} {H H1 : Hp} {Q : VK} (hx : ∀ R : VK, R (.ref a) H1 → tx σ H R) (ha : SqL K H1 a (L.map fun c => V.ref c.1))
    (hk : ∀ c ∈ L, KeyQ K H1 c.1 c.2) (hi : ∀ x, ((wipe σ l).set i0 (some x))[i0]? = some (some x)) (wp : ∀ x, wipe ((wipe σ l).set i0 (some x)) l = wipe σ l) (lz : L.length ≤ sizeLine)
    (k : ∀ D kvs H2, H1 D = none → Same H1 H2 → QAt P w K H2 D kvs → kvs.length ≤ L.length → (kvs.length = L.length ↔ (L.map (·.2)).Nodup) → (∀ p, (valV kvs p).isSome = true ↔ p ∈ L.map (·.2)) → Q (.ref D) H2) :
    tDcQ P w K (iList K tx) (gName i0) tYes (tVar i0) (tC (.bl true)) l σ H Q := by
  refine hx _ ⟨a, rfl, ⟨_, ha⟩, fun D nD => ?_⟩
  refine ⟨fun i m H => L.length = m + i ∧ Same H1 H ∧ ∃ kvs, QAt P w K H D kvs ∧ kvs.length ≤ i ∧ (kvs.length = i ↔ ((L.take i).map (·.2)).Nodup) ∧ ∀ p, (valV kvs p).isSome = true ↔ p ∈ (L.take i).map (·.2), ⟨L.length, rfl, sameQ nD (Same.refl _), [], QAt.new upd_same, Nat.le_refl _, ⟨fun _ => List.nodup_nil, fun _ => rfl⟩, fun p => ⟨(fun z => nomatch z), fun z => nomatch z⟩⟩, ?_⟩
  rintro i m H ⟨em, s, kvs, g, le, nd, mem⟩
  cases m with
  | zero =>
    have e : L.length = i := by omega
    subst e
    rw [List.take_length] at nd mem
    exact .inl ⟨⟨_, s.seq ha, by rw [List.length_map]; exact Nat.le_refl _⟩, k D kvs H nD s g le nd mem⟩
  | succ m =>
    have lt : i < L.length := by omega
    obtain ⟨c, hc⟩ : ∃ c, L[i]? = some c := ⟨_, List.getElem?_eq_getElem lt⟩
    have et : (L.take (i + 1)).map (·.2) = (L.take i).map (·.2) ++ [c.2] := by
      rw [List.take_add_one, hc, List.map_append]
      rfl
    refine .inr ⟨⟨_, _, s.seq ha, by rw [List.getElem?_map, hc]; rfl⟩, fun H' => Same H1 H' ∧ ∃ kvs, QAt P w K H' D kvs ∧ kvs.length ≤ i + 1 ∧ (kvs.length = i + 1 ↔ ((L.take (i + 1)).map (·.2)).Nodup) ∧ ∀ p, (valV kvs p).isSome = true ↔ p ∈ (L.take (i + 1)).map (·.2), fun H' p' => ⟨m, Nat.lt_succ_self m, by omega, p'⟩, ?_⟩
    rintro x H' ⟨rfl, hx'⟩
    have ex := hx' _ (s.seq ha)
    rw [List.getElem?_map, hc] at ex
    cases ex
    have go : ∀ (A B : Prop), A → (if true = true then A else B) := fun A B h => by
      rw [if_pos rfl]
      exact h
    refine ⟨wp _, yes_inQ (go _ _ ?_)⟩
    refine ⟨_, hi _, kvs, c.2, c.1, rfl, (hk c (List.mem_of_getElem? hc)).keeps fun b xs e => seqT_same s e, g, by omega, fun o go' => ⟨sameQ nD s, _, go', ?_, ?_, fun p => ?_⟩⟩
    · have := length_putK kvs c.2 (V.bl true)
      omega
    · rw [et, List.nodup_append]
      by_cases hin : c.2 ∈ (L.take i).map (·.2)
      · refine ⟨fun e => ?_, fun z => absurd rfl (z.2.2 c.2 hin c.2 List.mem_cons_self)⟩
        exfalso
        have hv := (mem c.2).mpr hin
        have el : (putK kvs c.2 (V.bl true)).length = kvs.length := by
          unfold putK
          rw [valV_any, hv, if_pos rfl, List.length_map]
        omega
      · have hv : valV kvs c.2 = none := by
          cases hq : valV kvs c.2 with
          | none => rfl
          | some v => exact absurd ((mem c.2).mp (by rw [hq]; rfl)) hin
        rw [putK_new _ hv, List.length_append]
        constructor
        · intro e
          refine ⟨nd.mp (by have e2 : kvs.length + 1 = i + 1 := e; omega), by simp, fun a ma b mb e => ?_⟩
          rw [List.mem_singleton.mp mb] at e
          exact hin (e ▸ ma)
        · intro z
          have := nd.mpr z.1
          show kvs.length + 1 = i + 1
          omega
    · rw [et, List.mem_append, List.mem_singleton, ← mem p]
      by_cases ep : p = c.2
      · subst ep
        rw [valV_put, if_pos rfl]
        exact ⟨fun _ => .inr rfl, fun _ => rfl⟩
      · rw [valV_put, if_neg ep]
        exact ⟨.inl, fun z => z.resolve_right ep⟩
end Lk

/-! SetN0 -/
set_option Elab.async false
set_option maxRecDepth 100000
set_option linter.all false
set_option maxHeartbeats 4000000
namespace Lk
open PySem PySem.Spec PyProof.Rows L2
/-! ### len(set(l)), l a list of pairs of a text and a tuple of numbers -/
theorem nested_at {h : Heap} : ∀ {ks : List NestedKey} {vs : List Value}, NestedAll h ks vs → ∀ v ∈ vs, ∃ k ∈ ks, NestedIs h k v
  | [], _, r => by
    cases r
    exact fun v m => nomatch m
  | k :: ks, _, r => by
    cases r with
    | cons h1 h2 =>
      intro v m
      rcases List.mem_cons.mp m with rfl | m
      · exact ⟨k, List.mem_cons_self, h1⟩
      · obtain ⟨k', m', h'⟩ := nested_at h2 v m
        exact ⟨k', List.mem_cons_of_mem _ m', h'⟩
theorem depth_in : ∀ {ks : List NestedKey} {k : NestedKey}, k ∈ ks → k.depth ≤ NestedKey.depthAll ks
  | x :: ks, k, m => by
    rw [NestedKey.depthAll]
    rcases List.mem_cons.mp m with rfl | m
    · omega
    · have := depth_in m
      omega
section
variable {P : Program} {w : World} {A : Around} {E : Value → Shared → Prop} {s : Shared}
theorem cls_nested : ∀ (n : Nat) (k : NestedKey) (v : Value) (Q : Bool → Shared → Prop), NestedIs s.heap k v → k.depth ≤ n → Q false s → wpAny (model P w) A (ofAClassStatement n v) Q E s
  | n, k, v, Q, h, hd, q => by
    cases h with
    | none => cases n <;> exact wpAny_pure q
    | bool e => cases n <;> exact wpAny_pure q
    | int i t => cases n <;> exact wpAny_pure q
    | text x t => cases n <;> exact wpAny_pure q
    | @tup a o vs m ks ho hc hdt ha =>
      have hT : s.TypeIs (.ref a) "tuple" := ⟨o, ho, hc⟩
      rw [NestedKey.depth] at hd
      cases n with
      | zero => omega
      | succ n =>
        unfold ofAClassStatement
        refine wpAny_bind (wpAny_typeOf hT ?_)
        dsimp only
        simp only [show (("tuple" : String) == "tuple") = true by decide, if_true, Bool.not_true, Bool.false_eq_true, if_false]
        try refine wpAny_bind (wpAny_pure ?_)
        try simp only [Bool.not_true, Bool.false_eq_true, if_false]
        refine wpAny_bind (wpAny_seqItems (a := a) ho hdt ?_)
        dsimp only
        rw [← Array.forIn_toList]
        refine wpAny_bind (wpAny_forIn_list _ (fun l z u => z.1 = none ∧ u = s ∧ ∀ v ∈ l, v ∈ vs.toList) _ ?step ?stop _ _ ⟨rfl, rfl, fun _ m => m⟩)
        case step =>
          rintro v l z u ⟨hz, hu, sub⟩
          obtain ⟨k', hk', hv'⟩ := nested_at ha v (sub v List.mem_cons_self)
          have := depth_in hk'
          rw [hu]
          refine wpAny_bind (cls_nested n k' v _ hv' (by omega) ?_)
          simp only [Bool.false_eq_true, if_false]
          exact wpAny_pure ⟨rfl, rfl, fun y m => sub y (List.mem_cons_of_mem _ m)⟩
        case stop =>
          rintro ⟨z1, z2⟩ u ⟨hz, hu, _⟩
          cases hz
          rw [hu]
          exact wpAny_pure q
theorem byV_nested : ∀ (n : Nat) (k : NestedKey) (v : Value) (Q : Bool → Shared → Prop), NestedIs s.heap k v → (∀ b, Q b s) → wpAny (model P w) A (hashByValue n v) Q E s
  | n, k, v, Q, h, q => by
    cases h with
    | none => cases n <;> exact wpAny_pure (q _)
    | bool e => cases n <;> exact wpAny_pure (q _)
    | int i t => cases n <;> exact wpAny_pure (q _)
    | text x t => cases n <;> exact wpAny_pure (q _)
    | @tup a o vs m ks ho hc hdt ha =>
      have hT : s.TypeIs (.ref a) "tuple" := ⟨o, ho, hc⟩
      cases n with
      | zero => exact wpAny_pure (q _)
      | succ n =>
        unfold hashByValue
        refine wpAny_bind (wpAny_specialOf hT F.slot_tuple_hash.lookup ?_)
        show wpAny _ _ (seqItems? (.ref a) >>= _) _ _ s
        refine wpAny_bind (wpAny_seqItems (a := a) ho hdt ?_)
        show wpAny _ _ (forIn vs _ _ >>= _) _ _ s
        rw [← Array.forIn_toList]
        refine wpAny_bind (wpAny_forIn_list _ (fun l z u => z.1 = none ∧ u = s ∧ ∀ v ∈ l, v ∈ vs.toList) _ ?step ?stop _ _ ⟨rfl, rfl, fun _ m => m⟩)
        case step =>
          rintro v l z u ⟨hz, hu, sub⟩
          obtain ⟨k', hk', hv'⟩ := nested_at ha v (sub v List.mem_cons_self)
          rw [hu]
          refine wpAny_bind (byV_nested n k' v _ hv' fun b => ?_)
          cases b with
          | true =>
            simp only [Bool.not_true, Bool.false_eq_true, if_false]
            exact wpAny_pure ⟨rfl, rfl, fun y m => sub y (List.mem_cons_of_mem _ m)⟩
          | false =>
            simp only [Bool.not_false, if_true]
            exact wpAny_pure (wpAny_pure (q _))
        case stop =>
          rintro ⟨z1, z2⟩ u ⟨hz, hu, _⟩
          cases hz
          rw [hu]
          exact wpAny_pure (q _)
end
theorem nestedMem {P : Program} {w : World} : Mem (nestedKind P w) where
  st := nestedKind_stays
  cls := fun x q => cls_nested 8 _ _ _ x.1 x.2 q
  byV := fun x q => byV_nested 8 _ _ _ x.1 q
/-- which pair stands at which address -/
def InN (L : List (Addr × NK)) (k : NestedKey) (b : Addr) : Prop := ∃ p, (b, p) ∈ L ∧ k = nk p
def SetN (P : Program) (w : World) (L : List (Addr × NK)) (a : Addr) (us : List NestedKey) : HO := .ext fun h => TSet (nestedKind P w) (InN L) h a us
section
variable {X : Cx}
def rSetN (P : Program) (w : World) (K : PySem.W.Frag) : List V → Hp → VK → Prop := fun xs H Q => ∃ (l : Addr) (L : List (Addr × NK)), xs = [.ref l] ∧ SqL K H l (L.map fun p => V.ref p.1) ∧ (∀ p ∈ L, KeyQ K H p.1 p.2) ∧ L.length ≤ 4000 ∧
  ∀ (p : Addr) (us : List NestedKey), H p = none → us.Nodup → (∀ x, x ∈ us ↔ x ∈ L.map fun c => nk c.2) → us.length ≤ 4000 → Q (.ref p) (upd H p (SetN P w L p us))
theorem call_setN (calm : X.calm = true) (hu : X.A.units + 64 < cLine) : CallR X (.type "set") (rSetN X.prog X.w X.K) := by
  intro pins s σ H xs us Q I r h
  obtain ⟨l, L, rfl, hl, ht, few, q⟩ := h
  rw [Vals.ref1 r]
  have hn : H s.heap.objs.size = none := I.hok.fresh (Nat.le_refl _)
  obtain ⟨its, rv, pl, hz⟩ := I.list hl
  have ei : its = L.map fun p => Value.ref p.1 := by
    clear hl ht few q hz pl
    induction L generalizing its with
    | nil => cases rv; rfl
    | cons p L ih =>
      cases rv with
      | cons r t =>
        cases r
        rw [ih _ t]
        rfl
  have keys : ∀ (i : Nat) (v : Value), its.toArray[i]? = some v → ∃ k b, (L.map fun p => nk p.2)[i]? = some k ∧ v = .ref b ∧ InN L k b := fun i v hv => by
    have h2 : its[i]? = some v := by simpa using hv
    rw [ei, List.getElem?_map] at h2
    obtain ⟨p, hp, e⟩ := Option.map_eq_some_iff.mp h2
    exact ⟨nk p.2, p.1, by rw [List.getElem?_map, hp]; rfl, e.symm, p.2, List.mem_of_getElem? hp, rfl⟩
  refine call_set_M (knd := nestedKind X.prog X.w) (B := InN L) (ks := L.map fun p => nk p.2) nestedMem (I.ok.hd calm) pl.isList (by rw [List.size_toArray, ei, List.length_map, List.length_map]) (by rw [List.length_map]; exact few)
    (fun A' le => by show A'.units + 8 < cLine; omega) (fun k b ⟨x, m, e⟩ => by rw [e]; exact keyQ I (ht _ m)) keys fun h' tk us R mem kp => ?_
  refine ⟨.ref s.heap.objs.size, upd H s.heap.objs.size (SetN X.prog X.w L s.heap.objs.size us), I.laid (t' := tk) kp (Nat.le_refl _) ?_, rfl, q _ us hn R.nodup mem ?_⟩
  · refine ⟨R, ?_, fun _ _ z k => TSet.at z k⟩
    obtain ⟨_, _, _, _, R1, _⟩ := R
    obtain ⟨o, ho, _⟩ := R1.here
    exact ⟨o, ho⟩
  · obtain ⟨_, _, _, _, R1, pm⟩ := R
    rw [← pm.length_eq]
    exact R1.few
def rLenSN (P : Program) (w : World) : List V → Hp → VK → Prop := fun xs H Q => ∃ (a : Addr) (L : List (Addr × NK)) (us : List NestedKey), xs = [.ref a] ∧ H a = some (SetN P w L a us) ∧ us.length ≤ 4000 ∧ Q (.int ((us.length : Nat) : Int)) H
theorem call_len_SN : CallR X (.builtin "len") (rLenSN X.prog X.w) := by
  intro pins s σ H xs us Q I r h
  obtain ⟨a, L, ks, rfl, ha, few, q⟩ := h
  have R : TSet (nestedKind X.prog X.w) (InN L) s.heap a ks := (I.hok a _ ha).1
  rw [Vals.ref1 r]
  obtain ⟨ls, es, ep, t, R1, pm⟩ := R
  obtain ⟨o, ho, hex, hd⟩ := R1.here
  have n1 : es.size = ks.length := by
    rw [R1.many]
    exact pm.length_eq
  have big : (es.size : Int) < 2 ^ 63 := by
    rw [n1]
    have : (ks.length : Int) ≤ 4000 := by omega
    exact Int.lt_of_le_of_lt this (by decide)
  refine call_len_set ho hex hd (TRow.fit R1) big ?_
  refine ⟨.int ((ks.length : Nat) : Int), H, I.tok _, ?_, q⟩
  exact ⟨_, by rw [n1]⟩
end
/-- as many different ones as there are, if and only if none stands twice -/
theorem same_len {α : Type} [DecidableEq α] : ∀ {M us : List α}, us.Nodup → (∀ k, k ∈ us ↔ k ∈ M) → us.length ≤ M.length ∧ (us.length = M.length ↔ M.Nodup)
  | [], us, _, h => by
    have e : us = [] := List.eq_nil_iff_forall_not_mem.mpr fun k m => nomatch (h k).mp m
    subst e
    exact ⟨Nat.le_refl _, ⟨fun _ => List.nodup_nil, fun _ => rfl⟩⟩
  | k :: M, us, nd, h => by
    by_cases hk : k ∈ M
    · obtain ⟨a, _⟩ := same_len (M := M) nd fun x => by
        rw [h x, List.mem_cons]
        exact ⟨fun z => z.elim (fun e => e ▸ hk) id, .inr⟩
      refine ⟨by rw [List.length_cons]; omega, ⟨fun e => ?_, fun z => absurd hk (List.nodup_cons.mp z).1⟩⟩
      rw [List.length_cons] at e
      omega
    · have mk : k ∈ us := (h k).mpr List.mem_cons_self
      obtain ⟨a, b⟩ := same_len (M := M) (us := us.erase k) (nd.erase k) fun x => by
        rw [nd.mem_erase_iff, h x, List.mem_cons]
        constructor
        · exact fun z => z.2.resolve_left z.1
        · exact fun z => ⟨fun e => hk (e ▸ z), .inr z⟩
      have l1 := List.length_erase_of_mem mk
      have l2 := List.length_pos_of_mem mk
      rw [List.length_cons, List.nodup_cons]
      refine ⟨by omega, ⟨fun e => ⟨hk, b.mp (by omega)⟩, fun z => ?_⟩⟩
      have := b.mpr z.2
      omega
theorem nodup_nk {L : List (Addr × NK)} : (L.map fun c => nk c.2).Nodup ↔ (L.map (·.2)).Nodup := by
  have e : (L.map fun c => nk c.2) = (L.map (·.2)).map nk := by rw [List.map_map]; rfl
  rw [e]
  constructor
  · exact fun h => List.Pairwise.of_map nk (fun _ _ ne z => ne (congrArg nk z)) h
  · intro h
    unfold List.Nodup
    rw [List.pairwise_map]
    exact h.imp fun ne z => ne (nk_inj z)
end Lk

/-! SetI0 -/
set_option Elab.async false
set_option maxRecDepth 100000
set_option linter.all false
set_option maxHeartbeats 4000000
namespace Lk
open PySem PySem.Spec PyProof.Rows L2
/-! ### set(t), t a tuple of whole numbers -/
def rSetI (K : PySem.W.Frag) (w : World) : List V → Hp → VK → Prop := fun xs H Q => ∃ (l : Addr) (ns : List Int), xs = [.ref l] ∧ SqT K H l (ns.map V.int) ∧ ns.length < 64 ∧
  ∀ (p : Addr) (c : Nat), H p = none → c ≤ ns.length → Q (.ref p) (upd H p (SetO w p (fun j => decide (j ∈ ns)) c))
theorem ints_of_vals : ∀ {ns : List Int} {us : List Value}, Vals (ns.map V.int) us → IntsAre us ns
  | [], _, r => by
    cases r
    exact .nil
  | n :: ns, _, r => by
    rw [List.map_cons] at r
    cases r with
    | cons h1 t =>
      obtain ⟨tk, rfl⟩ := (show ∃ t, _ = Value.int n t from h1)
      exact .cons _ _ (ints_of_vals t)
section
variable {X : Cx}
theorem call_setI (calm : X.calm = true) : CallR X (.type "set") (rSetI X.K X.w) := by
  intro pins s σ H xs us Q I r h
  obtain ⟨l, ns, rfl, hl, few, q⟩ := h
  rw [Vals.ref1 r]
  have hn : H s.heap.objs.size = none := I.hok.fresh (Nat.le_refl _)
  obtain ⟨its, rv, pl, _⟩ := I.tuple hl
  refine call_set_tupI ns (I.ok.hd calm) (show s.heap.IsTuple l its.toArray from pl) (by simpa using ints_of_vals rv) (by unfold scanBound; omega) fun h' tk c R le kp => ?_
  refine ⟨.ref s.heap.objs.size, upd H s.heap.objs.size (SetO X.w s.heap.objs.size (fun j => decide (j ∈ ns)) c), I.laid (t' := tk) kp (Nat.le_refl _) ?_, rfl, q _ c hn le⟩
  refine ⟨R, ?_, fun _ _ z k => SetR.at z k⟩
  obtain ⟨o, _, _, _, ho, _⟩ := R
  exact ⟨o, ho⟩
end
end Lk

/-! Rep0 -/
set_option Elab.async false
set_option maxRecDepth 100000
set_option linter.all false
set_option maxHeartbeats 4000000
namespace Lk
open PySem PySem.Spec PyProof.Rows L2
/-! ### text * int, from 0 on -/
def rStrRep0 : R2 := fun x y H Q => ∃ (a : Str) (k : Nat), x = .str a ∧ y = .int (k : Int) ∧ k ≤ 5000 ∧ a.length ≤ 1000 ∧ ∀ z : Str, TL.tl z = (List.replicate k (TL.tl a)).flatten → Q (.str z) H
theorem op_strRep0 {X : Cx} : OpR X (binaryOp .Mult) rStrRep0 := by
  intro pins s σ H x y v u Q I rx ry h
  obtain ⟨a, k, rfl, rfl, k2, ha, q⟩ := h
  by_cases h0 : k = 0
  · subst h0
    obtain ⟨t, rfl⟩ := rx
    obtain ⟨t', rfl⟩ := ry
    exact PySem.P.mul_str_none (by decide) (by decide) ⟨.str Str.empty, H, I.tok _, ⟨_, rfl⟩, q _ rfl⟩
  · exact op_strRep1 pins s σ H _ _ v u Q I rx ry ⟨a, k, rfl, rfl, by omega, k2, ha, q⟩
/-! ### data that repr shows: tuples of such -/
structure Pl (k : Nat) (d : PyData) : Prop where
  sh : d.showable = true
  lv : d.leavesShort 13 = true
  dp : d.depth ≤ k
  hd : d.hasDict = false
theorem pl_all {k : Nat} : ∀ {ds : List PyData}, (∀ d ∈ ds, Pl k d) → PyData.showableAll ds = true ∧ PyData.leavesShortAll 13 ds = true ∧ PyData.depthAll ds ≤ k ∧ PyData.hasDictAll ds = false
  | [], _ => ⟨rfl, rfl, Nat.zero_le _, rfl⟩
  | d :: ds, h => by
    obtain ⟨a, b, c, e⟩ := pl_all fun x m => h x (List.mem_cons_of_mem _ m)
    have q := h d List.mem_cons_self
    refine ⟨?_, ?_, ?_, ?_⟩
    · rw [PyData.showableAll, q.sh, a]
      rfl
    · rw [PyData.leavesShortAll, q.lv, b]
      rfl
    · rw [PyData.depthAll]
      have z := q.dp
      omega
    · rw [PyData.hasDictAll, q.hd, e]
      rfl
theorem pl_tup {k : Nat} {ds : List PyData} (h : ∀ d ∈ ds, Pl k d) : Pl (k + 1) (.tuple ds) := by
  obtain ⟨a, b, c, e⟩ := pl_all h
  refine ⟨?_, ?_, ?_, ?_⟩
  · rw [PyData.showable]
    exact a
  · rw [PyData.leavesShort]
    exact b
  · rw [PyData.depth]
    omega
  · rw [PyData.hasDict]
    exact e
theorem Pl.le {k j : Nat} {d : PyData} (h : Pl k d) (le : k ≤ j) : Pl j d := ⟨h.sh, h.lv, Nat.le_trans h.dp le, h.hd⟩
theorem Pl.wf {k : Nat} {d : PyData} (h : Pl k d) (k60 : k ≤ 60) (b : d.bulk ≤ 1000000) : Wf d := ⟨h.sh, h.lv, b, Nat.le_trans h.dp k60, .inl h.hd⟩
end Lk

/-! RevL0 -/
set_option Elab.async false
set_option maxRecDepth 100000
set_option linter.all false
set_option maxHeartbeats 4000000
namespace Lk
open PySem PySem.Spec PyProof.Rows L2
/-! ### xs[::0 - 1] -/
section
variable {X : Cx}
theorem pe_revL0 {e : Expr} {te : TE} {k k2 : Nat} {p0 p1 p2 p3 pos : Pos} (he : PE X e te) : PE X (.Subscript e (.Slice none none (some (.BinOp (.Constant (.int 0) k p0) .Sub (.Constant (.int 1) k2 p1) p2)) p3) pos) (tRevL X.K te) := by
  refine ⟨fun pins s σ H Q I h => ?_⟩
  refine Subscript_ (thn (he.run pins s σ H _ I h) fun v s1 ⟨x, H1, I1, r1, q1⟩ => ?_)
  obtain ⟨a, xs, ex, hx, q⟩ := q1
  subst ex
  cases r1
  have hst : PO X (some (.BinOp (.Constant (.int 0) k p0) .Sub (.Constant (.int 1) k2 p1) p2)) _ := po_some (pe_op op_sub pe_int pe_int)
  refine wpAny_Slice (thn (po_none.run pins s1 σ H1 (fun o H2 => o = none ∧ H2 = H1) I1 ⟨rfl, rfl⟩) fun vl s2 ⟨l, H2, I2, pl, el, e2⟩ => ?_)
  subst el e2
  refine thn (po_none.run pins s2 σ H2 (fun o H3 => o = none ∧ H3 = H2) I2 ⟨rfl, rfl⟩) fun vu s3 ⟨u, H3, I3, pu, eu, e3⟩ => ?_
  subst eu e3
  refine thn (hst.run pins s3 σ H3 (fun o H4 => o = some (-1) ∧ H4 = H3) I3 ⟨0, 1, rfl, rfl, -1, rfl, rfl, rfl⟩) fun vs s4 ⟨o, H4, I4, ps, eo, e4⟩ => ?_
  subst eo e4
  have I5 : Inv X pins σ H4 { s4 with heap := s4.heap.push { cls := .type "slice", data := .fields #[vl, vu, vs] } } := I4.kept (t' := s4.toks) fun b ob q => Heap.get?_push_of_some _ q
  obtain ⟨its, r, ht, hz⟩ := I5.list hx
  have hlen := r.length
  show wpAny (model X.prog X.w) X.A (subscriptTail e (.Slice none none (some (.BinOp (.Constant (.int 0) k p0) .Sub (.Constant (.int 1) k2 p1) p2)) p3) (.ref a) (.ref s4.heap.objs.size)) (EP X pins σ Q) X.xe { s4 with heap := s4.heap.push { cls := .type "slice", data := .fields #[vl, vu, vs] } }
  refine tail_any (ops := [.ref a, .ref s4.heap.objs.size]) ht.isList.typeIs (PySem.slot_list_getitem.lookup) ?_ (by with_unfolding_all rfl)
  refine wpAny_getItem_list_slice ht.isList (Heap.IsSliceOf.new _ vl vu vs) pl pu ps (by decide) ?_ (by rw [List.size_toArray]; omega)
  rw [PySem.W.krv_pick]
  refine ⟨.ref _, _, I5.laid (t' := s4.toks) (o := .lst xs.reverse) (fun b ob q => Heap.get?_push_of_some _ q) (Nat.le_refl _) ?_, rfl, q _ (I5.hok.fresh (Nat.le_refl _))⟩
  exact ⟨by rw [List.length_reverse]; exact hz, _, 0, r.reverse, Heap.get?_push_size _ rfl⟩
end
end Lk

/-! RevT0 -/
set_option Elab.async false
set_option maxRecDepth 100000
set_option linter.all false
set_option maxHeartbeats 4000000
namespace Lk
open PySem PySem.Spec PyProof.Rows L2
/-! ### t[::0 - 1] -/
section
variable {X : Cx}
theorem pe_revT0 {e : Expr} {te : TE} {k k2 : Nat} {p0 p1 p2 p3 pos : Pos} (he : PE X e te) : PE X (.Subscript e (.Slice none none (some (.BinOp (.Constant (.int 0) k p0) .Sub (.Constant (.int 1) k2 p1) p2)) p3) pos) (tRevT X.K te) := by
  refine ⟨fun pins s σ H Q I h => ?_⟩
  refine Subscript_ (thn (he.run pins s σ H _ I h) fun v s1 ⟨x, H1, I1, r1, q1⟩ => ?_)
  obtain ⟨a, xs, rfl, hx, q⟩ := q1
  cases r1
  refine wpAny_Slice ?_
  rw [evalPart_none]
  refine wpAny_pure (wpAny_pure ?_)
  rw [evalPart_some]
  have hm : PE X (.BinOp (.Constant (.int 0) k p0) .Sub (.Constant (.int 1) k2 p1) p2) _ := pe_op op_sub pe_int pe_int
  refine thn (hm.run pins s1 σ H1 (fun y H2 => y = .int (-1) ∧ H2 = H1) I1 ⟨0, 1, rfl, rfl, rfl, rfl⟩) fun vk s2 ⟨y, H2, I2, r2, ey, eH⟩ => ?_
  subst ey eH
  obtain ⟨tk, rfl⟩ := r2
  have I4 : Inv X pins σ H2 { s2 with heap := s2.heap.push { cls := .type "slice", data := .fields #[.none, .none, .int (-1) tk] } } := I2.kept (t' := s2.toks) fun b ob z => Heap.get?_push_of_some _ z
  obtain ⟨its, r, ht, hz⟩ := I4.tuple hx
  have len : its.toArray.size = xs.length := by rw [List.size_toArray]; exact r.length.symm
  show wpAny (model X.prog X.w) X.A (subscriptTail e _ (.ref a) (.ref s2.heap.objs.size)) (EP X pins σ Q) X.xe { s2 with heap := s2.heap.push { cls := .type "slice", data := .fields #[.none, .none, .int (-1) tk] } }
  refine tail_any (ops := [.ref a, .ref s2.heap.objs.size]) (IsTup.typeIs ht) PyProof.Rows.slot_tuple_getitem.lookup (item_rev (u := tk) ht (Heap.IsSliceOf.new ..) ?_ (by rw [len]; exact hz)) (by with_unfolding_all rfl)
  refine ⟨.ref (s2.heap.push { cls := .type "slice", data := .fields #[.none, .none, .int (-1) tk] }).objs.size, _, I4.laid (t' := s2.toks) (o := .tup xs.reverse) (fun b ob z => Heap.get?_push_of_some _ z) (Nat.le_refl _) ?_, rfl, q _ (I4.hok.fresh (Nat.le_refl _))⟩
  exact ⟨by rw [List.length_reverse]; exact hz, _, vals_rev r, IsTup.new _ _⟩
end
end Lk

/-! MakF0 -/
set_option Elab.async false
set_option maxRecDepth 100000
set_option linter.all false
set_option maxHeartbeats 4000000
namespace Lk
open PySem PySem.Spec PyProof.Rows L2
/-! ### what is made anew, told so that a certain list may change -/
theorem ext_upd {p c D : Addr} {H H' : Hp} {o : HO} (hP : PotAt p c H) (e : Ext p c H H') (np : D ≠ p) (nc : D ≠ c) : PotAt p c (upd H D o) ∧ Ext p c (upd H D o) (upd H' D o) := by
  have pot : ∀ {H : Hp}, PotAt p c H → PotAt p c (upd H D o) := fun hP => by
    obtain ⟨n, ⟨i, a, b, e1⟩, ns, e2, l⟩ := hP
    exact ⟨n, ⟨i, a, b, by rw [upd_ne np.symm]; exact e1⟩, ns, by rw [upd_ne nc.symm]; exact e2, l⟩
  refine ⟨pot hP, fun q u h nq => ?_, pot e.pot⟩
  by_cases z : q = D
  · subst z
    rw [upd_same] at h ⊢
    exact h
  · rw [upd_ne z] at h ⊢
    exact e.keep q u h nq
theorem upd_self {H : Hp} {D : Addr} {o : HO} (h : H D = some o) : upd H D o = H := by
  funext q
  by_cases z : q = D
  · subst z
    rw [upd_same, h]
  · exact upd_ne z
theorem upd_swap {H : Hp} {p D : Addr} {o u : HO} (n : p ≠ D) : upd (upd H p o) D u = upd (upd H D u) p o := by
  funext q
  by_cases z : q = D
  · subst z
    rw [upd_same, upd_ne n.symm, upd_same]
  · rw [upd_ne z]
    by_cases y : q = p
    · subst y
      rw [upd_same, upd_same]
    · rw [upd_ne y, upd_ne y, upd_ne z]
section
variable {K : PySem.W.Frag} {D : Addr}
theorem th_mask {H : Hp} {u : HO} {v : V} {d : PyData} (h : Th K (upd H D (.own 0)) v d) : Th K (upd H D u) v d := by
  refine Th.rec (motive_1 := fun v d _ => Th K (upd H D u) v d) (motive_2 := fun vs ds _ => ThAll K (upd H D u) vs ds) ?_ ?_ ?_ ?_ ?_ ?_ ?_ ?_ ?_ h
  · exact .non
  · exact fun b => .bl b
  · exact fun i => .int i
  · exact fun x => .str x
  · intro q xs ds hs _ ih
    rcases hs with (hs | ⟨w, hs⟩) | hs
    · have ne : q ≠ D := fun z => by
        rw [z, upd_same] at hs
        cases hs
      rw [upd_ne ne] at hs
      exact .lst (.inl (.inl (by rw [upd_ne ne]; exact hs))) ih
    · have ne : q ≠ D := fun z => by
        rw [z, upd_same] at hs
        cases hs
      rw [upd_ne ne] at hs
      exact .lst (.inl (.inr ⟨w, by rw [upd_ne ne]; exact hs⟩)) ih
    · exact .lst (.inr hs) ih
  · intro q xs ds hs _ ih
    rcases hs with (hs | ⟨w, hs⟩) | hs
    · have ne : q ≠ D := fun z => by
        rw [z, upd_same] at hs
        cases hs
      rw [upd_ne ne] at hs
      exact .tup (.inl (.inl (by rw [upd_ne ne]; exact hs))) ih
    · have ne : q ≠ D := fun z => by
        rw [z, upd_same] at hs
        cases hs
      rw [upd_ne ne] at hs
      exact .tup (.inl (.inr ⟨w, by rw [upd_ne ne]; exact hs⟩)) ih
    · exact .tup (.inr hs) ih
  · intro q kvs ds hs _ ek ih
    have ne : q ≠ D := fun z => by
      rw [z, upd_same] at hs
      cases hs
    rw [upd_ne ne] at hs
    exact .dct (by rw [upd_ne ne]; exact hs) ih ek
  · exact .nil
  · exact fun _ _ i1 i2 => .cons i1 i2
def MT (D : Addr) (K : PySem.W.Frag) (H : Hp) (v : V) (d : PyData) : Prop := (∃ x0, H D = some (.lst x0)) ∧ Th K (upd H D (.own 0)) v d
def MTA (D : Addr) (K : PySem.W.Frag) (H : Hp) (vs : List V) (ds : List PyData) : Prop := (∃ x0, H D = some (.lst x0)) ∧ ThAll K (upd H D (.own 0)) vs ds
theorem mask_same {H H' : Hp} (s : Same H H') : Same (upd H D (.own 0)) (upd H' D (.own 0)) := fun b u e => by
  by_cases z : b = D
  · subst z
    rw [upd_same] at e ⊢
    exact e
  · rw [upd_ne z] at e ⊢
    exact s _ _ e
theorem m_same {H H' : Hp} {v : V} {d : PyData} (s : Same H H') (h : MT D K H v d) : MT D K H' v d := ⟨h.1.imp fun _ e => s _ _ e, th_same (mask_same s) h.2⟩
theorem mA_same {H H' : Hp} {vs : List V} {ds : List PyData} (s : Same H H') (h : MTA D K H vs ds) : MTA D K H' vs ds := ⟨h.1.imp fun _ e => s _ _ e, thAll_same (mask_same s) h.2⟩
theorem m_th {H : Hp} {v : V} {d : PyData} (h : MT D K H v d) : Th K H v d := by
  obtain ⟨⟨x0, e⟩, t⟩ := h
  have z := th_mask (u := .lst x0) t
  rwa [upd_self e] at z
theorem mA_len {H : Hp} {vs : List V} {ds : List PyData} (h : MTA D K H vs ds) : vs.length = ds.length := thAll_len h.2
theorem m_newT {H : Hp} {p : Addr} {xs : List V} {ds : List PyData} (np : H p = none) (h : MTA D K H xs ds) : MT D K (upd H p (.tup xs)) (.ref p) (.tuple ds) := by
  obtain ⟨⟨x0, e⟩, t⟩ := h
  have ne : p ≠ D := fun z => by
    rw [z, e] at np
    cases np
  refine ⟨⟨x0, by rw [upd_ne ne.symm]; exact e⟩, ?_⟩
  rw [upd_swap ne]
  have np2 : upd H D (.own 0) p = none := by rw [upd_ne ne]; exact np
  exact .tup (SqT.of upd_same) (thAll_same (same_upd np2) t)
theorem m_newL {H : Hp} {p : Addr} {xs : List V} {ds : List PyData} (ne : p ≠ D) (e : H p = some (.lst xs)) (h : MTA D K H xs ds) : MT D K H (.ref p) (.list ds) := ⟨h.1, .lst (SqL.of (by rw [upd_ne ne]; exact e)) h.2⟩
theorem m_of_tup {H : Hp} {v : V} {ds : List PyData} (h : MT D K H v (.tuple ds)) : ∃ a xs, v = .ref a ∧ SqT K H a xs ∧ MTA D K H xs ds := by
  obtain ⟨a, xs, rfl, hs, hx⟩ := th_of_tup h.2
  refine ⟨a, xs, rfl, ?_, h.1, hx⟩
  rcases hs with (hs | ⟨w, hs⟩) | hs
  · have ne : a ≠ D := fun z => by
      rw [z, upd_same] at hs
      cases hs
    rw [upd_ne ne] at hs
    exact .inl (.inl hs)
  · have ne : a ≠ D := fun z => by
      rw [z, upd_same] at hs
      cases hs
    rw [upd_ne ne] at hs
    exact .inl (.inr ⟨w, hs⟩)
  · exact .inr hs
theorem m_ext {H H' : Hp} {p c : Addr} {v : V} {d : PyData} (hP : PotAt p c H) (e : Ext p c H H') (np : D ≠ p) (nc : D ≠ c) (h : MT D K H v d) (f : noPot d = true) : MT D K H' v d := by
  obtain ⟨x1, x2⟩ := ext_upd (o := .own 0) hP e np nc
  exact ⟨h.1.imp fun _ z => e.keep _ _ z np, th_ext x1 x2 h.2 f⟩
theorem mA_ext {H H' : Hp} {p c : Addr} {vs : List V} {ds : List PyData} (hP : PotAt p c H) (e : Ext p c H H') (np : D ≠ p) (nc : D ≠ c) (h : MTA D K H vs ds) (f : noPotAll ds = true) : MTA D K H' vs ds := by
  obtain ⟨x1, x2⟩ := ext_upd (o := .own 0) hP e np nc
  exact ⟨h.1.imp fun _ z => e.keep _ _ z np, thAll_ext x1 x2 h.2 f⟩
abbrev Has (D : Addr) (H : Hp) : Prop := ∃ x0, H D = some (.lst x0)
def Mk1F (D : Addr) (K : PySem.W.Frag) (te : TE) (σ : L2.St) (H0 : Hp) (d : PyData) : Prop := Has D H0 → ∀ H, Same H0 H → ∀ Q : VK, (∀ v H', Same H H' → MT D K H' v d → Q v H') → te σ H Q
def MkAF (D : Addr) (K : PySem.W.Frag) (ta : TA) (σ : L2.St) (H0 : Hp) (ds : List PyData) : Prop := Has D H0 → ∀ H, Same H0 H → ∀ Q : List V → Hp → Prop, (∀ vs H', Same H H' → MTA D K H' vs ds → Q vs H') → ta σ H Q
def MkLF (D : Addr) (K : PySem.W.Frag) (te : TE) (σ : L2.St) (H0 : Hp) (ds : List PyData) : Prop := Has D H0 → ∀ H, Same H0 H → ∀ Q : VK, (∀ p xs H', Same H H' → p ≠ D → H' p = some (.lst xs) → MTA D K H' xs ds → Q (.ref p) H') → te σ H Q
def MkNF (D : Addr) (K : PySem.W.Frag) (te : TE) (σ : L2.St) (H0 : Hp) (ds : List PyData) : Prop := Has D H0 → ∀ H, Same H0 H → ∀ Q : VK, (∀ p xs H1, Same H H1 → H1 p = none → MTA D K H1 xs ds → Q (.ref p) (upd H1 p (.lst xs))) → te σ H Q
variable {σ : L2.St} {H0 : Hp} {te tf : TE} {ta : TA} {d e : PyData} {ds es : List PyData}
theorem has_ne {H : Hp} {p : Addr} (h : Has D H) (np : H p = none) : p ≠ D := fun z => by
  obtain ⟨x0, e⟩ := h
  rw [z, e] at np
  cases np
theorem Has.same {H H' : Hp} (h : Has D H) (s : Same H H') : Has D H' := h.imp fun _ e => s _ _ e
theorem mf_var {i : Nat} {v : V} (h : σ[i]? = some (some v)) (t : MT D K H0 v d) : Mk1F D K (tVar i) σ H0 d := fun _ H s Q q => ⟨v, h, q v H (Same.refl H) (m_same s t)⟩
theorem mf_non : Mk1F D K (tC .non) σ H0 .none := fun p0 H s Q q => q _ H (Same.refl H) ⟨p0.same s, .non⟩
theorem mf_int {i : Int} : Mk1F D K (tC (.int i)) σ H0 (.int i) := fun p0 H s Q q => q _ H (Same.refl H) ⟨p0.same s, .int i⟩
theorem mf_bl {b : Bool} : Mk1F D K (tC (.bl b)) σ H0 (.bool b) := fun p0 H s Q q => q _ H (Same.refl H) ⟨p0.same s, .bl b⟩
theorem mf_str {x : Str} : Mk1F D K (tC (.str x)) σ H0 (.str x) := fun p0 H s Q q => q _ H (Same.refl H) ⟨p0.same s, .str x⟩
theorem mf_sub {i j : Int} : Mk1F D K (tOp (rI0 fun a b => V.int (a - b)) (tC (.int i)) (tC (.int j))) σ H0 (.int (i - j)) := fun p0 H s Q q => ⟨i, j, rfl, rfl, q _ H (Same.refl H) ⟨p0.same s, .int _⟩⟩
theorem mf_nil : MkAF D K tNil σ H0 [] := fun p0 H s Q q => q _ H (Same.refl H) ⟨p0.same s, .nil⟩
theorem mf_cons (h : Mk1F D K te σ H0 d) (t : MkAF D K ta σ H0 ds) : MkAF D K (tCons te ta) σ H0 (d :: ds) := fun p0 H s Q q =>
  h p0 H s _ fun v H1 s1 h1 => t p0 H1 (s.trans s1) _ fun vs H2 s2 h2 => q _ H2 (s1.trans s2) ⟨h2.1, .cons (m_same s2 h1).2 h2.2⟩
theorem mf_tup (h : MkAF D K ta σ H0 ds) (hl : ds.length ≤ 1000) : Mk1F D K (tTup ta) σ H0 (.tuple ds) := fun p0 H s Q q =>
  h p0 H s _ fun vs H1 s1 h1 => ⟨by rw [mA_len h1]; exact Nat.le_of_lt (small1000 hl), fun p np => q _ _ (s1.trans (same_upd np)) (m_newT np h1)⟩
theorem mf_lstL (h : MkAF D K ta σ H0 ds) (hl : ds.length ≤ 1000) : MkLF D K (tLst ta) σ H0 ds := fun p0 H s Q q =>
  h p0 H s _ fun vs H1 s1 h1 => ⟨by rw [mA_len h1]; exact Nat.le_of_lt (small1000 hl), fun p np => q _ _ _ (s1.trans (same_upd np)) (has_ne h1.1 np) upd_same (mA_same (same_upd np) h1)⟩
theorem MkLF.mk (h : MkLF D K te σ H0 ds) : Mk1F D K te σ H0 (.list ds) := fun p0 H s Q q => h p0 H s _ fun p xs H1 s1 ne e h1 => q _ H1 s1 (m_newL ne e h1)
theorem mf_lst (h : MkAF D K ta σ H0 ds) (hl : ds.length ≤ 1000) : Mk1F D K (tLst ta) σ H0 (.list ds) := (mf_lstL h hl).mk
theorem mf_varL {i : Nat} {p : Addr} {xs : List V} (h : σ[i]? = some (some (.ref p))) (ne : p ≠ D) (e : H0 p = some (.lst xs)) (t : MTA D K H0 xs ds) : MkLF D K (tVar i) σ H0 ds := fun _ H s Q q => ⟨_, h, q p xs H (Same.refl H) ne (s _ _ e) (mA_same s t)⟩
theorem mA_app {H : Hp} {vs ws : List V} {ds es : List PyData} (h : MTA D K H vs ds) (g : MTA D K H ws es) : MTA D K H (vs ++ ws) (ds ++ es) := ⟨h.1, thAll_app h.2 g.2⟩
theorem mf_cat (h : MkLF D K te σ H0 ds) (g : MkLF D K tf σ H0 es) (hl : ds.length + es.length ≤ 1000) : MkLF D K (tOp rCat te tf) σ H0 (ds ++ es) := fun p0 H s Q q =>
  h p0 H s _ fun p xs H1 s1 _ e1 h1 => g p0 H1 (s.trans s1) _ fun r ys H2 s2 _ e2 h2 => ⟨p, r, xs, ys, rfl, rfl, s2 _ _ e1, e2, by rw [mA_len h1, mA_len h2]; exact Nat.le_of_lt (small1000 hl), fun l nl =>
    q l _ _ ((s1.trans s2).trans (same_upd nl)) (has_ne h2.1 nl) upd_same (mA_same (same_upd nl) (mA_app (mA_same s2 h1) h2))⟩
theorem mf_catN (h : MkLF D K te σ H0 ds) (g : MkLF D K tf σ H0 es) (hl : ds.length + es.length ≤ 1000) : MkNF D K (tOp rCat te tf) σ H0 (ds ++ es) := fun p0 H s Q q =>
  h p0 H s _ fun p xs H1 s1 _ e1 h1 => g p0 H1 (s.trans s1) _ fun r ys H2 s2 _ e2 h2 => ⟨p, r, xs, ys, rfl, rfl, s2 _ _ e1, e2, by rw [mA_len h1, mA_len h2]; exact Nat.le_of_lt (small1000 hl), fun l nl =>
    q l _ H2 (s1.trans s2) nl (mA_app (mA_same s2 h1) h2)⟩
theorem mf_catT (h : Mk1F D K te σ H0 (.tuple ds)) (g : Mk1F D K tf σ H0 (.tuple es)) (hl : ds.length + es.length ≤ 1000) : Mk1F D K (tOp (rCatA K) te tf) σ H0 (.tuple (ds ++ es)) := fun p0 H s Q q =>
  h p0 H s _ fun v H1 s1 h1 => g p0 H1 (s.trans s1) _ fun u H2 s2 h2 => by
    have h1' := m_same s2 h1
    obtain ⟨a, xs, rfl, ha, ta⟩ := m_of_tup h1'
    obtain ⟨b, ys, rfl, hb, tb⟩ := m_of_tup h2
    have l1 := mA_len ta
    have l2 := mA_len tb
    refine ⟨a, b, xs, ys, rfl, rfl, ha, hb, Nat.le_of_lt (small1000 (by omega)), fun e => ?_, fun _ e => ?_, fun _ _ p np => ?_⟩
    · have ed : ds = [] := List.length_eq_zero_iff.mp (by rw [← l1, e]; rfl)
      rw [ed] at q
      exact q _ H2 (s1.trans s2) h2
    · have ed : es = [] := List.length_eq_zero_iff.mp (by rw [← l2, e]; rfl)
      rw [ed, List.append_nil] at q
      exact q _ H2 (s1.trans s2) h1'
    · exact q _ _ ((s1.trans s2).trans (same_upd np)) (m_newT np (mA_app ta tb))
theorem mA_rev {H : Hp} {vs : List V} {ds : List PyData} (h : MTA D K H vs ds) : MTA D K H vs.reverse ds.reverse := by
  have rev : ∀ {vs : List V} {ds : List PyData}, ThAll K (upd H D (.own 0)) vs ds → ThAll K (upd H D (.own 0)) vs.reverse ds.reverse := fun {vs ds} t => by
    induction vs generalizing ds with
    | nil => cases t; exact .nil
    | cons v vs ih =>
      cases t with
      | cons r t =>
        rw [List.reverse_cons, List.reverse_cons]
        exact thAll_app (ih t) (.cons r .nil)
  exact ⟨h.1, rev h.2⟩
theorem mf_revT (h : Mk1F D K te σ H0 (.tuple ds)) : Mk1F D K (tRevT K te) σ H0 (.tuple ds.reverse) := fun p0 H s Q q =>
  h p0 H s _ fun v H1 s1 h1 => by
    obtain ⟨a, xs, rfl, ha, ta⟩ := m_of_tup h1
    exact ⟨a, xs, rfl, ha, fun p np => q _ _ (s1.trans (same_upd np)) (m_newT np (mA_rev ta))⟩
theorem mf_revL (h : MkLF D K te σ H0 ds) : MkLF D K (tRevL K te) σ H0 ds.reverse := fun p0 H s Q q =>
  h p0 H s _ fun p xs H1 s1 _ e1 t1 => ⟨p, xs, rfl, SqL.of e1, fun r nr => q r _ _ (s1.trans (same_upd nr)) (has_ne t1.1 nr) upd_same (mA_same (same_upd nr) (mA_rev t1))⟩
theorem mf_slL {tl th : TO} {lo hi : Option Int} (h : MkLF D K te σ H0 ds) (hl : MkP tl σ H0 lo) (hh : MkP th σ H0 hi) : MkLF D K (tSl (rSlL K) te tl th) σ H0 (cutL ds lo hi) := fun p0 H s Q q =>
  h p0 H s _ fun p xs H1 s1 _ e1 t1 => hl H1 (s.trans s1) _ fun H2 s2 => hh H2 ((s.trans s1).trans s2) _ fun H3 s3 => by
    have x3 := s2.trans s3
    refine ⟨p, xs, rfl, SqL.of (x3 _ _ e1), fun r nr => ?_⟩
    exact q r _ _ ((s1.trans x3).trans (same_upd nr)) (has_ne (t1.1.imp fun _ e => x3 _ _ e) nr) upd_same (mA_same (x3.trans (same_upd nr)) ⟨t1.1, thAll_cut lo hi t1.2⟩)
theorem mf_ixL {i j : Nat} {p : Addr} {xs : List V} {n : Int} {v : V} {d : PyData} (hi : σ[i]? = some (some (.ref p))) (hj : σ[j]? = some (some (.int n))) (e : H0 p = some (.lst xs)) (hv : atI xs n = some v) (t : MT D K H0 v d) : Mk1F D K (tOp (rIxL K) (tVar i) (tVar j)) σ H0 d := fun _ H s Q q =>
  ⟨_, hi, _, hj, p, xs, n, v, rfl, rfl, SqL.of (s _ _ e), hv, q v H (Same.refl H) (m_same s t)⟩
theorem mf_listT (h : Mk1F D K te σ H0 (.tuple ds)) : MkLF D K (tCB (fun xs H Q => ∃ p ys, xs = [.ref p] ∧ (SqL K H p ys ∨ SqT K H p ys) ∧ ∀ l, H l = none → Q (.ref l) (upd H l (.lst ys))) (tCons te tNil)) σ H0 ds := fun p0 H s Q q =>
  h p0 H s _ fun v H1 s1 h1 => by
    obtain ⟨a, xs, rfl, ha, ta⟩ := m_of_tup h1
    exact ⟨a, xs, rfl, .inr ha, fun l nl => q l xs _ (s1.trans (same_upd nl)) (has_ne ta.1 nl) upd_same (mA_same (same_upd nl) ta)⟩
theorem mf_tupL (h : MkLF D K te σ H0 ds) : Mk1F D K (tCB (fun xs H Q => ∃ p ys, xs = [.ref p] ∧ ((SqL K H p ys ∧ ∀ l, H l = none → Q (.ref l) (upd H l (.tup ys))) ∨ (SqT K H p ys ∧ Q (.ref p) H))) (tCons te tNil)) σ H0 (.tuple ds) := fun p0 H s Q q =>
  h p0 H s _ fun p xs H1 s1 _ e1 t1 => ⟨p, xs, rfl, .inl ⟨SqL.of e1, fun l nl => q _ _ (s1.trans (same_upd nl)) (m_newT nl t1)⟩⟩
variable {H : Hp} {p c : Addr}
theorem m_mem {xs : List V} {ds : List PyData} {x : V} (h : MTA D K H xs ds) (m : x ∈ xs) : ∃ d, d ∈ ds ∧ MT D K H x d := by
  obtain ⟨d, hd, t⟩ := th_of_mem h.2 m
  exact ⟨d, hd, h.1, t⟩
theorem pickF_new {Q : VK} {i : Nat} (h : MkAF D K ta σ H ds) (h0 : Has D H) (np : D ≠ p) (nc : D ≠ c) (hn : noPotAll ds = true) (l0 : 0 < ds.length) (l1 : ds.length ≤ 1000) (hP : PotAt p c H) (hi : σ[i]? = some (some (.ref p)))
    (k : ∀ v d H', d ∈ ds → MT D K H' v d → Ext p c H H' → Q v H') : tCall (spPick K) [] E0 (tCons (tVar i) (tCons (tLst ta) tNil)) σ H Q :=
  ⟨_, hi, h h0 H (Same.refl H) _ fun xs H1 s1 t1 => by
    have hl := mA_len t1
    refine ⟨Nat.le_trans (Nat.le_of_eq hl) (Nat.le_trans l1 (by decide)), fun l nl => ?_⟩
    have P1 := hP.same s1
    have s2 : Same H1 (upd H1 l (.lst xs)) := same_upd nl
    refine ⟨p, c, l, xs, rfl, P1.same s2, SqL.of upd_same, P1.nep nl, by omega, by omega, fun v H2 hv e2 => ?_⟩
    obtain ⟨d, hd, ht⟩ := m_mem t1 hv
    exact k v d H2 hd (m_ext (P1.same s2) e2 np nc (m_same s2 ht) (noPot_of hn hd)) (Ext.pre (s1.trans s2) e2)⟩
theorem pickF_N {Q : VK} {i : Nat} (h : MkNF D K te σ H ds) (h0 : Has D H) (np : D ≠ p) (nc : D ≠ c) (hn : noPotAll ds = true) (l0 : 0 < ds.length) (l1 : ds.length ≤ 1000) (hP : PotAt p c H) (hi : σ[i]? = some (some (.ref p)))
    (k : ∀ v d H', d ∈ ds → MT D K H' v d → Ext p c H H' → Q v H') : tCall (spPick K) [] E0 (tCons (tVar i) (tCons te tNil)) σ H Q :=
  ⟨_, hi, h h0 H (Same.refl H) _ fun l xs H1 s1 nl t1 => by
    have hl := mA_len t1
    have P1 := hP.same s1
    have s2 : Same H1 (upd H1 l (.lst xs)) := same_upd nl
    refine ⟨p, c, l, xs, rfl, P1.same s2, SqL.of upd_same, P1.nep nl, by omega, by omega, fun v H2 hv e2 => ?_⟩
    obtain ⟨d, hd, ht⟩ := m_mem t1 hv
    exact k v d H2 hd (m_ext (P1.same s2) e2 np nc (m_same s2 ht) (noPot_of hn hd)) (Ext.pre (s1.trans s2) e2)⟩
end
end Lk

/-! K22t -/
set_option Elab.async false
set_option linter.all false
set_option maxRecDepth 100000
set_option maxHeartbeats 4000000
namespace Lk
open PySem PySem.Spec PyProof.Rows L2
def top (i : Nat) : Stmt := PySem.Challenge.pw_stemrules_k22_whole_ways_or_blocks.main.body.getD i (.Pass ⟨0, 0, 0, 0⟩)
abbrev s_p__wall : Stmt := top 0
abbrev s_p_is_name : Stmt := top 10
abbrev s_p_is_pattern : Stmt := top 11
abbrev s_p_is_end : Stmt := top 12
abbrev s_p_need_name : Stmt := top 13
abbrev s_p_stem_within : Stmt := top 14
abbrev s_p_filled : Stmt := top 15
abbrev s_p_ascending : Stmt := top 16
abbrev s_p_is_rule : Stmt := top 23
abbrev s_p_is_label : Stmt := top 24
abbrev s_p_are_sources : Stmt := top 25
abbrev s_p_is_rule_source : Stmt := top 26
abbrev s_p_is_book : Stmt := top 27
abbrev s_p_are_files : Stmt := top 28
abbrev s_p_fitted : Stmt := top 29
abbrev s_p_need_book : Stmt := top 30
abbrev s_p_need_files : Stmt := top 31
abbrev s_p_need_things : Stmt := top 32
abbrev s_p_is_number_in : Stmt := top 33
abbrev s_p_way : Stmt := top 36
abbrev s_p_can : Stmt := top 37
abbrev s_p_block : Stmt := top 38
abbrev s_p_shows_block : Stmt := top 39
abbrev s_p_with_one_more : Stmt := top 40
abbrev s_p_rows_behind : Stmt := top 41
abbrev s_p_is_row : Stmt := top 42
abbrev s_p_holds_out : Stmt := top 43
abbrev s_kneaded : Stmt := top 45
abbrev s_pot_of : Stmt := top 46
abbrev s_below : Stmt := top 47
abbrev s_pick : Stmt := top 48
abbrev s_some_name : Stmt := top 49
abbrev s_split : Stmt := top 50
abbrev s_is_name : Stmt := top 51
abbrev s_stem : Stmt := top 52
abbrev s_put : Stmt := top 53
abbrev s_ordered : Stmt := top 54
abbrev s_whole : Stmt := top 55
abbrev s_some_source : Stmt := top 56
abbrev s_some_rule : Stmt := top 57
abbrev s_some_book : Stmt := top 58
abbrev s_kin : Stmt := top 59
abbrev s_way : Stmt := top 60
abbrev s_some_files : Stmt := top 61
abbrev s_is_block : Stmt := top 62
abbrev s_bent : Stmt := top 63
abbrev s_law : Stmt := top 64
abbrev s_Search_init : Stmt := L2.inClass (top 35) 0
abbrev s_Search_told : Stmt := L2.inClass (top 35) 1
abbrev s_Search_forget : Stmt := L2.inClass (top 35) 2
abbrev s_Search_first_right : Stmt := L2.inClass (top 35) 3
abbrev s_Search_missing : Stmt := L2.inClass (top 35) 4
end Lk

/-! K22s -/
set_option Elab.async false
set_option linter.all false
set_option maxRecDepth 100000
set_option maxHeartbeats 4000000
namespace Lk
open PySem PySem.Spec PyProof.Rows L2
section
variable {P : Program} {w : World} {K : PySem.W.Frag} {mg : Str → Option Value} {base : Heap}
def spSW (K : PySem.W.Frag) : Sp := fun vs H Q _ => ∃ (q : Addr) (b e z : Str), vs = [.ref q, .str z] ∧ SqT K H q [.str b, .str e] ∧ (∀ c ∈ TL.tl b, upB c = true) ∧ (∀ c ∈ TL.tl e, loB c = true) ∧ b.length ≤ 1000000 ∧ e.length ≤ 1000000 ∧ z.length ≤ 1000000 ∧
  (∀ m : Str, TL.tl z = TL.tl b ++ TL.tl m ++ TL.tl e → Q (.str m) H) ∧ ((¬ ∃ m : Str, TL.tl z = TL.tl b ++ TL.tl m ++ TL.tl e) → Q .non H)
theorem sc_p_stem_within : FnScope ["pattern", "name", "begin", "end"] ["pattern", "name"] (defScope s_p_stem_within) := ⟨rfl, rfl, rfl, by decide +kernel, rfl, by decide +kernel, by decide +kernel⟩
theorem cal_p_stem_within (D : Def1 K mg "stem_within" s_p_stem_within) (G : Glb mg) : Cal P w K mg base 1 "stem_within" (spSW K) := by
  refine mkCal D sc_p_stem_within (fun _ _ _ _ _ _ us hl => match us, hl with | [_, _], _ => rfl) (fun vs H Q E h => ?_) (fun f cdv A outer s H vs Q E hr h => ?_)
  · obtain ⟨q, b, e, z, rfl, _⟩ := h
    rfl
  · obtain ⟨q, b, e, z, rfl, hq, hb, he, lb, le, lz, yes, no⟩ := h
    refine ⟨_, pss_cons (ps_asg (pv 0) (pg_tup rfl (pgs_cons (pg_name (i := 2) sc_p_stem_within.nd rfl (.inl rfl)) (pgs_cons (pg_name (i := 3) sc_p_stem_within.nd rfl (.inl rfl)) pgs_nil))))
      (pss_cons (ps_if (PW.pt (pw_and (pt_val (pe_m1 PySem.F.slot_str_startswith PySem.F.type_str_startswith mt_startswith (pv 1) (pv 2))) (pw_and1 (pt_val (pe_m1 PySem.F.slot_str_endswith PySem.F.type_str_endswith mt_endswith (pv 1) (pv 3))))))
        (pss_one (ps_ret (pe_slice sl_str (pv 1) (po_some (pe_callB call_len_str (by rfl) G.len PySem.boot_len (pa_cons (pv 2) pa_nil))) (po_some (pe_op op_sub (pe_callB call_len_str (by rfl) G.len PySem.boot_len (pa_cons (pv 1) pa_nil)) (pe_callB call_len_str (by rfl) G.len PySem.boot_len (pa_cons (pv 3) pa_nil))))))) pss_nil)
      (pss_one (ps_ret pe_non))), ?_⟩
    have big : ∀ n : Nat, n ≤ 1000000 → n ≤ sizeLine := fun n h => Nat.le_trans h (by decide)
    refine ⟨_, rfl, q, _, rfl, hq, rfl, _, _, rfl, _, _, rfl, rfl, ?_⟩
    refine ⟨_, rfl, ⟨z, rfl⟩, _, rfl, z, b, rfl, rfl, _, rfl, ?_⟩
    by_cases hs : Txt.startswith z b = true
    · refine iteT' hs ⟨_, rfl, ⟨z, rfl⟩, _, rfl, z, e, rfl, rfl, _, rfl, ?_⟩
      by_cases hn : Txt.endswith z e = true
      · refine iteT' hn ?_
        obtain ⟨m, hm⟩ := mid_of hb he (starts_tl.mp hs) (ends_tl.mp hn)
        refine ⟨_, rfl, _, rfl, b, rfl, big _ lb, _, rfl, _, rfl, z, rfl, big _ lz, _, rfl, e, rfl, big _ le, _, _, rfl, rfl, _, rfl, z, rfl, big _ lz, yes _ ?_⟩
        have c := cut_mid hm
        rw [← TL.len_tl, ← TL.len_tl] at c
        rw [c]
        exact hm
      · refine iteF' (Bool.eq_false_iff.mpr hn) (no ?_)
        rintro ⟨m, hm⟩
        exact hn (ends_tl.mpr ⟨_, hm⟩)
    · refine iteF' (Bool.eq_false_iff.mpr hs) ?_
      refine iteF (no ?_)
      rintro ⟨m, hm⟩
      exact hs (starts_tl.mpr ⟨TL.tl m ++ TL.tl e, by rw [hm, List.append_assoc]⟩)
end
end Lk

/-! K22q -/
set_option Elab.async false
set_option linter.all false
set_option maxRecDepth 100000
set_option maxHeartbeats 4000000
namespace Lk
open PySem PySem.Spec PyProof.Rows L2
section
variable {P : Program} {w : World} {K : PySem.W.Frag} {mg : Str → Option Value} {base : Heap}
theorem sc_p_is_name : FnScope ["thing"] ["thing"] (defScope s_p_is_name) := ⟨rfl, rfl, rfl, by decide +kernel, rfl, by decide +kernel, by decide +kernel⟩
theorem cal_p_is_name (D : Def1 K mg "is_name" s_p_is_name) (T : Glc mg) : Cal P w K mg base 1 "is_name" (spIsName K) := by
  refine mkCal D sc_p_is_name (fun _ _ _ _ _ _ us hl => match us, hl with | [_], _ => rfl) (fun vs H Q E h => ?_) (fun f cdv A outer s H vs Q E hr h => ?_)
  · obtain ⟨v, d, rfl, _⟩ := h
    rfl
  · obtain ⟨v, d, rfl, ht, hb, k⟩ := h
    refine ⟨_, pss_one (ps_ret (pe_and (pe_isi (T := "str") (pv 0) T.isinst T.str (by decide +kernel)) (pe_and (pe_cmpR op_ne (pv 0) pe_str (nomark _))
      (pe_one (pe_cmpR op_eq (pe_m1 PySem.F.slot_str_lstrip PySem.F.type_str_lstrip mt_lstripChars (pe_m1 PySem.F.slot_str_lstrip PySem.F.type_str_lstrip mt_lstripChars (pv 0) (pe_con1 T.caps)) (pe_con1 T.smalls)) pe_str (nomark _)))))), ?_⟩
    refine ⟨_, rfl, v, _, _, _, _, rfl, .ty _, th_ty ht, kit_str d, _, rfl, ?_⟩
    cases e : isStr d with
    | false =>
      rw [(not_str e).1] at k
      exact iteF k
    | true =>
      obtain ⟨x, rfl, rfl⟩ := th_str ht e
      refine iteT ⟨_, rfl, rfl, _, rfl, ?_⟩
      have hx : x.length ≤ sizeLine := Nat.le_trans hb (by decide)
      have e1 : TL.tl (Txt.lstripChars (Txt.lstripChars x capS) smaS) = ((TL.tl x).dropWhile upB).dropWhile loB := by
        rw [Txt.lstripChars, tl_lstrip, Txt.lstripChars, tl_lstrip, funext cap_has, funext sma_has]
      have h2 : (Txt.lstripChars x capS).length ≤ sizeLine := by
        rw [TL.len_tl, Txt.lstripChars, tl_lstrip]
        refine Nat.le_trans ?_ hx
        rw [TL.len_tl, ← drop_tw, List.length_drop]
        omega
      refine ite2 (fun hne => ?_) (fun hne => ?_)
      · have hn : TL.tl x ≠ [] := fun z => by
          rw [tl_nil_iff.mp z] at hne
          exact absurd hne (by decide)
        refine ⟨_, rfl, ⟨x, rfl⟩, x, capS, rfl, rfl, hx, ⟨_, rfl⟩, _, smaS, rfl, rfl, h2, rfl, ?_⟩
        have e2 : decide (V.str (Txt.lstripChars (Txt.lstripChars x capS) smaS) = V.str "") = dName (.str x) := by
          rw [Bool.eq_iff_iff, decide_eq_true_iff]
          show _ ↔ (!(TL.tl x).isEmpty && ((TL.tl x).dropWhile upB).all loB) = true
          rw [V.str.injEq, ← tl_nil_iff, e1, dw_all]
          cases q : TL.tl x with
          | nil => exact absurd q hn
          | cons c r => simp
        rw [e2]
        exact k
      · have hn : x = "" := by
          apply Classical.byContradiction
          intro z
          exact hne (by rw [decide_eq_false (by rw [V.str.injEq]; exact z)]; rfl)
        subst hn
        exact k
theorem sc_p_is_end : FnScope ["thing", "letters"] ["thing", "letters"] (defScope s_p_is_end) := ⟨rfl, rfl, rfl, by decide +kernel, rfl, by decide +kernel, by decide +kernel⟩
theorem cal_p_is_end (D : Def1 K mg "is_end" s_p_is_end) (T : Glc mg) (G : Glb mg) : Cal P w K mg base 1 "is_end" (spIsEnd K) := by
  refine mkCal D sc_p_is_end (fun _ _ _ _ _ _ us hl => match us, hl with | [_, _], _ => rfl) (fun vs H Q E h => ?_) (fun f cdv A outer s H vs Q E hr h => ?_)
  · obtain ⟨v, d, L, p, rfl, _⟩ := h
    rfl
  · obtain ⟨v, d, L, p, rfl, ht, hb, hL, k⟩ := h
    refine ⟨_, pss_one (ps_ret (pe_and (pe_isi (T := "str") (pv 0) T.isinst T.str (by decide +kernel)) (pe_and (pe_cmpR op_le (pe_callB call_len_str (by rfl) G.len PySem.boot_len (pa_cons (pv 0) pa_nil)) (pe_con1 T.ends) (nomark _))
      (pe_one (pe_cmpR op_eq (pe_m1 PySem.F.slot_str_strip PySem.F.type_str_strip mt_stripChars (pv 0) (pv 1)) pe_str (nomark _)))))), ?_⟩
    refine ⟨_, rfl, v, _, _, _, _, rfl, .ty _, th_ty ht, kit_str d, _, rfl, ?_⟩
    cases e : isStr d with
    | false =>
      rw [(not_str e).2.1] at k
      exact iteF k
    | true =>
      obtain ⟨x, rfl, rfl⟩ := th_str ht e
      have hx : x.length ≤ sizeLine := Nat.le_trans hb (by decide)
      refine iteT ⟨_, rfl, x, rfl, hx, _, _, rfl, rfl, _, rfl, ?_⟩
      refine ite2 (fun hne => ?_) (fun hne => ?_)
      · have h3 : x.length ≤ 3 := by
          have := of_decide_eq_true hne
          omega
        refine ⟨_, rfl, ⟨x, rfl⟩, _, rfl, x, L, rfl, rfl, hx, rfl, ?_⟩
        have e2 : decide (V.str (Txt.stripChars x L) = V.str "") = dEnd p (.str x) := by
          rw [Bool.eq_iff_iff, decide_eq_true_iff]
          show _ ↔ (decide (x.length ≤ 3) && (TL.tl x).all p) = true
          rw [V.str.injEq, ← tl_nil_iff, Txt.stripChars, tl_strip, funext hL, decide_eq_true h3, Bool.true_and]
        rw [e2]
        exact k
      · have e2 : dEnd p (.str x) = false := by
          show (decide (x.length ≤ 3) && (TL.tl x).all p) = false
          rw [decide_eq_false (fun z => hne (decide_eq_true (by omega))), Bool.false_and]
        rw [e2] at k
        exact k
theorem sc_p_is_pattern : FnScope ["thing", "begin", "end"] ["thing"] (defScope s_p_is_pattern) := ⟨rfl, rfl, rfl, by decide +kernel, rfl, by decide +kernel, by decide +kernel⟩
theorem cal_p_is_pattern (D : Def1 K mg "is_pattern" s_p_is_pattern) (T : Glc mg) (G : Glb mg) (CE : Cal P w K mg base 1 "is_end" (spIsEnd K)) : Cal P w K mg base 2 "is_pattern" (spIsPat K) := by
  refine mkCal D sc_p_is_pattern (fun _ _ _ _ _ _ us hl => match us, hl with | [_], _ => rfl) (fun vs H Q E h => ?_) (fun f cdv A outer s H vs Q E hr h => ?_)
  · obtain ⟨v, d, rfl, _⟩ := h
    rfl
  · obtain ⟨v, d, rfl, ht, hb, k⟩ := h
    refine ⟨_, pss_cons (ps_if (PW.pt (pw_or (pt_not (pt_val (pe_isi (T := "tuple") (pv 0) T.isinst T.tuple (by decide +kernel)))) (pw_or1 (pt_cmpR op_ne (pe_callB call_len_seq (by rfl) G.len PySem.boot_len (pa_cons (pv 0) pa_nil)) pe_int (nomark _))))) (pss_one (ps_ret pe_bl)) pss_nil)
      (pss_cons (ps_asg (pv 0) (pg_tup rfl (pgs_cons (pg_name (i := 1) sc_p_is_pattern.nd rfl (.inl rfl)) (pgs_cons (pg_name (i := 2) sc_p_is_pattern.nd rfl (.inl rfl)) pgs_nil))))
      (pss_one (ps_ret (pe_and (pe_cal CE hr (by decide) (pa_cons (pv 1) (pa_cons (pe_con1 T.caps) pa_nil))) (pe_and (pe_cal CE hr (by decide) (pa_cons (pv 2) (pa_cons (pe_con1 T.smalls) pa_nil))) (pe_one (pe_cmpR op_ne (pe_op op_add_str (pv 1) (pv 2)) pe_str (nomark _)))))))), ?_⟩
    refine ⟨_, rfl, v, _, _, _, _, rfl, .ty _, th_ty ht, kit_tup d, _, rfl, ?_⟩
    cases e : isTup d with
    | false =>
      rw [not_pat e] at k
      exact iteT (iteT k)
    | true =>
      obtain ⟨a, xs, ds, rfl, rfl, hs, ha⟩ := th_tup ht e
      have hl := thAll_len ha
      refine iteF ⟨_, rfl, a, xs, rfl, .inr hs, rfl, _, rfl, ?_⟩
      refine ite2 (fun hne => ?_) (fun hne => ?_)
      · have h2 : ds.length ≠ 2 := fun z => by
          rw [hl, z] at hne
          exact absurd hne (by decide)
        rw [not_pat2 h2] at k
        exact k
      · have h2 : xs.length = 2 := by
          apply Classical.byContradiction
          intro z
          refine hne ?_
          rw [decide_eq_false (by rw [V.int.injEq]; omega)]
          rfl
        obtain ⟨b, c, db, dc, rfl, rfl, hb1, hc1⟩ := th_two ha h2
        have hbk : db.bulk ≤ 1000000 ∧ dc.bulk ≤ 1000000 := by
          simp only [PyData.bulk, PyData.bulkAll] at hb
          omega
        refine ⟨_, rfl, a, _, rfl, hs, rfl, b, [c], rfl, c, [], rfl, rfl, ?_⟩
        refine ⟨_, rfl, b, db, capS, upB, rfl, hb1, hbk.1, cap_has, _, rfl, ?_⟩
        have ep : dPat (.tuple [db, dc]) = (dEnd upB db && (dEnd loB dc && !(isE db && isE dc))) := rfl
        cases e1 : dEnd upB db with
        | false =>
          rw [ep, e1, Bool.false_and] at k
          exact iteF k
        | true =>
          refine iteT ⟨_, rfl, c, dc, smaS, loB, rfl, hc1, hbk.2, sma_has, _, rfl, ?_⟩
          cases e2 : dEnd loB dc with
          | false =>
            rw [ep, e1, e2, Bool.true_and, Bool.false_and] at k
            exact iteF k
          | true =>
            obtain ⟨x, rfl, rfl⟩ := th_str hb1 (end_str e1)
            obtain ⟨y, rfl, rfl⟩ := th_str hc1 (end_str e2)
            refine iteT ⟨_, rfl, _, rfl, x, y, rfl, rfl, ?_, rfl, ?_⟩
            · have l1 : x.length ≤ 1000000 := hbk.1
              have l2 : y.length ≤ 1000000 := hbk.2
              exact Nat.le_trans (Nat.add_le_add l1 l2) (by decide)
            · have e3 : (!decide (V.str (x ++ y) = V.str "")) = dPat (.tuple [.str x, .str y]) := by
                rw [ep, e1, e2, Bool.true_and, Bool.true_and]
                congr 1
                rw [Bool.eq_iff_iff, decide_eq_true_iff]
                show _ ↔ (decide (x = "") && decide (y = "")) = true
                rw [V.str.injEq, ← tl_nil_iff, TL.tl_append, Bool.and_eq_true, decide_eq_true_iff, decide_eq_true_iff, List.append_eq_nil_iff, tl_nil_iff, tl_nil_iff]
              rw [e3]
              exact k
end
end Lk

/-! K22a -/
set_option Elab.async false
set_option linter.all false
set_option maxRecDepth 100000
set_option maxHeartbeats 4000000
namespace Lk
open PySem PySem.Spec PyProof.Rows L2
section
variable {P : Program} {w : World} {K : PySem.W.Frag} {mg : Str → Option Value} {base : Heap}
structure Gla (mg : Str → Option Value) : Prop where
  tuple : mg "tuple" = none
  sorted : mg "sorted" = none
  set : mg "set" = none
  len : mg "len" = none
def spAsc (K : PySem.W.Frag) : Sp := fun vs H Q _ => ∃ (l : Addr) (ss : List Str), vs = [.ref l] ∧ (SqL K H l (ss.map V.str) ∨ SqT K H l (ss.map V.str)) ∧ ss.length + 1 < scanBound ∧ (∀ y ∈ ss, y.length ≤ sizeLine) ∧
  ∀ (cs : List Str) (p : Addr) (H' : Hp), Same H H' → H' p = some (.tup (cs.map V.str)) → IsAsc cs ss → Q (.ref p) H'
theorem sc_p_ascending : FnScope ["names"] ["names"] (defScope s_p_ascending) := ⟨rfl, rfl, rfl, by decide +kernel, rfl, by decide +kernel, by decide +kernel⟩
theorem cal_p_ascending (D : Def1 K mg "ascending" s_p_ascending) (T : Gla mg) : Cal P w K mg base 1 "ascending" (spAsc K) := by
  refine mkCal D sc_p_ascending (fun _ _ _ _ _ _ us hl => match us, hl with | [_], _ => rfl) (fun vs H Q E h => ?_) (fun f cdv A outer s H vs Q E hr h => ?_)
  · obtain ⟨l, ss, rfl, _⟩ := h
    rfl
  · obtain ⟨l, ss, rfl, hl, room, small, k⟩ := h
    refine ⟨_, pss_one (ps_ret (pe_callTy call_tuple_of (by rfl) T.tuple (by decide +kernel) (pa_cons (pe_sortLen (pe_callB (call_sortedS rfl hr.units) (by rfl) T.sorted (by decide +kernel) (pa_cons (pe_callTy (call_setS rfl) (by rfl) T.set (by decide +kernel) (pa_cons (pv 0) pa_nil)) pa_nil)) T.sorted T.len hr.units) pa_nil))), ?_⟩
    exact ⟨_, rfl, l, ss, rfl, hl, room, fun p us np nd mem => ⟨p, us, rfl, upd_same, fun p2 cs n2 pm pw => ⟨p2, cs, rfl, SqL.of upd_same, fun y hy => small y ((mem y).mp (pm.mem_iff.mp hy)), fun p3 n3 => ⟨p3, _, rfl, .inl ⟨SqL.of upd_same, fun t nt =>
      k _ t _ ((((same_upd np).trans (same_upd n2)).trans (same_upd n3)).trans (same_upd nt)) upd_same (asc_of nd mem pm pw)⟩⟩⟩⟩⟩
end
end Lk

/-! K22u -/
set_option Elab.async false
set_option linter.all false
set_option maxRecDepth 100000
set_option maxHeartbeats 4000000
namespace Lk
open PySem PySem.Spec PyProof.Rows L2
section
variable {P : Program} {w : World} {K : PySem.W.Frag} {mg : Str → Option Value} {base : Heap}
theorem th_strs {H : Hp} : ∀ ss : List Str, ThAll K H (ss.map V.str) (ss.map PyData.str)
  | [] => .nil
  | x :: r => .cons (.str x) (th_strs r)
def spFill (K : PySem.W.Frag) : Sp := fun vs H Q _ => ∃ (v : V) (m : Str), vs = [v, .str m] ∧ m.length ≤ 1000000 ∧ ((∃ x, v = .str x ∧ Q (.str x) H) ∨ ∃ q b e, v = .ref q ∧ SqT K H q [.str b, .str e] ∧ b.length ≤ 1000000 ∧ e.length ≤ 1000000 ∧ Q (.str (b ++ m ++ e)) H)
theorem sc_p_filled : FnScope ["source", "within", "begin", "end"] ["source", "within"] (defScope s_p_filled) := ⟨rfl, rfl, rfl, by decide +kernel, rfl, by decide +kernel, by decide +kernel⟩
theorem cal_p_filled (D : Def1 K mg "filled" s_p_filled) (T : Glc mg) : Cal P w K mg base 1 "filled" (spFill K) := by
  refine mkCal D sc_p_filled (fun _ _ _ _ _ _ us hl => match us, hl with | [_, _], _ => rfl) (fun vs H Q E h => ?_) (fun f cdv A outer s H vs Q E hr h => ?_)
  · obtain ⟨v, m, rfl, _⟩ := h
    rfl
  · obtain ⟨v, m, rfl, lm, how⟩ := h
    refine ⟨_, pss_cons (ps_if (pt_val (pe_isi (T := "str") (pv 0) T.isinst T.str (by decide +kernel))) (pss_one (ps_ret (pv 0))) pss_nil)
      (pss_cons (ps_asg (pv 0) (pg_tup rfl (pgs_cons (pg_name (i := 2) sc_p_filled.nd rfl (.inl rfl)) (pgs_cons (pg_name (i := 3) sc_p_filled.nd rfl (.inl rfl)) pgs_nil))))
      (pss_one (ps_ret (pe_op op_add_str (pe_op op_add_str (pv 2) (pv 1)) (pv 3))))), ?_⟩
    have big : ∀ n : Nat, n ≤ 4000000 → n ≤ sizeLine := fun n h => Nat.le_trans h (by decide)
    rcases how with ⟨x, rfl, k⟩ | ⟨q, b, e, rfl, hq, lb, le, k⟩
    · exact ⟨_, rfl, .str x, _, _, _, _, rfl, .ty _, th_ty (.str x : Th K H (.str x) (.str x)), kit_str (.str x), _, rfl, iteT ⟨_, rfl, k⟩⟩
    · have th : Th K H (.ref q) (.tuple [.str b, .str e]) := .tup hq (.cons (.str b) (.cons (.str e) .nil))
      refine ⟨_, rfl, .ref q, _, _, _, _, rfl, .ty _, th_ty th, kit_str (.tuple [.str b, .str e]), _, rfl, iteF ?_⟩
      refine ⟨_, rfl, q, _, rfl, hq, rfl, _, _, rfl, _, _, rfl, rfl, ?_⟩
      exact ⟨_, rfl, _, rfl, b, m, rfl, rfl, big _ (by omega), _, rfl, b ++ m, e, rfl, rfl, big _ (by rw [len_add]; omega), k⟩
def spNeed0 (K : PySem.W.Frag) : Sp := fun vs H Q _ => ∃ z : Str, vs = [.str z] ∧ z.length ≤ 1000000 ∧ dName (.str z) = true ∧ Q .non H
theorem sc_need0 : FnScope ["thing"] ["thing"] (defScope s_p_need_name) := ⟨rfl, rfl, rfl, by decide +kernel, rfl, by decide +kernel, by decide +kernel⟩
theorem cal_need (D : Def1 K mg "need_name" s_p_need_name) (C1 : Cal P w K mg base 1 "is_name" (spIsName K)) : Cal P w K mg base 2 "need_name" (spNeed0 K) := by
  refine mkCal D sc_need0 (fun _ _ _ _ _ _ us hl => match us, hl with | [_], _ => rfl) (fun vs H Q E h => ?_) (fun f cdv A outer s H vs Q E hr h => ?_)
  · obtain ⟨z, rfl, _⟩ := h
    rfl
  · obtain ⟨z, rfl, lz, nz, k⟩ := h
    refine ⟨_, pss_one (ps_if (pt_not (pt_val (pe_cal C1 hr (by decide) (pa_cons (pv 0) pa_nil)))) (pss_one ps_never) pss_nil), ?_⟩
    exact ⟨_, rfl, .str z, .str z, rfl, .str z, lz, _, rfl, iteF' (by rw [nz]; rfl) k⟩
theorem pat_ends {b e : Str} (h : dPat (.tuple [.str b, .str e]) = true) : (∀ c ∈ TL.tl b, upB c = true) ∧ (∀ c ∈ TL.tl e, loB c = true) ∧ b.length ≤ 3 ∧ e.length ≤ 3 := by
  have h2 : (dEnd upB (.str b) && (dEnd loB (.str e) && !(isE (.str b) && isE (.str e)))) = true := h
  rw [Bool.and_eq_true, Bool.and_eq_true] at h2
  obtain ⟨h3, h4, _⟩ := h2
  have h5 : (decide (b.length ≤ 3) && (TL.tl b).all upB) = true := h3
  have h6 : (decide (e.length ≤ 3) && (TL.tl e).all loB) = true := h4
  rw [Bool.and_eq_true, decide_eq_true_eq, List.all_eq_true] at h5 h6
  exact ⟨h5.2, h6.2, h5.1, h6.1⟩
end
end Lk

/-! K22b -/
set_option Elab.async false
set_option linter.all false
set_option maxRecDepth 100000
set_option maxHeartbeats 4000000
namespace Lk
open PySem PySem.Spec PyProof.Rows L2
def sLen : PyData → Nat
  | .str x => x.length
  | _ => 0
def dLabel : PyData → Bool
  | .str x => decide (1 ≤ x.length) && (decide (x.length ≤ 8) && (TL.tl x).all loB)
  | _ => false
def dSrc1 (d : PyData) : Bool := dPat d || (dName d && decide (sLen d ≤ 6))
def dSrcs : PyData → Bool
  | .tuple ds => decide (ds.length ≤ 3) && ds.all dSrc1
  | _ => false
def dRule : PyData → Bool
  | .tuple [l, p, s] => dLabel l && (dPat p && dSrcs s)
  | _ => false
def dBook : PyData → Bool
  | .tuple ds => decide (ds.length ≤ 6) && ds.all dRule
  | _ => false
section
variable {P : Program} {w : World} {K : PySem.W.Frag} {mg : Str → Option Value} {base : Heap}
structure Glk (mg : Str → Option Value) : Prop where
  all : mg "all" = none
  label : Con1 mg "MOST_LABEL_LETTERS" (.int 8)
  name : Con1 mg "MOST_NAME_LETTERS" (.int 6)
  sources : Con1 mg "MOST_SOURCES" (.int 3)
  rules : Con1 mg "MOST_RULES" (.int 6)
def spOne (K : PySem.W.Frag) (p : PyData → Bool) : Sp := fun vs H Q _ => ∃ v d, vs = [v] ∧ Th K H v d ∧ d.bulk ≤ 1000000 ∧ Q (.bl (p d)) H
def spOneS (K : PySem.W.Frag) (p : PyData → Bool) : Sp := fun vs H Q _ => ∃ v d, vs = [v] ∧ Th K H v d ∧ d.bulk ≤ 1000000 ∧ ∀ H', Same H H' → Q (.bl (p d)) H'
theorem name_str {d : PyData} (h : dName d = true) : isStr d = true := by
  cases d with
  | str x => rfl
  | _ => cases h
theorem th_at {H : Hp} : ∀ {xs : List V} {ds : List PyData} {i : Nat} {x : V}, ThAll K H xs ds → xs[i]? = some x → ∃ d, ds[i]? = some d ∧ Th K H x d
  | _, _, _, _, .nil, h => by simp at h
  | _, _, 0, _, .cons h _, e => by
    simp at e
    subst e
    exact ⟨_, rfl, h⟩
  | _, _, i + 1, x, .cons _ tl, e => by
    obtain ⟨d, m, h⟩ := th_at (i := i) (x := x) tl (by simpa using e)
    exact ⟨d, by simpa using m, h⟩
theorem bulk_in : ∀ {ds : List PyData} {d : PyData}, d ∈ ds → d.bulk ≤ PyData.bulkAll ds
  | e :: r, d, h => by
    rw [PyData.bulkAll]
    rcases List.mem_cons.mp h with rfl | h
    · omega
    · have := bulk_in h
      omega
/-- all([f(x) for x in t]), t a tuple -/
theorem all_read {σ : L2.St} {H : Hp} {a : Addr} {xs : List V} {ds : List PyData} {p : PyData → Bool} {n iv : Nat} {te : TE} {Q : VK} (hv : σ[0]? = some (some (.ref a))) (hs : SqT K H a xs) (ha : ThAll K H xs ds) (small : ds.length ≤ 1000)
    (wp : ∀ (x : V), wipe ((wipe σ [iv]).set iv (some x)) [iv] = wipe σ [iv])
    (call : ∀ (x : V) (d : PyData) (H' : Hp) (R : VK), d ∈ ds → Th K H' x d → Same H H' → (∀ H2, Same H' H2 → R (.bl (p d)) H2) → te ((wipe σ [iv]).set iv (some x)) H' R) (k : ∀ H', Same H H' → Q (.bl (ds.all p)) H') :
    tCB (rAll K) (tCons (tLc (iTup K (tVar 0)) (gName iv) tYes te [iv]) tNil) σ H Q := by
  have hl := thAll_len ha
  refine ⟨_, hv, a, rfl, ⟨_, hs⟩, fun D nD => ?_⟩
  refine lc_tup (K := K) (a := a) (xs := xs) (fun i H' => H' D = some (.lst (((ds.take i).map p).map V.bl)) ∧ Same H H') ⟨upd_same, same_upd nD⟩ (fun i H' _ h => Same.seqT h.2 hs) ?_ ?_
  · rintro i x H' hx ⟨hD, s⟩
    obtain ⟨d, hd, th⟩ := th_at ha hx
    have hi : i < ds.length := (List.getElem?_eq_some_iff.mp hd).1
    refine ⟨wp x, call x d H' _ (List.mem_of_getElem? hd) (th_same s th) s fun H2 s2 => ⟨_, s2 _ _ hD, ?_, ?_, same_mut (s.trans s2) nD⟩⟩
    · rw [List.length_map, List.length_map, List.length_take]
      exact small1000 (by omega)
    · rw [upd_same, List.take_add_one, hd, List.map_append, List.map_append]
      rfl
  · rintro H' ⟨hD, s⟩
    rw [hl, List.take_length] at hD
    refine ⟨D, ds.map p, rfl, SqL.of hD, ?_⟩
    have e : (ds.map p).all id = ds.all p := by rw [List.all_map]; rfl
    rw [e]
    exact k H' s
theorem sc_p_is_label : FnScope ["thing"] ["thing"] (defScope s_p_is_label) := ⟨rfl, rfl, rfl, by decide +kernel, rfl, by decide +kernel, by decide +kernel⟩
theorem cal_p_is_label (D : Def1 K mg "is_label" s_p_is_label) (T : Glc mg) (G : Glb mg) (B : Glk mg) : Cal P w K mg base 1 "is_label" (spOne K dLabel) := by
  refine mkCal D sc_p_is_label (fun _ _ _ _ _ _ us hl => match us, hl with | [_], _ => rfl) (fun vs H Q E h => ?_) (fun f cdv A outer s H vs Q E hr h => ?_)
  · obtain ⟨v, d, rfl, _⟩ := h
    rfl
  · obtain ⟨v, d, rfl, ht, hb, k⟩ := h
    refine ⟨_, pss_one (ps_ret (pe_and (pe_isi (T := "str") (pv 0) T.isinst T.str (by decide +kernel)) (pe_and (pe_chain op_le op_le pe_int (pe_callB call_len_str (by rfl) G.len PySem.boot_len (pa_cons (pv 0) pa_nil)) (pe_con1 B.label))
      (pe_one (pe_cmpR op_eq (pe_m1 PySem.F.slot_str_strip PySem.F.type_str_strip mt_stripChars (pv 0) (pe_con1 T.smalls)) pe_str (nomark _)))))), ?_⟩
    refine ⟨_, rfl, v, _, _, _, _, rfl, .ty _, th_ty ht, kit_str d, _, rfl, ?_⟩
    cases e : isStr d with
    | false =>
      have z : dLabel d = false := by
        cases d with
        | str x => cases e
        | _ => rfl
      rw [z] at k
      exact iteF k
    | true =>
      obtain ⟨x, rfl, rfl⟩ := th_str ht e
      have hx : x.length ≤ sizeLine := Nat.le_trans hb (by decide)
      have ed : dLabel (.str x) = (decide (1 ≤ x.length) && (decide (x.length ≤ 8) && (TL.tl x).all loB)) := rfl
      refine iteT ⟨_, rfl, x, rfl, hx, _, _, rfl, rfl, _, rfl, ?_⟩
      refine ite2 (fun h1 => ?_) (fun h1 => ?_)
      · have g1 : 1 ≤ x.length := by
          have := of_decide_eq_true h1
          omega
        refine ⟨_, _, rfl, rfl, _, rfl, ?_⟩
        refine ite2 (fun h2 => ?_) (fun h2 => ?_)
        · have g2 : x.length ≤ 8 := by
            have := of_decide_eq_true h2
            omega
          refine ⟨_, rfl, ⟨x, rfl⟩, x, smaS, rfl, rfl, hx, rfl, ?_⟩
          have e2 : decide (V.str (Txt.stripChars x smaS) = V.str "") = dLabel (.str x) := by
            rw [ed, decide_eq_true g1, decide_eq_true g2, Bool.true_and, Bool.true_and, Bool.eq_iff_iff, decide_eq_true_iff, V.str.injEq, ← tl_nil_iff, Txt.stripChars, tl_strip, funext sma_has]
          rw [e2]
          exact k
        · have z : dLabel (.str x) = false := by
            rw [ed, decide_eq_false (p := x.length ≤ 8) (fun q => h2 (decide_eq_true (by omega))), Bool.false_and, Bool.and_false]
          rw [z] at k
          exact k
      · have z : dLabel (.str x) = false := by
          rw [ed, decide_eq_false (p := 1 ≤ x.length) (fun q => h1 (decide_eq_true (by omega))), Bool.false_and]
        rw [z] at k
        exact ⟨_, rfl, iteF k⟩
theorem sc_p_is_rule_source : FnScope ["thing"] ["thing"] (defScope s_p_is_rule_source) := ⟨rfl, rfl, rfl, by decide +kernel, rfl, by decide +kernel, by decide +kernel⟩
theorem cal_p_is_rule_source (D : Def1 K mg "is_rule_source" s_p_is_rule_source) (G : Glb mg) (B : Glk mg) (CN : Cal P w K mg base 1 "is_name" (spIsName K)) (CP : Cal P w K mg base 2 "is_pattern" (spIsPat K)) : Cal P w K mg base 3 "is_rule_source" (spOne K dSrc1) := by
  refine mkCal D sc_p_is_rule_source (fun _ _ _ _ _ _ us hl => match us, hl with | [_], _ => rfl) (fun vs H Q E h => ?_) (fun f cdv A outer s H vs Q E hr h => ?_)
  · obtain ⟨v, d, rfl, _⟩ := h
    rfl
  · obtain ⟨v, d, rfl, ht, hb, k⟩ := h
    refine ⟨_, pss_one (ps_ret (pe_or (pe_cal CP hr (by decide) (pa_cons (pv 0) pa_nil)) (pe_one (pe_and (pe_cal CN hr (by decide) (pa_cons (pv 0) pa_nil)) (pe_one (pe_cmpR op_le (pe_callB call_len_str (by rfl) G.len PySem.boot_len (pa_cons (pv 0) pa_nil)) (pe_con1 B.name) (nomark _))))))), ?_⟩
    refine ⟨_, rfl, v, d, rfl, ht, hb, _, rfl, ?_⟩
    unfold dSrc1 at k
    cases e : dPat d with
    | true =>
      rw [e, Bool.true_or] at k
      exact iteT k
    | false =>
      rw [e, Bool.false_or] at k
      refine iteF ⟨_, rfl, v, d, rfl, ht, hb, _, rfl, ?_⟩
      cases e2 : dName d with
      | false =>
        rw [e2, Bool.false_and] at k
        exact iteF k
      | true =>
        rw [e2, Bool.true_and] at k
        obtain ⟨x, rfl, rfl⟩ := th_str ht (name_str e2)
        refine iteT ⟨_, rfl, x, rfl, Nat.le_trans hb (by decide), _, _, rfl, rfl, ?_⟩
        have z : decide ((x.length : Int) ≤ 6) = decide (sLen (.str x) ≤ 6) := by
          rw [Bool.eq_iff_iff, decide_eq_true_iff, decide_eq_true_iff]
          show (x.length : Int) ≤ 6 ↔ x.length ≤ 6
          omega
        rw [← z] at k
        exact k
theorem tup_no {d : PyData} (h : isTup d = false) : dSrcs d = false ∧ dRule d = false ∧ dBook d = false := by
  cases d with
  | tuple ds => cases h
  | _ => exact ⟨rfl, rfl, rfl⟩
theorem rule_no : ∀ {ds : List PyData}, ds.length ≠ 3 → dRule (.tuple ds) = false
  | [], _ => rfl
  | [_], _ => rfl
  | [_, _], _ => rfl
  | [_, _, _], h => absurd rfl h
  | _ :: _ :: _ :: _ :: _, _ => rfl
theorem sc_p_are_sources : FnScope ["thing", "source"] ["thing"] (defScope s_p_are_sources) := ⟨rfl, rfl, rfl, by decide +kernel, rfl, by decide +kernel, by decide +kernel⟩
theorem cal_p_are_sources (D : Def1 K mg "are_sources" s_p_are_sources) (T : Glc mg) (G : Glb mg) (B : Glk mg) (C1 : Cal P w K mg base 3 "is_rule_source" (spOne K dSrc1)) : Cal P w K mg base 4 "are_sources" (spOneS K dSrcs) := by
  refine mkCal D sc_p_are_sources (fun _ _ _ _ _ _ us hl => match us, hl with | [_], _ => rfl) (fun vs H Q E h => ?_) (fun f cdv A outer s H vs Q E hr h => ?_)
  · obtain ⟨v, d, rfl, _⟩ := h
    rfl
  · obtain ⟨v, d, rfl, ht, hb, k⟩ := h
    refine ⟨_, pss_cons (ps_if (PW.pt (pw_or (pt_not (pt_val (pe_isi (T := "tuple") (pv 0) T.isinst T.tuple (by decide +kernel)))) (pw_or1 (pt_cmpR op_gt (pe_callB call_len_seq (by rfl) G.len PySem.boot_len (pa_cons (pv 0) pa_nil)) (pe_con1 B.sources) (nomark _))))) (pss_one (ps_ret pe_bl)) pss_nil)
      (pss_one (ps_ret (pe_callB (cr_all rfl) (by rfl) B.all (by decide +kernel) (pa_cons (pe_lc (own := [("source", 1)]) (g := gName 1) (tt := tYes) (by rfl) sc_p_are_sources.nd (pi_tup (pv 0))
        (blkOk_by (own := [("source", 1)]) (N := ["thing", "source"]) (sc := defScope s_p_are_sources) (by decide +kernel)) (fun _ _ _ _ _ => pg_name (i := 1) sc_p_are_sources.nd rfl (Or.inl rfl)) (fun _ _ _ _ _ => pts_nil)
        (fun _ _ _ _ _ => pe_cal C1 hr (by decide) (pa_cons (pv 1) pa_nil))) pa_nil)))), ?_⟩
    refine ⟨_, rfl, v, _, _, _, _, rfl, .ty _, th_ty ht, kit_tup d, _, rfl, ?_⟩
    cases e : isTup d with
    | false =>
      rw [(tup_no e).1] at k
      exact iteT (iteT (k H (Same.refl H)))
    | true =>
      obtain ⟨a, xs, ds, rfl, rfl, hs, ha⟩ := th_tup ht e
      have hl := thAll_len ha
      have ed : dSrcs (.tuple ds) = (decide (ds.length ≤ 3) && ds.all dSrc1) := rfl
      refine iteF ⟨_, rfl, a, xs, rfl, .inr hs, _, _, rfl, rfl, _, rfl, ?_⟩
      refine ite2 (fun h1 => ?_) (fun h1 => ?_)
      · have g : ¬ ds.length ≤ 3 := by
          have := of_decide_eq_true h1
          omega
        rw [ed, decide_eq_false g, Bool.false_and] at k
        exact k H (Same.refl H)
      · have g : ds.length ≤ 3 := by
          apply Classical.byContradiction
          intro z
          exact h1 (decide_eq_true (by omega))
        rw [ed, decide_eq_true g, Bool.true_and] at k
        exact all_read (n := 2) rfl hs ha (by omega) (fun _ => rfl) (fun x d H' R hd th s q => ⟨_, rfl, x, d, rfl, th, Nat.le_trans (bulk_in hd) hb, q H' (Same.refl H')⟩) k
theorem sc_p_is_rule : FnScope ["thing", "label", "pattern", "sources"] ["thing"] (defScope s_p_is_rule) := ⟨rfl, rfl, rfl, by decide +kernel, rfl, by decide +kernel, by decide +kernel⟩
theorem cal_p_is_rule (D : Def1 K mg "is_rule" s_p_is_rule) (T : Glc mg) (G : Glb mg) (C1 : Cal P w K mg base 1 "is_label" (spOne K dLabel)) (C2 : Cal P w K mg base 2 "is_pattern" (spIsPat K)) (C3 : Cal P w K mg base 4 "are_sources" (spOneS K dSrcs)) : Cal P w K mg base 5 "is_rule" (spOneS K dRule) := by
  refine mkCal D sc_p_is_rule (fun _ _ _ _ _ _ us hl => match us, hl with | [_], _ => rfl) (fun vs H Q E h => ?_) (fun f cdv A outer s H vs Q E hr h => ?_)
  · obtain ⟨v, d, rfl, _⟩ := h
    rfl
  · obtain ⟨v, d, rfl, ht, hb, k⟩ := h
    refine ⟨_, pss_cons (ps_if (PW.pt (pw_or (pt_not (pt_val (pe_isi (T := "tuple") (pv 0) T.isinst T.tuple (by decide +kernel)))) (pw_or1 (pt_cmpR op_ne (pe_callB call_len_seq (by rfl) G.len PySem.boot_len (pa_cons (pv 0) pa_nil)) pe_int (nomark _))))) (pss_one (ps_ret pe_bl)) pss_nil)
      (pss_cons (ps_asg (pv 0) (pg_tup rfl (pgs_cons (pg_name (i := 1) sc_p_is_rule.nd rfl (.inl rfl)) (pgs_cons (pg_name (i := 2) sc_p_is_rule.nd rfl (.inl rfl)) (pgs_cons (pg_name (i := 3) sc_p_is_rule.nd rfl (.inl rfl)) pgs_nil)))))
      (pss_one (ps_ret (pe_and (pe_cal C1 hr (by decide) (pa_cons (pv 1) pa_nil)) (pe_and (pe_cal C2 hr (by decide) (pa_cons (pv 2) pa_nil)) (pe_one (pe_cal C3 hr (by decide) (pa_cons (pv 3) pa_nil)))))))), ?_⟩
    refine ⟨_, rfl, v, _, _, _, _, rfl, .ty _, th_ty ht, kit_tup d, _, rfl, ?_⟩
    cases e : isTup d with
    | false =>
      rw [(tup_no e).2.1] at k
      exact iteT (iteT (k H (Same.refl H)))
    | true =>
      obtain ⟨a, xs, ds, rfl, rfl, hs, ha⟩ := th_tup ht e
      have hl := thAll_len ha
      refine iteF ⟨_, rfl, a, xs, rfl, .inr hs, rfl, _, rfl, ?_⟩
      refine ite2 (fun hne => ?_) (fun hne => ?_)
      · have h3 : ds.length ≠ 3 := fun z => by
          rw [hl, z] at hne
          exact absurd hne (by decide)
        rw [rule_no h3] at k
        exact k H (Same.refl H)
      · have h3 : xs.length = 3 := by
          apply Classical.byContradiction
          intro z
          refine hne ?_
          rw [decide_eq_false (by rw [V.int.injEq]; omega)]
          rfl
        obtain ⟨x, y, z, dx, dy, dz, rfl, rfl, hx, hy, hz⟩ := th_three ha h3
        have bk : dx.bulk ≤ 1000000 ∧ dy.bulk ≤ 1000000 ∧ dz.bulk ≤ 1000000 := by
          simp only [PyData.bulk, PyData.bulkAll] at hb
          omega
        have ed : dRule (.tuple [dx, dy, dz]) = (dLabel dx && (dPat dy && dSrcs dz)) := rfl
        refine ⟨_, rfl, a, _, rfl, hs, rfl, x, [y, z], rfl, y, [z], rfl, z, [], rfl, rfl, ?_⟩
        refine ⟨_, rfl, x, dx, rfl, hx, bk.1, _, rfl, ?_⟩
        cases e1 : dLabel dx with
        | false =>
          rw [ed, e1, Bool.false_and] at k
          exact iteF (k H (Same.refl H))
        | true =>
          refine iteT ⟨_, rfl, y, dy, rfl, hy, bk.2.1, _, rfl, ?_⟩
          cases e2 : dPat dy with
          | false =>
            rw [ed, e1, e2, Bool.true_and, Bool.false_and] at k
            exact iteF (k H (Same.refl H))
          | true =>
            rw [ed, e1, e2, Bool.true_and, Bool.true_and] at k
            exact iteT ⟨_, rfl, z, dz, rfl, hz, bk.2.2, k⟩
theorem sc_p_is_book : FnScope ["thing", "rule"] ["thing"] (defScope s_p_is_book) := ⟨rfl, rfl, rfl, by decide +kernel, rfl, by decide +kernel, by decide +kernel⟩
theorem cal_p_is_book (D : Def1 K mg "is_book" s_p_is_book) (T : Glc mg) (G : Glb mg) (B : Glk mg) (C1 : Cal P w K mg base 5 "is_rule" (spOneS K dRule)) : Cal P w K mg base 6 "is_book" (spOneS K dBook) := by
  refine mkCal D sc_p_is_book (fun _ _ _ _ _ _ us hl => match us, hl with | [_], _ => rfl) (fun vs H Q E h => ?_) (fun f cdv A outer s H vs Q E hr h => ?_)
  · obtain ⟨v, d, rfl, _⟩ := h
    rfl
  · obtain ⟨v, d, rfl, ht, hb, k⟩ := h
    refine ⟨_, pss_cons (ps_if (PW.pt (pw_or (pt_not (pt_val (pe_isi (T := "tuple") (pv 0) T.isinst T.tuple (by decide +kernel)))) (pw_or1 (pt_cmpR op_gt (pe_callB call_len_seq (by rfl) G.len PySem.boot_len (pa_cons (pv 0) pa_nil)) (pe_con1 B.rules) (nomark _))))) (pss_one (ps_ret pe_bl)) pss_nil)
      (pss_one (ps_ret (pe_callB (cr_all rfl) (by rfl) B.all (by decide +kernel) (pa_cons (pe_lc (own := [("rule", 1)]) (g := gName 1) (tt := tYes) (by rfl) sc_p_is_book.nd (pi_tup (pv 0))
        (blkOk_by (own := [("rule", 1)]) (N := ["thing", "rule"]) (sc := defScope s_p_is_book) (by decide +kernel)) (fun _ _ _ _ _ => pg_name (i := 1) sc_p_is_book.nd rfl (Or.inl rfl)) (fun _ _ _ _ _ => pts_nil)
        (fun _ _ _ _ _ => pe_cal C1 hr (by decide) (pa_cons (pv 1) pa_nil))) pa_nil)))), ?_⟩
    refine ⟨_, rfl, v, _, _, _, _, rfl, .ty _, th_ty ht, kit_tup d, _, rfl, ?_⟩
    cases e : isTup d with
    | false =>
      rw [(tup_no e).2.2] at k
      exact iteT (iteT (k H (Same.refl H)))
    | true =>
      obtain ⟨a, xs, ds, rfl, rfl, hs, ha⟩ := th_tup ht e
      have hl := thAll_len ha
      have ed : dBook (.tuple ds) = (decide (ds.length ≤ 6) && ds.all dRule) := rfl
      refine iteF ⟨_, rfl, a, xs, rfl, .inr hs, _, _, rfl, rfl, _, rfl, ?_⟩
      refine ite2 (fun h1 => ?_) (fun h1 => ?_)
      · have g : ¬ ds.length ≤ 6 := by
          have := of_decide_eq_true h1
          omega
        rw [ed, decide_eq_false g, Bool.false_and] at k
        exact k H (Same.refl H)
      · have g : ds.length ≤ 6 := by
          apply Classical.byContradiction
          intro z
          exact h1 (decide_eq_true (by omega))
        rw [ed, decide_eq_true g, Bool.true_and] at k
        exact all_read (n := 2) rfl hs ha (by omega) (fun _ => rfl) (fun x d H' R hd th s q => ⟨_, rfl, x, d, rfl, th, Nat.le_trans (bulk_in hd) hb, q⟩) k
end
end Lk

/-! K22p -/
set_option Elab.async false
set_option linter.all false
set_option maxRecDepth 100000
set_option maxHeartbeats 4000000
namespace Lk
open PySem PySem.Spec PyProof.Rows L2
/-! ### the pot of numbers -/
section
variable {P : Program} {w : World} {K : PySem.W.Frag} {mg : Str → Option Value} {base : Heap}
theorem sc_kneaded : FnScope ["seed", "lap", "prime", "amount", "again"] ["seed", "lap"] (defScope s_kneaded) := ⟨rfl, rfl, rfl, by decide +kernel, rfl, by decide +kernel, by decide +kernel⟩
theorem cal_kneaded (D : Def1 K mg "_law_kneaded" s_kneaded) (T : Glb mg) : Cal P w K mg base 1 "_law_kneaded" spKneaded := by
  refine mkCal D sc_kneaded (fun _ _ _ _ _ _ us hl => match us, hl with | [_, _], _ => rfl) (fun vs H Q E h => ?_) (fun f cdv A outer s H vs Q E hr h => ?_)
  · obtain ⟨s, l, rfl, _⟩ := h
    rfl
  · obtain ⟨s, l, rfl, k⟩ := h
    refine ⟨_, pss_cons (ps_set (i := 2) sc_kneaded.nd rfl (.inl rfl) pe_int)
      (pss_cons (ps_set (i := 3) sc_kneaded.nd rfl (.inl rfl) (pe_op op_mod (pe_callTy call_int1 (by rfl) T.int (by decide +kernel)
        (pa_cons (pe_op op_add (pe_op op_add (pe_op op_mul (pv 0) pe_int) (pe_op op_mul (pv 1) pe_int)) pe_int) pa_nil)) (pv 2)))
      (pss_cons (ps_for PassesOwn.never rfl (pi_range1 (by rfl) T.range (pa_cons pe_int pa_nil)) (pg_name (i := 4) sc_kneaded.nd rfl (.inl rfl))
        (pss_one (ps_set (i := 3) sc_kneaded.nd rfl (.inl rfl) (pe_op op_mod (pe_callTy call_int1 (by rfl) T.int (by decide +kernel)
          (pa_cons (pe_op op_add (pe_op op_add (pe_op op_add (pe_op op_mul (pv 3) (pv 3)) (pe_op op_mul pe_int (pv 3))) (pe_op op_mul pe_int (pv 4))) (pv 1)) pa_nil)) (pv 2)))))
      (pss_one (ps_ret (pe_op op_add (pe_op op_mul (pv 3) (pv 2)) (pe_op op_mod (pe_callTy call_int1 (by rfl) T.int (by decide +kernel)
          (pa_cons (pe_op op_add (pe_op op_mul (pv 3) pe_int) (pv 1)) pa_nil)) (pv 2))))))), ?_⟩
    refine ⟨_, rfl, _, _, rfl, rfl, .inr (by decide), _, rfl, _, _, rfl, rfl, .inr (by decide), _, _, rfl, rfl, _, _, rfl, rfl, .inl ⟨_, rfl, _, rfl, _, _, rfl, rfl, (by show (0 : Int) < 2305843009213693907; decide), ?_⟩⟩
    refine ⟨4, rfl, by decide, by decide, for_range (n := 4) (fun i σ H' => ∃ (m : Int) (v : Option V), σ = [some (.int s), some (.int l), some (.int 2305843009213693907), some (.int m), v] ∧ 0 ≤ m ∧ m < 2305843009213693907 ∧ H' = H)
      ⟨_, none, rfl, Int.emod_nonneg _ (by decide), Int.emod_lt_of_pos _ (by decide), rfl⟩ ?_ ?_⟩
    · rintro i σ H' hi ⟨m, v, rfl, m0, m1, rfl⟩
      refine ⟨_, rfl, _, rfl, _, _, rfl, rfl, .inl ⟨by omega, by omega⟩, _, rfl, _, _, rfl, rfl, .inr ⟨by omega, by omega⟩, _, _, rfl, rfl, _, rfl, _, _, rfl, rfl, .inl ⟨by decide, by decide⟩, _, _, rfl, rfl, _, rfl, _, _, rfl, rfl,
        .inl ⟨_, rfl, _, rfl, _, _, rfl, rfl, (by show (0 : Int) < 2305843009213693907; decide), ?_⟩⟩
      exact ⟨_, _, rfl, Int.emod_nonneg _ (by decide), Int.emod_lt_of_pos _ (by decide), rfl⟩
    · rintro σ H' ⟨m, v, rfl, m0, m1, rfl⟩
      refine ⟨_, rfl, _, rfl, _, _, rfl, rfl, .inl ⟨by omega, by omega⟩, _, rfl, _, _, rfl, rfl, .inl ⟨by omega, by omega⟩, _, rfl, _, _, rfl, rfl, .inl ⟨_, rfl, _, rfl, _, _, rfl, rfl, (by show (0 : Int) < 2305843009213693907; decide), ?_⟩⟩
      exact ⟨_, _, rfl, rfl, k _⟩

theorem sc_pot_of : FnScope ["script", "cells", "place", "cell"] ["script"] (defScope s_pot_of) := ⟨rfl, rfl, rfl, by decide +kernel, rfl, by decide +kernel, by decide +kernel⟩
theorem cal_pot_of (D : Def1 K mg "_law_pot_of" s_pot_of) (T : Glb mg) : Cal P w K mg base 1 "_law_pot_of" (spPotOf K) := by
  refine mkCal D sc_pot_of (fun _ _ _ _ _ _ us hl => match us, hl with | [_], _ => rfl) (fun vs H Q E h => ?_) (fun f cdv A outer s H vs Q E hr h => ?_)
  · obtain ⟨a, ns, rfl, _⟩ := h
    rfl
  · obtain ⟨a, ns, rfl, hS, hlen, k⟩ := h
    refine ⟨_, pss_cons (ps_setLc (i := 1) (own := [("cell", 3)]) (g := gName 3) (tt := tYes) (by rfl) sc_pot_of.nd rfl rfl (sw_true rfl rfl rfl (by decide +kernel)) (pi_list (pe_slice sl_list (pv 0) po_none (po_some pe_int)))
        (blkOk_by (own := [("cell", 3)]) (N := ["script", "cells", "place", "cell"]) (sc := defScope s_pot_of) (by decide +kernel)) (fun _ _ _ _ _ => pg_name (i := 3) sc_pot_of.nd rfl (Or.inl rfl)) (fun _ _ _ _ _ => pts_nil)
        (fun _ _ _ _ _ => pe_callB call_abs (by rfl) T.abs (by decide +kernel) (pa_cons (pv 3) pa_nil)))
      (pss_cons (ps_for PassesOwn.never rfl (pi_enum (by rfl) T.enumerate (pa_cons (pe_slice sl_list (pv 0) (po_some pe_int) (po_some pe_int)) pa_nil)) (pg_tup rfl (pgs_cons (pg_name (i := 2) sc_pot_of.nd rfl (.inl rfl)) (pgs_cons (pg_name (i := 3) sc_pot_of.nd rfl (.inl rfl)) pgs_nil)))
        (pss_one (ps_asg (pe_op op_add (pe_ix ix_list (pv 1) (pe_op op_mod (pv 2) pe_int) (fun _ _ => rfl)) (pe_callB call_abs (by rfl) T.abs (by decide +kernel) (pa_cons (pv 3) pa_nil))) (pg_sub (pv 1) (pe_op op_mod (pv 2) pe_int) set_list))))
      (pss_one (ps_ret (pe_lst (pa_cons (pv 1) (pa_cons pe_int (pa_cons pe_int (pa_cons pe_int pa_nil)))))))), ?_⟩
    refine ⟨_, rfl, 17, rfl, a, _, rfl, hS, fun q nq => ⟨q, rfl, ⟨_, SqL.of upd_same⟩, fun D nD => ?_⟩⟩
    have e17 : cutV (ns.map V.int) none (some 17) = (ns.take 17).map V.int := by
      rw [cut_to (by decide), List.map_take]
      rfl
    have sq : Same H (upd H q (.lst (cutV (ns.map V.int) none (some 17)))) := same_upd nq
    have nDq : D ≠ q := fun z => by
      rw [z, upd_same] at nD
      cases nD
    have nD0 : H D = none := sq.free nD
    refine lc_list (K := K) (a := q) (xs := (ns.take 17).map V.int) (fun i H' => Same H H' ∧ H' q = some (.lst ((ns.take 17).map V.int)) ∧ ∃ ms : List Int, H' D = some (.lst (ms.map V.int)) ∧ ms.length = i)
      ⟨same_mut sq nD0, by rw [upd_ne nDq.symm, upd_same, e17], [], upd_same, rfl⟩ (fun i H' _ h => SqL.of h.2.1) ?_ ?_
    · rintro i x H' hx ⟨sH, hq, ms, hD, hm⟩
      obtain ⟨z, rfl, hz⟩ := map_item hx
      have hi : i < 17 := by
        have := (List.getElem?_eq_some_iff.mp hx).1
        rw [List.length_map, List.length_take] at this
        omega
      refine ⟨rfl, _, rfl, z, rfl, _, hD, ?_, same_mut sH nD0, ?_, ms ++ [if z < 0 then -z else z], ?_, ?_⟩
      · rw [List.length_map, hm]
        exact small1000 (by omega)
      · rw [upd_ne nDq.symm]
        exact hq
      · rw [upd_same, List.map_append]
        rfl
      · rw [List.length_append, List.length_singleton, hm]
    · rintro H1 ⟨sH, hq, ms, hD, hm⟩
      rw [List.length_map, List.length_take] at hm
      refine ⟨_, rfl, 17, rfl, 60, rfl, a, _, rfl, sH.seq hS, fun r nr => ⟨r, _, rfl, SqL.of upd_same, ?_⟩⟩
      have e60 : cutV (ns.map V.int) (some 17) (some 60) = ((ns.drop 17).take 43).map V.int := by
        rw [cut_from_to (by decide) (by decide), List.map_take, List.map_drop]
        rfl
      have sr : Same H1 (upd H1 r (.lst (cutV (ns.map V.int) (some 17) (some 60)))) := same_upd nr
      have nrD : D ≠ r := ne_of_none hD nr
      refine for_enum (K := K) (a := r) (xs := ((ns.drop 17).take 43).map V.int) (fun i σ H' => ∃ (v2 v3 : Option V) (ms : List Int), σ = [some (.ref a), some (.ref D), v2, v3] ∧ Same H H' ∧ H' r = some (.lst (((ns.drop 17).take 43).map V.int)) ∧ H' D = some (.lst (ms.map V.int)) ∧ ms.length = min 17 ns.length)
        ⟨none, none, ms, rfl, sH.trans sr, by rw [upd_same, e60], by rw [upd_ne nrD]; exact hD, hm⟩ (fun i σ H' ⟨_, _, _, _, _, h, _⟩ => SqL.of h) ?_ ?_
      · rintro i x σ H' t hx nt ⟨v2, v3, ms, rfl, sH', hr', hD', hm'⟩
        obtain ⟨z, rfl, hz⟩ := map_item hx
        have hl : 17 < ns.length := by
          have := (List.getElem?_eq_some_iff.mp hz).1
          rw [List.length_take, List.length_drop] at this
          omega
        have ml : ms.length = 17 := by omega
        have ntD : D ≠ t := ne_of_none hD' nt
        have ntr : r ≠ t := ne_of_none hr' nt
        obtain ⟨y, hy⟩ := atI_ints (ns := ms) (k := (i : Int) % 17) (Int.emod_nonneg _ (by decide)) (by rw [ml]; exact Int.emod_lt_of_pos _ (by decide))
        refine ⟨t, _, rfl, .inl (.inl upd_same), rfl, _, _, rfl, _, _, rfl, rfl, ?_⟩
        refine ⟨_, rfl, _, rfl, _, _, rfl, rfl, (by show (0 : Int) < 17; decide), D, ms.map V.int, _, .int y, rfl, rfl, SqL.of (by rw [upd_ne ntD]; exact hD'), hy, _, rfl, z, rfl, y, _, rfl, rfl, ?_⟩
        refine ⟨_, rfl, _, rfl, _, _, rfl, rfl, (by show (0 : Int) < 17; decide), D, ms.map V.int, _, _, rfl, rfl, (by rw [upd_ne ntD]; exact hD'), ixN_lt (Int.emod_nonneg _ (by decide)) (by rw [List.length_map, ml]; exact Int.emod_lt_of_pos _ (by decide)), ?_⟩
        refine ⟨_, _, ms.set ((i : Int) % 17).toNat (y + if z < 0 then -z else z), rfl, same_mut (sH'.trans (same_upd nt)) nD0, ?_, ?_, ?_⟩
        · rw [upd_ne nrD.symm, upd_ne ntr]
          exact hr'
        · rw [upd_same, List.map_set]
        · rw [List.length_set]
          exact hm'
      · rintro σ H' ⟨v2, v3, ms, rfl, sH', hr', hD', hm'⟩
        refine ⟨_, rfl, (by show 4 ≤ sizeLine; decide), fun l nl => ?_⟩
        exact k l D _ (sH'.trans (same_upd nl)) (sH'.free nl) ⟨(ne_of_none hD' nl).symm, ⟨0, 0, 0, upd_same⟩, ms, by rw [upd_ne (ne_of_none hD' nl)]; exact hD', by omega⟩

theorem sc_below : FnScope ["pot", "bound", "cells", "place", "amount", "found"] ["pot", "bound"] (defScope s_below) := ⟨rfl, rfl, rfl, by decide +kernel, rfl, by decide +kernel, by decide +kernel⟩
theorem cal_below (D : Def1 K mg "_law_below" s_below) (T : Glb mg) (CK : Cal P w K mg base 1 "_law_kneaded" spKneaded) : Cal P w K mg base 2 "_law_below" spBelow := by
  refine mkCal D sc_below (fun _ _ _ _ _ _ us hl => match us, hl with | [_, _], _ => rfl) (fun vs H Q E h => ?_) (fun f cdv A outer s H vs Q E hr h => ?_)
  · obtain ⟨p, c, n, rfl, _⟩ := h
    rfl
  · obtain ⟨p, c, n, rfl, hP, n0, n1, k⟩ := h
    have hu := hu_of hr
    refine ⟨_, pss_cons (ps_if (pt_cmpR op_lt (pe_ix ix_list (pv 0) pe_int (fun _ _ => rfl)) (pv 1) (nomark _))
        (pss_cons (ps_par (i := 2) (j := 3) (by rfl) sc_below.nd rfl rfl (by decide) rfl rfl (pa_cons (pe_ix ix_list (pv 0) pe_int (fun _ _ => rfl)) (pa_cons (pe_ix ix_list (pv 0) pe_int (fun _ _ => rfl)) pa_nil)) (by rfl))
        (pss_cons (ps_set (i := 4) sc_below.nd rfl (.inl rfl) (pe_ifExp (pt_cmpR (op_neD hr.units) (pv 2) (pe_lst pa_nil) (nomark _))
            (pe_ix ix_list (pv 2) (pe_op op_modN (pv 3) (pe_callB call_len_seq (by rfl) T.len PySem.boot_len (pa_cons (pv 2) pa_nil))) (fun _ _ => rfl)) pe_int))
        (pss_cons (ps_if (PW.pt (pw_or (pt_cmpR op_ge (pv 3) (pe_callB call_len_seq (by rfl) T.len PySem.boot_len (pa_cons (pv 2) pa_nil)) (nomark _)) (pw_or1 (pt_cmpR op_lt (pv 4) (pe_op op_pow pe_int pe_int) (nomark _)))))
            (pss_one (ps_set (i := 4) sc_below.nd rfl (.inl rfl) (pe_cal CK hr (by decide) (pa_cons (pe_op op_mod (pe_callTy call_int1 (by rfl) T.int (by decide +kernel) (pa_cons (pv 4) pa_nil)) pe_int) (pa_cons (pv 3) pa_nil))))) pss_nil)
        (pss_cons (ps_asg (pe_op op_add (pv 3) pe_int) (pg_sub (pv 0) pe_int set_list))
        (pss_cons (ps_asg (pv 4) (pg_sub (pv 0) pe_int set_list))
        (pss_one (ps_asg (pv 4) (pg_sub (pv 0) pe_int set_list)))))))) pss_nil)
      (pss_cons (ps_set (i := 5) sc_below.nd rfl (.inl rfl) (pe_op op_mod (pe_callTy call_int1 (by rfl) T.int (by decide +kernel) (pa_cons (pe_ix ix_list (pv 0) pe_int (fun _ _ => rfl)) pa_nil)) (pv 1)))
      (pss_cons (ps_asg (pe_op op_fdivN (pe_ix ix_list (pv 0) pe_int (fun _ _ => rfl)) (pv 1)) (pg_sub (pv 0) pe_int set_list))
      (pss_cons (ps_asg (pe_op op_fdivN (pe_ix ix_list (pv 0) pe_int (fun _ _ => rfl)) (pv 1)) (pg_sub (pv 0) pe_int set_list))
      (pss_one (ps_ret (pv 5)))))), ?_⟩
    -- the end, from any pot
    have tail : ∀ (v2 v3 v4 : Option V) (H1 : Hp), Ext p c H H1 → ∀ (t : TS), t = tSeq (tAsg (tOp (rI (fun _ j => 0 < j) fun i j => V.int (i % j)) (tCB (fun xs H Q => (∃ i, xs = [V.int i] ∧ Q (.int i) H) ∨ ∃ k, xs = [V.bl k] ∧ Q (.int (if k then 1 else 0)) H) (tCons (tOp (rIxL K) (tVar 0) (tC (.int 2))) tNil)) (tVar 1)) (gName 5))
        (tSeq (tAsg (tOp (rI CDivN fun i j => V.int (i.fdiv j)) (tOp (rIxL K) (tVar 0) (tC (.int 2))) (tVar 1)) (gSub (tVar 0) (tC (.int 2)) rSetL)) (tSeq (tAsg (tOp (rI CDivN fun i j => V.int (i.fdiv j)) (tOp (rIxL K) (tVar 0) (tC (.int 3))) (tVar 1)) (gSub (tVar 0) (tC (.int 3)) rSetL)) (tRet (tVar 5)))) →
        t { nx := fun _ H' => Q .non H', rt := Q } [some (.ref p), some (.int n), v2, v3, v4, none] H1 := by
      rintro v2 v3 v4 H1 e t rfl
      obtain ⟨npc, ⟨i, a, b, hp⟩, _⟩ := id e.pot
      refine ⟨_, rfl, p, _, 2, .int a, rfl, rfl, SqL.of hp, atI_nat (j := 2) rfl, .inl ⟨_, rfl, _, rfl, _, _, rfl, rfl, n0, ?_⟩⟩
      refine ⟨_, rfl, p, _, 2, .int a, rfl, rfl, SqL.of hp, atI_nat (j := 2) rfl, _, rfl, _, _, rfl, rfl, ⟨by omega, by omega⟩, ?_⟩
      refine ⟨_, rfl, p, _, 2, 2, rfl, rfl, hp, rfl, ?_⟩
      refine ⟨_, rfl, p, _, 3, .int b, rfl, rfl, SqL.of upd_same, atI_nat (j := 3) rfl, _, rfl, _, _, rfl, rfl, ⟨by omega, by omega⟩, ?_⟩
      refine ⟨_, rfl, p, _, 3, 3, rfl, rfl, upd_same, rfl, ?_⟩
      refine ⟨_, rfl, k _ _ (Int.emod_nonneg _ (by omega)) (Int.emod_lt_of_pos _ n0) ?_⟩
      exact pot_put hP (pot_put hP e)
    obtain ⟨npc, ⟨i, a, b, hp⟩, ns, hc, hl⟩ := id hP
    refine ⟨_, rfl, p, _, 3, .int b, rfl, rfl, SqL.of hp, atI_nat (j := 3) rfl, _, rfl, _, _, rfl, rfl, _, rfl, ?_⟩
    refine ite2 (fun _ => ?_) (fun _ => tail _ _ _ H hP.ref _ rfl)
    refine ⟨_, rfl, p, _, 0, .ref c, rfl, rfl, SqL.of hp, atI_nat (j := 0) rfl, _, rfl, p, _, 1, .int i, rfl, rfl, SqL.of hp, atI_nat (j := 1) rfl, _, _, rfl, ?_⟩
    refine ⟨_, rfl, Nat.zero_le _, fun q nq => ⟨_, _, .lst (SqL.of (by rw [upd_ne (ne_of_none hc nq)]; exact hc)) (dp_ints ns), .lst (SqL.of upd_same) .nil, shaped_ints ns, rfl, _, rfl, ?_⟩⟩
    rw [eqv_ints_nil]
    have e1 : Ext p c H (upd H q (.lst [])) := hP.ref.new nq
    have hc1 : (upd H q (.lst [])) c = some (.lst (ns.map V.int)) := by rw [upd_ne (ne_of_none hc nq)]; exact hc
    have hp1 : (upd H q (.lst [])) p = some (.lst [.ref c, .int i, .int a, .int b]) := by rw [upd_ne (ne_of_none hp nq)]; exact hp
    refine ite2 (fun hn => ?wayA) (fun hn => ?wayB)
    case' wayA =>
      have hn2 : 0 < ns.length := List.length_pos_iff.mpr fun z => by
        rw [z] at hn
        exact absurd hn (by decide)
      obtain ⟨z, hz⟩ := atI_ints (ns := ns) (k := Int.fmod i (((ns.map V.int).length : Nat) : Int)) (Int.fmod_nonneg_of_pos _ (by rw [List.length_map]; omega)) (by
        rw [List.length_map]
        exact Int.fmod_lt_of_pos _ (by omega))
      refine ⟨_, rfl, _, rfl, _, rfl, c, _, rfl, .inl (SqL.of hc1), _, _, rfl, rfl, (by rw [List.length_map]; show ((ns.length : Nat) : Int) ≠ 0; omega), c, _, _, .int z, rfl, rfl, SqL.of hc1, hz, ?_⟩
    all_goals
      refine ⟨_, rfl, _, rfl, c, _, rfl, .inl (SqL.of hc1), _, _, rfl, rfl, _, rfl, ?_⟩
      refine ite2 (fun _ => iteT ?_) (fun _ => ⟨_, rfl, _, _, rfl, rfl, ⟨by decide, by decide, by decide⟩, _, _, rfl, rfl, _, rfl, ite2 (fun _ => ?_) (fun _ => ?_)⟩)
      all_goals try refine ⟨_, rfl, .inl ⟨_, rfl, _, _, rfl, rfl, (by show (0 : Int) < 982451629; decide), _, rfl, _, _, rfl, fun r => ?_⟩⟩
      all_goals
        refine ⟨_, rfl, _, _, rfl, rfl, _, rfl, p, _, 1, 1, rfl, rfl, hp1, rfl, ?_⟩
        refine ⟨_, rfl, _, rfl, p, _, 2, 2, rfl, rfl, upd_same, rfl, ?_⟩
        refine ⟨_, rfl, _, rfl, p, _, 3, 3, rfl, rfl, upd_same, rfl, ?_⟩
        exact tail _ _ _ _ (pot_put hP (pot_put hP (pot_put hP e1))) _ rfl
end
end Lk

/-! K22n -/
set_option Elab.async false
set_option linter.all false
set_option maxRecDepth 100000
set_option maxHeartbeats 4000000
namespace Lk
open PySem PySem.Spec PyProof.Rows L2
section
variable {P : Program} {w : World} {K : PySem.W.Frag} {mg : Str → Option Value} {base : Heap}
theorem sc_pick : FnScope ["pot", "items"] ["pot", "items"] (defScope s_pick) := ⟨rfl, rfl, rfl, by decide +kernel, rfl, by decide +kernel, by decide +kernel⟩
theorem cal_pick (D : Def1 K mg "_law_pick" s_pick) (T : Glb mg) (CB : Cal P w K mg base 2 "_law_below" spBelow) : Cal P w K mg base 3 "_law_pick" (spPick K) := by
  refine mkCal D sc_pick (fun _ _ _ _ _ _ us hl => match us, hl with | [_, _], _ => rfl) (fun vs H Q E h => ?_) (fun f cdv A outer s H vs Q E hr h => ?_)
  · obtain ⟨p, c, l, xs, rfl, _⟩ := h
    rfl
  · obtain ⟨p, c, l, xs, rfl, hP, hS, nl, h0, h1, k⟩ := h
    refine ⟨_, pss_one (ps_ret (pe_ix ix_list (pv 1) (pe_cal CB hr (by decide) (pa_cons (pv 0) (pa_cons (pe_callB call_len_seq (by rfl) T.len PySem.boot_len (pa_cons (pv 1) pa_nil)) pa_nil))) (fun _ _ => rfl))), ?_⟩
    refine ⟨_, rfl, _, rfl, _, rfl, l, xs, rfl, .inl hS, p, c, _, rfl, hP, by omega, by omega, fun r H' r0 r1 e => ?_⟩
    obtain ⟨v, hv, hg⟩ := atI_lt (xs := xs) r0 r1
    exact ⟨l, xs, r, v, rfl, rfl, e.seq nl hS, hv, k v H' (List.mem_of_getElem? hg) e⟩
theorem sc_some_name : FnScope ["pot", "head", "tail", "lap"] ["pot"] (defScope s_some_name) := ⟨rfl, rfl, rfl, by decide +kernel, rfl, by decide +kernel, by decide +kernel⟩
theorem cal_some_name (D : Def1 K mg "_law_some_name" s_some_name) (T : Glb mg) (CB : Cal P w K mg base 2 "_law_below" spBelow) (CP : Cal P w K mg base 3 "_law_pick" (spPick K)) : Cal P w K mg base 4 "_law_some_name" spName := by
  refine mkCal D sc_some_name (fun _ _ _ _ _ _ us hl => match us, hl with | [_], _ => rfl) (fun vs H Q E h => ?_) (fun f cdv A outer s H vs Q E hr h => ?_)
  · obtain ⟨p, c, rfl, _⟩ := h
    rfl
  · obtain ⟨p, c, rfl, hP, k⟩ := h
    refine ⟨_, pss_cons (ps_set (i := 1) sc_some_name.nd rfl (.inl rfl) (pe_join pe_str (pe_lc (own := [("lap", 3)]) (g := gName 3) (tt := tYes) (by rfl) sc_some_name.nd (pi_range1 (by rfl) T.range (pa_cons (pe_cal CB hr (by decide) (pa_cons (pv 0) (pa_cons pe_int pa_nil))) pa_nil))
          (blkOk_by (own := [("lap", 3)]) (N := ["pot", "head", "tail", "lap"]) (sc := defScope s_some_name) (by decide +kernel)) (fun _ _ _ _ _ => pg_name (i := 3) sc_some_name.nd rfl (Or.inl rfl)) (fun _ _ _ _ _ => pts_nil)
          (fun _ _ _ _ _ => pe_cal CP hr (by decide) (pa_cons (pv 0) (pa_cons (pe_lst (pa_cons pe_str (pa_cons pe_str (pa_cons pe_str (pa_cons pe_str pa_nil))))) pa_nil))))))
      (pss_cons (ps_set (i := 2) sc_some_name.nd rfl (.inl rfl) (pe_join pe_str (pe_lc (own := [("lap", 3)]) (g := gName 3) (tt := tYes) (by rfl) sc_some_name.nd (pi_range1 (by rfl) T.range (pa_cons (pe_cal CB hr (by decide) (pa_cons (pv 0) (pa_cons pe_int pa_nil))) pa_nil))
          (blkOk_by (own := [("lap", 3)]) (N := ["pot", "head", "tail", "lap"]) (sc := defScope s_some_name) (by decide +kernel)) (fun _ _ _ _ _ => pg_name (i := 3) sc_some_name.nd rfl (Or.inl rfl)) (fun _ _ _ _ _ => pts_nil)
          (fun _ _ _ _ _ => pe_cal CP hr (by decide) (pa_cons (pv 0) (pa_cons (pe_lst (pa_cons pe_str (pa_cons pe_str (pa_cons pe_str (pa_cons pe_str pa_nil))))) pa_nil))))))
      (pss_one (ps_ret (pe_ifExp (pt_cmpR op_ne (pe_op op_add_str (pv 1) (pv 2)) pe_str (nomark _)) (pe_op op_add_str (pv 1) (pv 2)) (pe_cal CP hr (by decide) (pa_cons (pv 0) (pa_cons (pe_lst (pa_cons pe_str (pa_cons pe_str (pa_cons pe_str pa_nil)))) pa_nil))))))), ?_⟩
    have hU : ∀ y : Str, y ∈ ([("A" : Str), "A", "B", "Z"] : List Str) → (TL.tl y).length ≤ 1 ∧ ∀ c ∈ TL.tl y, Up c := by decide +kernel
    have hL : ∀ y : Str, y ∈ ([("c" : Str), "o", "o", "s"] : List Str) → (TL.tl y).length ≤ 1 ∧ ∀ c ∈ TL.tl y, Lo c := by decide +kernel
    have e0 : TL.tl ("" : Str) = [] := by decide +kernel
    refine set_read ?_
    refine word_read (K := K) (σ := [some (.ref p), none, none, none]) (n := 4) (iv := 3) (p := p) (c := c) (letters := [("A" : Str), "A", "B", "Z"]) ?hL (by decide) (by decide) (fun y h => (hU y h).1) (by rfl) (fun _ => by rfl) (fun _ => by rfl) hP (by decide) (by decide) fun hs H1 mh lh e1 => ?_
    case hL => exact fun σ H Q q => q
    refine set_read ?_
    refine word_read (K := K) (σ := [some (.ref p), some (.str (Txt.join "" hs)), none, none]) (n := 4) (iv := 3) (p := p) (c := c) (letters := [("c" : Str), "o", "o", "s"]) ?hL (by decide) (by decide) (fun y h => (hL y h).1) (by rfl) (fun _ => by rfl) (fun _ => by rfl) e1.pot (by decide) (by decide) fun ts H2 mt lt e2 => ?_
    case hL => exact fun σ H Q q => q
    have e := e1.trans e2
    have th : TL.tl (Txt.join "" hs) = (hs.map TL.tl).flatten := tl_join0 e0 hs
    have tt : TL.tl (Txt.join "" ts) = (ts.map TL.tl).flatten := tl_join0 e0 ts
    have lh1 := flat_len (k := 1) (ys := hs) fun y h => (hU y (mh y h)).1
    have lt1 := flat_len (k := 1) (ys := ts) fun y h => (hL y (mt y h)).1
    have ll : (Txt.join "" hs).length + (Txt.join "" ts).length ≤ sizeLine := by
      rw [TL.len_tl, TL.len_tl, th, tt]
      exact Nat.le_of_lt (small1000 (by omega))
    refine ⟨_, rfl, _, rfl, _, _, rfl, rfl, ll, rfl, _, rfl, ?_⟩
    refine ite2 (fun hne => ?_) (fun hne => ?_)
    · refine ⟨_, rfl, _, rfl, _, _, rfl, rfl, ll, k _ (hs.map TL.tl).flatten (ts.map TL.tl).flatten H2 ⟨by rw [TL.tl_append, th, tt], flat_all fun y h => (hU y (mh y h)).2, flat_all fun y h => (hL y (mt y h)).2, fun z => ?_, by omega, by omega⟩ e⟩
      have z2 : Txt.join "" hs ++ Txt.join "" ts = ("" : Str) := TL.ext_tl (by rw [TL.tl_append, th, tt, z, e0])
      rw [z2] at hne
      exact absurd hne (by decide)
    · refine ⟨_, rfl, (by show 3 ≤ sizeLine; decide), fun l nl => ?_⟩
      refine ⟨p, c, l, _, rfl, e.pot.same (same_upd nl), SqL.of upd_same, e.pot.nep nl, by decide, by decide, fun v H3 hv e3 => ?_⟩
      have e4 := e.trans (Ext.pre (same_upd nl) e3)
      have h3 : v = .str "A" ∨ v = .str "o" ∨ v = .str "Z" := by simpa using hv
      rcases h3 with rfl | rfl | rfl
      · exact k _ [65] [] _ ⟨by decide +kernel, by decide, by decide, by decide, by decide, by decide⟩ e4
      · exact k _ [] [111] _ ⟨by decide +kernel, by decide, by decide, by decide, by decide, by decide⟩ e4
      · exact k _ [90] [] _ ⟨by decide +kernel, by decide, by decide, by decide, by decide, by decide⟩ e4
end
end Lk

/-! K22h -/
set_option Elab.async false
set_option linter.all false
set_option maxRecDepth 100000
set_option maxHeartbeats 4000000
namespace Lk
open PySem PySem.Spec PyProof.Rows L2
inductive Src
  | pat (b e : Str)
  | nm (x : Str)
def Src.d : Src → PyData
  | .pat b e => .tuple [.str b, .str e]
  | .nm x => .str x
/-- the drawn sources -/
def SrcOk : Src → Prop
  | .pat b e => b ∈ (["", "A", "B", "AB"] : List Str) ∧ e ∈ (["", "c", "o", "s", "co"] : List Str) ∧ ¬ (b = "" ∧ e = "")
  | .nm x => x ∈ (["A", "Ac", "Bo", "s", "Ao"] : List Str)
section
variable {P : Program} {w : World} {K : PySem.W.Frag} {mg : Str → Option Value} {base : Heap}
def spWhole (K : PySem.W.Frag) : Sp := fun vs H Q _ => ∃ b e : Str, vs = [.str b, .str e] ∧ b.length + e.length ≤ 1000 ∧ ∀ p H' b' e', Same H H' → H' p = some (.tup [.str b', .str e']) → ((b' = b ∧ e' = e ∧ ¬ (b = "" ∧ e = "")) ∨ (b' = "" ∧ e' = "c")) → Q (.ref p) H'
theorem sc_whole : FnScope ["begin", "end"] ["begin", "end"] (defScope s_whole) := ⟨rfl, rfl, rfl, by decide +kernel, rfl, by decide +kernel, by decide +kernel⟩
theorem cal_whole (D : Def1 K mg "_law_whole" s_whole) : Cal P w K mg base 1 "_law_whole" (spWhole K) := by
  refine mkCal D sc_whole (fun _ _ _ _ _ _ us hl => match us, hl with | [_, _], _ => rfl) (fun vs H Q E h => ?_) (fun f cdv A outer s H vs Q E hr h => ?_)
  · obtain ⟨b, e, rfl, _⟩ := h
    rfl
  · obtain ⟨b, e, rfl, l, k⟩ := h
    refine ⟨_, pss_one (ps_ret (pe_ifExp (pt_cmpR op_ne (pe_op op_add_str (pv 0) (pv 1)) pe_str (nomark _)) (pe_tup (pa_cons (pv 0) (pa_cons (pv 1) pa_nil))) (pe_tup (pa_cons pe_str (pa_cons pe_str pa_nil))))), ?_⟩
    refine ⟨_, rfl, _, rfl, b, e, rfl, rfl, Nat.le_trans l (by decide), rfl, _, rfl, ?_⟩
    have eb : b ++ e = "" ↔ (b = "" ∧ e = "") := by
      rw [← tl_nil_iff, TL.tl_append, List.append_eq_nil_iff, tl_nil_iff, tl_nil_iff]
    refine ite2 (fun hne => ?_) (fun hne => ?_)
    · refine ⟨_, rfl, _, rfl, (by show 2 ≤ sizeLine; decide), fun p np => k p _ b e (same_upd np) upd_same (.inl ⟨rfl, rfl, fun z => ?_⟩)⟩
      rw [eb.mpr z] at hne
      exact absurd hne (by decide)
    · exact ⟨(by show 2 ≤ sizeLine; decide), fun p np => k p _ "" "c" (same_upd np) upd_same (.inr ⟨rfl, rfl⟩)⟩
def spSrc (K : PySem.W.Frag) : Sp := fun vs H Q _ => ∃ (p c : Addr), vs = [.ref p] ∧ PotAt p c H ∧ ∀ (v : V) (s : Src) (H' : Hp), SrcOk s → Ext p c H H' → Th K H' v s.d → Q v H'
theorem sc_some_source : FnScope ["pot"] ["pot"] (defScope s_some_source) := ⟨rfl, rfl, rfl, by decide +kernel, rfl, by decide +kernel, by decide +kernel⟩
theorem cal_some_source (D : Def1 K mg "_law_some_source" s_some_source) (CB : Cal P w K mg base 2 "_law_below" spBelow) (CP : Cal P w K mg base 3 "_law_pick" (spPick K)) (CW : Cal P w K mg base 1 "_law_whole" (spWhole K)) : Cal P w K mg base 4 "_law_some_source" (spSrc K) := by
  refine mkCal D sc_some_source (fun _ _ _ _ _ _ us hl => match us, hl with | [_], _ => rfl) (fun vs H Q E h => ?_) (fun f cdv A outer s H vs Q E hr h => ?_)
  · obtain ⟨p, c, rfl, _⟩ := h
    rfl
  · obtain ⟨p, c, rfl, hP, k⟩ := h
    refine ⟨_, pss_cons (ps_if (pt_cmpR op_eq (pe_cal CB hr (by decide) (pa_cons (pv 0) (pa_cons pe_int pa_nil))) pe_int (nomark _)) (pss_one (ps_ret (pe_cal CP hr (by decide) (pa_cons (pv 0) (pa_cons (pe_lst (pa_cons pe_str (pa_cons pe_str (pa_cons pe_str (pa_cons pe_str (pa_cons pe_str pa_nil)))))) pa_nil))))) pss_nil)
      (pss_one (ps_ret (pe_cal CW hr (by decide) (pa_cons (pe_cal CP hr (by decide) (pa_cons (pv 0) (pa_cons (pe_lst (pa_cons pe_str (pa_cons pe_str (pa_cons pe_str (pa_cons pe_str (pa_cons pe_str pa_nil)))))) pa_nil)))
        (pa_cons (pe_cal CP hr (by decide) (pa_cons (pv 0) (pa_cons (pe_lst (pa_cons pe_str (pa_cons pe_str (pa_cons pe_str (pa_cons pe_str (pa_cons pe_str (pa_cons pe_str pa_nil))))))) pa_nil))) pa_nil))))), ?_⟩
    refine ⟨_, rfl, p, c, 5, rfl, hP, by decide, by decide, fun r H1 r0 r1 e1 => ⟨rfl, _, rfl, ?_⟩⟩
    have one : ∀ {H : Hp} {v : V} {x : Str}, Th K H v (.str x) → v = .str x := fun h => by
      cases h
      rfl
    refine ite2 (fun _ => ?_) (fun _ => ?_)
    · refine pick_new (K := K) (p := p) (c := c) (i := 0) (mk_cons mk_str (mk_cons mk_str (mk_cons mk_str (mk_cons mk_str (mk_cons mk_str mk_nil))))) rfl (by show 0 < 5; decide) (by show 5 ≤ 1000; decide) e1.pot rfl fun v d H2 hd ht e2 => ?_
      obtain ⟨x, hx, rfl⟩ : ∃ x, x ∈ (["A", "Ac", "Bo", "s", "Ao"] : List Str) ∧ d = .str x := by
        simp only [List.mem_cons, List.mem_nil_iff, or_false] at hd
        rcases hd with rfl | rfl | rfl | rfl | rfl <;> exact ⟨_, by simp, rfl⟩
      exact k v (.nm x) H2 hx (e1.trans e2) ht
    · refine pick_new (K := K) (p := p) (c := c) (i := 0) (mk_cons mk_str (mk_cons mk_str (mk_cons mk_str (mk_cons mk_str (mk_cons mk_str mk_nil))))) rfl (by show 0 < 5; decide) (by show 5 ≤ 1000; decide) e1.pot rfl fun v d H2 hd ht e2 => ?_
      obtain ⟨b, hb, rfl⟩ : ∃ x, x ∈ (["", "A", "B", "AB"] : List Str) ∧ d = .str x := by
        simp only [List.mem_cons, List.mem_nil_iff, or_false] at hd
        rcases hd with rfl | rfl | rfl | rfl | rfl <;> exact ⟨_, by simp, rfl⟩
      obtain rfl := one ht
      refine pick_new (K := K) (p := p) (c := c) (i := 0) (mk_cons mk_str (mk_cons mk_str (mk_cons mk_str (mk_cons mk_str (mk_cons mk_str (mk_cons mk_str mk_nil)))))) rfl (by show 0 < 6; decide) (by show 6 ≤ 1000; decide) e2.pot rfl fun v2 d2 H3 hd2 ht2 e3 => ?_
      obtain ⟨e, he, rfl⟩ : ∃ x, x ∈ (["", "c", "o", "s", "co"] : List Str) ∧ d2 = .str x := by
        simp only [List.mem_cons, List.mem_nil_iff, or_false] at hd2
        rcases hd2 with rfl | rfl | rfl | rfl | rfl | rfl <;> exact ⟨_, by simp, rfl⟩
      obtain rfl := one ht2
      have l1 : ∀ x : Str, x ∈ (["", "A", "B", "AB"] : List Str) → x.length ≤ 2 := by decide +kernel
      have l2 : ∀ x : Str, x ∈ (["", "c", "o", "s", "co"] : List Str) → x.length ≤ 2 := by decide +kernel
      have l3 := l1 b hb
      have l4 := l2 e he
      refine ⟨b, e, rfl, by omega, fun q H4 b' e' s4 hq how => ?_⟩
      refine k (.ref q) (.pat b' e') H4 ?_ (((e1.trans e2).trans e3).same s4) (.tup (.inl (.inl hq)) (.cons (.str _) (.cons (.str _) .nil)))
      rcases how with ⟨rfl, rfl, n⟩ | ⟨rfl, rfl⟩
      · exact ⟨hb, he, n⟩
      · exact ⟨by simp, by simp, by decide⟩
structure Rl where
  lab : Str
  b : Str
  e : Str
  ss : List Src
def Rl.d (r : Rl) : PyData := .tuple [.str r.lab, .tuple [.str r.b, .str r.e], .tuple (r.ss.map Src.d)]
structure RlOk (most : Nat) (r : Rl) : Prop where
  lab : r.lab ∈ (["cc", "as", "link"] : List Str)
  b : r.b ∈ (["", "A", "B"] : List Str)
  e : r.e ∈ (["o", "c", "", "s"] : List Str)
  ne : ¬ (r.b = "" ∧ r.e = "")
  ss : ∀ s ∈ r.ss, SrcOk s
  len : r.ss.length ≤ most
theorem src_flat (s : Src) : noLst s.d = true ∧ noPot s.d = true := by
  cases s <;> exact ⟨rfl, rfl⟩
theorem srcs_flat : ∀ ss : List Src, noLstAll (ss.map Src.d) = true ∧ noPotAll (ss.map Src.d) = true
  | [] => ⟨rfl, rfl⟩
  | s :: r => ⟨by rw [List.map_cons, noLstAll, (src_flat s).1, (srcs_flat r).1]; rfl, by rw [List.map_cons, noPotAll, (src_flat s).2, (srcs_flat r).2]; rfl⟩
theorem rl_flat (r : Rl) : noLst r.d = true ∧ noPot r.d = true := by
  obtain ⟨a, b⟩ := srcs_flat r.ss
  refine ⟨?_, ?_⟩
  · simp [Rl.d, noLst, noLstAll, a]
  · simp [Rl.d, noPot, noPotAll, b]
def spRule (K : PySem.W.Frag) : Sp := fun vs H Q _ => ∃ (p c : Addr) (m : Nat), vs = [.ref p, .int (m : Int)] ∧ m ≤ 100 ∧ PotAt p c H ∧ ∀ (v : V) (r : Rl) (H' : Hp), RlOk m r → Ext p c H H' → Th K H' v r.d → Q v H'
theorem sc_some_rule : FnScope ["pot", "most", "pattern", "sources", "lap"] ["pot", "most"] (defScope s_some_rule) := ⟨rfl, rfl, rfl, by decide +kernel, rfl, by decide +kernel, by decide +kernel⟩
theorem cal_some_rule (D : Def1 K mg "_law_some_rule" s_some_rule) (G : Glb mg) (ht : mg "tuple" = none) (CB : Cal P w K mg base 2 "_law_below" spBelow) (CP : Cal P w K mg base 3 "_law_pick" (spPick K)) (CW : Cal P w K mg base 1 "_law_whole" (spWhole K)) (CS : Cal P w K mg base 4 "_law_some_source" (spSrc K)) :
    Cal P w K mg base 5 "_law_some_rule" (spRule K) := by
  refine mkCal D sc_some_rule (fun _ _ _ _ _ _ us hl => match us, hl with | [_, _], _ => rfl) (fun vs H Q E h => ?_) (fun f cdv A outer s H vs Q E hr h => ?_)
  · obtain ⟨p, c, m, rfl, _⟩ := h
    rfl
  · obtain ⟨p, c, m, rfl, hm, hP, k⟩ := h
    refine ⟨_, pss_cons (ps_set (i := 2) sc_some_rule.nd rfl (.inl rfl) (pe_cal CW hr (by decide) (pa_cons (pe_cal CP hr (by decide) (pa_cons (pv 0) (pa_cons (pe_lst (pa_cons pe_str (pa_cons pe_str (pa_cons pe_str (pa_cons pe_str (pa_cons pe_str pa_nil)))))) pa_nil)))
        (pa_cons (pe_cal CP hr (by decide) (pa_cons (pv 0) (pa_cons (pe_lst (pa_cons pe_str (pa_cons pe_str (pa_cons pe_str (pa_cons pe_str (pa_cons pe_str pa_nil)))))) pa_nil))) pa_nil))))
      (pss_cons (ps_set (i := 3) sc_some_rule.nd rfl (.inl rfl) (pe_callTy call_tuple_of (by rfl) ht (by decide +kernel) (pa_cons (pe_lc (own := [("lap", 4)]) (g := gName 4) (tt := tYes) (by rfl) sc_some_rule.nd (pi_range1 (by rfl) G.range (pa_cons (pe_cal CB hr (by decide) (pa_cons (pv 0) (pa_cons (pe_op op_add (pv 1) pe_int) pa_nil))) pa_nil))
          (blkOk_by (own := [("lap", 4)]) (N := ["pot", "most", "pattern", "sources", "lap"]) (sc := defScope s_some_rule) (by decide +kernel)) (fun _ _ _ _ _ => pg_name (i := 4) sc_some_rule.nd rfl (Or.inl rfl)) (fun _ _ _ _ _ => pts_nil)
          (fun _ _ _ _ _ => pe_cal CS hr (by decide) (pa_cons (pv 0) pa_nil))) pa_nil)))
      (pss_one (ps_ret (pe_tup (pa_cons (pe_cal CP hr (by decide) (pa_cons (pv 0) (pa_cons (pe_lst (pa_cons pe_str (pa_cons pe_str (pa_cons pe_str pa_nil)))) pa_nil))) (pa_cons (pv 2) (pa_cons (pv 3) pa_nil))))))), ?_⟩
    have one : ∀ {H : Hp} {v : V} {x : Str}, Th K H v (.str x) → v = .str x := fun h => by
      cases h
      rfl
    refine set_read ?_
    refine pick_new (K := K) (p := p) (c := c) (i := 0) (mk_cons mk_str (mk_cons mk_str (mk_cons mk_str (mk_cons mk_str (mk_cons mk_str mk_nil))))) rfl (by show 0 < 5; decide) (by show 5 ≤ 1000; decide) hP rfl fun v d H1 hd ht1 e1 => ?_
    obtain ⟨b, hb, rfl⟩ : ∃ x, x ∈ (["", "A", "B"] : List Str) ∧ d = .str x := by
      simp only [List.mem_cons, List.mem_nil_iff, or_false] at hd
      rcases hd with rfl | rfl | rfl | rfl | rfl <;> exact ⟨_, by simp, rfl⟩
    obtain rfl := one ht1
    refine pick_new (K := K) (p := p) (c := c) (i := 0) (mk_cons mk_str (mk_cons mk_str (mk_cons mk_str (mk_cons mk_str (mk_cons mk_str mk_nil))))) rfl (by show 0 < 5; decide) (by show 5 ≤ 1000; decide) e1.pot rfl fun v2 d2 H2 hd2 ht2 e2 => ?_
    obtain ⟨e, he, rfl⟩ : ∃ x, x ∈ (["o", "c", "", "s"] : List Str) ∧ d2 = .str x := by
      simp only [List.mem_cons, List.mem_nil_iff, or_false] at hd2
      rcases hd2 with rfl | rfl | rfl | rfl | rfl <;> exact ⟨_, by simp, rfl⟩
    obtain rfl := one ht2
    have l1 : ∀ x : Str, x ∈ (["", "A", "B"] : List Str) → x.length ≤ 2 := by decide +kernel
    have l2 : ∀ x : Str, x ∈ (["o", "c", "", "s"] : List Str) → x.length ≤ 2 := by decide +kernel
    have l3 := l1 b hb
    have l4 := l2 e he
    refine ⟨b, e, rfl, by omega, fun q H3 b' e' s3 hq how => ?_⟩
    have ok : b' ∈ (["", "A", "B"] : List Str) ∧ e' ∈ (["o", "c", "", "s"] : List Str) ∧ ¬ (b' = "" ∧ e' = "") := by
      rcases how with ⟨rfl, rfl, n⟩ | ⟨rfl, rfl⟩
      · exact ⟨hb, he, n⟩
      · exact ⟨by simp, by simp, by decide⟩
    have x3 := (e1.trans e2).same s3
    have tq : Th K H3 (.ref q) (.tuple [.str b', .str e']) := .tup (.inl (.inl hq)) (.cons (.str _) (.cons (.str _) .nil))
    refine ⟨_, rfl, _, rfl, _, _, rfl, rfl, ?_⟩
    refine ⟨p, c, (m : Int) + 1, rfl, x3.pot, by omega, by omega, fun r H4 r0 r1 e4 => ⟨r, rfl, by omega, by omega, fun L nL => ?_⟩⟩
    refine grow (K := K) (p := p) (c := c) (σ := [some (.ref p), some (.int (m : Int)), some (.ref q), none, none]) (te := tCall (spSrc K) [] E0 (tCons (tVar 0) tNil)) (α := Src) (f := Src.d) (Ok := SrcOk) (n := r.toNat) (iv := 4) src_flat e4.pot nL (by omega) (fun _ => rfl) (fun x H' R hp q => ⟨_, rfl, p, c, rfl, hp, fun v s H2 ok e th => q v s H2 ok e th⟩) fun vs as H5 hD ta ok2 len e5 => ?_
    refine ⟨L, vs, rfl, .inl ⟨SqL.of hD, fun t nt => ?_⟩⟩
    have s6 : Same H5 (upd H5 t (.tup vs)) := same_upd nt
    have t6 : Th K (upd H5 t (.tup vs)) (.ref t) (.tuple (as.map Src.d)) := .tup (.inl (.inl upd_same)) (thAll_same s6 ta)
    generalize upd H5 t (.tup vs) = H6 at s6 t6 ⊢
    have x6 : Ext p c H H6 := ((x3.trans e4).trans e5).same s6
    have q6 : Th K H6 (.ref q) (.tuple [.str b', .str e']) := th_same s6 (th_ext e4.pot e5 (th_ext x3.pot e4 tq rfl) rfl)
    refine pick_new (K := K) (p := p) (c := c) (i := 0) (mk_cons mk_str (mk_cons mk_str (mk_cons mk_str mk_nil))) rfl (by show 0 < 3; decide) (by show 3 ≤ 1000; decide) x6.pot rfl fun v3 d3 H7 hd3 ht3 e7 => ?_
    obtain ⟨lab, hlab, rfl⟩ : ∃ x, x ∈ (["cc", "as", "link"] : List Str) ∧ d3 = .str x := by
      simp only [List.mem_cons, List.mem_nil_iff, or_false] at hd3
      rcases hd3 with rfl | rfl | rfl <;> exact ⟨_, by simp, rfl⟩
    obtain rfl := one ht3
    have q7 := th_ext x6.pot e7 q6 rfl
    have t7 := th_ext x6.pot e7 t6 (by simpa only [noPot] using (srcs_flat as).2)
    refine ⟨_, rfl, _, rfl, (by show 3 ≤ sizeLine; decide), fun z nz => ?_⟩
    have s8 : Same H7 (upd H7 z (.tup [.str lab, .ref q, .ref t])) := same_upd nz
    exact k (.ref z) ⟨lab, b', e', as⟩ _ ⟨hlab, ok.1, ok.2.1, ok.2.2, ok2, by rw [len]; omega⟩ ((x6.trans e7).same s8) (.tup (.inl (.inl upd_same)) (.cons (.str lab) (.cons (th_same s8 q7) (.cons (th_same s8 t7) .nil))))
def spBook (K : PySem.W.Frag) : Sp := fun vs H Q _ => ∃ (p c : Addr) (n m : Nat), vs = [.ref p, .int (n : Int), .int (m : Int)] ∧ n ≤ 100 ∧ m ≤ 100 ∧ PotAt p c H ∧ ∀ (q : Addr) (vs : List V) (rs : List Rl) (H' : Hp), (∀ r ∈ rs, RlOk m r) → rs.length ≤ n → Ext p c H H' → H' q = some (.tup vs) → ThAll K H' vs (rs.map Rl.d) → Q (.ref q) H'
theorem sc_some_book : FnScope ["pot", "many", "most", "lap"] ["pot", "many", "most"] (defScope s_some_book) := ⟨rfl, rfl, rfl, by decide +kernel, rfl, by decide +kernel, by decide +kernel⟩
theorem cal_some_book (D : Def1 K mg "_law_some_book" s_some_book) (G : Glb mg) (ht : mg "tuple" = none) (CB : Cal P w K mg base 2 "_law_below" spBelow) (CR : Cal P w K mg base 5 "_law_some_rule" (spRule K)) : Cal P w K mg base 6 "_law_some_book" (spBook K) := by
  refine mkCal D sc_some_book (fun _ _ _ _ _ _ us hl => match us, hl with | [_, _, _], _ => rfl) (fun vs H Q E h => ?_) (fun f cdv A outer s H vs Q E hr h => ?_)
  · obtain ⟨p, c, n, m, rfl, _⟩ := h
    rfl
  · obtain ⟨p, c, n, m, rfl, hn, hm, hP, k⟩ := h
    refine ⟨_, pss_one (ps_ret (pe_callTy call_tuple_of (by rfl) ht (by decide +kernel) (pa_cons (pe_lc (own := [("lap", 3)]) (g := gName 3) (tt := tYes) (by rfl) sc_some_book.nd (pi_range1 (by rfl) G.range (pa_cons (pe_cal CB hr (by decide) (pa_cons (pv 0) (pa_cons (pe_op op_add (pv 1) pe_int) pa_nil))) pa_nil))
          (blkOk_by (own := [("lap", 3)]) (N := ["pot", "many", "most", "lap"]) (sc := defScope s_some_book) (by decide +kernel)) (fun _ _ _ _ _ => pg_name (i := 3) sc_some_book.nd rfl (Or.inl rfl)) (fun _ _ _ _ _ => pts_nil)
          (fun _ _ _ _ _ => pe_cal CR hr (by decide) (pa_cons (pv 0) (pa_cons (pv 2) pa_nil)))) pa_nil))), ?_⟩
    refine ⟨_, rfl, _, rfl, _, _, rfl, rfl, ?_⟩
    refine ⟨p, c, (n : Int) + 1, rfl, hP, by omega, by omega, fun r H4 r0 r1 e4 => ⟨r, rfl, by omega, by omega, fun L nL => ?_⟩⟩
    refine grow (K := K) (p := p) (c := c) (σ := [some (.ref p), some (.int (n : Int)), some (.int (m : Int)), none]) (te := tCall (spRule K) [] E0 (tCons (tVar 0) (tCons (tVar 2) tNil))) (α := Rl) (f := Rl.d) (Ok := RlOk m) (n := r.toNat) (iv := 3) rl_flat e4.pot nL (by omega) (fun _ => rfl) (fun x H' R hp q => ⟨_, rfl, _, rfl, p, c, m, rfl, hm, hp, fun v s H2 ok e th => q v s H2 ok e th⟩) fun vs as H5 hD ta ok2 len e5 => ?_
    exact ⟨L, vs, rfl, .inl ⟨SqL.of hD, fun t nt => k t vs as _ ok2 (by omega) ((e4.trans e5).same (same_upd nt)) upd_same (thAll_same (same_upd nt) ta)⟩⟩
end
end Lk

/-! K22f -/
set_option Elab.async false
set_option linter.all false
set_option maxRecDepth 100000
set_option maxHeartbeats 4000000
namespace Lk
open PySem PySem.Spec PyProof.Rows L2
open Classical in
/-- the stem of a name by the ends of a pattern -/
noncomputable def stemO (b e z : Str) : Option Str := if h : ∃ m : Str, TL.tl z = TL.tl b ++ TL.tl m ++ TL.tl e then some (choose h) else none
theorem stemO_some {b e z m : Str} (h : TL.tl z = TL.tl b ++ TL.tl m ++ TL.tl e) : stemO b e z = some m := by
  have x : ∃ m : Str, TL.tl z = TL.tl b ++ TL.tl m ++ TL.tl e := ⟨m, h⟩
  unfold stemO
  rw [dif_pos x]
  exact congrArg some (TL.ext_tl (List.append_cancel_left (List.append_cancel_right ((Classical.choose_spec x).symm.trans h))))
theorem stemO_none {b e z : Str} (h : ¬ ∃ m : Str, TL.tl z = TL.tl b ++ TL.tl m ++ TL.tl e) : stemO b e z = none := dif_neg h
theorem stemO_eq {b e z m : Str} (h : stemO b e z = some m) : TL.tl z = TL.tl b ++ TL.tl m ++ TL.tl e := by
  apply Classical.byContradiction
  intro n
  by_cases x : ∃ m : Str, TL.tl z = TL.tl b ++ TL.tl m ++ TL.tl e
  · obtain ⟨m', hm⟩ := x
    rw [stemO_some hm] at h
    cases h
    exact n hm
  · rw [stemO_none x] at h
    cases h
theorem stemO_len {b e z m : Str} (h : stemO b e z = some m) : m.length ≤ z.length := by
  have l := congrArg List.length (stemO_eq h)
  rw [List.length_append, List.length_append, ← TL.len_tl, ← TL.len_tl, ← TL.len_tl, ← TL.len_tl] at l
  omega
def vO : Option Str → V
  | some m => .str m
  | none => .non
/-- both answers of a stem at once -/
theorem sw_go {Q : VK} {H : Hp} {b e z : Str} (k : Q (vO (stemO b e z)) H) : (∀ m : Str, TL.tl z = TL.tl b ++ TL.tl m ++ TL.tl e → Q (.str m) H) ∧ ((¬ ∃ m : Str, TL.tl z = TL.tl b ++ TL.tl m ++ TL.tl e) → Q .non H) :=
  ⟨fun m h => by rw [stemO_some h] at k; exact k, fun h => by rw [stemO_none h] at k; exact k⟩
/-- the name that a source is with a stem -/
def Src.put (m : Str) : Src → Str
  | .pat b e => b ++ m ++ e
  | .nm x => x
noncomputable def Rl.to (r : Rl) (z : Str) : Option (List Str) := (stemO r.b r.e z).map fun m => r.ss.map (Src.put m)
def SrcLen : Src → Prop
  | .pat b e => b.length ≤ 3 ∧ e.length ≤ 3
  | .nm x => x.length ≤ 6
structure RlLen (r : Rl) : Prop where
  b : ∀ c ∈ TL.tl r.b, upB c = true
  e : ∀ c ∈ TL.tl r.e, loB c = true
  lb : r.b.length ≤ 3
  le : r.e.length ≤ 3
  ls : r.ss.length ≤ 3
  each : ∀ s ∈ r.ss, SrcLen s
theorem rl_len {r : Rl} (h : dRule r.d = true) : RlLen r := by
  have h2 : (dLabel (.str r.lab) && (dPat (.tuple [.str r.b, .str r.e]) && (decide ((r.ss.map Src.d).length ≤ 3) && (r.ss.map Src.d).all dSrc1))) = true := h
  rw [Bool.and_eq_true, Bool.and_eq_true, Bool.and_eq_true, decide_eq_true_eq, List.length_map, List.all_eq_true] at h2
  obtain ⟨_, hp, hl, hs⟩ := h2
  obtain ⟨a1, a2, a3, a4⟩ := pat_ends hp
  refine ⟨a1, a2, a3, a4, hl, fun s m => ?_⟩
  have q := hs _ (List.mem_map.mpr ⟨s, m, rfl⟩)
  unfold dSrc1 at q
  cases s with
  | pat b e =>
    have q2 : (dPat (.tuple [.str b, .str e]) || (false && decide (0 ≤ 6))) = true := q
    rw [Bool.false_and, Bool.or_false] at q2
    obtain ⟨_, _, b3, b4⟩ := pat_ends q2
    exact ⟨b3, b4⟩
  | nm x =>
    have q2 : (false || (dName (.str x) && decide (x.length ≤ 6))) = true := q
    rw [Bool.false_or, Bool.and_eq_true, decide_eq_true_eq] at q2
    exact q2.2
theorem book_len {rs : List Rl} (h : dBook (.tuple (rs.map Rl.d)) = true) : rs.length ≤ 6 ∧ ∀ r ∈ rs, RlLen r := by
  have h2 : (decide ((rs.map Rl.d).length ≤ 6) && (rs.map Rl.d).all dRule) = true := h
  rw [Bool.and_eq_true, decide_eq_true_eq, List.length_map, List.all_eq_true] at h2
  exact ⟨h2.1, fun r m => rl_len (h2.2 _ (List.mem_map.mpr ⟨r, m, rfl⟩))⟩
section
variable {P : Program} {w : World} {K : PySem.W.Frag} {mg : Str → Option Value} {base : Heap}
theorem th_pair {H : Hp} {v : V} {b e : Str} (h : Th K H v (.tuple [.str b, .str e])) : ∃ q, v = .ref q ∧ SqT K H q [.str b, .str e] := by
  cases h with
  | tup hs ha =>
    cases ha with
    | cons h1 t =>
      cases t with
      | cons h2 t =>
        cases t
        cases h1
        cases h2
        exact ⟨_, rfl, hs⟩
theorem th_rule {H : Hp} {v : V} {r : Rl} (h : Th K H v r.d) : ∃ q p s xs, v = .ref q ∧ SqT K H q [.str r.lab, .ref p, .ref s] ∧ SqT K H p [.str r.b, .str r.e] ∧ SqT K H s xs ∧ ThAll K H xs (r.ss.map Src.d) := by
  unfold Rl.d at h
  cases h with
  | tup hs ha =>
    cases ha with
    | cons h1 t =>
      cases t with
      | cons h2 t =>
        cases t with
        | cons h3 t =>
          cases t
          cases h1
          obtain ⟨p, rfl, hp⟩ := th_pair h2
          cases h3 with
          | tup hs3 ha3 => exact ⟨_, p, _, _, rfl, hs, hp, hs3, ha3⟩
theorem th_src {H : Hp} {v : V} {s : Src} (h : Th K H v s.d) : (∃ x, s = .nm x ∧ v = .str x) ∨ ∃ q b e, s = .pat b e ∧ v = .ref q ∧ SqT K H q [.str b, .str e] := by
  cases s with
  | pat b e =>
    obtain ⟨q, rfl, hq⟩ := th_pair h
    exact .inr ⟨q, b, e, rfl, rfl, hq⟩
  | nm x =>
    cases h
    exact .inl ⟨x, rfl, rfl⟩
/-- [filled(source, within) for source in sources] -/
theorem fills_read {σ : L2.St} {H : Hp} {a : Addr} {xs : List V} {ss : List Src} {m : Str} {j jm iv : Nat} {Q : VK} (hv : σ[j]? = some (some (.ref a))) (hs : SqT K H a xs) (ha : ThAll K H xs (ss.map Src.d)) (small : ss.length ≤ 1000) (len : ∀ s ∈ ss, SrcLen s) (lm : m.length ≤ 1000000)
    (wp : ∀ x : V, wipe ((wipe σ [iv]).set iv (some x)) [iv] = wipe σ [iv]) (hi : ∀ x : V, ((wipe σ [iv]).set iv (some x))[iv]? = some (some x)) (hm : ∀ x : V, ((wipe σ [iv]).set iv (some x))[jm]? = some (some (.str m)))
    (k : ∀ D H', H D = none → Same H H' → H' D = some (.lst ((ss.map (Src.put m)).map V.str)) → Q (.ref D) H') :
    tLc (iTup K (tVar j)) (gName iv) tYes (tCall (spFill K) [] E0 (tCons (tVar iv) (tCons (tVar jm) tNil))) [iv] σ H Q := by
  have hl := thAll_len ha
  rw [List.length_map] at hl
  refine ⟨_, hv, a, rfl, ⟨_, hs⟩, fun D nD => ?_⟩
  refine lc_tup (K := K) (a := a) (xs := xs) (fun i H' => H' D = some (.lst (((ss.take i).map (Src.put m)).map V.str)) ∧ Same H H') ⟨upd_same, same_upd nD⟩ (fun i H' _ h => Same.seqT h.2 hs) ?_ ?_
  · rintro i x H' hx ⟨hD, s⟩
    obtain ⟨d, hd, th⟩ := th_at ha hx
    rw [List.getElem?_map, Option.map_eq_some_iff] at hd
    obtain ⟨c, hc, rfl⟩ := hd
    have lc := len c (List.mem_of_getElem? hc)
    have hlt : i < ss.length := (List.getElem?_eq_some_iff.mp hc).1
    have fin : ∃ acc, H' D = some (.lst acc) ∧ acc.length < sizeLine ∧ (upd H' D (.lst (acc ++ [V.str (c.put m)]))) D = some (.lst (((ss.take (i + 1)).map (Src.put m)).map V.str)) ∧ Same H (upd H' D (.lst (acc ++ [V.str (c.put m)]))) := by
      refine ⟨_, hD, ?_, ?_, same_mut s nD⟩
      · rw [List.length_map, List.length_map, List.length_take, sizeLine_eq]
        omega
      · rw [upd_same, List.take_add_one, hc, List.map_append, List.map_append]
        rfl
    refine ⟨wp x, _, hi x, _, hm x, x, m, rfl, lm, ?_⟩
    rcases th_src (th_same s th) with ⟨y, rfl, rfl⟩ | ⟨q, b, e, rfl, rfl, hq⟩
    · exact .inl ⟨y, rfl, fin⟩
    · exact .inr ⟨q, b, e, rfl, hq, Nat.le_trans lc.1 (by decide), Nat.le_trans lc.2 (by decide), fin⟩
  · rintro H' ⟨hD, s⟩
    rw [hl, List.take_length] at hD
    exact k D H' nD s hD
/-- the rows of the rules that fit a name and are not spent -/
noncomputable def rowOf (z : Str) (ns : List Nat) (c : Rl × Nat) : Option (Nat × List Str) := if c.2 ∈ ns then none else (c.1.to z).map fun ss => (c.2, ss)
noncomputable def fitD (rs : List Rl) (z : Str) (ns : List Nat) : List (Nat × List Str) := rs.zipIdx.filterMap (rowOf z ns)
theorem row_no {z : Str} {ns : List Nat} {r : Rl} {i : Nat} (h : stemO r.b r.e z = none ∨ i ∈ ns) : rowOf z ns (r, i) = none := by
  unfold rowOf Rl.to
  by_cases c : i ∈ ns
  · exact if_pos c
  · rw [if_neg c, h.resolve_right c]
    rfl
theorem row_yes {z : Str} {ns : List Nat} {r : Rl} {i : Nat} {m : Str} (h : stemO r.b r.e z = some m) (n : i ∉ ns) : rowOf z ns (r, i) = some (i, r.ss.map (Src.put m)) := by
  unfold rowOf Rl.to
  rw [if_neg n, h]
  rfl
theorem fm_step {α β : Type} {f : α → Option β} {l : List α} {i : Nat} {x : α} (h : l[i]? = some x) : (l.take (i + 1)).filterMap f = (l.take i).filterMap f ++ (f x).toList := by
  rw [List.take_add_one, h, List.filterMap_append]
  cases e : f x with
  | none => simp [List.filterMap_cons, e]
  | some y => simp [List.filterMap_cons, e]
theorem in_ints {i : Nat} : ∀ {ns : List Nat}, inV (V.int (i : Int)) (ns.map fun n : Nat => V.int (n : Int)) = decide (i ∈ ns)
  | [] => rfl
  | n :: ns => by
    have z := in_ints (i := i) (ns := ns)
    unfold inV at z ⊢
    rw [List.map_cons, List.any_cons, z]
    have e : eqV (V.int (n : Int)) (V.int (i : Int)) = decide (i = n) := by
      show decide ((n : Int) = (i : Int)) = _
      rw [Bool.eq_iff_iff, decide_eq_true_iff, decide_eq_true_iff]
      omega
    rw [e, Bool.eq_iff_iff, Bool.or_eq_true, decide_eq_true_iff, decide_eq_true_iff, decide_eq_true_iff, List.mem_cons]
theorem flat_ints {ns : List Nat} : (ns.map fun n : Nat => V.int (n : Int)).all flatV = true := by
  rw [List.all_eq_true]
  intro v m
  obtain ⟨n, _, rfl⟩ := List.mem_map.mp m
  rfl
/-- a row as it lies on the heap: its pair, its list, its number, its names -/
abbrev Cell := Addr × Addr × Nat × List Str
def CellOk (H : Hp) (c : Cell) : Prop := H c.1 = some (.tup [.int (c.2.2.1 : Int), .ref c.2.1]) ∧ H c.2.1 = some (.lst (c.2.2.2.map V.str))
theorem CellOk.same {H H' : Hp} {c : Cell} (h : CellOk H c) (s : Same H H') : CellOk H' c := ⟨s _ _ h.1, s _ _ h.2⟩
def spFit (K : PySem.W.Frag) : Sp := fun vs H Q _ => ∃ (q : Addr) (xs : List V) (rs : List Rl) (z : Str) (t : Addr) (ns : List Nat), vs = [.ref q, .str z, .ref t] ∧ SqT K H q xs ∧ ThAll K H xs (rs.map Rl.d) ∧ dBook (.tuple (rs.map Rl.d)) = true ∧ z.length ≤ 1000 ∧ SqT K H t (ns.map fun n : Nat => V.int (n : Int)) ∧
  ∀ (p : Addr) (L : List Cell) (H' : Hp), Same H H' → H' p = some (.lst (L.map fun c => V.ref c.1)) → (∀ c ∈ L, CellOk H' c) → L.map (·.2.2) = fitD rs z ns → Q (.ref p) H'
theorem sc_p_fitted : FnScope ["book", "name", "spent", "found", "number", "rule", "_", "pattern", "sources", "within", "source"] ["book", "name", "spent"] (defScope s_p_fitted) := ⟨rfl, rfl, rfl, by decide +kernel, rfl, by decide +kernel, by decide +kernel⟩
theorem cal_p_fitted (D : Def1 K mg "fitted" s_p_fitted) (G : Glb mg) (CW : Cal P w K mg base 1 "stem_within" (spSW K)) (CF : Cal P w K mg base 1 "filled" (spFill K)) : Cal P w K mg base 2 "fitted" (spFit K) := by
  refine mkCal D sc_p_fitted (fun _ _ _ _ _ _ us hl => match us, hl with | [_, _, _], _ => rfl) (fun vs H Q E h => ?_) (fun f cdv A outer s H vs Q E hr h => ?_)
  · obtain ⟨q, xs, rs, z, t, ns, rfl, _⟩ := h
    rfl
  · obtain ⟨q, xs, rs, z, t, ns, rfl, hq, ha, hB, lz, ht, k⟩ := h
    refine ⟨_, (pss_cons (ps_set (i := 3) sc_p_fitted.nd rfl (.inl rfl) (pe_lst pa_nil))
    (pss_cons (ps_for PassesOwn.never rfl (pi_enT (by rfl) G.enumerate (pa_cons (pv 0) pa_nil)) (pg_tup rfl (pgs_cons (pg_name (i := 4) sc_p_fitted.nd rfl (.inl rfl)) (pgs_cons (pg_name (i := 5) sc_p_fitted.nd rfl (.inl rfl)) pgs_nil)))
    (pss_cons (ps_asg (pv 5) (pg_tup rfl (pgs_cons (pg_name (i := 6) sc_p_fitted.nd rfl (.inl rfl)) (pgs_cons (pg_name (i := 7) sc_p_fitted.nd rfl (.inl rfl)) (pgs_cons (pg_name (i := 8) sc_p_fitted.nd rfl (.inl rfl)) pgs_nil)))))
    (pss_cons (ps_set (i := 9) sc_p_fitted.nd rfl (.inr rfl) (pe_cal CW hr (by decide) (pa_cons (pv 7) (pa_cons (pv 1) pa_nil))))
    (pss_one (ps_if (PW.pt (pw_and (pt_cmpR op_notN (pv 9) pe_non (nomark _)) (pw_and1 (pt_cmpR op_notIn_seq (pv 4) (pv 2) (by rfl))))) (pss_one (ps_expr (pe_bm PySem.F.plainAttrs_list PySem.F.slot_list_append PySem.F.type_list_append mt_append (pv 3) (pa_cons (pe_tup (pa_cons (pv 4) (pa_cons (pe_lc (own := [("source", 10)]) (g := gName 10) (tt := tYes) (by rfl) sc_p_fitted.nd (pi_tup (pv 8)) (blkOk_by (own := [("source", 10)]) (N := ["book", "name", "spent", "found", "number", "rule", "_", "pattern", "sources", "within", "source"]) (sc := defScope s_p_fitted) (by decide +kernel)) (fun _ _ _ _ _ => pg_name (i := 10) sc_p_fitted.nd rfl (Or.inl rfl)) (fun _ _ _ _ _ => pts_nil) (fun _ _ _ _ _ => (pe_cal CF hr (by decide) (pa_cons (pv 10) (pa_cons (pv 9) pa_nil))))) pa_nil))) pa_nil)))) pss_nil)))))
    (pss_one (ps_ret (pv 3))))), ?_⟩
    obtain ⟨many, len⟩ := book_len hB
    have hl := thAll_len ha
    rw [List.length_map] at hl
    refine ⟨(by show 0 ≤ sizeLine; decide), fun D nD => ?_⟩
    refine ⟨_, rfl, q, _, rfl, Same.seqT (same_upd nD) hq, for_enT (K := K) (a := q) (xs := xs) (fun i σ H' => ∃ v4 v5 v6 v7 v8 v9 v10 : Option V, σ = [some (.ref q), some (.str z), some (.ref t), some (.ref D), v4, v5, v6, v7, v8, v9, v10] ∧ Same H H' ∧
      ∃ L : List Cell, H' D = some (.lst (L.map fun c => V.ref c.1)) ∧ (∀ c ∈ L, CellOk H' c ∧ c.2.1 ≠ D ∧ c.1 ≠ D) ∧ L.map (·.2.2) = ((rs.zipIdx).take i).filterMap (rowOf z ns))
      ⟨_, _, _, _, _, _, _, rfl, same_upd nD, [], upd_same, (fun _ m => nomatch m), rfl⟩ (fun i σ H' ⟨_, _, _, _, _, _, _, _, s, _⟩ => Same.seqT s hq) ?_ ?_⟩
    · rintro i x σ H' T hx nT ⟨v4, v5, v6, v7, v8, v9, v10, rfl, sH, L, hD, cells, eL⟩
      obtain ⟨d, hd, th⟩ := th_at ha hx
      rw [List.getElem?_map, Option.map_eq_some_iff] at hd
      obtain ⟨r, hr2, rfl⟩ := hd
      have R := len r (List.mem_of_getElem? hr2)
      have hz : (rs.zipIdx)[i]? = some (r, i) := by rw [List.getElem?_zipIdx, hr2]; simp
      have hlt : i < rs.length := (List.getElem?_eq_some_iff.mp hr2).1
      have nTD : D ≠ T := ne_of_none hD nT
      have s1 : Same H' (upd H' T (.tup [.int (i : Int), x])) := same_upd nT
      refine ⟨T, _, rfl, .inl (.inl upd_same), rfl, _, _, rfl, _, _, rfl, rfl, ?_⟩
      generalize upd H' T (.tup [.int (i : Int), x]) = H1 at s1 ⊢
      have sH1 := sH.trans s1
      have hD1 := s1 _ _ hD
      obtain ⟨a, p, s, ys, rfl, ha3, hp, hs, hys⟩ := th_rule (th_same sH1 th)
      refine ⟨_, rfl, a, _, rfl, ha3, rfl, _, _, rfl, _, _, rfl, _, _, rfl, rfl, ?_⟩
      refine ⟨_, rfl, _, rfl, p, r.b, r.e, z, rfl, hp, R.b, R.e, Nat.le_trans R.lb (by decide), Nat.le_trans R.le (by decide), Nat.le_trans lz (by decide), ?_⟩
      have cells1 : ∀ c ∈ L, CellOk H1 c ∧ c.2.1 ≠ D ∧ c.1 ≠ D := fun c m => ⟨(cells c m).1.same s1, (cells c m).2⟩
      have skip : stemO r.b r.e z = none ∨ i ∈ ns → L.map (·.2.2) = ((rs.zipIdx).take (i + 1)).filterMap (rowOf z ns) := fun h => by
        rw [fm_step hz, row_no h, ← eL]
        simp
      cases hst : stemO r.b r.e z with
      | none =>
        refine ⟨fun m hm => ?_, fun _ => ?_⟩
        · rw [stemO_some hm] at hst
          cases hst
        · refine ⟨_, rfl, rfl, _, rfl, ?_⟩
          refine iteF' rfl ?_
          exact ⟨_, _, _, _, _, _, _, rfl, sH1, L, hD1, cells1, skip (.inl hst)⟩
      | some m =>
        refine ⟨fun m' hm => ?_, fun no => absurd ⟨m, stemO_eq hst⟩ no⟩
        rw [stemO_some hm] at hst
        obtain rfl := Option.some.inj hst
        replace hst := stemO_some hm
        refine ⟨_, rfl, rfl, _, rfl, iteT' rfl ?_⟩
        refine ⟨_, rfl, _, rfl, t, _, rfl, .inr (Same.seqT sH1 ht), rfl, flat_ints, _, rfl, ?_⟩
        by_cases hin : i ∈ ns
        · refine iteF' ?_ ?_
          · show (!inV (V.int (i : Int)) _) = false
            rw [in_ints, decide_eq_true hin]
            rfl
          · exact ⟨_, _, _, _, _, _, _, rfl, sH1, L, hD1, cells1, skip (.inr hin)⟩
        · refine iteT' ?_ ?_
          · show (!inV (V.int (i : Int)) _) = true
            rw [in_ints, decide_eq_false hin]
            rfl
          · have lm := stemO_len hst
            refine ⟨_, rfl, .inl ⟨rfl, _, SqL.of hD1⟩, ?_⟩
            refine ⟨_, rfl, ?_⟩
            refine fills_read (K := K) (a := s) (xs := ys) (ss := r.ss) (m := m') rfl hs hys (Nat.le_trans R.ls (by decide)) R.each (by omega) (fun _ => rfl) (fun _ => rfl) (fun _ => rfl) fun l H2 nl s2 hl2 => ?_
            refine ⟨(by show 2 ≤ sizeLine; decide), fun p2 np2 => ?_⟩
            have s3 : Same H2 (upd H2 p2 (.tup [.int (i : Int), .ref l])) := same_upd np2
            have at2 : upd H2 p2 (.tup [.int (i : Int), .ref l]) p2 = some (.tup [.int (i : Int), .ref l]) := upd_same
            have hl3 := s3 _ _ hl2
            have hD3 := s3 _ _ (s2 _ _ hD1)
            have s13 := s2.trans s3
            generalize upd H2 p2 (.tup [.int (i : Int), .ref l]) = H3 at s3 at2 hl3 hD3 s13 ⊢
            have nlD : l ≠ D := fun z => by
              rw [z, hD1] at nl
              cases nl
            have np2D : p2 ≠ D := fun z => by
              rw [z, hD3] at at2
              cases at2
            have few : L.length ≤ 6 := by
              have z1 := congrArg List.length eL
              have z2 := List.length_filterMap_le (rowOf z ns) ((rs.zipIdx).take i)
              rw [List.length_map] at z1
              rw [List.length_take, List.length_zipIdx] at z2
              omega
            refine ⟨D, _, _, rfl, rfl, hD3, by rw [List.length_map, sizeLine_eq]; omega, ?_⟩
            refine ⟨_, _, _, _, _, _, _, rfl, same_mut (sH1.trans s13) nD, L ++ [(p2, l, i, r.ss.map (Src.put m'))], by rw [upd_same, List.map_append]; rfl, fun c mc => ?_, ?_⟩
            · have ok : CellOk H3 c ∧ c.2.1 ≠ D ∧ c.1 ≠ D := by
                rcases List.mem_append.mp mc with mc | mc
                · exact ⟨(cells1 c mc).1.same s13, (cells1 c mc).2⟩
                · rw [List.mem_singleton.mp mc]
                  exact ⟨⟨at2, hl3⟩, nlD, np2D⟩
              refine ⟨⟨?_, ?_⟩, ok.2⟩
              · rw [upd_ne ok.2.2]
                exact ok.1.1
              · rw [upd_ne ok.2.1]
                exact ok.1.2
            · rw [fm_step hz, row_yes hst hin, List.map_append, eL]
              rfl
    · rintro σ H' ⟨v4, v5, v6, v7, v8, v9, v10, rfl, sH, L, hD, cells, eL⟩
      rw [hl, List.take_of_length_le (by rw [List.length_zipIdx]; exact Nat.le_refl _)] at eL
      exact ⟨_, rfl, k D L H' sH hD (fun c m => (cells c m).1) eL⟩
theorem bulkAll_le {c : Nat} : ∀ {ds : List PyData}, (∀ d ∈ ds, d.bulk ≤ c) → PyData.bulkAll ds ≤ ds.length * (c + 1)
  | [], _ => by simp [PyData.bulkAll]
  | d :: ds, h => by
    have z := bulkAll_le fun e m => h e (List.mem_cons_of_mem _ m)
    have y := h d List.mem_cons_self
    rw [PyData.bulkAll, List.length_cons, Nat.add_mul]
    omega
theorem rl_bulk {r : Rl} (h : dRule r.d = true) : r.d.bulk ≤ 100 := by
  have L := rl_len h
  have h2 : ((decide (1 ≤ r.lab.length) && (decide (r.lab.length ≤ 8) && (TL.tl r.lab).all loB)) && (dPat (.tuple [.str r.b, .str r.e]) && dSrcs (.tuple (r.ss.map Src.d)))) = true := h
  rw [Bool.and_eq_true, Bool.and_eq_true, Bool.and_eq_true, decide_eq_true_eq, decide_eq_true_eq] at h2
  have l8 := h2.1.2.1
  have b := L.lb
  have e := L.le
  have s : PyData.bulkAll (r.ss.map Src.d) ≤ (r.ss.map Src.d).length * (8 + 1) := bulkAll_le fun d m => by
    obtain ⟨s, ms, rfl⟩ := List.mem_map.mp m
    have q := L.each s ms
    cases s with
    | pat b e =>
      have q2 : b.length ≤ 3 ∧ e.length ≤ 3 := q
      show b.length + 1 + (e.length + 1 + 0) ≤ 8
      omega
    | nm x =>
      have q2 : x.length ≤ 6 := q
      show x.length ≤ 8
      omega
  rw [List.length_map] at s
  have n := L.ls
  show r.lab.length + 1 + ((r.b.length + 1 + (r.e.length + 1 + 0)) + 1 + (PyData.bulkAll (r.ss.map Src.d) + 1 + 0)) ≤ 100
  omega
theorem book_bulk {rs : List Rl} (h : dBook (.tuple (rs.map Rl.d)) = true) : (PyData.tuple (rs.map Rl.d)).bulk ≤ 1000000 := by
  have h2 : (decide ((rs.map Rl.d).length ≤ 6) && (rs.map Rl.d).all dRule) = true := h
  rw [Bool.and_eq_true, decide_eq_true_eq, List.all_eq_true] at h2
  have s : PyData.bulkAll (rs.map Rl.d) ≤ (rs.map Rl.d).length * (100 + 1) := bulkAll_le fun d m => by
    have q := h2.2 d m
    obtain ⟨r, _, rfl⟩ := List.mem_map.mp m
    exact rl_bulk q
  show PyData.bulkAll (rs.map Rl.d) ≤ 1000000
  have n := h2.1
  omega
def spNeedB (K : PySem.W.Frag) : Sp := fun vs H Q _ => ∃ (q : Addr) (xs : List V) (rs : List Rl), vs = [.ref q] ∧ SqT K H q xs ∧ ThAll K H xs (rs.map Rl.d) ∧ dBook (.tuple (rs.map Rl.d)) = true ∧ ∀ H', Same H H' → Q .non H'
theorem sc_p_need_book : FnScope ["thing"] ["thing"] (defScope s_p_need_book) := ⟨rfl, rfl, rfl, by decide +kernel, rfl, by decide +kernel, by decide +kernel⟩
theorem cal_p_need_book (D : Def1 K mg "need_book" s_p_need_book) (C1 : Cal P w K mg base 6 "is_book" (spOneS K dBook)) : Cal P w K mg base 7 "need_book" (spNeedB K) := by
  refine mkCal D sc_p_need_book (fun _ _ _ _ _ _ us hl => match us, hl with | [_], _ => rfl) (fun vs H Q E h => ?_) (fun f cdv A outer s H vs Q E hr h => ?_)
  · obtain ⟨q, xs, rs, rfl, _⟩ := h
    rfl
  · obtain ⟨q, xs, rs, rfl, hq, ha, hB, k⟩ := h
    refine ⟨_, pss_one (ps_if (pt_not (pt_val (pe_cal C1 hr (by decide) (pa_cons (pv 0) pa_nil)))) (pss_one ps_never) pss_nil), ?_⟩
    exact ⟨_, rfl, .ref q, _, rfl, .tup hq ha, book_bulk hB, fun H' s => ⟨_, rfl, iteF' (by rw [hB]; rfl) (k H' s)⟩⟩
end
end Lk

/-! K22k -/
set_option Elab.async false
set_option linter.all false
set_option maxRecDepth 100000
set_option maxHeartbeats 4000000
namespace Lk
open PySem PySem.Spec PyProof.Rows L2
section
variable {P : Program} {w : World} {K : PySem.W.Frag} {mg : Str → Option Value} {base : Heap}
/-- the sources of a rule for a name, none if it doesn't fit -/
noncomputable def Rl.of (r : Rl) (z : Str) : List Str := (r.to z).getD []
theorem of_none {r : Rl} {z : Str} (h : stemO r.b r.e z = none) : r.of z = [] := by
  unfold Rl.of Rl.to
  rw [h]
  rfl
theorem of_some {r : Rl} {z m : Str} (h : stemO r.b r.e z = some m) : r.of z = r.ss.map (Src.put m) := by
  unfold Rl.of Rl.to
  rw [h]
  rfl
theorem of_few {r : Rl} (R : RlLen r) (z : Str) : (r.of z).length ≤ 3 := by
  cases h : stemO r.b r.e z with
  | none =>
    rw [of_none h]
    exact Nat.zero_le _
  | some m =>
    rw [of_some h, List.length_map]
    exact R.ls
theorem put_len {s : Src} (L : SrcLen s) {m : Str} : (s.put m).length ≤ m.length + 6 := by
  cases s with
  | pat b e =>
    have q : b.length ≤ 3 ∧ e.length ≤ 3 := L
    show (b ++ m ++ e).length ≤ _
    rw [len_add, len_add]
    omega
  | nm x =>
    have q : x.length ≤ 6 := L
    show x.length ≤ _
    omega
theorem of_len {r : Rl} (R : RlLen r) {z y : Str} (h : y ∈ r.of z) : y.length ≤ z.length + 6 := by
  cases e : stemO r.b r.e z with
  | none =>
    rw [of_none e] at h
    cases h
  | some m =>
    rw [of_some e] at h
    obtain ⟨s, hs, rfl⟩ := List.mem_map.mp h
    have a := put_len (R.each s hs) (m := m)
    have b := stemO_len e
    omega
theorem flatS_len {r : Rl} (R : RlLen r) : ∀ zs : List Str, (zs.flatMap r.of).length ≤ 3 * zs.length
  | [] => Nat.zero_le _
  | z :: zs => by
    have a := flatS_len R zs
    have b := of_few R z
    rw [List.flatMap_cons, List.length_append, List.length_cons]
    omega
end
theorem gN_eq {i : Nat} {x y : V} {σ : L2.St} {H : Hp} {q : L2.St → Hp → Prop} (e : x = y) (h : gName i y σ H q) : gName i x σ H q := e ▸ h
theorem units1 {n : Nat} (h : n + 64 < cLine) : n + 1 < cLine := by omega
/-! the keys of a dict whose values are all True -/
def insK (ks : List Str) (y : Str) : List Str := if y ∈ ks then ks else ks ++ [y]
def dk (ks : List Str) : List (Key × V) := ks.map fun y => ((Sum.inr y : Key), V.bl true)
theorem dk_put {ks : List Str} {y : Str} : putK (dk ks) (Sum.inr y) (V.bl true) = dk (insK ks y) := by
  unfold putK insK
  by_cases h : y ∈ ks
  · have e : ((dk ks).any fun kv => decide (kv.1 = (Sum.inr y : Key))) = true := by
      rw [List.any_eq_true]
      exact ⟨(Sum.inr y, V.bl true), List.mem_map.mpr ⟨y, h, rfl⟩, decide_eq_true rfl⟩
    rw [if_pos e, if_pos h]
    unfold dk
    rw [List.map_map]
    refine List.map_congr_left fun x _ => ?_
    show (if (Sum.inr x : Key) = Sum.inr y then ((Sum.inr x : Key), V.bl true) else (Sum.inr x, V.bl true)) = _
    split <;> rfl
  · have e : ¬ ((dk ks).any fun kv => decide (kv.1 = (Sum.inr y : Key))) = true := by
      rw [List.any_eq_true]
      rintro ⟨p, hp, e⟩
      obtain ⟨x, hx, rfl⟩ := List.mem_map.mp hp
      have z : (Sum.inr x : Key) = Sum.inr y := of_decide_eq_true e
      injection z with z
      exact h (z ▸ hx)
    rw [if_neg e, if_neg h]
    unfold dk
    rw [List.map_append]
    rfl
theorem dk_merge : ∀ {ls ks : List Str}, mergeK (dk ks) (dk ls) = dk (ls.foldl insK ks)
  | [], _ => rfl
  | y :: ls, ks => by
    have z : mergeK (dk ks) (dk (y :: ls)) = mergeK (putK (dk ks) (Sum.inr y) (V.bl true)) (dk ls) := rfl
    rw [z, dk_put, dk_merge]
    rfl
theorem dk_len (ks : List Str) : (dk ks).length = ks.length := List.length_map ..
theorem ins_len (ks : List Str) (y : Str) : ks.length ≤ (insK ks y).length ∧ (insK ks y).length ≤ ks.length + 1 := by
  unfold insK
  split
  · omega
  · rw [List.length_append, List.length_singleton]
    omega
theorem insl_len : ∀ (ls ks : List Str), ks.length ≤ (ls.foldl insK ks).length
  | [], _ => Nat.le_refl _
  | y :: ls, ks => Nat.le_trans (ins_len ks y).1 (insl_len ls (insK ks y))
theorem insl_part (ls ks : List Str) (j : Nat) : ((ls.take j).foldl insK ks).length ≤ (ls.foldl insK ks).length := by
  conv => rhs; rw [← List.take_append_drop j ls, List.foldl_append]
  exact insl_len _ _
theorem mem_ins1 {ks : List Str} {y x : Str} : x ∈ insK ks y ↔ x ∈ ks ∨ x = y := by
  unfold insK
  split
  · rename_i h
    exact ⟨.inl, fun z => z.elim id fun e => e ▸ h⟩
  · rw [List.mem_append, List.mem_singleton]
theorem mem_insl {x : Str} : ∀ {ls ks : List Str}, x ∈ ls.foldl insK ks ↔ x ∈ ks ∨ x ∈ ls
  | [], ks => by simp
  | y :: ls, ks => by
    rw [List.foldl_cons, mem_insl, mem_ins1, List.mem_cons, or_assoc]
theorem nd_ins1 {ks : List Str} (h : ks.Nodup) (y : Str) : (insK ks y).Nodup := by
  unfold insK
  split
  · exact h
  · rename_i n
    rw [List.nodup_append]
    exact ⟨h, List.nodup_cons.mpr ⟨(fun z => nomatch z), List.nodup_nil⟩, fun a ha b hb e => n (by rw [List.mem_singleton.mp hb] at e; exact e ▸ ha)⟩
theorem nd_insl : ∀ {ls ks : List Str}, ks.Nodup → (ls.foldl insK ks).Nodup
  | [], _, h => h
  | y :: ls, _, h => nd_insl (ls := ls) (nd_ins1 h y)
/-! ### what is gathered: just the names that chains come to -/
/-- a chain, its rules the last one first, and the name that it comes to -/
inductive Chain (rs : List Rl) (z0 : Str) : List Nat → Str → Prop
  | start : Chain rs z0 [] z0
  | step {ks : List Nat} {z y : Str} {k : Nat} {r : Rl} : Chain rs z0 ks z → rs[k]? = some r → k ∉ ks → y ∈ r.of z → Chain rs z0 (k :: ks) y
section
variable {rs : List Rl} {z0 : Str}
theorem chain_lt {ks : List Nat} {y : Str} (h : Chain rs z0 ks y) : (∀ k ∈ ks, k < rs.length) ∧ ks.Nodup := by
  induction h with
  | start => exact ⟨(fun _ m => nomatch m), List.nodup_nil⟩
  | step c hr n _ ih =>
    refine ⟨fun j m => ?_, List.nodup_cons.mpr ⟨n, ih.2⟩⟩
    rcases List.mem_cons.mp m with e | m
    · rw [e]
      exact (List.getElem?_eq_some_iff.mp hr).1
    · exact ih.1 j m
end
/-- the names that chains come to all stand in a short list -/
structure Short (rs : List Rl) (z : Str) (L0 : List Str) : Prop where
  in_ : ∀ ks y, Chain rs z ks y → y ∈ L0
  few : L0.length ≤ 4000
  short : ∀ y ∈ L0, y.length ≤ 1000
end Lk

/-! K22m -/
set_option Elab.async false
set_option linter.all false
set_option maxRecDepth 100000
set_option maxHeartbeats 4000000
namespace Lk
open PySem PySem.Spec PyProof.Rows L2
/-! ### the law's walk of the chains, as lists -/
def srt (l : List Nat) : List Nat := l.mergeSort fun a b => decide (a ≤ b)
theorem srt_perm (l : List Nat) : (srt l).Perm l := List.mergeSort_perm _ _
theorem srt_nil : srt [] = [] := List.eq_nil_of_length_eq_zero (srt_perm []).length_eq
theorem srt_le (l : List Nat) : (srt l).Pairwise (· ≤ ·) := by
  have z := List.pairwise_mergeSort (le := fun a b : Nat => decide (a ≤ b)) (fun a b c h1 h2 => by simp at h1 h2 ⊢; omega) (fun a b => by simp; omega) l
  exact z.imp fun h => of_decide_eq_true h
theorem srt_eq {l m : List Nat} (h : m.Perm l) (s : m.Pairwise (· ≤ ·)) : m = srt l :=
  List.Perm.eq_of_pairwise (le := (· ≤ ·)) (fun a b _ _ h1 h2 => Nat.le_antisymm h1 h2) s (srt_le l) (h.trans (srt_perm l).symm)
theorem srt_same {l m : List Nat} (h : l.Perm m) : srt l = srt m := srt_eq ((srt_perm l).trans h) (srt_le l)
theorem mem_srt {l : List Nat} {k : Nat} : k ∈ srt l ↔ k ∈ l := (srt_perm l).mem_iff
abbrev Place := Str × List Nat
def Succ (rs : List Rl) (p p' : Place) : Prop := ∃ k r, rs[k]? = some r ∧ k ∉ p.2 ∧ p'.1 ∈ r.of p.1 ∧ p'.2 = srt (p.2 ++ [k])
def Snds (rs : List Rl) (z0 : Str) (p : Place) : Prop := ∃ ks, Chain rs z0 ks p.1 ∧ p.2 = srt ks
theorem snds_succ {rs : List Rl} {z0 : Str} {p p' : Place} (h : Snds rs z0 p) (s : Succ rs p p') : Snds rs z0 p' := by
  obtain ⟨ks, c, e⟩ := h
  obtain ⟨k, r, hr, n, hy, e2⟩ := s
  refine ⟨k :: ks, .step c hr (fun m => n (by rw [e, mem_srt]; exact m)) hy, ?_⟩
  rw [e2, e]
  refine srt_same ?_
  have z1 : (srt ks ++ [k]).Perm (k :: srt ks) := List.perm_append_singleton k _
  exact z1.trans ((srt_perm ks).cons k)
/-- what stands at each step of the walk; p0: the place that is gone through, its rules below i are done -/
structure LK (rs : List Rl) (z0 : Str) (fs : List Str) (rest seen : List Place) (op : Place → Prop) : Prop where
  snd : ∀ p ∈ seen, Snds rs z0 p
  sub : ∀ p ∈ rest, p ∈ seen
  st : (z0, []) ∈ seen
  f1 : ∀ y ∈ fs, ∃ p ∈ seen, p.1 = y
  f2 : ∀ p ∈ seen, p.1 ∈ fs
  clo : ∀ p ∈ seen, p ∈ rest ∨ op p ∨ ∀ p', Succ rs p p' → p' ∈ seen
section
variable {rs : List Rl} {z0 : Str} {fs : List Str} {rest seen : List Place} {op : Place → Prop}
theorem LK.start : LK rs z0 [z0] [(z0, [])] [(z0, [])] (fun _ => False) := by
  refine ⟨fun p m => ?_, fun p m => m, List.mem_singleton.mpr rfl, fun y m => ⟨_, List.mem_singleton.mpr rfl, (List.mem_singleton.mp m).symm⟩, fun p m => ?_, fun p m => .inl m⟩
  · rw [List.mem_singleton.mp m]
    exact ⟨[], .start, srt_nil.symm⟩
  · rw [List.mem_singleton.mp m]
    exact List.mem_singleton.mpr rfl
/-- one more name, its place seen or new -/
theorem LK.more (h : LK rs z0 fs rest seen op) {p : Place} (s : Snds rs z0 p) : LK rs z0 (fs ++ [p.1]) (if p ∈ seen then rest else rest ++ [p]) (if p ∈ seen then seen else seen ++ [p]) op := by
  by_cases m : p ∈ seen
  · rw [if_pos m, if_pos m]
    refine ⟨h.snd, h.sub, h.st, fun y my => ?_, fun q mq => List.mem_append_left _ (h.f2 q mq), h.clo⟩
    rcases List.mem_append.mp my with my | my
    · exact h.f1 y my
    · exact ⟨p, m, (List.mem_singleton.mp my).symm⟩
  · rw [if_neg m, if_neg m]
    refine ⟨fun q mq => ?_, fun q mq => ?_, List.mem_append_left _ h.st, fun y my => ?_, fun q mq => ?_, fun q mq => ?_⟩
    · rcases List.mem_append.mp mq with mq | mq
      · exact h.snd q mq
      · rw [List.mem_singleton.mp mq]
        exact s
    · rcases List.mem_append.mp mq with mq | mq
      · exact List.mem_append_left _ (h.sub q mq)
      · exact List.mem_append_right _ mq
    · rcases List.mem_append.mp my with my | my
      · obtain ⟨q, a, b⟩ := h.f1 y my
        exact ⟨q, List.mem_append_left _ a, b⟩
      · exact ⟨p, List.mem_append_right _ (List.mem_singleton.mpr rfl), (List.mem_singleton.mp my).symm⟩
    · rcases List.mem_append.mp mq with mq | mq
      · exact List.mem_append_left _ (h.f2 q mq)
      · rw [List.mem_singleton.mp mq]
        exact List.mem_append_right _ (List.mem_singleton.mpr rfl)
    · rcases List.mem_append.mp mq with mq | mq
      · rcases h.clo q mq with z | z | z
        · exact .inl (List.mem_append_left _ z)
        · exact .inr (.inl z)
        · exact .inr (.inr fun p' s' => List.mem_append_left _ (z p' s'))
      · exact .inl (List.mem_append_right _ mq)
/-- a place is taken from the rest -/
theorem LK.pop {p0 : Place} (h : LK rs z0 fs (rest ++ [p0]) seen (fun _ => False)) : LK rs z0 fs rest seen (fun p => p = p0) := by
  refine ⟨h.snd, fun q m => h.sub q (List.mem_append_left _ m), h.st, h.f1, h.f2, fun q m => ?_⟩
  rcases h.clo q m with z | z | z
  · rcases List.mem_append.mp z with z | z
    · exact .inl z
    · exact .inr (.inl (List.mem_singleton.mp z))
  · exact z.elim
  · exact .inr (.inr z)
/-- and is done -/
theorem LK.done {p0 : Place} (h : LK rs z0 fs rest seen (fun p => p = p0)) (all : ∀ p', Succ rs p0 p' → p' ∈ seen) : LK rs z0 fs rest seen (fun _ => False) := by
  refine ⟨h.snd, h.sub, h.st, h.f1, h.f2, fun q m => ?_⟩
  rcases h.clo q m with z | z | z
  · exact .inl z
  · exact .inr (.inr (z ▸ all))
  · exact .inr (.inr z)
theorem LK.end_ (h : LK rs z0 fs [] seen (fun _ => False)) (y : Str) : y ∈ fs ↔ ∃ ks, Chain rs z0 ks y := by
  constructor
  · intro m
    obtain ⟨p, mp, rfl⟩ := h.f1 y m
    obtain ⟨ks, c, _⟩ := h.snd p mp
    exact ⟨ks, c⟩
  · rintro ⟨ks, c⟩
    have all : (y, srt ks) ∈ seen := by
      induction c with
      | start =>
        rw [srt_nil]
        exact h.st
      | @step ks z y k r c hr n hy ih =>
        rcases h.clo _ ih with z | z | z
        · cases z
        · exact z.elim
        · have q := z (y, srt (srt ks ++ [k])) ⟨k, r, hr, (fun m => n (mem_srt.mp m)), hy, rfl⟩
          have e : srt (srt ks ++ [k]) = srt (k :: ks) := srt_same ((List.perm_append_singleton k _).trans ((srt_perm ks).cons k))
          rw [e] at q
          exact q
    exact h.f2 _ all
end
/-! how many chains go on from a place, with so many rules left -/
def wgt (m : Nat) : Nat → Nat
  | 0 => 1
  | j + 1 => 1 + (j + 1) * m * wgt m j
def left (n : Nat) (ns : List Nat) : Nat := n - ns.length
def load (m n : Nat) (rest : List Place) : Nat := (rest.map fun p => wgt m (left n p.2)).sum
theorem load_app (m n : Nat) (a b : List Place) : load m n (a ++ b) = load m n a + load m n b := by
  unfold load
  rw [List.map_append, List.sum_append]
theorem wgt_pos (m j : Nat) : 1 ≤ wgt m j := by
  cases j with
  | zero => exact Nat.le_refl _
  | succ j =>
    show 1 ≤ 1 + _
    omega
end Lk

/-! K22l -/
set_option Elab.async false
set_option linter.all false
set_option maxRecDepth 100000
set_option maxHeartbeats 4000000
namespace Lk
open PySem PySem.Spec PyProof.Rows L2
section
variable {P : Program} {w : World} {K : PySem.W.Frag} {mg : Str → Option Value} {base : Heap}
def spLStem (K : PySem.W.Frag) : Sp := fun vs H Q _ => ∃ (q : Addr) (b e z : Str), vs = [.ref q, .str z] ∧ SqT K H q [.str b, .str e] ∧ b.length ≤ 1000000 ∧ e.length ≤ 1000000 ∧ z.length ≤ 1000000 ∧
  (∀ m : Str, TL.tl z = TL.tl b ++ TL.tl m ++ TL.tl e → Q (.str m) H) ∧ ((¬ ∃ m : Str, TL.tl z = TL.tl b ++ TL.tl m ++ TL.tl e) → Q .non H)
theorem sc_stem : FnScope ["pattern", "name", "begin", "end", "middle"] ["pattern", "name"] (defScope s_stem) := ⟨rfl, rfl, rfl, by decide +kernel, rfl, by decide +kernel, by decide +kernel⟩
theorem cal_stem (D : Def1 K mg "_law_stem" s_stem) (G : Glb mg) : Cal P w K mg base 1 "_law_stem" (spLStem K) := by
  refine mkCal D sc_stem (fun _ _ _ _ _ _ us hl => match us, hl with | [_, _], _ => rfl) (fun vs H Q E h => ?_) (fun f cdv A outer s H vs Q E hr h => ?_)
  · obtain ⟨q, b, e, z, rfl, _⟩ := h
    rfl
  · obtain ⟨q, b, e, z, rfl, hq, lb, le, lz, yes, no⟩ := h
    refine ⟨_, pss_cons (ps_asg (pv 0) (pg_tup rfl (pgs_cons (pg_name (i := 2) sc_stem.nd rfl (.inl rfl)) (pgs_cons (pg_name (i := 3) sc_stem.nd rfl (.inl rfl)) pgs_nil))))
      (pss_cons (ps_if (pt_cmpR op_lt (pe_callB call_len_str (by rfl) G.len PySem.boot_len (pa_cons (pv 1) pa_nil)) (pe_op op_add (pe_callB call_len_str (by rfl) G.len PySem.boot_len (pa_cons (pv 2) pa_nil)) (pe_callB call_len_str (by rfl) G.len PySem.boot_len (pa_cons (pv 3) pa_nil))) (nomark _)) (pss_one (ps_ret pe_non)) pss_nil)
      (pss_cons (ps_set (i := 4) sc_stem.nd rfl (.inl rfl) (pe_slice sl_str (pv 1) (po_some (pe_callB call_len_str (by rfl) G.len PySem.boot_len (pa_cons (pv 2) pa_nil))) (po_some (pe_op op_sub (pe_callB call_len_str (by rfl) G.len PySem.boot_len (pa_cons (pv 1) pa_nil)) (pe_callB call_len_str (by rfl) G.len PySem.boot_len (pa_cons (pv 3) pa_nil))))))
      (pss_one (ps_ret (pe_ifExp (pt_cmpR op_eq (pe_op op_add_str (pe_op op_add_str (pv 2) (pv 4)) (pv 3)) (pv 1) (nomark _)) (pv 4) pe_non))))), ?_⟩
    have big : ∀ n : Nat, n ≤ 4000000 → n ≤ sizeLine := fun n h => Nat.le_trans h (by decide)
    refine ⟨_, rfl, q, _, rfl, hq, rfl, _, _, rfl, _, _, rfl, rfl, ?_⟩
    refine ⟨_, rfl, z, rfl, big _ (by omega), _, rfl, b, rfl, big _ (by omega), _, rfl, e, rfl, big _ (by omega), _, _, rfl, rfl, _, _, rfl, rfl, _, rfl, ?_⟩
    refine ite2 (fun hlt => ?_) (fun hge => ?_)
    · refine no ?_
      rintro ⟨m, hm⟩
      have l := congrArg List.length hm
      rw [List.length_append, List.length_append, ← TL.len_tl, ← TL.len_tl, ← TL.len_tl, ← TL.len_tl] at l
      have h2 := of_decide_eq_true hlt
      omega
    have hge2 : ¬ ((z.length : Int) < (b.length : Int) + (e.length : Int)) := fun y => hge (decide_eq_true y)
    refine ⟨_, rfl, _, rfl, b, rfl, big _ (by omega), _, rfl, _, rfl, z, rfl, big _ (by omega), _, rfl, e, rfl, big _ (by omega), _, _, rfl, rfl, _, rfl, z, rfl, big _ (by omega), ?_⟩
    have lc := cutS_length z (some (b.length : Int)) (some ((z.length : Int) - (e.length : Int)))
    generalize hM : cutS z (some (b.length : Int)) (some ((z.length : Int) - (e.length : Int))) = M at lc ⊢
    refine ⟨_, rfl, _, rfl, b, M, rfl, rfl, big _ (by omega), _, rfl, b ++ M, e, rfl, rfl, big _ (by rw [len_add]; omega), _, rfl, rfl, _, rfl, ?_⟩
    refine ite2 (fun eq => ?_) (fun ne => ?_)
    · have h2 := V.str.inj (of_decide_eq_true eq)
      exact ⟨_, rfl, yes M (by rw [← h2, TL.tl_append, TL.tl_append])⟩
    · refine no ?_
      rintro ⟨m, hm⟩
      have c := cut_mid hm
      rw [← TL.len_tl, ← TL.len_tl, hM] at c
      have em : M = m := TL.ext_tl c
      exact ne (decide_eq_true (congrArg V.str (TL.ext_tl (by rw [TL.tl_append, TL.tl_append, em, hm]))))
theorem sc_put : FnScope ["source", "middle"] ["source", "middle"] (defScope s_put) := ⟨rfl, rfl, rfl, by decide +kernel, rfl, by decide +kernel, by decide +kernel⟩
theorem cal_put (D : Def1 K mg "_law_put" s_put) (T : Glc mg) : Cal P w K mg base 1 "_law_put" (spFill K) := by
  refine mkCal D sc_put (fun _ _ _ _ _ _ us hl => match us, hl with | [_, _], _ => rfl) (fun vs H Q E h => ?_) (fun f cdv A outer s H vs Q E hr h => ?_)
  · obtain ⟨v, m, rfl, _⟩ := h
    rfl
  · obtain ⟨v, m, rfl, lm, how⟩ := h
    refine ⟨_, pss_one (ps_ret (pe_ifExp (pt_val (pe_isi (T := "str") (pv 0) T.isinst T.str (by decide +kernel))) (pv 0) (pe_op op_add_str (pe_op op_add_str (pe_ix ix_tup (pv 0) pe_int (fun _ _ => rfl)) (pv 1)) (pe_ix ix_tup (pv 0) pe_int (fun _ _ => rfl))))), ?_⟩
    have big : ∀ n : Nat, n ≤ 4000000 → n ≤ sizeLine := fun n h => Nat.le_trans h (by decide)
    rcases how with ⟨x, rfl, k⟩ | ⟨q, b, e, rfl, hq, lb, le, k⟩
    · exact ⟨_, rfl, .str x, _, _, _, _, rfl, .ty _, th_ty (.str x : Th K H (.str x) (.str x)), kit_str (.str x), _, rfl, iteT ⟨_, rfl, k⟩⟩
    · have th : Th K H (.ref q) (.tuple [.str b, .str e]) := .tup hq (.cons (.str b) (.cons (.str e) .nil))
      refine ⟨_, rfl, .ref q, _, _, _, _, rfl, .ty _, th_ty th, kit_str (.tuple [.str b, .str e]), _, rfl, iteF ?_⟩
      exact ⟨_, rfl, q, _, 0, .str b, rfl, rfl, hq, atI_nat (j := 0) rfl, _, rfl, b, m, rfl, rfl, big _ (by omega), _, rfl, q, _, 1, .str e, rfl, rfl, hq, atI_nat (j := 1) rfl, b ++ m, e, rfl, rfl, big _ (by rw [len_add]; omega), k⟩
end
end Lk

/-! K22v -/
set_option Elab.async false
set_option linter.all false
set_option maxRecDepth 100000
set_option maxHeartbeats 4000000
namespace Lk
open PySem PySem.Spec PyProof.Rows L2
theorem units65 {k : Nat} {A : Around} (h : Room k A) : A.units + 65 < cLine := by
  have := h.un
  omega
def PAt (H : Hp) (a : Addr) (p : Place) : Prop := ∃ t, H a = some (.tup [.str p.1, .ref t]) ∧ H t = some (.tup (p.2.map fun n : Nat => V.int (n : Int)))
theorem PAt.on {H H' : Hp} {a : Addr} {p : Place} (h : PAt H a p) (s : Same H H') : PAt H' a p := by
  obtain ⟨t, h1, h2⟩ := h
  exact ⟨t, s _ _ h1, s _ _ h2⟩
theorem PAt.mut {H : Hp} {a D : Addr} {p : Place} {ys : List V} {o : HO} (h : PAt H a p) (hD : H D = some (.lst ys)) : PAt (upd H D o) a p := by
  obtain ⟨t, h1, h2⟩ := h
  have n1 : a ≠ D := fun e => by
    rw [e, hD] at h1
    cases h1
  have n2 : t ≠ D := fun e => by
    rw [e, hD] at h2
    cases h2
  exact ⟨t, (upd_ne n1).trans h1, (upd_ne n2).trans h2⟩
/-! a place as data -/
def pD (p : Place) : PyData := .tuple [.str p.1, .tuple (p.2.map fun n : Nat => PyData.int (n : Int))]
theorem eqv_ints : ∀ xs ys : List Nat, PyData.eqvAll (xs.map fun n : Nat => PyData.int (n : Int)) (ys.map fun n : Nat => PyData.int (n : Int)) = decide (xs = ys)
  | [], [] => rfl
  | [], _ :: _ => rfl
  | _ :: _, [] => rfl
  | x :: xs, y :: ys => by
    rw [List.map_cons, List.map_cons, PyData.eqvAll, eqv_ints xs ys]
    have e : PyData.eqv (PyData.int (x : Int)) (PyData.int (y : Int)) = decide (x = y) := by
      rw [PyData.eqv, Bool.eq_iff_iff, beq_iff_eq, decide_eq_true_iff]
      omega
    rw [e, Bool.eq_iff_iff, Bool.and_eq_true, decide_eq_true_iff, decide_eq_true_iff, decide_eq_true_iff, List.cons.injEq]
theorem eqv_pD (p q : Place) : PyData.eqv (pD p) (pD q) = decide (p = q) := by
  obtain ⟨x, xs⟩ := p
  obtain ⟨y, ys⟩ := q
  unfold pD
  rw [PyData.eqv, PyData.eqvAll, PyData.eqvAll, PyData.eqvAll, PyData.eqv, PyData.eqv, eqv_ints, Bool.and_true, Bool.eq_iff_iff, Bool.and_eq_true, decide_eq_true_iff, decide_eq_true_iff, beq_iff_eq, Prod.mk.injEq]
theorem any_pD (p : Place) (L : List (Addr × Place)) : ((L.map fun c => pD c.2).any fun z => PyData.eqv z (pD p)) = decide (p ∈ L.map (·.2)) := by
  rw [Bool.eq_iff_iff, decide_eq_true_iff, List.any_eq_true]
  constructor
  · rintro ⟨d, m, e⟩
    obtain ⟨c, mc, rfl⟩ := List.mem_map.mp m
    rw [eqv_pD, decide_eq_true_iff] at e
    exact List.mem_map.mpr ⟨c, mc, e⟩
  · intro m
    obtain ⟨c, mc, e⟩ := List.mem_map.mp m
    exact ⟨pD c.2, List.mem_map.mpr ⟨c, mc, rfl⟩, by rw [eqv_pD, decide_eq_true_iff]; exact e⟩
theorem lay_ints : ∀ ns : List Nat, PyData.canLayAll0 (ns.map fun n : Nat => PyData.int (n : Int)) = true ∧ PyData.depthAll (ns.map fun n : Nat => PyData.int (n : Int)) = 0
  | [] => ⟨rfl, rfl⟩
  | n :: ns => by
    obtain ⟨a, b⟩ := lay_ints ns
    refine ⟨?_, ?_⟩
    · rw [List.map_cons, PyData.canLayAll0, a, Bool.and_true]
      rfl
    · rw [List.map_cons, PyData.depthAll, b]
      rfl
theorem lay_pD {p : Place} (h : PyData.strOk p.1 = true) : (pD p).canLay0 = true ∧ (pD p).depth = 2 := by
  obtain ⟨a, b⟩ := lay_ints p.2
  refine ⟨?_, ?_⟩
  · have e : (PyData.str p.1).canLay0 = true := h
    unfold pD
    rw [PyData.canLay0, PyData.canLayAll0, PyData.canLayAll0, PyData.canLayAll0, e, PyData.canLay0, a]
    rfl
  · unfold pD
    rw [PyData.depth, PyData.depthAll, PyData.depthAll, PyData.depthAll, PyData.depth, PyData.depth, b]
    rfl
theorem lay_pDs : ∀ {L : List (Addr × Place)}, (∀ c ∈ L, PyData.strOk c.2.1 = true) → PyData.canLayAll0 (L.map fun c => pD c.2) = true ∧ PyData.depthAll (L.map fun c => pD c.2) ≤ 2
  | [], _ => ⟨rfl, Nat.zero_le _⟩
  | c :: L, h => by
    obtain ⟨a, b⟩ := lay_pDs fun d m => h d (List.mem_cons_of_mem _ m)
    obtain ⟨a1, b1⟩ := lay_pD (h c List.mem_cons_self)
    refine ⟨?_, ?_⟩
    · rw [List.map_cons, PyData.canLayAll0, a, a1]
      rfl
    · rw [List.map_cons, PyData.depthAll, b1]
      omega
theorem shaped_pD {p : Place} (h : PyData.strOk p.1 = true) : SeqAt.shaped (pD p) = true := by
  obtain ⟨a, b⟩ := lay_pD h
  unfold SeqAt.shaped
  rw [a, b]
  rfl
theorem shaped_pDs {L : List (Addr × Place)} (h : ∀ c ∈ L, PyData.strOk c.2.1 = true) : SeqAt.shaped (.list (L.map fun c => pD c.2)) = true := by
  obtain ⟨a, b⟩ := lay_pDs h
  unfold SeqAt.shaped
  rw [PyData.canLay0, a, Bool.true_and, decide_eq_true_eq, PyData.depth]
  omega
theorem dp_nats {K : PySem.W.Frag} {H : Hp} : ∀ ns : List Nat, DpAll K H (ns.map fun n : Nat => V.int (n : Int)) (ns.map fun n : Nat => PyData.int (n : Int))
  | [] => .nil
  | n :: ns => .cons (.int _) (dp_nats ns)
theorem PAt.dp {K : PySem.W.Frag} {H : Hp} {a : Addr} {p : Place} (h : PAt H a p) : Dp K H (.ref a) (pD p) := by
  obtain ⟨t, h1, h2⟩ := h
  exact .tup (SqT.of h1) (.cons (.str _) (.cons (.tup (SqT.of h2) (dp_nats _)) .nil))
theorem dp_places {K : PySem.W.Frag} {H : Hp} : ∀ {L : List (Addr × Place)}, (∀ c ∈ L, PAt H c.1 c.2) → DpAll K H (L.map fun c => V.ref c.1) (L.map fun c => pD c.2)
  | [], _ => .nil
  | c :: L, h => .cons (h c List.mem_cons_self).dp (dp_places fun d m => h d (List.mem_cons_of_mem _ m))
/-- the three lists of the walk, on the heap -/
structure KA (H0 H : Hp) (F R S : Addr) (fs : List Str) (Lr Ls : List (Addr × Place)) : Prop where
  same : Same H0 H
  f : H F = some (.lst (fs.map V.str))
  r : H R = some (.lst (Lr.map fun c => V.ref c.1))
  s : H S = some (.lst (Ls.map fun c => V.ref c.1))
  nF : H0 F = none
  nR : H0 R = none
  nS : H0 S = none
  FR : F ≠ R
  FS : F ≠ S
  RS : R ≠ S
  pr : ∀ c ∈ Lr, PAt H c.1 c.2
  ps : ∀ c ∈ Ls, PAt H c.1 c.2
section
variable {H0 H H' : Hp} {F R S : Addr} {fs : List Str} {Lr Ls : List (Addr × Place)}
theorem KA.on (A : KA H0 H F R S fs Lr Ls) (s : Same H H') : KA H0 H' F R S fs Lr Ls :=
  ⟨A.same.trans s, s _ _ A.f, s _ _ A.r, s _ _ A.s, A.nF, A.nR, A.nS, A.FR, A.FS, A.RS, fun c m => (A.pr c m).on s, fun c m => (A.ps c m).on s⟩
theorem KA.putF (A : KA H0 H F R S fs Lr Ls) (fs' : List Str) : KA H0 (upd H F (.lst (fs'.map V.str))) F R S fs' Lr Ls :=
  ⟨same_mut A.same A.nF, upd_same, (upd_ne A.FR.symm).trans A.r, (upd_ne A.FS.symm).trans A.s, A.nF, A.nR, A.nS, A.FR, A.FS, A.RS, fun c m => (A.pr c m).mut A.f, fun c m => (A.ps c m).mut A.f⟩
theorem KA.putS (A : KA H0 H F R S fs Lr Ls) (L : List (Addr × Place)) (h : ∀ c ∈ L, PAt H c.1 c.2) : KA H0 (upd H S (.lst (L.map fun c => V.ref c.1))) F R S fs Lr L :=
  ⟨same_mut A.same A.nS, (upd_ne A.FS).trans A.f, (upd_ne A.RS).trans A.r, upd_same, A.nF, A.nR, A.nS, A.FR, A.FS, A.RS, fun c m => (A.pr c m).mut A.s, fun c m => (h c m).mut A.s⟩
theorem KA.putR (A : KA H0 H F R S fs Lr Ls) (L : List (Addr × Place)) (h : ∀ c ∈ L, PAt H c.1 c.2) : KA H0 (upd H R (.lst (L.map fun c => V.ref c.1))) F R S fs L Ls :=
  ⟨same_mut A.same A.nR, (upd_ne A.FR).trans A.f, upd_same, (upd_ne A.RS.symm).trans A.s, A.nF, A.nR, A.nS, A.FR, A.FS, A.RS, fun c m => (h c m).mut A.r, fun c m => (A.ps c m).mut A.r⟩
end
end Lk

/-! K22o -/
set_option Elab.async false
set_option linter.all false
set_option maxRecDepth 100000
set_option maxHeartbeats 4000000
namespace Lk
open PySem PySem.Spec PyProof.Rows L2
theorem nodup_len {α : Type} : ∀ {l m : List α}, l.Nodup → (∀ x ∈ l, x ∈ m) → l.length ≤ m.length
  | [], _, _, _ => Nat.zero_le _
  | x :: l, m, nd, sub => by
    obtain ⟨n1, n2⟩ := List.nodup_cons.mp nd
    obtain ⟨a, b, e⟩ := List.append_of_mem (sub x List.mem_cons_self)
    have z : l.length ≤ (a ++ b).length := nodup_len n2 fun y my => by
      have q := sub y (List.mem_cons_of_mem _ my)
      rw [e] at q
      rcases List.mem_append.mp q with q | q
      · exact List.mem_append.mpr (.inl q)
      · rcases List.mem_cons.mp q with q | q
        · rw [q] at my
          exact absurd my n1
        · exact List.mem_append.mpr (.inr q)
    rw [e]
    simp only [List.length_append, List.length_cons] at z ⊢
    omega
section
variable {P : Program} {w : World} {K : PySem.W.Frag} {mg : Str → Option Value} {base : Heap}
/-- the law's own ascending tuple of the different ones -/
def spLOrd (K : PySem.W.Frag) : Sp := fun vs H Q _ => ∃ (l : Addr) (ss : List Str), vs = [.ref l] ∧ SqL K H l (ss.map V.str) ∧ ss.length ≤ 4000 ∧ (∀ y ∈ ss, y.length ≤ sizeLine) ∧
  ∀ (cs : List Str) (p : Addr) (H' : Hp), Same H H' → H' p = some (.tup (cs.map V.str)) → IsAsc cs ss → Q (.ref p) H'
theorem sc_ordered : FnScope ["row", "name", "size"] ["row"] (defScope s_ordered) := ⟨rfl, rfl, rfl, by decide +kernel, rfl, by decide +kernel, by decide +kernel⟩
theorem cal_ordered (D : Def1 K mg "_law_ordered" s_ordered) (tt : mg "tuple" = none) (ts : mg "sorted" = none) (te : mg "set" = none) (tl : mg "len" = none) : Cal P w K mg base 1 "_law_ordered" (spLOrd K) := by
  refine mkCal D sc_ordered (fun _ _ _ _ _ _ us hl => match us, hl with | [_], _ => rfl) (fun vs H Q E h => ?_) (fun f cdv A outer s H vs Q E hr h => ?_)
  · obtain ⟨l, ss, rfl, _⟩ := h
    rfl
  · obtain ⟨l, ss, rfl, hl, few, small, k⟩ := h
    refine ⟨_, pss_one (ps_ret (pe_callTy call_tuple_of (by rfl) tt (by decide +kernel) (pa_cons
      (pe_lc (own := [("size", 2), ("name", 1)]) (g := gTup K 2 (gCons (gName 2) (gCons (gName 1) gNil))) (tt := tYes) (by rfl) sc_ordered.nd
        (pi_list (pe_callB (call_sortedPr rfl hr.units) (by rfl) ts (by decide +kernel) (pa_cons (pe_callTy (call_setPr rfl hr.units) (by rfl) te (by decide +kernel) (pa_cons
          (pe_lc (own := [("name", 1)]) (g := gName 1) (tt := tYes) (by rfl) sc_ordered.nd (pi_list (pv 0))
            (blkOk_by (own := [("name", 1)]) (N := ["row", "name", "size"]) (sc := defScope s_ordered) (by decide +kernel)) (fun _ _ _ _ _ => pg_name (i := 1) sc_ordered.nd rfl (Or.inl rfl)) (fun _ _ _ _ _ => pts_nil)
            (fun _ _ _ _ _ => pe_tup (pa_cons (pe_callB call_len_str (by rfl) tl PySem.boot_len (pa_cons (pv 1) pa_nil)) (pa_cons (pv 1) pa_nil)))) pa_nil)) pa_nil)))
        (blkOk_by (own := [("size", 2), ("name", 1)]) (N := ["row", "name", "size"]) (sc := defScope s_ordered) (by decide +kernel))
        (fun _ _ _ _ _ => pg_tup rfl (pgs_cons (pg_name (i := 2) sc_ordered.nd rfl (Or.inl rfl)) (pgs_cons (pg_name (i := 1) sc_ordered.nd rfl (Or.inl rfl)) pgs_nil))) (fun _ _ _ _ _ => pts_nil)
        (fun _ _ _ _ _ => pv 1)) pa_nil))), ?_⟩
    refine ⟨.ref l, rfl, l, rfl, ⟨_, hl⟩, fun D nD => ?_⟩
    have step : ∀ i, i < ss.length → ss.take (i + 1) = ss.take i ++ [ss[i]!] := fun i hi => by
      rw [List.take_add_one, List.getElem?_eq_getElem hi, List.getElem!_eq_getElem?_getD, List.getElem?_eq_getElem hi]
      rfl
    refine lc_list (K := K) (a := l) (xs := ss.map V.str) (fun i H' => Same H H' ∧ ∃ L : List (Addr × Str), H' D = some (.lst (L.map fun p => V.ref p.1)) ∧ L.map (·.2) = ss.take i ∧ ∀ p ∈ L, H' p.1 = some (.tup (vP p.2)))
      ⟨same_upd nD, [], upd_same, rfl, fun p m => nomatch m⟩ (fun i H' _ h => h.1.seq hl) ?_ ?_
    · rintro i x H' hx ⟨sH, L, hD, eL, ht⟩
      have hi : i < ss.length := by
        have z := (List.getElem?_eq_some_iff.mp hx).1
        rwa [List.length_map] at z
      rw [List.getElem?_map, List.getElem?_eq_getElem hi] at hx
      obtain rfl : V.str ss[i] = x := Option.some.inj hx
      have lenL : L.length ≤ i := by
        have z := congrArg List.length eL
        rw [List.length_map, List.length_take] at z
        omega
      refine ⟨rfl, _, rfl, ss[i], rfl, small _ (List.getElem_mem hi), _, rfl, (by show 2 ≤ sizeLine; decide), fun b nb => ?_⟩
      have sb := same_upd (o := .tup (vP ss[i])) nb
      have nbD : b ≠ D := fun z => by
        rw [z, hD] at nb
        cases nb
      refine ⟨_, sb _ _ hD, by rw [List.length_map]; exact (by rw [sizeLine_eq]; omega), same_mut (sH.trans sb) nD, L ++ [(b, ss[i])], by rw [upd_same, List.map_append]; rfl, ?_, fun p hp => ?_⟩
      · rw [step i hi, List.map_append, eL, List.getElem!_eq_getElem?_getD, List.getElem?_eq_getElem hi]
        rfl
      · rcases List.mem_append.mp hp with m | m
        · have np : p.1 ≠ D := fun z => by
            have q := ht p m
            rw [z, hD] at q
            cases q
          rw [upd_ne np]
          exact sb _ _ (ht p m)
        · rw [List.mem_singleton.mp m]
          exact (upd_ne nbD).trans upd_same
    · rintro H1 ⟨sH, L, hD, eL, ht⟩
      rw [List.length_map, List.take_length] at eL
      have lenL : L.length = ss.length := by rw [← eL, List.length_map]
      refine ⟨D, L, rfl, SqL.of hD, fun p m => SqT.of (ht p m), by omega, fun p us np nd mem => ?_⟩
      refine ⟨p, L, us, rfl, upd_same, fun q m => Same.seqT (same_upd np) (SqT.of (ht q m)), fun p2 M np2 sub pm pw => ?_⟩
      have s2 : Same H1 (upd (upd H1 p (SetPr P w L p us)) p2 (.lst (M.map fun m => V.ref m.1))) := (same_upd np).trans (same_upd np2)
      have hp2 : upd (upd H1 p (SetPr P w L p us)) p2 (.lst (M.map fun m => V.ref m.1)) p2 = some (.lst (M.map fun m => V.ref m.1)) := upd_same
      refine ⟨p2, rfl, ⟨_, SqL.of hp2⟩, fun D2 nD2 => ?_⟩
      have asc : IsAsc (M.map (·.2)) ss := ⟨pm.nodup_iff.mpr nd, fun x => by rw [pm.mem_iff, mem x, eL], pw⟩
      have htM : ∀ m ∈ M, upd (upd H1 p (SetPr P w L p us)) p2 (.lst (M.map fun m => V.ref m.1)) m.1 = some (.tup (vP m.2)) := fun m hm => s2 _ _ (ht m (sub m hm))
      have lenM : M.length ≤ 4000 := by
        have z1 := pm.length_eq
        have z2 : us.length ≤ (L.map (·.2)).length := nodup_len nd fun x m => (mem x).mp m
        rw [List.length_map] at z1 z2
        omega
      let H2 : Hp := upd (upd H1 p (SetPr P w L p us)) p2 (.lst (M.map fun m => V.ref m.1))
      have nD2 : H2 D2 = none := nD2
      have htM : ∀ m ∈ M, H2 m.1 = some (.tup (vP m.2)) := htM
      have sH2 : Same H H2 := sH.trans s2
      refine lc_list (K := K) (a := p2) (xs := M.map fun m => V.ref m.1) (fun i H' => Same H2 H' ∧ H' D2 = some (.lst (((M.map (·.2)).take i).map V.str)))
        ⟨same_upd nD2, upd_same⟩ (fun i H' _ h => h.1.seq (SqL.of hp2)) ?_ ?_
      · rintro i x H' hx ⟨sH', hD2⟩
        obtain ⟨m, hm, rfl⟩ := Option.map_eq_some_iff.mp ((List.getElem?_map ..).symm.trans hx)
        have hi : i < M.length := (List.getElem?_eq_some_iff.mp hm).1
        have mm : m ∈ M := List.mem_of_getElem? hm
        refine ⟨m.1, vP m.2, rfl, SqT.of (sH' _ _ (htM m mm)), rfl, _, _, rfl, _, _, rfl, rfl, rfl, _, rfl, _, hD2, ?_, same_mut sH' nD2, ?_⟩
        · rw [List.length_map, List.length_take, List.length_map]
          exact (by rw [sizeLine_eq]; omega)
        · rw [upd_same, List.take_add_one, List.getElem?_map, hm, List.map_append]
          rfl
      · rintro H3 ⟨sH3, hD2⟩
        rw [List.length_map] at hD2
        have e : (M.map (·.2)).take M.length = M.map (·.2) := List.take_of_length_le (by rw [List.length_map]; exact Nat.le_refl _)
        rw [e] at hD2
        exact ⟨D2, _, rfl, .inl ⟨SqL.of hD2, fun t nt => k _ t _ ((sH2.trans sH3).trans (same_upd nt)) upd_same asc⟩⟩
end
end Lk

/-! K22w -/
set_option Elab.async false
set_option linter.all false
set_option maxRecDepth 100000
set_option maxHeartbeats 4000000
namespace Lk
open PySem PySem.Spec PyProof.Rows L2
/-- the rules below i that are not spent -/
def cnt (ns : List Nat) (i : Nat) : Nat := ((List.range i).filter fun k => decide (k ∉ ns)).length
theorem cnt_in {ns : List Nat} {i : Nat} (h : i ∈ ns) : cnt ns (i + 1) = cnt ns i := by
  unfold cnt
  rw [List.range_succ, List.filter_append, List.length_append]
  simp [h]
theorem cnt_out {ns : List Nat} {i : Nat} (h : i ∉ ns) : cnt ns (i + 1) = cnt ns i + 1 := by
  unfold cnt
  rw [List.range_succ, List.filter_append, List.length_append]
  simp [h]
theorem cnt_all {ns : List Nat} {n : Nat} (nd : ns.Nodup) (lt : ∀ k ∈ ns, k < n) : cnt ns n + ns.length ≤ n := by
  have z : ((List.range n).filter fun k => decide (k ∉ ns)) ++ ns |>.Nodup := by
    rw [List.nodup_append]
    refine ⟨List.Pairwise.filter _ List.nodup_range, nd, fun a ha b hb e => ?_⟩
    have q := (List.mem_filter.mp ha).2
    rw [decide_eq_true_eq] at q
    exact q (e ▸ hb)
  have y := nodup_len (m := List.range n) z fun x m => by
    rcases List.mem_append.mp m with m | m
    · exact (List.mem_filter.mp m).1
    · exact List.mem_range.mpr (lt x m)
  rw [List.length_append, List.length_range] at y
  exact y
/-- within a turn: p0 is gone through; n0 names were found before it, Lr0 waited; at most x names more by now -/
structure Mid (rs : List Rl) (z0 : Str) (p0 : Place) (n0 : Nat) (Lr0 : List (Addr × Place)) (fs : List Str) (Lr Ls : List (Addr × Place)) (x : Nat) : Prop where
  lk : LK rs z0 fs (Lr.map (·.2)) (Ls.map (·.2)) (fun p => p = p0)
  most : fs.length ≤ n0 + x
  new : ∃ Ln, Lr = Lr0 ++ Ln ∧ Ln.length + n0 ≤ fs.length ∧ ∀ c ∈ Ln, c.2.2.length = p0.2.length + 1
  ls : Ls.length ≤ fs.length
  rl : Lr.length ≤ Ls.length
theorem cnt_le (ns : List Nat) (i : Nat) : cnt ns i ≤ i := by
  unfold cnt
  have z := List.length_filter_le (fun k => decide (k ∉ ns)) (List.range i)
  rwa [List.length_range] at z
theorem load_ge (m n : Nat) : ∀ rest : List Place, rest.length ≤ load m n rest
  | [] => Nat.le_refl _
  | p :: rest => by
    have z := load_ge m n rest
    have y := wgt_pos m (left n p.2)
    have e : load m n (p :: rest) = wgt m (left n p.2) + load m n rest := by
      unfold load
      rw [List.map_cons, List.sum_cons]
    rw [e, List.length_cons]
    omega
section
variable {rs : List Rl} {z0 : Str} {p0 : Place} {n0 x : Nat} {Lr0 Lr Ls : List (Addr × Place)} {fs : List Str}
theorem Mid.le (h : Mid rs z0 p0 n0 Lr0 fs Lr Ls x) {y : Nat} (le : x ≤ y) : Mid rs z0 p0 n0 Lr0 fs Lr Ls y := ⟨h.lk, Nat.le_trans h.most (by omega), h.new, h.ls, h.rl⟩
theorem Mid.old (h : Mid rs z0 p0 n0 Lr0 fs Lr Ls x) {p : Place} (s : Snds rs z0 p) (m : p ∈ Ls.map (·.2)) : Mid rs z0 p0 n0 Lr0 (fs ++ [p.1]) Lr Ls (x + 1) := by
  have k := h.lk.more s
  rw [if_pos m, if_pos m] at k
  obtain ⟨Ln, a, b, c⟩ := h.new
  have q := h.most
  have q2 := h.ls
  exact ⟨k, by rw [List.length_append, List.length_singleton]; omega, ⟨Ln, a, by rw [List.length_append]; omega, c⟩, by rw [List.length_append]; omega, h.rl⟩
theorem Mid.fresh (h : Mid rs z0 p0 n0 Lr0 fs Lr Ls x) {p : Place} {a : Addr} (s : Snds rs z0 p) (m : p ∉ Ls.map (·.2)) (e : p.2.length = p0.2.length + 1) : Mid rs z0 p0 n0 Lr0 (fs ++ [p.1]) (Lr ++ [(a, p)]) (Ls ++ [(a, p)]) (x + 1) := by
  have k := h.lk.more s
  rw [if_neg m, if_neg m] at k
  obtain ⟨Ln, e1, b, c⟩ := h.new
  have q := h.most
  have q2 := h.ls
  have q3 := h.rl
  refine ⟨by rw [List.map_append, List.map_append]; exact k, by rw [List.length_append, List.length_singleton]; omega, ⟨Ln ++ [(a, p)], by rw [e1, List.append_assoc], by rw [List.length_append, List.length_append, List.length_singleton, List.length_singleton]; omega, fun d md => ?_⟩, by rw [List.length_append, List.length_append, List.length_singleton, List.length_singleton]; omega, by rw [List.length_append, List.length_append, List.length_singleton]; omega⟩
  rcases List.mem_append.mp md with md | md
  · exact c d md
  · rw [List.mem_singleton.mp md]
    exact e
/-- the sizes behind a turn -/
theorem load_turn {m n : Nat} (h : Mid rs z0 p0 n0 Lr0 fs Lr Ls x) (hx : x ≤ left n p0.2 * m) (hB : n0 + (load m n (Lr0.map (·.2)) + wgt m (left n p0.2)) ≤ wgt m n + (Lr0.length + 1)) :
    fs.length + load m n (Lr.map (·.2)) ≤ wgt m n + Lr.length ∧ load m n (Lr.map (·.2)) < load m n (Lr0.map (·.2)) + wgt m (left n p0.2) := by
  obtain ⟨Ln, rfl, b, c⟩ := h.new
  have most := h.most
  rw [List.map_append, load_app, List.length_append]
  have w1 : load m n (Ln.map (·.2)) = Ln.length * wgt m (left n p0.2 - 1) := by
    clear h b most hB hx
    induction Ln with
    | nil => simp [load]
    | cons d Ln ih =>
      have e := c d List.mem_cons_self
      have z := ih fun q mq => c q (List.mem_cons_of_mem _ mq)
      have e2 : left n d.2.2 = left n p0.2 - 1 := by
        unfold left
        rw [e]
        omega
      have e3 : load m n ((d :: Ln).map (·.2)) = wgt m (left n d.2.2) + load m n (Ln.map (·.2)) := by
        unfold load
        rw [List.map_cons, List.map_cons, List.sum_cons]
      rw [e3, z, e2, List.length_cons, Nat.add_mul, Nat.one_mul, Nat.add_comm]
  rw [w1]
  have le : Ln.length ≤ x := by omega
  cases hj : left n p0.2 with
  | zero =>
    rw [hj] at hx hB
    have x0 : x = 0 := by
      rw [Nat.zero_mul] at hx
      omega
    have l0 : Ln.length = 0 := by omega
    rw [l0, Nat.zero_mul]
    have e : wgt m 0 = 1 := rfl
    rw [e] at hB ⊢
    omega
  | succ j =>
    rw [hj] at hx hB
    have e : wgt m (j + 1) = 1 + (j + 1) * m * wgt m j := rfl
    rw [e] at hB ⊢
    show _ + (_ + Ln.length * wgt m j) ≤ _ ∧ _ + Ln.length * wgt m j < _
    have p := wgt_pos m j
    generalize wgt m j = w at p hB ⊢
    generalize (j + 1) * m = y at hx hB ⊢
    have t1 : Ln.length * w ≤ y * w := Nat.mul_le_mul_right _ (by omega)
    have t2 : (fs.length - n0) + Ln.length * (w - 1) ≤ y * w := by
      have u1 : Ln.length * (w - 1) ≤ y * (w - 1) := Nat.mul_le_mul_right _ (by omega)
      have u2 : y * w = y + y * (w - 1) := by
        obtain ⟨v, rfl⟩ : ∃ v, w = v + 1 := ⟨w - 1, by omega⟩
        rw [Nat.mul_add, Nat.add_sub_cancel]
        omega
      omega
    have t3 : Ln.length * w = Ln.length + Ln.length * (w - 1) := by
      obtain ⟨v, rfl⟩ : ∃ v, w = v + 1 := ⟨w - 1, by omega⟩
      rw [Nat.mul_add, Nat.add_sub_cancel]
      omega
    constructor
    · omega
    · omega
end
end Lk

/-! K22x -/
set_option Elab.async false
set_option linter.all false
set_option maxRecDepth 100000
set_option maxHeartbeats 4000000
namespace Lk
open PySem PySem.Spec PyProof.Rows L2
section
/-- the test says no, at most the pot has moved -/
def NoT (p c : Addr) (t : TT) (σ : L2.St) (H : Hp) : Prop := ∀ Q2 : Bool → Hp → Prop, (∀ H', Ext p c H H' → Q2 false H') → t σ H Q2
theorem no_ifS {p c : Addr} {t : TT} {ts r : TS} {σ : L2.St} {D : Ends} {H : Hp} (h : NoT p c t σ H) (k : ∀ H', Ext p c H H' → r D σ H') : tSeq (tIfS t ts tNext) r D σ H := h _ fun H' e => iteF (k H' e)
theorem no_if {p c : Addr} {t : TT} {ts : TS} {σ : L2.St} {D : Ends} {H : Hp} (h : NoT p c t σ H) (k : ∀ H', Ext p c H H' → D.nx σ H') : tIfS t ts tNext D σ H := h _ fun H' e => iteF (k H' e)
theorem no_or {p c : Addr} {t u : TT} {σ : L2.St} {H : Hp} (h1 : NoT p c t σ H) (h2 : ∀ H1, Ext p c H H1 → NoT p c u σ H1) : NoT p c (tOr t u) σ H := fun _ q => h1 _ fun H1 e1 => iteF (h2 H1 e1 _ fun H' e => q H' (e1.trans e))
theorem nx_open {x : V} {i : Nat} {q : L2.St → Hp → Prop} {rt : VK} {bk ct : L2.St → Hp → Prop} {σ : L2.St} {H : Hp} (h : gName i x σ H q) : gName i x σ H (Ends.nx { nx := q, rt := rt, bk := bk, ct := ct }) := h
theorem next_read {x : V} {i : Nat} {te : TE} {g : TG} {r : TS} {D : Ends} {σ : L2.St} {H : Hp} (h : te (σ.set i (some x)) H fun y H1 => g y (σ.set i (some x)) H1 (r D)) : gName i x σ H (tSeq (tAsg te g) r D) := h
theorem next_if {x : V} {i : Nat} {t : TT} {ts r : TS} {D : Ends} {σ : L2.St} {H : Hp} (h : tSeq (tIfS t ts tNext) r D (σ.set i (some x)) H) : gName i x σ H (tSeq (tIfS t ts tNext) r D) := h
theorem next_if1 {x : V} {i : Nat} {t : TT} {ts : TS} {D : Ends} {σ : L2.St} {H : Hp} (h : tIfS t ts tNext D (σ.set i (some x)) H) : gName i x σ H (tIfS t ts tNext D) := h
end
section
variable {P : Program} {w : World} {K : PySem.W.Frag} {mg : Str → Option Value} {base : Heap}
theorem put_read {σ : L2.St} {H : Hp} {v : V} {m : Str} {c : Src} {i j : Nat} {Q : VK} (hi : σ[i]? = some (some v)) (hj : σ[j]? = some (some (.str m))) (th : Th K H v c.d) (L : SrcLen c) (lm : m.length ≤ 1000000) (k : Q (.str (c.put m)) H) :
    tCall (spFill K) [] E0 (tCons (tVar i) (tCons (tVar j) tNil)) σ H Q := by
  refine ⟨_, hi, _, hj, v, m, rfl, lm, ?_⟩
  rcases th_src th with ⟨y, rfl, rfl⟩ | ⟨q, b, e, rfl, rfl, hq⟩
  · exact .inl ⟨y, rfl, k⟩
  · have l : b.length ≤ 3 ∧ e.length ≤ 3 := L
    exact .inr ⟨q, b, e, rfl, hq, by omega, by omega, k⟩
theorem cat_read {σ : L2.St} {H : Hp} {t0 : Addr} {ns : List Nat} {n i j : Nat} {Q : VK} (hi : σ[i]? = some (some (.ref t0))) (hj : σ[j]? = some (some (.int (n : Int)))) (h0 : H t0 = some (.tup (ns.map fun n : Nat => V.int (n : Int)))) (small : ns.length ≤ 1000)
    (q : ∀ u H', Same H H' → H' u = some (.tup ((ns ++ [n]).map fun n : Nat => V.int (n : Int))) → Q (.ref u) H') : tOp (rCatA K) (tVar i) (tTup (tCons (tVar j) tNil)) σ H Q := by
  refine ⟨_, hi, _, hj, (by show 1 ≤ sizeLine; decide), fun t1 n1 => ?_⟩
  have s1 : Same H (upd H t1 (.tup [.int (n : Int)])) := same_upd n1
  refine ⟨t0, t1, _, _, rfl, rfl, SqT.of (s1 _ _ h0), SqT.of upd_same, by rw [List.length_map, sizeLine_eq]; show ns.length + 1 ≤ _; omega, fun e => ?_, fun _ e => ?_, fun _ _ p np => ?_⟩
  · have e2 : ns = [] := List.map_eq_nil_iff.mp e
    refine q t1 _ s1 ?_
    rw [upd_same, e2]
    rfl
  · cases e
  · refine q p _ (s1.trans (same_upd np)) ?_
    rw [upd_same, List.map_append]
    rfl
theorem nat_out {ns' : List Int} {l : List Nat} (pm : ns'.Perm (l.map fun n : Nat => (n : Int))) (pw : ns'.Pairwise (· ≤ ·)) : ns' = (srt l).map fun n : Nat => (n : Int) := by
  have e1 : ns' = (ns'.map Int.toNat).map fun n : Nat => (n : Int) := by
    rw [List.map_map]
    refine ((List.map_congr_left fun x mx => ?_).trans (List.map_id _)).symm
    obtain ⟨k, _, e⟩ := List.mem_map.mp (pm.mem_iff.mp mx)
    show ((x.toNat : Nat) : Int) = x
    omega
  have e2 : (ns'.map Int.toNat).Perm l := by
    have z := pm.map Int.toNat
    rw [List.map_map] at z
    have e3 : l.map (Int.toNat ∘ fun n : Nat => (n : Int)) = l := (List.map_congr_left fun x _ => (by show ((x : Int)).toNat = x; omega)).trans (List.map_id _)
    rw [e3] at z
    exact z
  have e4 : (ns'.map Int.toNat).Pairwise (· ≤ ·) := by
    rw [List.pairwise_map]
    exact pw.imp fun {a b} h => by omega
  rw [e1, srt_eq e2 e4]
  rw [srt_same e2] at *
theorem place_read {σ : L2.St} {H : Hp} {v : V} {m : Str} {c : Src} {t0 : Addr} {ns : List Nat} {n iS iM iP iN : Nat} {Q : VK} (hS : σ[iS]? = some (some v)) (hM : σ[iM]? = some (some (.str m))) (hP : σ[iP]? = some (some (.ref t0))) (hN : σ[iN]? = some (some (.int (n : Int))))
    (th : Th K H v c.d) (L : SrcLen c) (lm : m.length ≤ 1000000) (h0 : H t0 = some (.tup (ns.map fun n : Nat => V.int (n : Int)))) (small : ns.length ≤ 1000) (q : ∀ a H', Same H H' → PAt H' a (c.put m, srt (ns ++ [n])) → Q (.ref a) H') :
    tTup (tCons (tCall (spFill K) [] E0 (tCons (tVar iS) (tCons (tVar iM) tNil))) (tCons (tCB (fun xs H Q => ∃ p ys, xs = [.ref p] ∧ ((SqL K H p ys ∧ ∀ l, H l = none → Q (.ref l) (upd H l (.tup ys))) ∨ (SqT K H p ys ∧ Q (.ref p) H)))
      (tCons (tCB (rSortT K) (tCons (tOp (rCatA K) (tVar iP) (tTup (tCons (tVar iN) tNil))) tNil)) tNil)) tNil)) σ H Q := by
  refine put_read hS hM th L lm ?_
  refine cat_read hP hN h0 small fun u H1 s1 hu => ?_
  refine ⟨u, (ns ++ [n]).map fun n : Nat => (n : Int), rfl, SqT.of (by rw [hu, List.map_map]; rfl), fun ns' p pm pw np => ?_⟩
  have e := nat_out pm pw
  subst e
  have s2 : Same H1 (upd H1 p (.lst (((srt (ns ++ [n])).map fun n : Nat => (n : Int)).map V.int))) := same_upd np
  refine ⟨p, _, rfl, .inl ⟨SqL.of upd_same, fun t nt => ?_⟩⟩
  generalize upd H1 p (.lst (((srt (ns ++ [n])).map fun n : Nat => (n : Int)).map V.int)) = H2 at s2 nt ⊢
  refine ⟨(by show 2 ≤ sizeLine; decide), fun a na => ?_⟩
  refine q a _ (((s1.trans s2).trans (same_upd nt)).trans (same_upd na)) ⟨t, upd_same, ?_⟩
  have ne : t ≠ a := fun z => by
    rw [← z, upd_same] at na
    cases na
  rw [upd_ne ne, upd_same, List.map_map]
  rfl
def spLKin (K : PySem.W.Frag) : Sp := fun vs H Q _ => ∃ (q : Addr) (xs : List V) (rs : List Rl) (z : Str) (m : Nat), vs = [.ref q, .str z] ∧ SqT K H q xs ∧ ThAll K H xs (rs.map Rl.d) ∧ dBook (.tuple (rs.map Rl.d)) = true ∧ (∀ r ∈ rs, r.ss.length ≤ m) ∧ m ≤ 3 ∧ wgt m rs.length ≤ 1200 ∧
  (∀ ks y, Chain rs z ks y → PyData.strOk y = true ∧ y.length ≤ 1000) ∧ ∀ (cs fs : List Str) (p : Addr) (H' : Hp), Same H H' → H' p = some (.tup (cs.map V.str)) → IsAsc cs fs → (∀ y, y ∈ fs ↔ ∃ ks, Chain rs z ks y) → Q (.ref p) H'
theorem sc_kin : FnScope ["book", "name", "found", "rest", "seen", "here", "spent", "number", "rule", "middle", "source", "place"] ["book", "name"] (defScope s_kin) := ⟨rfl, rfl, rfl, by decide +kernel, rfl, by decide +kernel, by decide +kernel⟩
theorem cal_kin (D : Def1 K mg "_law_kin" s_kin) (G : Glb mg) (T : Glc mg) (gs : mg "sorted" = none) (CS : Cal P w K mg base 1 "_law_stem" (spLStem K)) (CP : Cal P w K mg base 1 "_law_put" (spFill K)) (CO : Cal P w K mg base 1 "_law_ordered" (spLOrd K)) : Cal P w K mg base 2 "_law_kin" (spLKin K) := by
  refine mkCal D sc_kin (fun _ _ _ _ _ _ us hl => match us, hl with | [_, _], _ => rfl) (fun vs H Q E h => ?_) (fun f cdv A outer s H vs Q E hr h => ?_)
  · obtain ⟨q, xs, rs, z, m, rfl, _⟩ := h
    rfl
  · obtain ⟨q, xs, rs, z, m, rfl, hq, ha, hB, hm, m3, hw, tx, k⟩ := h
    refine ⟨_, (pss_cons (ps_par (i := 2) (j := 3) (by rfl) sc_kin.nd rfl rfl (by decide) rfl rfl (pa_cons (pe_lst (pa_cons (pv 1) pa_nil)) (pa_cons (pe_lst (pa_cons (pe_tup (pa_cons (pv 1) (pa_cons (pe_tup pa_nil) pa_nil))) pa_nil)) pa_nil)) (by rfl))
    (pss_cons (ps_set (i := 4) sc_kin.nd rfl (.inl rfl) (pe_lst (pa_cons (pe_tup (pa_cons (pv 1) (pa_cons (pe_tup pa_nil) pa_nil))) pa_nil)))
    (pss_cons (ps_while PassesOwn.never (pt_cmpR (op_neNil hr.units) (pv 3) (pe_lst pa_nil) (nomark _))
    (pss_cons (ps_asg (pe_bm0 PySem.F.plainAttrs_list PySem.F.slot_list_pop PySem.F.type_list_pop mt_pop (pv 3)) (pg_tup rfl (pgs_cons (pg_name (i := 5) sc_kin.nd rfl (.inl rfl)) (pgs_cons (pg_name (i := 6) sc_kin.nd rfl (.inl rfl)) pgs_nil))))
    (pss_one (ps_for PassesOwn.never rfl (pi_enT (by rfl) G.enumerate (pa_cons (pv 0) pa_nil)) (pg_tup rfl (pgs_cons (pg_name (i := 7) sc_kin.nd rfl (.inl rfl)) (pgs_cons (pg_name (i := 8) sc_kin.nd rfl (.inl rfl)) pgs_nil)))
    (pss_cons (ps_set (i := 9) sc_kin.nd rfl (.inl rfl) (pe_cal CS hr (by decide) (pa_cons (pe_ix ix_tup (pv 8) pe_int (fun _ _ => rfl)) (pa_cons (pv 5) pa_nil))))
    (pss_one (ps_if (PW.pt (pw_and (pt_cmpR op_notN (pv 9) pe_non (nomark _)) (pw_and1 (pt_cmpR op_notIn_seq (pv 7) (pv 6) (by rfl))))) (pss_one (ps_for PassesOwn.never rfl (pi_tup (pe_ix ix_tup (pv 8) pe_int (fun _ _ => rfl))) (pg_name (i := 10) sc_kin.nd rfl (.inl rfl))
    (pss_cons (ps_set (i := 11) sc_kin.nd rfl (.inl rfl) (pe_tup (pa_cons (pe_cal CP hr (by decide) (pa_cons (pv 10) (pa_cons (pv 9) pa_nil))) (pa_cons (pe_callTy call_tuple_of (by rfl) T.tuple (by decide +kernel) (pa_cons (pe_callB (call_sortT hr.units) (by rfl) gs (by decide +kernel) (pa_cons (pe_op op_catA (pv 6) (pe_tup (pa_cons (pv 7) pa_nil))) pa_nil)) pa_nil)) pa_nil))))
    (pss_cons (ps_expr (pe_bm PySem.F.plainAttrs_list PySem.F.slot_list_append PySem.F.type_list_append mt_append (pv 2) (pa_cons (pe_ix ix_tup (pv 11) pe_int (fun _ _ => rfl)) pa_nil)))
    (pss_one (ps_if (pt_cmpR (op_notInD (units65 hr)) (pv 11) (pv 4) (by rfl)) (pss_cons (ps_expr (pe_bm PySem.F.plainAttrs_list PySem.F.slot_list_append PySem.F.type_list_append mt_append (pv 4) (pa_cons (pv 11) pa_nil)))
    (pss_one (ps_expr (pe_bm PySem.F.plainAttrs_list PySem.F.slot_list_append PySem.F.type_list_append mt_append (pv 3) (pa_cons (pv 11) pa_nil))))) pss_nil)))))) pss_nil)))))))
    (pss_one (ps_ret (pe_cal CO hr (by decide) (pa_cons (pv 2) pa_nil))))))), ?_⟩
    obtain ⟨many, len⟩ := book_len hB
    have hl := thAll_len ha
    rw [List.length_map] at hl
    refine ⟨_, rfl, (by show 1 ≤ sizeLine; decide), fun F nF => ?_⟩
    have s1 : Same H (upd H F (.lst [.str z])) := same_upd nF
    have f1 : upd H F (.lst [.str z]) F = some (.lst [.str z]) := upd_same
    generalize upd H F (.lst [.str z]) = H1 at s1 f1 ⊢
    refine ⟨_, rfl, (by show 0 ≤ sizeLine; decide), fun t1 nt1 => ⟨(by show 2 ≤ sizeLine; decide), fun a1 na1 => ?_⟩⟩
    have p1 : PAt (upd (upd H1 t1 (.tup [])) a1 (.tup [.str z, .ref t1])) a1 (z, []) := ⟨t1, upd_same, same_upd na1 _ _ upd_same⟩
    have s2 : Same H1 (upd (upd H1 t1 (.tup [])) a1 (.tup [.str z, .ref t1])) := (same_upd nt1).trans (same_upd na1)
    generalize upd (upd H1 t1 (.tup [])) a1 (.tup [.str z, .ref t1]) = H2 at p1 s2 ⊢
    refine ⟨(by show 1 ≤ sizeLine; decide), fun R nR => ?_⟩
    have s3 : Same H2 (upd H2 R (.lst [.ref a1])) := same_upd nR
    have r3 : upd H2 R (.lst [.ref a1]) R = some (.lst [.ref a1]) := upd_same
    generalize upd H2 R (.lst [.ref a1]) = H3 at s3 r3 ⊢
    refine ⟨_, _, rfl, ?_⟩
    refine ⟨_, rfl, (by show 0 ≤ sizeLine; decide), fun t2 nt2 => ⟨(by show 2 ≤ sizeLine; decide), fun a2 na2 => ?_⟩⟩
    have p4 : PAt (upd (upd H3 t2 (.tup [])) a2 (.tup [.str z, .ref t2])) a2 (z, []) := ⟨t2, upd_same, same_upd na2 _ _ upd_same⟩
    have s4 : Same H3 (upd (upd H3 t2 (.tup [])) a2 (.tup [.str z, .ref t2])) := (same_upd nt2).trans (same_upd na2)
    generalize upd (upd H3 t2 (.tup [])) a2 (.tup [.str z, .ref t2]) = H4 at p4 s4 ⊢
    refine ⟨(by show 1 ≤ sizeLine; decide), fun S nS => ?_⟩
    have s5 : Same H4 (upd H4 S (.lst [.ref a2])) := same_upd nS
    have f4 := s4 _ _ (s3 _ _ (s2 _ _ f1))
    have A0 : KA H (upd H4 S (.lst [.ref a2])) F R S [z] [(a1, (z, []))] [(a2, (z, []))] := by
      refine ⟨(((s1.trans s2).trans s3).trans s4).trans s5, s5 _ _ f4, s5 _ _ (s4 _ _ r3), upd_same, nF, (s1.trans s2).free nR, ((((s1.trans s2).trans s3).trans s4)).free nS, ne_of_none (s2 _ _ f1) nR, ne_of_none f4 nS, ne_of_none (s4 _ _ r3) nS, fun c mc => ?_, fun c mc => ?_⟩
      · rw [List.mem_singleton.mp mc]
        exact p1.on ((s3.trans s4).trans s5)
      · rw [List.mem_singleton.mp mc]
        exact p4.on s5
    generalize upd H4 S (.lst [.ref a2]) = H5 at A0 ⊢
    have l0 : load m rs.length [(z, [])] = wgt m rs.length := by
      show wgt m (left rs.length []) + 0 = _
      rw [Nat.add_zero]
      rfl
    refine ⟨fun g σ H' => ∃ (fs : List Str) (Lr Ls : List (Addr × Place)) (v5 v6 v7 v8 v9 v10 v11 : Option V), σ = [some (.ref q), some (.str z), some (.ref F), some (.ref R), some (.ref S), v5, v6, v7, v8, v9, v10, v11] ∧ KA H H' F R S fs Lr Ls ∧
      LK rs z fs (Lr.map (·.2)) (Ls.map (·.2)) (fun _ => False) ∧ fs.length + load m rs.length (Lr.map (·.2)) ≤ wgt m rs.length + Lr.length ∧ Ls.length ≤ fs.length ∧ Lr.length ≤ Ls.length ∧ load m rs.length (Lr.map (·.2)) = g, ⟨_, _, _, _, _, _, _, _, _, _, _, rfl, A0, LK.start, ?_, Nat.le_refl _, Nat.le_refl _, rfl⟩, ?_⟩
    · show 1 + load m rs.length [(z, [])] ≤ _ + 1
      rw [l0]
      omega
    · rintro g σ H6 ⟨fs, Lr, Ls, v5, v6, v7, v8, v9, v10, v11, rfl, A, lk, size, lsn, rln, hg⟩
      refine ⟨_, rfl, (by show 0 ≤ sizeLine; decide), fun e0 ne0 => ?_⟩
      have Ae := A.on (same_upd (o := .lst []) ne0)
      have he : upd H6 e0 (.lst []) e0 = some (.lst []) := upd_same
      generalize upd H6 e0 (.lst []) = H7 at Ae he ⊢
      refine ⟨R, e0, _, rfl, rfl, SqL.of Ae.r, SqL.of he, _, rfl, ?_⟩
      rcases List.eq_nil_or_concat Lr with rfl | ⟨Lr0, c0, eLr⟩
      · refine iteF' rfl ?_
        have few : fs.length ≤ 1200 := by
          have z1 : load m rs.length (([] : List (Addr × Place)).map (·.2)) = 0 := rfl
          rw [z1] at size
          have z2 : ([] : List (Addr × Place)).length = 0 := rfl
          rw [z2] at size
          omega
        have ends := lk.end_
        refine ⟨_, rfl, F, fs, rfl, SqL.of Ae.f, (Nat.le_trans few (by decide)), fun y my => ?_, fun cs p H8 s8 hp asc => k cs fs p H8 (Ae.same.trans s8) hp asc ends⟩
        obtain ⟨ks, c⟩ := (ends y).mp my
        exact Nat.le_trans (tx ks y c).2 (by decide)
      · rw [List.concat_eq_append] at eLr
        subst eLr
        refine iteT' (by simp) ⟨fun σ' H' => ∃ g' < g, ∃ (fs : List Str) (Lr Ls : List (Addr × Place)) (v5 v6 v7 v8 v9 v10 v11 : Option V), σ' = [some (.ref q), some (.str z), some (.ref F), some (.ref R), some (.ref S), v5, v6, v7, v8, v9, v10, v11] ∧ KA H H' F R S fs Lr Ls ∧
          LK rs z fs (Lr.map (·.2)) (Ls.map (·.2)) (fun _ => False) ∧ fs.length + load m rs.length (Lr.map (·.2)) ≤ wgt m rs.length + Lr.length ∧ Ls.length ≤ fs.length ∧ Lr.length ≤ Ls.length ∧ load m rs.length (Lr.map (·.2)) = g', fun σ' H' h => h, ?_⟩
        have load0 : load m rs.length ((Lr0 ++ [c0]).map (·.2)) = load m rs.length (Lr0.map (·.2)) + wgt m (left rs.length c0.2.2) := by
          rw [List.map_append, load_app]
          show _ + (_ + 0) = _
          rw [Nat.add_zero]
        have size0 : fs.length + (load m rs.length (Lr0.map (·.2)) + wgt m (left rs.length c0.2.2)) ≤ wgt m rs.length + (Lr0.length + 1) := by
          rw [← load0]
          have y := size
          rw [List.length_append] at y
          exact y
        have few : fs.length ≤ 1200 := by
          have y1 := load_ge m rs.length ((Lr0 ++ [c0]).map (·.2))
          rw [List.length_map] at y1
          omega
        have snd0 : Snds rs z c0.2 := lk.snd _ (lk.sub _ (List.mem_map.mpr ⟨c0, List.mem_append_right _ (List.mem_singleton.mpr rfl), rfl⟩))
        obtain ⟨ks0, ch0, es0⟩ := id snd0
        have lim := chain_lt ch0
        have nd0 : c0.2.2.Nodup := by
          rw [es0]
          exact (srt_perm ks0).nodup_iff.mpr lim.2
        have lt0 : ∀ k ∈ c0.2.2, k < rs.length := fun k mk => lim.1 k (by rw [es0, mem_srt] at mk; exact mk)
        have call := cnt_all nd0 lt0
        have ly := (tx ks0 c0.2.1 ch0).2
        have lkp : LK rs z fs (Lr0.map (·.2)) (Ls.map (·.2)) (fun p => p = c0.2) := LK.pop (by
          have y := lk
          rw [List.map_append] at y
          exact y)
        have A1 := Ae.putR Lr0 (fun c mc => Ae.pr c (List.mem_append_left _ mc))
        have pc := (Ae.pr c0 (List.mem_append_right _ (List.mem_singleton.mpr rfl))).mut Ae.r (o := .lst (Lr0.map fun c => V.ref c.1))
        refine ⟨_, rfl, .inl ⟨rfl, _, SqL.of Ae.r⟩, R, _, .ref c0.1, rfl, rfl, Ae.r, by simp, ?_⟩
        have el : ((Lr0 ++ [c0]).map fun c => V.ref c.1).dropLast = Lr0.map fun c => V.ref c.1 := by simp
        rw [el]
        generalize upd H7 R (.lst (Lr0.map fun c => V.ref c.1)) = H8 at A1 pc ⊢
        obtain ⟨t0, hc1, hc2⟩ := pc
        refine ⟨c0.1, _, rfl, SqT.of hc1, rfl, _, _, rfl, _, _, rfl, rfl, ?_⟩
        refine ⟨_, rfl, q, _, rfl, Same.seqT A1.same hq, for_enT (K := K) (a := q) (xs := xs) (fun i σ H' => ∃ (fs' : List Str) (Lr Ls : List (Addr × Place)) (v7 v8 v9 v10 v11 : Option V), σ = [some (.ref q), some (.str z), some (.ref F), some (.ref R), some (.ref S), some (.str c0.2.1), some (.ref t0), v7, v8, v9, v10, v11] ∧
          KA H H' F R S fs' Lr Ls ∧ Mid rs z c0.2 fs.length Lr0 fs' Lr Ls (cnt c0.2.2 i * m) ∧ H' t0 = some (.tup (c0.2.2.map fun n : Nat => V.int (n : Int))) ∧
          ∀ k r y, k < i → rs[k]? = some r → k ∉ c0.2.2 → y ∈ r.of c0.2.1 → (y, srt (c0.2.2 ++ [k])) ∈ Ls.map (·.2))
          ⟨fs, Lr0, Ls, _, _, _, _, _, rfl, A1, ⟨lkp, Nat.le_add_right _ _, ⟨[], (List.append_nil _).symm, by show 0 + _ ≤ _; omega, (fun _ mc => nomatch mc)⟩, lsn, by rw [List.length_append] at rln; omega⟩, hc2, fun k r y lt => absurd lt (Nat.not_lt_zero _)⟩
          (fun i σ H' ⟨_, _, _, _, _, _, _, _, _, a, _⟩ => Same.seqT a.same hq) ?_ ?_⟩
        · rintro i x σ H9 T hx nT ⟨fs1, Lr1, Ls1, w7, w8, w9, w10, w11, rfl, B, mid, ht0, old⟩
          obtain ⟨d, hd, th⟩ := th_at ha hx
          rw [List.getElem?_map, Option.map_eq_some_iff] at hd
          obtain ⟨r, hr2, rfl⟩ := hd
          have RL := len r (List.mem_of_getElem? hr2)
          have hi : i < rs.length := (List.getElem?_eq_some_iff.mp hr2).1
          obtain ⟨a, p, s, ys, rfl, ha3, hp, hs, hys⟩ := th_rule th
          refine ⟨T, _, rfl, .inl (.inl upd_same), rfl, _, _, rfl, _, _, rfl, rfl, ?_⟩
          have B1 := B.on (same_upd (o := .tup [.int (i : Int), .ref a]) nT)
          have ht1 := same_upd (o := .tup [.int (i : Int), .ref a]) nT _ _ ht0
          generalize upd H9 T (.tup [.int (i : Int), .ref a]) = H10 at B1 ht1 ⊢
          refine ⟨_, rfl, a, _, 1, _, rfl, rfl, Same.seqT B1.same ha3, atI_nat (j := 1) rfl, _, rfl, p, r.b, r.e, c0.2.1, rfl, Same.seqT B1.same hp, Nat.le_trans RL.lb (by decide), Nat.le_trans RL.le (by decide), Nat.le_trans ly (by decide), ?_⟩
          have up1 : cnt c0.2.2 i * m ≤ cnt c0.2.2 (i + 1) * m := Nat.mul_le_mul_right _ (by
            by_cases hin : i ∈ c0.2.2
            · rw [cnt_in hin]
              exact Nat.le_refl _
            · rw [cnt_out hin]
              omega)
          have skip : (stemO r.b r.e c0.2.1 = none ∨ i ∈ c0.2.2) → ∀ k r y, k < i + 1 → rs[k]? = some r → k ∉ c0.2.2 → y ∈ r.of c0.2.1 → (y, srt (c0.2.2 ++ [k])) ∈ Ls1.map (·.2) := fun hno k r' y lt hr n hy => by
            by_cases e : k = i
            · subst e
              rw [hr2] at hr
              cases hr
              rcases hno with h0 | h0
              · rw [of_none h0] at hy
                cases hy
              · exact absurd h0 n
            · exact old k r' y (by omega) hr n hy
          cases hst : stemO r.b r.e c0.2.1 with
          | none =>
            refine ⟨fun m' hm' => ?_, fun _ => ?_⟩
            · rw [stemO_some hm'] at hst
              cases hst
            · refine ⟨_, rfl, rfl, _, rfl, iteF' rfl ?_⟩
              exact ⟨fs1, Lr1, Ls1, _, _, _, _, _, rfl, B1, mid.le up1, ht1, skip (.inl hst)⟩
          | some mm =>
            refine ⟨fun m' hm' => ?_, fun no => absurd ⟨mm, stemO_eq hst⟩ no⟩
            rw [stemO_some hm'] at hst
            obtain rfl := Option.some.inj hst
            replace hst := stemO_some hm'
            have lm := stemO_len hst
            refine ⟨_, rfl, rfl, _, rfl, iteT' rfl ?_⟩
            refine ⟨_, rfl, _, rfl, t0, _, rfl, .inr (SqT.of ht1), rfl, flat_ints, _, rfl, ?_⟩
            by_cases hin : i ∈ c0.2.2
            · refine iteF' ?_ ?_
              · show (!inV (V.int (i : Int)) _) = false
                rw [in_ints, decide_eq_true hin]
                rfl
              · exact ⟨fs1, Lr1, Ls1, _, _, _, _, _, rfl, B1, mid.le up1, ht1, skip (.inr hin)⟩
            · refine iteT' ?_ ?_
              · show (!inV (V.int (i : Int)) _) = true
                rw [in_ints, decide_eq_false hin]
                rfl
              · have hlen : ys.length = r.ss.length := by
                  have y := thAll_len hys
                  rwa [List.length_map] at y
                have mle := hm r (List.mem_of_getElem? hr2)
                refine ⟨_, rfl, a, _, 2, _, rfl, rfl, Same.seqT B1.same ha3, atI_nat (j := 2) rfl, s, rfl, ⟨_, Same.seqT B1.same hs⟩, for_tup (K := K) (a := s) (xs := ys) (fun j σ H' => ∃ (fs' : List Str) (Lr Ls : List (Addr × Place)) (v10 v11 : Option V), σ = [some (.ref q), some (.str z), some (.ref F), some (.ref R), some (.ref S), some (.str c0.2.1), some (.ref t0), some (.int (i : Int)), some (.ref a), some (.str m'), v10, v11] ∧
                  KA H H' F R S fs' Lr Ls ∧ Mid rs z c0.2 fs.length Lr0 fs' Lr Ls (cnt c0.2.2 i * m + j) ∧ H' t0 = some (.tup (c0.2.2.map fun n : Nat => V.int (n : Int))) ∧
                  (∀ k r y, k < i → rs[k]? = some r → k ∉ c0.2.2 → y ∈ r.of c0.2.1 → (y, srt (c0.2.2 ++ [k])) ∈ Ls.map (·.2)) ∧ ∀ c ∈ r.ss.take j, (c.put m', srt (c0.2.2 ++ [i])) ∈ Ls.map (·.2))
                  ⟨fs1, Lr1, Ls1, _, _, rfl, B1, mid, ht1, old, fun c mc => by rw [List.take_zero] at mc; cases mc⟩ (fun _ _ _ _ ⟨_, _, _, _, _, _, a, _⟩ => Same.seqT a.same hs) ?_ ?_⟩
                · rintro j u σ H11 hu ⟨fs2, Lr2, Ls2, v10, v11, rfl, C, mid2, ht2, old2, got⟩
                  obtain ⟨d, hd3, th3⟩ := th_at hys hu
                  rw [List.getElem?_map, Option.map_eq_some_iff] at hd3
                  obtain ⟨c, hc3, rfl⟩ := hd3
                  have mc := List.mem_of_getElem? hc3
                  have jlt : j < r.ss.length := (List.getElem?_eq_some_iff.mp hc3).1
                  have sn : Snds rs z (c.put m', srt (c0.2.2 ++ [i])) := snds_succ snd0 ⟨i, r, hr2, hin, by rw [of_some hst]; exact List.mem_map.mpr ⟨c, mc, rfl⟩, rfl⟩
                  have sp : c0.2.2.length ≤ 6 := by omega
                  refine next_read ?_
                  refine place_read (K := K) (c := c) (ns := c0.2.2) (n := i) rfl rfl rfl rfl (th_same C.same th3) (RL.each c mc) (Nat.le_trans lm (Nat.le_trans ly (by decide))) ht2 (by omega) fun pa H12 s12 hpa => ?_
                  have C1 := C.on s12
                  have bound : fs2.length ≤ 3000 := by
                    have b1 := mid2.most
                    have b2 := cnt_le c0.2.2 i
                    have b3 : cnt c0.2.2 i * m ≤ 6 * 3 := Nat.mul_le_mul (by omega) m3
                    have b4 := RL.ls
                    omega
                  have bound2 := mid2.ls
                  have bound3 := mid2.rl
                  obtain ⟨t5, g1, g2⟩ := id hpa
                  refine ⟨_, rfl, .inl ⟨rfl, _, SqL.of C1.f⟩, _, rfl, pa, _, 0, _, rfl, rfl, SqT.of g1, atI_nat (j := 0) rfl, F, _, _, rfl, rfl, C1.f, by rw [List.length_map, sizeLine_eq]; omega, ?_⟩
                  have ef : fs2.map V.str ++ [V.str (c.put m')] = (fs2 ++ [c.put m']).map V.str := by
                    rw [List.map_append]
                    rfl
                  rw [ef]
                  have C2 := C1.putF (fs2 ++ [c.put m'])
                  have hpa2 := hpa.mut C1.f (o := .lst ((fs2 ++ [c.put m']).map V.str))
                  have t0F : t0 ≠ F := fun e => by
                    have y := s12 _ _ ht2
                    rw [e, C1.f] at y
                    cases y
                  have ht3 := (upd_ne (H := H12) (o := .lst ((fs2 ++ [c.put m']).map V.str)) t0F).trans (s12 _ _ ht2)
                  generalize upd H12 F (.lst ((fs2 ++ [c.put m']).map V.str)) = H13 at C2 hpa2 ht3 ⊢
                  have okT : ∀ e ∈ Ls2, PyData.strOk e.2.1 = true := fun e me => by
                    obtain ⟨ks, ch, _⟩ := mid2.lk.snd e.2 (List.mem_map.mpr ⟨e, me, rfl⟩)
                    exact (tx ks e.2.1 ch).1
                  have okP : PyData.strOk (c.put m') = true := by
                    obtain ⟨ks, ch, _⟩ := sn
                    exact (tx ks _ ch).1
                  refine ⟨_, rfl, _, rfl, pD (c.put m', srt (c0.2.2 ++ [i])), Ls2.map fun c => pD c.2, hpa2.dp, .lst (SqL.of C2.s) (dp_places C2.ps), shaped_pD okP, shaped_pDs okT, _, rfl, ?_⟩
                  have grows : ∀ {L : List (Addr × Place)}, (c.put m', srt (c0.2.2 ++ [i])) ∈ L.map (·.2) → (∀ e ∈ r.ss.take j, (e.put m', srt (c0.2.2 ++ [i])) ∈ L.map (·.2)) → ∀ e ∈ r.ss.take (j + 1), (e.put m', srt (c0.2.2 ++ [i])) ∈ L.map (·.2) := fun {L} h1 h2 e me => by
                    rw [List.take_add_one, hc3] at me
                    rcases List.mem_append.mp me with me | me
                    · exact h2 e me
                    · have z1 : e = c := by simpa using me
                      rw [z1]
                      exact h1
                  by_cases seen : (c.put m', srt (c0.2.2 ++ [i])) ∈ Ls2.map (·.2)
                  · refine iteF' (by rw [any_pD, decide_eq_true seen]; rfl) ?_
                    exact ⟨_, Lr2, Ls2, _, _, rfl, C2, mid2.old sn seen, ht3, old2, grows seen got⟩
                  · refine iteT' (by rw [any_pD, decide_eq_false seen]; rfl) ?_
                    refine ⟨_, rfl, .inl ⟨rfl, _, SqL.of C2.s⟩, _, rfl, S, _, _, rfl, rfl, C2.s, by rw [List.length_map, sizeLine_eq]; omega, ?_⟩
                    have es : (Ls2.map fun c => V.ref c.1) ++ [V.ref pa] = (Ls2 ++ [(pa, (c.put m', srt (c0.2.2 ++ [i])))]).map fun c => V.ref c.1 := by
                      rw [List.map_append]
                      rfl
                    rw [es]
                    have C3 := C2.putS (Ls2 ++ [(pa, (c.put m', srt (c0.2.2 ++ [i])))]) fun e me => by
                      rcases List.mem_append.mp me with me | me
                      · exact C2.ps e me
                      · rw [List.mem_singleton.mp me]
                        exact hpa2
                    have hpa3 := hpa2.mut C2.s (o := .lst ((Ls2 ++ [(pa, (c.put m', srt (c0.2.2 ++ [i])))]).map fun c => V.ref c.1))
                    have t0S : t0 ≠ S := fun e => by
                      have y := ht3
                      rw [e, C2.s] at y
                      cases y
                    have ht4 := (upd_ne (H := H13) (o := .lst ((Ls2 ++ [(pa, (c.put m', srt (c0.2.2 ++ [i])))]).map fun c => V.ref c.1)) t0S).trans ht3
                    generalize upd H13 S (.lst ((Ls2 ++ [(pa, (c.put m', srt (c0.2.2 ++ [i])))]).map fun c => V.ref c.1)) = H14 at C3 hpa3 ht4 ⊢
                    refine ⟨_, rfl, .inl ⟨rfl, _, SqL.of C3.r⟩, _, rfl, R, _, _, rfl, rfl, C3.r, by rw [List.length_map, sizeLine_eq]; omega, ?_⟩
                    have er : (Lr2.map fun c => V.ref c.1) ++ [V.ref pa] = (Lr2 ++ [(pa, (c.put m', srt (c0.2.2 ++ [i])))]).map fun c => V.ref c.1 := by
                      rw [List.map_append]
                      rfl
                    rw [er]
                    have C4 := C3.putR (Lr2 ++ [(pa, (c.put m', srt (c0.2.2 ++ [i])))]) fun e me => by
                      rcases List.mem_append.mp me with me | me
                      · exact C3.pr e me
                      · rw [List.mem_singleton.mp me]
                        exact hpa3
                    have t0R : t0 ≠ R := fun e => by
                      have y := ht4
                      rw [e, C3.r] at y
                      cases y
                    have ht5 := (upd_ne (H := H14) (o := .lst ((Lr2 ++ [(pa, (c.put m', srt (c0.2.2 ++ [i])))]).map fun c => V.ref c.1)) t0R).trans ht4
                    have wider : ∀ {p : Place}, p ∈ Ls2.map (·.2) → p ∈ (Ls2 ++ [(pa, (c.put m', srt (c0.2.2 ++ [i])))]).map (·.2) := fun h => by
                      rw [List.map_append]
                      exact List.mem_append_left _ h
                    refine ⟨_, _, _, _, _, rfl, C4, mid2.fresh sn seen ?_, ht5, fun k r y lt hr n hy => wider (old2 k r y lt hr n hy), grows ?_ fun e me => wider (got e me)⟩
                    · show (srt (c0.2.2 ++ [i])).length = _
                      rw [(srt_perm _).length_eq, List.length_append]
                      rfl
                    · rw [List.map_append]
                      exact List.mem_append_right _ (List.mem_singleton.mpr rfl)
                · rintro σ H11 ⟨fs2, Lr2, Ls2, v10, v11, rfl, C, mid2, ht2, old2, got⟩
                  rw [hlen, List.take_length] at got
                  rw [hlen] at mid2
                  refine ⟨fs2, Lr2, Ls2, _, _, _, _, _, rfl, C, mid2.le ?_, ht2, fun k r' y lt hr n hy => ?_⟩
                  · rw [cnt_out hin, Nat.add_mul, Nat.one_mul]
                    omega
                  · by_cases e : k = i
                    · subst e
                      rw [hr2] at hr
                      cases hr
                      rw [of_some hst] at hy
                      obtain ⟨c, mc, rfl⟩ := List.mem_map.mp hy
                      exact got c mc
                    · exact old2 k r' y (by omega) hr n hy
        · rintro σ H9 ⟨fs1, Lr1, Ls1, w7, w8, w9, w10, w11, rfl, B, mid, ht0, old⟩
          rw [hl] at mid old
          have hx : cnt c0.2.2 rs.length * m ≤ left rs.length c0.2.2 * m := Nat.mul_le_mul_right _ (by
            unfold left
            omega)
          obtain ⟨b1, b2⟩ := load_turn mid hx size0
          refine ⟨_, ?_, fs1, Lr1, Ls1, _, _, _, _, _, _, _, rfl, B, mid.lk.done fun p' s' => ?_, b1, mid.ls, mid.rl, rfl⟩
          · rw [← hg, load0]
            exact b2
          · obtain ⟨y, l⟩ := p'
            obtain ⟨k, r, hr, n, hy, e⟩ := s'
            have e2 : l = srt (c0.2.2 ++ [k]) := e
            subst e2
            exact old k r y (List.getElem?_eq_some_iff.mp hr).1 hr n hy
end
end Lk

/-! K22y -/
set_option Elab.async false
set_option linter.all false
set_option maxRecDepth 100000
set_option maxHeartbeats 4000000
namespace Lk
open PySem PySem.Spec PyProof.Rows L2
/-! ### drawn books: they are books, and few short names come by their chains -/
theorem ok_iff {x : Str} : PyData.strOk x = true ↔ ∀ c ∈ TL.tl x, c < 0x110000 := by
  unfold PyData.strOk
  rw [← Array.all_toList, List.all_eq_true]
  exact ⟨fun h c m => of_decide_eq_true (h c m), fun h c m => decide_eq_true (h c m)⟩
def SrcTx : Src → Prop
  | .pat b e => PyData.strOk b = true ∧ PyData.strOk e = true
  | .nm x => PyData.strOk x = true
def RlTx (r : Rl) : Prop := ∀ s ∈ r.ss, SrcTx s
theorem of_tx {r : Rl} (T : RlTx r) {z y : Str} (hz : PyData.strOk z = true) (h : y ∈ r.of z) : PyData.strOk y = true := by
  cases e : stemO r.b r.e z with
  | none =>
    rw [of_none e] at h
    cases h
  | some m =>
    rw [of_some e] at h
    obtain ⟨s, hs, rfl⟩ := List.mem_map.mp h
    have t := T s hs
    have ez := stemO_eq e
    have okm : ∀ c ∈ TL.tl m, c < 0x110000 := fun c mc => ok_iff.mp hz c (by rw [ez]; exact List.mem_append_left _ (List.mem_append_right _ mc))
    cases s with
    | pat b e =>
      have q : PyData.strOk b = true ∧ PyData.strOk e = true := t
      refine ok_iff.mpr fun c mc => ?_
      have mc2 : c ∈ TL.tl (b ++ m ++ e) := mc
      rw [TL.tl_append, TL.tl_append] at mc2
      rcases List.mem_append.mp mc2 with mc2 | mc2
      · rcases List.mem_append.mp mc2 with mc2 | mc2
        · exact ok_iff.mp q.1 c mc2
        · exact okm c mc2
      · exact ok_iff.mp q.2 c mc2
    | nm x => exact t
theorem chain_tx {rs : List Rl} {z : Str} (T : ∀ r ∈ rs, RlTx r) (L : ∀ r ∈ rs, RlLen r) (hz : PyData.strOk z = true) {ks : List Nat} {y : Str} (c : Chain rs z ks y) : PyData.strOk y = true ∧ y.length ≤ z.length + 6 * ks.length := by
  induction c with
  | start => exact ⟨hz, Nat.le_add_right _ _⟩
  | step c hr n hy ih =>
    have mr := List.mem_of_getElem? hr
    have a := of_len (L _ mr) hy
    exact ⟨of_tx (T _ mr) ih.1 hy, by rw [List.length_cons]; omega⟩
theorem chain_few {rs : List Rl} {z : Str} {ks : List Nat} {y : Str} (c : Chain rs z ks y) : ks.length ≤ rs.length := by
  have h := chain_lt c
  have q := nodup_len (m := List.range rs.length) h.2 fun k m => List.mem_range.mpr (h.1 k m)
  rwa [List.length_range] at q
/-! all chains with so many rules -/
noncomputable def nextsK (rs : List Rl) (c : List Nat × Str) (k : Nat) : List (List Nat × Str) := if k ∈ c.1 then [] else match rs[k]? with
  | some r => (r.of c.2).map fun y => (k :: c.1, y)
  | none => []
noncomputable def lv (rs : List Rl) (z : Str) : Nat → List (List Nat × Str)
  | 0 => [([], z)]
  | c + 1 => (lv rs z c).flatMap fun p => (List.range rs.length).flatMap (nextsK rs p)
theorem lv_of {rs : List Rl} {z : Str} {ks : List Nat} {y : Str} (c : Chain rs z ks y) : (ks, y) ∈ lv rs z ks.length := by
  induction c with
  | start => exact List.mem_singleton.mpr rfl
  | @step ks z y k r c hr n hy ih =>
    refine List.mem_flatMap.mpr ⟨(ks, z), ih, List.mem_flatMap.mpr ⟨k, List.mem_range.mpr (List.getElem?_eq_some_iff.mp hr).1, ?_⟩⟩
    show (k :: ks, y) ∈ nextsK rs (ks, z) k
    unfold nextsK
    rw [if_neg n, hr]
    exact List.mem_map.mpr ⟨y, hy, rfl⟩
theorem of_le (r : Rl) (z : Str) : (r.of z).length ≤ r.ss.length := by
  cases e : stemO r.b r.e z with
  | none =>
    rw [of_none e]
    exact Nat.zero_le _
  | some m =>
    rw [of_some e, List.length_map]
    exact Nat.le_refl _
theorem nexts_len {rs : List Rl} {m : Nat} (hm : ∀ r ∈ rs, r.ss.length ≤ m) (p : List Nat × Str) : ∀ i, ((List.range i).flatMap (nextsK rs p)).length ≤ cnt p.1 i * m
  | 0 => Nat.zero_le _
  | i + 1 => by
    have ih := nexts_len hm p i
    rw [List.range_succ, List.flatMap_append, List.length_append]
    have one : ([i].flatMap (nextsK rs p)) = nextsK rs p i := by simp
    rw [one]
    by_cases h : i ∈ p.1
    · have e : nextsK rs p i = [] := if_pos h
      rw [e, cnt_in h]
      exact ih
    · rw [cnt_out h, Nat.add_mul, Nat.one_mul]
      have e : (nextsK rs p i).length ≤ m := by
        unfold nextsK
        rw [if_neg h]
        split
        · rename_i r hr
          rw [List.length_map]
          exact Nat.le_trans (of_le r p.2) (hm r (List.mem_of_getElem? hr))
        · exact Nat.zero_le _
      omega
theorem lv_in {rs : List Rl} {z : Str} : ∀ (c : Nat) (p : List Nat × Str), p ∈ lv rs z c → p.1.length = c ∧ Chain rs z p.1 p.2
  | 0, p, h => by
    rw [List.mem_singleton.mp h]
    exact ⟨rfl, .start⟩
  | c + 1, p, h => by
    obtain ⟨q, hq, h2⟩ := List.mem_flatMap.mp h
    obtain ⟨k, _, h3⟩ := List.mem_flatMap.mp h2
    obtain ⟨e, ch⟩ := lv_in c q hq
    unfold nextsK at h3
    split at h3
    · cases h3
    · rename_i n
      split at h3
      · rename_i r hr
        obtain ⟨y, hy, rfl⟩ := List.mem_map.mp h3
        exact ⟨by show _ + 1 = _; rw [e], .step ch hr n hy⟩
      · cases h3
theorem flat_le {α β : Type} {f : α → List β} {b : Nat} : ∀ {l : List α}, (∀ x ∈ l, (f x).length ≤ b) → (l.flatMap f).length ≤ l.length * b
  | [], _ => Nat.zero_le _
  | x :: l, h => by
    have a := flat_le fun y m => h y (List.mem_cons_of_mem _ m)
    have c := h x List.mem_cons_self
    rw [List.flatMap_cons, List.length_append, List.length_cons, Nat.add_mul, Nat.one_mul]
    omega
/-- at most so many chains with c rules -/
def most (n m : Nat) : Nat → Nat
  | 0 => 1
  | c + 1 => most n m c * ((n - c) * m)
theorem lv_len {rs : List Rl} {z : Str} {m : Nat} (hm : ∀ r ∈ rs, r.ss.length ≤ m) : ∀ c, (lv rs z c).length ≤ most rs.length m c
  | 0 => Nat.le_refl _
  | c + 1 => by
    have ih := lv_len (z := z) hm c
    have one : ∀ p ∈ lv rs z c, ((List.range rs.length).flatMap (nextsK rs p)).length ≤ (rs.length - c) * m := fun p mp => by
      obtain ⟨e, ch⟩ := lv_in c p mp
      have lim := chain_lt ch
      have q := cnt_all lim.2 lim.1
      exact Nat.le_trans (nexts_len hm p rs.length) (Nat.mul_le_mul_right _ (by omega))
    exact Nat.le_trans (flat_le one) (Nat.mul_le_mul_right _ ih)
noncomputable def allN (rs : List Rl) (z : Str) : List Str := (List.range (rs.length + 1)).flatMap fun c => (lv rs z c).map (·.2)
theorem all_in {rs : List Rl} {z : Str} {ks : List Nat} {y : Str} (c : Chain rs z ks y) : y ∈ allN rs z :=
  List.mem_flatMap.mpr ⟨ks.length, List.mem_range.mpr (Nat.lt_succ_of_le (chain_few c)), List.mem_map.mpr ⟨_, lv_of c, rfl⟩⟩
def sumM (n m : Nat) : Nat → Nat
  | 0 => 0
  | c + 1 => sumM n m c + most n m c
theorem all_len {rs : List Rl} {z : Str} {m : Nat} (hm : ∀ r ∈ rs, r.ss.length ≤ m) : ∀ i, ((List.range i).flatMap fun c => (lv rs z c).map (·.2)).length ≤ sumM rs.length m i
  | 0 => Nat.le_refl _
  | i + 1 => by
    have ih := all_len (z := z) hm i
    have l := lv_len (z := z) hm i
    rw [List.range_succ, List.flatMap_append, List.length_append]
    have one : ([i].flatMap fun c => (lv rs z c).map (·.2)) = (lv rs z i).map (·.2) := by simp
    rw [one, List.length_map]
    show _ ≤ sumM rs.length m i + most rs.length m i
    omega
/-- what the law draws: up to four rules with two sources, or three with three -/
theorem small_books : ∀ n m, (n ≤ 4 ∧ m = 2) ∨ (n ≤ 3 ∧ m = 3) → sumM n m (n + 1) ≤ 4000 ∧ wgt m n ≤ 1200 ∧ m ≤ 3 := by
  rintro n m (⟨h, rfl⟩ | ⟨h, rfl⟩)
  · rcases n with _ | _ | _ | _ | _ | n
    all_goals first | decide | omega
  · rcases n with _ | _ | _ | _ | n
    all_goals first | decide | omega
theorem ok_draw {most : Nat} {r : Rl} (h : RlOk most r) (m3 : most ≤ 3) : dRule r.d = true ∧ RlTx r := by
  have hl : ∀ x ∈ (["cc", "as", "link"] : List Str), dLabel (.str x) = true := by decide +kernel
  have hp : ∀ b ∈ (["", "A", "B"] : List Str), ∀ e ∈ (["o", "c", "", "s"] : List Str), ¬ (b = "" ∧ e = "") → dPat (.tuple [.str b, .str e]) = true := by decide +kernel
  have h1 : ∀ b ∈ (["", "A", "B", "AB"] : List Str), ∀ e ∈ (["", "c", "o", "s", "co"] : List Str), ¬ (b = "" ∧ e = "") → dSrc1 (.tuple [.str b, .str e]) = true ∧ PyData.strOk b = true ∧ PyData.strOk e = true := by decide +kernel
  have h2 : ∀ x ∈ (["A", "Ac", "Bo", "s", "Ao"] : List Str), dSrc1 (.str x) = true ∧ PyData.strOk x = true := by decide +kernel
  refine ⟨?_, fun s ms => ?_⟩
  · show (dLabel (.str r.lab) && (dPat (.tuple [.str r.b, .str r.e]) && (decide ((r.ss.map Src.d).length ≤ 3) && (r.ss.map Src.d).all dSrc1))) = true
    rw [hl _ h.lab, hp _ h.b _ h.e h.ne, Bool.true_and, Bool.true_and, Bool.and_eq_true, decide_eq_true_eq, List.length_map, List.all_eq_true]
    refine ⟨Nat.le_trans h.len m3, fun d m => ?_⟩
    obtain ⟨s, ms, rfl⟩ := List.mem_map.mp m
    have q := h.ss s ms
    cases s with
    | pat b e =>
      obtain ⟨q1, q2, q3⟩ : b ∈ (["", "A", "B", "AB"] : List Str) ∧ e ∈ (["", "c", "o", "s", "co"] : List Str) ∧ ¬ (b = "" ∧ e = "") := q
      exact (h1 b q1 e q2 q3).1
    | nm x => exact (h2 x q).1
  · have q := h.ss s ms
    cases s with
    | pat b e =>
      obtain ⟨q1, q2, q3⟩ : b ∈ (["", "A", "B", "AB"] : List Str) ∧ e ∈ (["", "c", "o", "s", "co"] : List Str) ∧ ¬ (b = "" ∧ e = "") := q
      exact (h1 b q1 e q2 q3).2
    | nm x => exact (h2 x q).2
/-- all that the calls ask of a drawn book and a name -/
theorem drawn {n m : Nat} {rs : List Rl} {z : Str} (hn : (n = 4 ∧ m = 2) ∨ (n = 3 ∧ m = 3)) (ok : ∀ r ∈ rs, RlOk m r) (le : rs.length ≤ n) (hz : PyData.strOk z = true) (lz : z.length ≤ 900) :
    dBook (.tuple (rs.map Rl.d)) = true ∧ Short rs z (allN rs z) ∧ (∀ r ∈ rs, r.ss.length ≤ m) ∧ m ≤ 3 ∧ wgt m rs.length ≤ 1200 ∧ ∀ ks y, Chain rs z ks y → PyData.strOk y = true ∧ y.length ≤ 1000 := by
  have hm : ∀ r ∈ rs, r.ss.length ≤ m := fun r mr => (ok r mr).len
  obtain ⟨s1, s2, s3⟩ := small_books rs.length m (by omega)
  have dr : ∀ r ∈ rs, dRule r.d = true ∧ RlTx r := fun r mr => ok_draw (ok r mr) s3
  have book : dBook (.tuple (rs.map Rl.d)) = true := by
    show (decide ((rs.map Rl.d).length ≤ 6) && (rs.map Rl.d).all dRule) = true
    rw [Bool.and_eq_true, decide_eq_true_eq, List.length_map, List.all_eq_true]
    refine ⟨by omega, fun d md => ?_⟩
    obtain ⟨r, mr, rfl⟩ := List.mem_map.mp md
    exact (dr r mr).1
  have len := (book_len book).2
  have tx : ∀ ks y, Chain rs z ks y → PyData.strOk y = true ∧ y.length ≤ 1000 := fun ks y c => by
    have q := chain_tx (fun r mr => (dr r mr).2) len hz c
    have f := chain_few c
    exact ⟨q.1, by omega⟩
  refine ⟨book, ⟨fun ks y c => all_in c, Nat.le_trans (all_len hm _) s1, fun y my => ?_⟩, hm, s3, s2, tx⟩
  obtain ⟨c, _, m2⟩ := List.mem_flatMap.mp my
  obtain ⟨p, mp, rfl⟩ := List.mem_map.mp m2
  exact (tx p.1 p.2 (lv_in c p mp).2).2
end Lk

/-! K22g -/
set_option Elab.async false
set_option linter.all false
set_option maxRecDepth 100000
set_option maxHeartbeats 4000000
namespace Lk
open PySem PySem.Spec PyProof.Rows L2
/-! ### the ways, as data -/
def allO : List (Option PyData) → Option (List PyData)
  | [] => some []
  | none :: _ => none
  | some d :: r => (allO r).map (d :: ·)
theorem allO_some : ∀ {l : List (Option PyData)} {ds : List PyData}, allO l = some ds ↔ l = ds.map some
  | [], ds => by
    cases ds with
    | nil => exact ⟨fun _ => rfl, fun _ => rfl⟩
    | cons d ds => exact ⟨(fun h => nomatch (Option.some.inj h)), (fun h => nomatch h)⟩
  | none :: r, ds => by
    cases ds with
    | nil => exact ⟨(fun h => nomatch h), (fun h => nomatch h)⟩
    | cons d ds => exact ⟨fun h => (nomatch h), fun h => by rw [List.map_cons] at h; injection h with h _; cases h⟩
  | some d :: r, ds => by
    show (allO r).map (d :: ·) = some ds ↔ _
    rw [Option.map_eq_some_iff]
    constructor
    · rintro ⟨es, h, rfl⟩
      rw [allO_some.mp h, List.map_cons]
    · intro h
      cases ds with
      | nil => cases h
      | cons e es =>
        rw [List.map_cons] at h
        injection h with h1 h2
        injection h1 with h1
        exact ⟨es, allO_some.mpr h2, by rw [h1]⟩
theorem allO_none : ∀ {l : List (Option PyData)}, allO l = none ↔ none ∈ l
  | [] => ⟨(fun h => nomatch h), (fun h => nomatch h)⟩
  | none :: r => ⟨fun _ => List.mem_cons_self, fun _ => rfl⟩
  | some d :: r => by
    show (allO r).map (d :: ·) = none ↔ _
    rw [Option.map_eq_none_iff, allO_none, List.mem_cons]
    exact ⟨.inr, fun h => h.resolve_left (fun z => nomatch z)⟩
def leafD (z : Str) : PyData := .tuple [.str z]
def nodeD (z lab : Str) (ds : List PyData) : PyData := .tuple (.str z :: .str lab :: ds)
noncomputable def labO (rs : List Rl) (k : Nat) : Str := match rs[k]? with
  | some r => r.lab
  | none => ""
abbrev WRow := Nat × List Str
/-- the rules that are tried, in order -/
noncomputable def tryL (rs : List Rl) (F : List Str) (z : Str) (sp : List Nat) : List WRow := (fitD rs z sp).filter (fun c => decide (∀ s ∈ c.2, s ∈ F)) ++ fitD rs z sp
noncomputable def wayM (rs : List Rl) (F : List Str) : Nat → Str → List Nat → Option PyData
  | 0, z, _ => if z ∈ F then some (leafD z) else none
  | n + 1, z, sp => if z ∈ F then some (leafD z) else (tryL rs F z sp).findSome? fun c => (allO (c.2.map fun s => wayM rs F n s (c.1 :: sp))).map (nodeD z (labO rs c.1))
/-- the way of a name without the spent rules -/
noncomputable def way (rs : List Rl) (F : List Str) (z : Str) (sp : List Nat) : Option PyData := wayM rs F (rs.length - sp.length) z sp
theorem fit_perm {rs : List Rl} {z : Str} {sp sp' : List Nat} (h : ∀ k, k ∈ sp ↔ k ∈ sp') : fitD rs z sp = fitD rs z sp' := by
  unfold fitD
  congr 1
  funext c
  unfold rowOf
  by_cases e : c.2 ∈ sp
  · rw [if_pos e, if_pos ((h _).mp e)]
  · rw [if_neg e, if_neg (fun z => e ((h _).mpr z))]
theorem try_perm {rs : List Rl} {F : List Str} {z : Str} {sp sp' : List Nat} (h : ∀ k, k ∈ sp ↔ k ∈ sp') : tryL rs F z sp = tryL rs F z sp' := by
  unfold tryL
  rw [fit_perm h]
theorem wayM_perm {rs : List Rl} {F : List Str} : ∀ (n : Nat) {z : Str} {sp sp' : List Nat}, (∀ k, k ∈ sp ↔ k ∈ sp') → wayM rs F n z sp = wayM rs F n z sp'
  | 0, _, _, _, _ => rfl
  | n + 1, z, sp, sp', h => by
    unfold wayM
    rw [try_perm h]
    congr 2
    funext c
    congr 2
    refine List.map_congr_left fun s _ => wayM_perm n fun k => ?_
    rw [List.mem_cons, List.mem_cons, h]
theorem way_perm {rs : List Rl} {F : List Str} {z : Str} {sp sp' : List Nat} (h : sp.Perm sp') : way rs F z sp = way rs F z sp' := by
  unfold way
  rw [h.length_eq]
  exact wayM_perm _ fun k => h.mem_iff
theorem fit_row {rs : List Rl} {z : Str} {sp : List Nat} {c : WRow} (h : c ∈ fitD rs z sp) : ∃ r, rs[c.1]? = some r ∧ c.1 ∉ sp ∧ (∃ m, stemO r.b r.e z = some m ∧ c.2 = r.ss.map (Src.put m)) ∧ c.2 = r.of z := by
  obtain ⟨p, hp, e⟩ := List.mem_filterMap.mp h
  obtain ⟨r, i⟩ := p
  have z1 := List.mem_zipIdx_iff_getElem?.mp hp
  by_cases hi : i ∈ sp
  · rw [row_no (.inr hi)] at e
    cases e
  · cases hst : stemO r.b r.e z with
    | none =>
      rw [row_no (.inl hst)] at e
      cases e
    | some m =>
      rw [row_yes hst hi] at e
      cases e
      exact ⟨r, z1, hi, ⟨m, hst, rfl⟩, (of_some hst).symm⟩
theorem mem_full {n : Nat} {sp : List Nat} (nd : sp.Nodup) (lt : ∀ k ∈ sp, k < n) (h : n ≤ sp.length) {k : Nat} (hk : k < n) : k ∈ sp := by
  apply Classical.byContradiction
  intro no
  have z := nodup_len (l := k :: sp) (m := List.range n) (List.nodup_cons.mpr ⟨no, nd⟩) fun j m => by
    rcases List.mem_cons.mp m with e | m
    · rw [e]
      exact List.mem_range.mpr hk
    · exact List.mem_range.mpr (lt j m)
  rw [List.length_cons, List.length_range] at z
  omega
theorem fit_full {rs : List Rl} {z : Str} {sp : List Nat} (nd : sp.Nodup) (lt : ∀ k ∈ sp, k < rs.length) (h : rs.length ≤ sp.length) : fitD rs z sp = [] := by
  cases e : fitD rs z sp with
  | nil => rfl
  | cons c l =>
    obtain ⟨r, hr, n, _⟩ := fit_row (show c ∈ fitD rs z sp by rw [e]; exact List.mem_cons_self)
    exact absurd (mem_full nd lt h (List.getElem?_eq_some_iff.mp hr).1) n
theorem way_in {rs : List Rl} {F : List Str} {z : Str} {sp : List Nat} (h : z ∈ F) : way rs F z sp = some (leafD z) := by
  unfold way
  cases rs.length - sp.length with
  | zero => exact if_pos h
  | succ n => exact if_pos h
/-- what a row gives -/
noncomputable def rowW (rs : List Rl) (F : List Str) (z : Str) (sp : List Nat) (c : WRow) : Option PyData := (allO (c.2.map fun s => way rs F s (c.1 :: sp))).map (nodeD z (labO rs c.1))
theorem way_out {rs : List Rl} {F : List Str} {z : Str} {sp : List Nat} (nd : sp.Nodup) (lt : ∀ k ∈ sp, k < rs.length) (h : z ∉ F) : way rs F z sp = (tryL rs F z sp).findSome? (rowW rs F z sp) := by
  cases e : rs.length - sp.length with
  | zero =>
    have f := fit_full (z := z) nd lt (by omega)
    unfold way tryL
    rw [e, f]
    exact if_neg h
  | succ n =>
    unfold way
    rw [e]
    show (if z ∈ F then _ else _) = _
    rw [if_neg h]
    congr 1
    funext c
    unfold rowW way
    congr 2
    refine List.map_congr_left fun s _ => ?_
    have e2 : rs.length - (c.1 :: sp).length = n := by
      rw [List.length_cons]
      omega
    rw [e2]
theorem row_ready {rs : List Rl} {F : List Str} {z : Str} {sp : List Nat} {c : WRow} (h : ∀ s ∈ c.2, s ∈ F) : rowW rs F z sp c = some (nodeD z (labO rs c.1) (c.2.map leafD)) := by
  unfold rowW
  have e : c.2.map (fun s => way rs F s (c.1 :: sp)) = (c.2.map leafD).map some := by
    rw [List.map_map]
    exact List.map_congr_left fun s m => way_in (h s m)
  rw [allO_some.mpr e]
  rfl
/-- one with all its sources there, the first such one -/
theorem way_ready {rs : List Rl} {F : List Str} {z : Str} {sp : List Nat} (nd : sp.Nodup) (lt : ∀ k ∈ sp, k < rs.length) (h : z ∉ F) {i : Nat} {c : WRow} (hc : (fitD rs z sp)[i]? = some c) (no : ∀ d ∈ (fitD rs z sp).take i, ¬ ∀ s ∈ d.2, s ∈ F) (hr : ∀ s ∈ c.2, s ∈ F) :
    way rs F z sp = some (nodeD z (labO rs c.1) (c.2.map leafD)) := by
  rw [way_out nd lt h]
  unfold tryL
  have e : fitD rs z sp = (fitD rs z sp).take i ++ c :: (fitD rs z sp).drop (i + 1) := by
    have q := (List.getElem?_eq_some_iff.mp hc)
    obtain ⟨q1, q2⟩ := q
    rw [← q2, List.getElem_cons_drop, List.take_append_drop]
  have f : ((fitD rs z sp).take i).filter (fun c => decide (∀ s ∈ c.2, s ∈ F)) = [] := by
    rw [List.filter_eq_nil_iff]
    intro d md q
    exact no d md (of_decide_eq_true q)
  have g : (fitD rs z sp).filter (fun c => decide (∀ s ∈ c.2, s ∈ F)) = c :: ((fitD rs z sp).drop (i + 1)).filter (fun c => decide (∀ s ∈ c.2, s ∈ F)) := by
    conv => lhs; rw [e]
    rw [List.filter_append, f, List.nil_append, List.filter_cons, if_pos (decide_eq_true hr)]
  rw [g, List.cons_append, List.findSome?_cons, row_ready hr]
/-- none with all its sources there: they are tried once -/
theorem way_once {rs : List Rl} {F : List Str} {z : Str} {sp : List Nat} (nd : sp.Nodup) (lt : ∀ k ∈ sp, k < rs.length) (h : z ∉ F) (no : ∀ d ∈ fitD rs z sp, ¬ ∀ s ∈ d.2, s ∈ F) : way rs F z sp = (fitD rs z sp).findSome? (rowW rs F z sp) := by
  rw [way_out nd lt h]
  unfold tryL
  have f : (fitD rs z sp).filter (fun c => decide (∀ s ∈ c.2, s ∈ F)) = [] := by
    rw [List.filter_eq_nil_iff]
    intro d md q
    exact no d md (of_decide_eq_true q)
  rw [f, List.nil_append]
theorem first_at {α β : Type} {f : α → Option β} {L : List α} {i : Nat} {c : α} {d : β} (hc : L[i]? = some c) (no : (L.take i).findSome? f = none) (hd : f c = some d) : L.findSome? f = some d := by
  have e : L = L.take i ++ c :: L.drop (i + 1) := by
    obtain ⟨q1, q2⟩ := List.getElem?_eq_some_iff.mp hc
    rw [← q2, List.getElem_cons_drop, List.take_append_drop]
  rw [e, List.findSome?_append, no, List.findSome?_cons, hd]
  rfl
theorem first_no {α β : Type} {f : α → Option β} {L : List α} {i : Nat} {c : α} (hc : L[i]? = some c) (no : (L.take i).findSome? f = none) (hd : f c = none) : (L.take (i + 1)).findSome? f = none := by
  rw [List.take_add_one, hc, List.findSome?_append, no]
  show ([c] : List α).findSome? f = none
  rw [List.findSome?_cons, hd]
  rfl
/-- a way: what it is made of -/
inductive IsW (rs : List Rl) (F : List Str) : Nat → Str → List Nat → PyData → Prop
  | leaf {n : Nat} {z : Str} {sp : List Nat} : z ∈ F → IsW rs F n z sp (leafD z)
  | node {n : Nat} {z : Str} {sp : List Nat} {c : WRow} {ds : List PyData} : z ∉ F → c ∈ fitD rs z sp → ds.length = c.2.length → (∀ (i : Nat) (s : Str) (d : PyData), c.2[i]? = some s → ds[i]? = some d → way rs F s (c.1 :: sp) = some d) → (∀ (i : Nat) (s : Str) (d : PyData), c.2[i]? = some s → ds[i]? = some d → IsW rs F n s (c.1 :: sp) d) → IsW rs F (n + 1) z sp (nodeD z (labO rs c.1) ds)
theorem isW_mono {rs : List Rl} {F : List Str} {n m : Nat} {z : Str} {sp : List Nat} {d : PyData} (h : IsW rs F n z sp d) (le : n ≤ m) : IsW rs F m z sp d := by
  induction h generalizing m with
  | leaf h => exact .leaf h
  | node h1 h2 h3 h4 h5 ih =>
    cases m with
    | zero => omega
    | succ m => exact .node h1 h2 h3 h4 fun i s d a b => ih i s d a b (by omega)
theorem way_isW {rs : List Rl} {F : List Str} : ∀ (n : Nat) {z : Str} {sp : List Nat} {d : PyData}, sp.Nodup → (∀ k ∈ sp, k < rs.length) → rs.length ≤ sp.length + n → way rs F z sp = some d → IsW rs F n z sp d := by
  intro n
  induction n with
  | zero =>
    intro z sp d nd lt le h
    by_cases hz : z ∈ F
    · rw [way_in hz] at h
      cases h
      exact .leaf hz
    · rw [way_out nd lt hz] at h
      unfold tryL at h
      rw [fit_full nd lt (by omega)] at h
      cases h
  | succ n ih =>
    intro z sp d nd lt le h
    by_cases hz : z ∈ F
    · rw [way_in hz] at h
      cases h
      exact .leaf hz
    · rw [way_out nd lt hz] at h
      obtain ⟨c, mc, e⟩ := List.exists_of_findSome?_eq_some h
      have mc2 : c ∈ fitD rs z sp := by
        rcases List.mem_append.mp mc with m | m
        · exact (List.mem_filter.mp m).1
        · exact m
      unfold rowW at e
      obtain ⟨ds, hd, rfl⟩ := Option.map_eq_some_iff.mp e
      have q := allO_some.mp hd
      obtain ⟨r, hr, no, _⟩ := fit_row mc2
      have len : ds.length = c.2.length := by
        have y := congrArg List.length q
        rw [List.length_map, List.length_map] at y
        exact y.symm
      have each : ∀ (i : Nat) (s : Str) (d : PyData), c.2[i]? = some s → ds[i]? = some d → way rs F s (c.1 :: sp) = some d := fun i s d hs hd => by
        have y := congrArg (fun l => l[i]?) q
        simp only [List.getElem?_map, hs, hd, Option.map_some] at y
        exact Option.some.inj y
      refine .node hz mc2 len each fun i s d hs hd => ih (List.nodup_cons.mpr ⟨no, nd⟩) (fun k mk => ?_) (by rw [List.length_cons]; omega) (each i s d hs hd)
      rcases List.mem_cons.mp mk with e | mk
      · rw [e]
        exact (List.getElem?_eq_some_iff.mp hr).1
      · exact lt k mk
end Lk

/-! K22r -/
set_option Elab.async false
set_option linter.all false
set_option maxRecDepth 100000
set_option maxHeartbeats 4000000
namespace Lk
open PySem PySem.Spec PyProof.Rows L2
/-! ### the program's search -/
def flds (q d1 kd : Addr) : List (Str × V) := putF "known" (.ref kd) (putF "there" (.ref d1) (putF "book" (.ref q) []))
theorem kbt : ¬ (("book" : Str) = "there") := by decide +kernel
theorem kbk : ¬ (("book" : Str) = "known") := by decide +kernel
theorem ktk : ¬ (("there" : Str) = "known") := by decide +kernel
theorem flds_known (q d1 kd : Addr) : (flds q d1 kd).lookup ("known" : Str) = some (.ref kd) := by
  unfold flds
  rw [lookup_putF, if_pos rfl]
theorem flds_there (q d1 kd : Addr) : (flds q d1 kd).lookup ("there" : Str) = some (.ref d1) := by
  unfold flds
  rw [lookup_putF, if_neg ktk, lookup_putF, if_pos rfl]
theorem flds_book (q d1 kd : Addr) : (flds q d1 kd).lookup ("book" : Str) = some (.ref q) := by
  unfold flds
  rw [lookup_putF, if_neg kbk, lookup_putF, if_neg kbt, lookup_putF, if_pos rfl]
theorem flds_no (q d1 kd : Addr) {m : Str} (h1 : ¬ m = "known") (h2 : ¬ m = "there") (h3 : ¬ m = "book") : (flds q d1 kd).lookup m = none := by
  unfold flds
  rw [lookup_putF, if_neg h1, lookup_putF, if_neg h2, lookup_putF, if_neg h3]
  all_goals rfl
structure SCls (K : PySem.W.Frag) (C : Addr) : Prop where
  cl : Cls K C
  nB : NoAttr K C "book"
  nT : NoAttr K C "there"
  nK : NoAttr K C "known"
/-- what a value tells: a way, or None -/
def RW (K : PySem.W.Frag) (H : Hp) (v : V) : Option PyData → Prop
  | none => v = .non
  | some d => Th K H v d ∧ onlyT d = true
theorem RW.tups {K : PySem.W.Frag} {H H' : Hp} {v : V} {o : Option PyData} (h : RW K H v o) (t : Tups H H') : RW K H' v o := by
  cases o with
  | none => exact h
  | some d => exact ⟨th_tups t h.1 h.2, h.2⟩
/-- the places that are asked for: few, of short names -/
structure OkR (rs : List Rl) (Ok : Place → Prop) : Prop where
  bk : dBook (.tuple (rs.map Rl.d)) = true
  tx : ∀ p, Ok p → PyData.strOk p.1 = true ∧ p.1.length ≤ 1000
  nd : ∀ p, Ok p → p.2.Nodup ∧ ∀ k ∈ p.2, k < rs.length
  cl : ∀ p p', Ok p → Succ rs p p' → Ok p'
  fin : ∃ L : List Place, L.length ≤ 100000 ∧ ∀ p, Ok p → p ∈ L
structure SAt (P : Program) (w : World) (K : PySem.W.Frag) (C : Addr) (H : Hp) (o q d1 kd : Addr) (rs : List Rl) (F : List Str) (Ok : Place → Prop) : Prop where
  ob : ∃ dx, H o = some (.ins C dx (flds q d1 kd))
  bk : ∃ xs, SqT K H q xs ∧ ThAll K H xs (rs.map Rl.d)
  th : H d1 = some (.dK (dk F))
  ne : d1 ≠ kd
  kn : ∃ kvs, NAt P w H kd kvs ∧ (kvs.map (·.1)).Nodup ∧ ∀ p v, (p, v) ∈ kvs → Ok p ∧ RW K H v (way rs F p.1 p.2)
theorem book_onlyT {rs : List Rl} : onlyTs (rs.map Rl.d) = true := onlyTs_all.mpr fun d m => by
  obtain ⟨r, _, rfl⟩ := List.mem_map.mp m
  have z : onlyTs (r.ss.map Src.d) = true := onlyTs_all.mpr fun d m => by
    obtain ⟨s, _, rfl⟩ := List.mem_map.mp m
    cases s <;> rfl
  simp [Rl.d, onlyT, onlyTs, z]
section
variable {P : Program} {w : World} {K : PySem.W.Frag} {C o q d1 kd : Addr} {H H' : Hp} {rs : List Rl} {F : List Str} {Ok : Place → Prop}
theorem SAt.nkd (S : SAt P w K C H o q d1 kd rs F Ok) : (∀ ys, H kd ≠ some (.tup ys)) ∧ (∀ ob u, H kd ≠ some (.frz ob u)) ∧ (∀ c dx fs, H kd ≠ some (.ins c dx fs)) ∧ (∀ ys, H kd ≠ some (.lst ys)) ∧ ∃ u, H kd = some u := by
  obtain ⟨kvs, g, _⟩ := S.kn
  refine ⟨fun ys => g.notup, fun ob u => g.nofrz, ?_⟩
  obtain ⟨_, ⟨_, e⟩ | ⟨xs, e, _⟩⟩ := g
  · rw [e]
    exact ⟨(fun _ _ _ z => nomatch z), (fun _ z => nomatch z), _, rfl⟩
  · rw [e]
    exact ⟨(fun _ _ _ z => nomatch z), (fun _ z => nomatch z), _, rfl⟩
theorem SAt.tups (S : SAt P w K C H o q d1 kd rs F Ok) (b : But kd H H') : Tups H H' := b.tups S.nkd.1 S.nkd.2.1
theorem SAt.step (S : SAt P w K C H o q d1 kd rs F Ok) (b : But kd H H') (kn : ∃ kvs, NAt P w H' kd kvs ∧ (kvs.map (·.1)).Nodup ∧ ∀ p v, (p, v) ∈ kvs → Ok p ∧ RW K H' v (way rs F p.1 p.2)) : SAt P w K C H' o q d1 kd rs F Ok := by
  have t := S.tups b
  obtain ⟨dx, ob⟩ := S.ob
  obtain ⟨xs, h1, h2⟩ := S.bk
  exact ⟨⟨dx, b _ _ ob fun z => S.nkd.2.2.1 _ _ _ (z ▸ ob)⟩, ⟨xs, t.seqT h1, thAll_tups t h2 book_onlyT⟩, b _ _ S.th S.ne, S.ne, kn⟩
theorem SAt.same (S : SAt P w K C H o q d1 kd rs F Ok) (s : Same H H') : SAt P w K C H' o q d1 kd rs F Ok := by
  obtain ⟨kvs, g, nd, each⟩ := S.kn
  exact S.step (Same.but s) ⟨kvs, g.same (fun u h => s _ _ h) (fun b ys h => s _ _ h), nd, fun p v m => ⟨(each p v m).1, (each p v m).2.tups (Same.tups s)⟩⟩
theorem dk_val {F : List Str} {z : Str} : (valV (dk F) (Sum.inr z : Key)).isSome = decide (z ∈ F) := by
  rw [← valV_any, Bool.eq_iff_iff, List.any_eq_true, decide_eq_true_iff]
  constructor
  · rintro ⟨p, hp, e⟩
    obtain ⟨y, hy, rfl⟩ := List.mem_map.mp hp
    have e2 : (Sum.inr y : Key) = Sum.inr z := of_decide_eq_true e
    injection e2 with e2
    exact e2 ▸ hy
  · intro h
    exact ⟨_, List.mem_map.mpr ⟨z, h, rfl⟩, decide_eq_true rfl⟩
theorem ok_few (O : OkR rs Ok) {kvs : List (NK × V)} (nd : (kvs.map (·.1)).Nodup) (each : ∀ p v, (p, v) ∈ kvs → Ok p) : kvs.length ≤ 100000 := by
  obtain ⟨L, l, h⟩ := O.fin
  have z := nodup_len nd fun p m => by
    obtain ⟨e, he, rfl⟩ := List.mem_map.mp m
    exact h _ (each e.1 e.2 he)
  rw [List.length_map] at z
  omega
end
def spTold (P : Program) (w : World) (K : PySem.W.Frag) (C : Addr) (m : Nat) : Sp := fun vs H Q _ => ∃ (o q d1 kd t : Addr) (rs : List Rl) (F : List Str) (z : Str) (ns : List Nat) (Ok : Place → Prop), vs = [.ref o, .str z, .ref t] ∧ SAt P w K C H o q d1 kd rs F Ok ∧ OkR rs Ok ∧
  H t = some (.tup (ns.map fun n : Nat => V.int (n : Int))) ∧ Ok (z, ns) ∧ rs.length + 1 ≤ ns.length + m ∧ ∀ (v : V) (H' : Hp), But kd H H' → SAt P w K C H' o q d1 kd rs F Ok → RW K H' v (way rs F z ns) → Q v H'
def spFirst (P : Program) (w : World) (K : PySem.W.Frag) (C : Addr) (m : Nat) : Sp := fun vs H Q _ => ∃ (o q d1 kd t : Addr) (rs : List Rl) (F : List Str) (z : Str) (ns : List Nat) (Ok : Place → Prop), vs = [.ref o, .str z, .ref t] ∧ SAt P w K C H o q d1 kd rs F Ok ∧ OkR rs Ok ∧
  H t = some (.tup (ns.map fun n : Nat => V.int (n : Int))) ∧ Ok (z, ns) ∧ z ∉ F ∧ rs.length + 1 ≤ ns.length + m ∧ ∀ (v : V) (H' : Hp), But kd H H' → SAt P w K C H' o q d1 kd rs F Ok → RW K H' v (way rs F z ns) → Q v H'
def spMiss (P : Program) (w : World) (K : PySem.W.Frag) (C : Addr) (m : Nat) : Sp := fun vs H Q _ => ∃ (o q d1 kd t l : Addr) (rs : List Rl) (F : List Str) (ss : List Str) (ns : List Nat) (Ok : Place → Prop), vs = [.ref o, .ref l, .ref t] ∧ SAt P w K C H o q d1 kd rs F Ok ∧ OkR rs Ok ∧
  H t = some (.tup (ns.map fun n : Nat => V.int (n : Int))) ∧ H l = some (.lst (ss.map V.str)) ∧ (∀ s ∈ ss, Ok (s, ns)) ∧ rs.length + 1 ≤ ns.length + m ∧
  ∀ H', But kd H H' → SAt P w K C H' o q d1 kd rs F Ok → Q (vO (ss.find? fun s => (way rs F s ns).isNone)) H'
def spOneMore (K : PySem.W.Frag) : Sp := fun vs H Q _ => ∃ (t : Addr) (ns : List Nat) (k : Nat), vs = [.ref t, .int (k : Int)] ∧ SqT K H t (ns.map fun n : Nat => V.int (n : Int)) ∧ ns.length ≤ 1000 ∧
  ∀ p H', Same H H' → H p = none → H' p = some (.tup ((srt (ns ++ [k])).map fun n : Nat => V.int (n : Int))) → Q (.ref p) H'
section
variable {P : Program} {w : World} {K : PySem.W.Frag} {mg : Str → Option Value} {base : Heap} {C : Addr}
theorem sc_told : FnScope ["self", "name", "spent", "key"] ["self", "name", "spent"] (defScope s_Search_told) := ⟨rfl, rfl, rfl, by decide +kernel, rfl, by decide +kernel, by decide +kernel⟩
theorem cal_told {m j : Nat} (D : DefM K C "told" "Search.told" s_Search_told) (cl : SCls K C) (CR : MCal P w K mg base C j "first_right" (spFirst P w K C m)) : MCal P w K mg base C (j + 1) "told" (spTold P w K C m) := by
  refine mkMCal D sc_told (fun _ _ _ _ _ _ us hl => match us, hl with | [_, _, _], _ => rfl) (fun vs H Q E h => ?_) (fun f cdv A outer s H vs Q E hr h => ?_)
  · obtain ⟨o, q, d1, kd, t, rs, F, z, ns, Ok, rfl, _⟩ := h
    rfl
  · obtain ⟨o, q, d1, kd, t, rs, F, z, ns, Ok, rfl, S, O, ht, okp, le, k⟩ := h
    refine ⟨_, (pss_cons (ps_if (pt_cmp (pc_din (units1 hr.units) (pv 1) (pe_fld (pv 0) rfl))) (pss_one (ps_ret (pe_tup (pa_cons (pv 1) pa_nil)))) pss_nil)
    (pss_cons (ps_set (i := 3) sc_told.nd rfl (.inl rfl) (pe_tup (pa_cons (pv 1) (pa_cons (pv 2) pa_nil))))
    (pss_cons (ps_if (pt_cmp (pc_nnotin (u9 hr) (pv 3) (pe_fld (pv 0) rfl))) (pss_one (ps_nput (u9 hr) (pe_fld (pv 0) rfl) (pv 3) (pe_mcal CR cl.cl hr (by omega) (pv 0) (pa_cons (pv 1) (pa_cons (pv 2) pa_nil))) (by rfl))) pss_nil)
    (pss_one (ps_ret (pe_nget (u9 hr) (pe_fld (pv 0) rfl) (pv 3) (fun _ _ => rfl))))))), ?_⟩
    obtain ⟨dx, hob⟩ := S.ob
    refine ⟨_, rfl, _, rfl, o, C, dx, _, _, rfl, hob, cl.cl, cl.nT, flds_there _ _ _, d1, _, rfl, DGet.k (k := Sum.inr z) S.th, _, rfl, ?_⟩
    by_cases hz : z ∈ F
    · refine iteT' (by rw [dk_val, decide_eq_true hz]) ?_
      refine ⟨_, rfl, (by show 1 ≤ sizeLine; decide), fun p np => ?_⟩
      have s1 : Same H (upd H p (.tup [.str z])) := same_upd np
      refine k (.ref p) _ (Same.but s1) (S.same s1) ?_
      rw [way_in hz]
      exact ⟨.tup (SqT.of upd_same) (.cons (.str z) .nil), rfl⟩
    · refine iteF' (by rw [dk_val, decide_eq_false hz]) ?_
      refine ⟨_, rfl, _, rfl, (by show 2 ≤ sizeLine; decide), fun b nb => ?_⟩
      have s1 : Same H (upd H b (.tup [.str z, .ref t])) := same_upd nb
      have kb : KeyAt (upd H b (.tup [.str z, .ref t])) b (z, ns) := ⟨t, upd_same, s1 _ _ ht⟩
      have S1 := S.same s1
      have ht1 := s1 _ _ ht
      have hob1 := s1 _ _ hob
      generalize upd H b (.tup [.str z, .ref t]) = H1 at s1 kb S1 ht1 hob1 ⊢
      obtain ⟨kvs, g, nd, each⟩ := S1.kn
      refine ⟨_, rfl, _, rfl, o, C, dx, _, _, rfl, hob1, cl.cl, cl.nK, flds_known _ _ _, kd, b, (z, ns), kvs, rfl, rfl, g, kb, _, rfl, ?_⟩
      cases hv : valV kvs ((z, ns) : NK) with
      | some v =>
        refine iteF' rfl ?_
        refine ⟨_, rfl, o, C, dx, _, _, rfl, hob1, cl.cl, cl.nK, flds_known _ _ _, _, rfl, kd, b, (z, ns), kvs, v, rfl, rfl, g, kb, hv, ?_⟩
        exact k v H1 (Same.but s1) S1 (each _ _ (valV_mem hv)).2
      | none =>
        refine iteT' rfl ?_
        refine ⟨_, rfl, o, dx, _, rfl, hob1, flds_no _ _ _ (by decide +kernel) (by decide +kernel) (by decide +kernel), _, rfl, _, rfl, o, q, d1, kd, t, rs, F, z, ns, Ok, rfl, S1, O, ht1, okp, hz, le, fun v H2 but2 S2 rw2 => ?_⟩
        obtain ⟨dx2, hob2⟩ := S2.ob
        obtain ⟨kvs2, g2, nd2, each2⟩ := S2.kn
        have few := ok_few O nd2 fun p v m => (each2 p v m).1
        have kb2 : KeyAt H2 b (z, ns) := kb.keeps (S1.tups but2).1
        refine ⟨_, rfl, o, C, dx2, _, _, rfl, hob2, cl.cl, cl.nK, flds_known _ _ _, _, rfl, kd, b, (z, ns), kvs2, rfl, rfl, g2, kb2, by rw [sizeLine_eq]; omega, fun u g3 => ?_⟩
        have but3 : But kd H2 (upd H2 kd u) := (But.refl kd H2).upd
        have t3 := S2.tups but3
        have S3 : SAt P w K C (upd H2 kd u) o q d1 kd rs F Ok := S2.step but3 ⟨_, g3, putK_keys nd2, fun p v' m => by
          rcases putK_mem m with m | m
          · exact ⟨(each2 p v' m).1, (each2 p v' m).2.tups t3⟩
          · cases m
            exact ⟨okp, rw2.tups t3⟩⟩
        have kb3 := kb2.keeps t3.1
        have rw3 := rw2.tups t3
        have all : But kd H (upd H2 kd u) := ((Same.but s1).trans but2).trans but3
        generalize upd H2 kd u = H3 at g3 but3 t3 S3 kb3 rw3 all ⊢
        obtain ⟨dx3, hob3⟩ := S3.ob
        refine ⟨_, rfl, o, C, dx3, _, _, rfl, hob3, cl.cl, cl.nK, flds_known _ _ _, _, rfl, kd, b, (z, ns), _, v, rfl, rfl, g3, kb3, valV_put_self, ?_⟩
        exact k v H3 all S3 rw3
end
end Lk

/-! K22c -/
set_option Elab.async false
set_option linter.all false
set_option maxRecDepth 100000
set_option maxHeartbeats 4000000
namespace Lk
open PySem PySem.Spec PyProof.Rows L2
section
variable {P : Program} {w : World} {K : PySem.W.Frag} {C o q d1 kd D : Addr} {H H' : Hp} {rs : List Rl} {F : List Str} {Ok : Place → Prop}
theorem upd_tups {ys : List V} {u : HO} (h : H D = some (.lst ys)) : Tups H (upd H D u) :=
  ⟨fun b xs e => by rw [upd_ne (ne_of e h (fun z => nomatch z))]; exact e, fun b ob u' e => by rw [upd_ne (ne_of e h (fun z => nomatch z))]; exact e⟩
theorem SAt.mut (S : SAt P w K C H o q d1 kd rs F Ok) {ys : List V} {u : HO} (h : H D = some (.lst ys)) : SAt P w K C (upd H D u) o q d1 kd rs F Ok := by
  have t := upd_tups (u := u) h
  obtain ⟨dx, ob⟩ := S.ob
  obtain ⟨xs, h1, h2⟩ := S.bk
  obtain ⟨kvs, g, nd, each⟩ := S.kn
  have nD : kd ≠ D := fun z => S.nkd.2.2.2.1 ys (z ▸ h)
  refine ⟨⟨dx, by rw [upd_ne (ne_of ob h (fun z => nomatch z))]; exact ob⟩, ⟨xs, t.seqT h1, thAll_tups t h2 book_onlyT⟩, by rw [upd_ne (ne_of S.th h (fun z => nomatch z))]; exact S.th, S.ne, kvs, g.same (fun u' e => by rw [upd_ne nD]; exact e) t.1, nd, fun p v m => ⟨(each p v m).1, (each p v m).2.tups t⟩⟩
theorem way_tup {z : Str} {sp : List Nat} (nd : sp.Nodup) (lt : ∀ k ∈ sp, k < rs.length) {d : PyData} (h : way rs F z sp = some d) : ∃ ds, d = .tuple ds := by
  by_cases hz : z ∈ F
  · rw [way_in hz] at h
    cases h
    exact ⟨_, rfl⟩
  · rw [way_out nd lt hz] at h
    obtain ⟨c, mc, e⟩ := List.exists_of_findSome?_eq_some h
    unfold rowW at e
    obtain ⟨ds, hd, rfl⟩ := Option.map_eq_some_iff.mp e
    exact ⟨_, rfl⟩
theorem rw_non (O : OkR rs Ok) {v : V} {z : Str} {ns : List Nat} (ok : Ok (z, ns)) (h : RW K H v (way rs F z ns)) : decide (v = .non) = (way rs F z ns).isNone := by
  cases e : way rs F z ns with
  | none =>
    rw [e] at h
    have h2 : v = .non := h
    rw [h2]
    rfl
  | some d =>
    rw [e] at h
    obtain ⟨ds, rfl⟩ := way_tup (O.nd _ ok).1 (O.nd _ ok).2 e
    obtain ⟨h1, _⟩ := h
    cases h1
    rfl
theorem find_none {ss : List Str} {ns : List Nat} (h : ss.find? (fun s => (way rs F s ns).isNone) = none) : ∀ s ∈ ss, ∃ d, way rs F s ns = some d := fun s m => by
  have z := List.find?_eq_none.mp h s m
  cases e : way rs F s ns with
  | none =>
    rw [e] at z
    exact absurd rfl z
  | some d => exact ⟨d, rfl⟩
theorem find_some {ss : List Str} {ns : List Nat} {s : Str} (h : ss.find? (fun s => (way rs F s ns).isNone) = some s) : s ∈ ss ∧ way rs F s ns = none := by
  refine ⟨List.mem_of_find?_eq_some h, ?_⟩
  have z := List.find?_some h
  cases e : way rs F s ns with
  | none => rfl
  | some d =>
    rw [e] at z
    cases z
end
section
variable {P : Program} {w : World} {K : PySem.W.Frag} {mg : Str → Option Value} {base : Heap} {C : Addr}
theorem sc_onemore : FnScope ["spent", "number"] ["spent", "number"] (defScope s_p_with_one_more) := ⟨rfl, rfl, rfl, by decide +kernel, rfl, by decide +kernel, by decide +kernel⟩
theorem cal_onemore (D : Def1 K mg "with_one_more" s_p_with_one_more) (T : Glc mg) (gs : mg "sorted" = none) : Cal P w K mg base 1 "with_one_more" (spOneMore K) := by
  refine mkCal D sc_onemore (fun _ _ _ _ _ _ us hl => match us, hl with | [_, _], _ => rfl) (fun vs H Q E h => ?_) (fun f cdv A outer s H vs Q E hr h => ?_)
  · obtain ⟨t, ns, k, rfl, _⟩ := h
    rfl
  · obtain ⟨t, ns, k, rfl, ht, few, kk⟩ := h
    refine ⟨_, (pss_one (ps_ret (pe_callTy call_tuple_of (by rfl) T.tuple (by decide +kernel) (pa_cons (pe_callB (call_sortT hr.units) (by rfl) gs (by decide +kernel) (pa_cons (pe_tup (StX.pa_star (pv 0) (pa_cons (pv 1) pa_nil))) pa_nil)) pa_nil)))), ?_⟩
    refine ⟨_, rfl, t, _, rfl, .inl ht, _, rfl, ?_⟩
    have e1 : (ns.map fun n : Nat => V.int (n : Int)) ++ ([V.int (k : Int)] ++ []) = ((ns ++ [k]).map fun n : Nat => (n : Int)).map V.int := by
      rw [List.map_append, List.map_append, List.map_map]
      rfl
    refine ⟨by rw [List.length_append, List.length_map, sizeLine_eq]; show ns.length + 1 ≤ _; omega, fun u nu => ?_⟩
    refine ⟨u, (ns ++ [k]).map fun n : Nat => (n : Int), rfl, SqT.of (by rw [upd_same]; exact congrArg (fun l => some (HO.tup l)) e1), fun ns' p pm pw np => ?_⟩
    have e := nat_out pm pw
    subst e
    refine ⟨p, _, rfl, .inl ⟨SqL.of upd_same, fun b nb => ?_⟩⟩
    refine kk b _ (((same_upd nu).trans (same_upd np)).trans (same_upd nb)) ?_ ?_
    · exact (same_upd nu).free ((same_upd np).free nb)
    · rw [upd_same, List.map_map]
      rfl
theorem sc_missing : FnScope ["self", "names", "spent", "name"] ["self", "names", "spent"] (defScope s_Search_missing) := ⟨rfl, rfl, rfl, by decide +kernel, rfl, by decide +kernel, by decide +kernel⟩
theorem cal_missing {m j : Nat} (D : DefM K C "missing" "Search.missing" s_Search_missing) (cl : SCls K C) (CT : MCal P w K mg base C j "told" (spTold P w K C m)) : MCal P w K mg base C (j + 1) "missing" (spMiss P w K C m) := by
  refine mkMCal D sc_missing (fun _ _ _ _ _ _ us hl => match us, hl with | [_, _, _], _ => rfl) (fun vs H Q E h => ?_) (fun f cdv A outer s H vs Q E hr h => ?_)
  · obtain ⟨o, q, d1, kd, t, l, rs, F, ss, ns, Ok, rfl, _⟩ := h
    rfl
  · obtain ⟨o, q, d1, kd, t, l, rs, F, ss, ns, Ok, rfl, S, O, ht, hl, each, le, k⟩ := h
    refine ⟨_, (pss_cons (ps_for PassesOwn.never rfl (pi_list (pv 1)) (pg_name (i := 3) sc_missing.nd rfl (.inl rfl))
    (pss_one (ps_if (pt_cmpR op_isN (pe_mcal CT cl.cl hr (by omega) (pv 0) (pa_cons (pv 3) (pa_cons (pv 2) pa_nil))) pe_non (nomark _)) (pss_one (ps_ret (pv 3))) pss_nil)))
    (pss_one (ps_ret pe_non))), ?_⟩
    have lk : l ≠ kd := fun z => S.nkd.2.2.2.1 _ (z ▸ hl)
    have tk : t ≠ kd := fun z => S.nkd.1 _ (z ▸ ht)
    refine ⟨_, rfl, l, rfl, ⟨_, SqL.of hl⟩, for_list (K := K) (a := l) (xs := ss.map V.str) (fun i σ H' => ∃ v3 : Option V, σ = [some (.ref o), some (.ref l), some (.ref t), v3] ∧ But kd H H' ∧ SAt P w K C H' o q d1 kd rs F Ok ∧ (ss.take i).find? (fun s => (way rs F s ns).isNone) = none)
      ⟨_, rfl, But.refl kd H, S, rfl⟩ (fun i σ H' _ ⟨_, _, b, _⟩ => SqL.of (b _ _ hl lk)) ?_ ?_⟩
    · rintro i x σ H1 hx ⟨v3, rfl, b1, S1, no⟩
      obtain ⟨s, hs, rfl⟩ := Option.map_eq_some_iff.mp ((List.getElem?_map ..).symm.trans hx)
      have ms := List.mem_of_getElem? hs
      obtain ⟨dx, hob⟩ := S1.ob
      refine ⟨_, rfl, o, dx, _, rfl, hob, flds_no _ _ _ (by decide +kernel) (by decide +kernel) (by decide +kernel), _, rfl, _, rfl, o, q, d1, kd, t, rs, F, s, ns, Ok, rfl, S1, O, b1 _ _ ht tk, each s ms, le, fun v H2 b2 S2 rw2 => ⟨rfl, _, rfl, ?_⟩⟩
      have e := rw_non O (each s ms) rw2
      cases hw : way rs F s ns with
      | none =>
        refine iteT' (by rw [e, hw]; rfl) ?_
        refine ⟨_, rfl, ?_⟩
        have z : ss.find? (fun s => (way rs F s ns).isNone) = some s := by
          have es : ss = ss.take i ++ s :: ss.drop (i + 1) := by
            obtain ⟨q1, q2⟩ := List.getElem?_eq_some_iff.mp hs
            rw [← q2, List.getElem_cons_drop, List.take_append_drop]
          rw [es, List.find?_append, no, List.find?_cons, hw]
          rfl
        have y := k H2 (b1.trans b2) S2
        rw [z] at y
        exact y
      | some d =>
        refine iteF' (by rw [e, hw]; rfl) ?_
        refine ⟨_, rfl, b1.trans b2, S2, ?_⟩
        rw [List.take_add_one, hs, List.find?_append, no]
        simp [hw]
    · rintro σ H1 ⟨v3, rfl, b1, S1, no⟩
      rw [List.length_map, List.take_length] at no
      have y := k H1 b1 S1
      rw [no] at y
      exact y
end
end Lk

/-! K22d -/
set_option Elab.async false
set_option linter.all false
set_option maxRecDepth 100000
set_option maxHeartbeats 4000000
namespace Lk
open PySem PySem.Spec PyProof.Rows L2
/-- which rows have all their sources there -/
def rdy (F : List Str) (c : Cell) : Bool := decide (∀ s ∈ c.2.2.2, s ∈ F)
theorem rdy_filter {F : List Str} {L : List Cell} : (L.filter (rdy F)).map (·.2.2) = (L.map (·.2.2)).filter fun c => decide (∀ s ∈ c.2, s ∈ F) := by
  rw [List.filter_map]
  rfl
theorem filter_step {α : Type} {p : α → Bool} {l : List α} {i : Nat} {x : α} (h : l[i]? = some x) : (l.take (i + 1)).filter p = (l.take i).filter p ++ if p x = true then [x] else [] := by
  rw [List.take_add_one, h, List.filter_append]
  congr 1
  show ([x] : List α).filter p = _
  rw [List.filter_cons]
  rfl
theorem CellOk.but {kd : Addr} {H H' : Hp} {c : Cell} (h : CellOk H c) (b : But kd H H') (n1 : c.1 ≠ kd) (n2 : c.2.1 ≠ kd) : CellOk H' c := ⟨b _ _ h.1 n1, b _ _ h.2 n2⟩
theorem snoc_all {K : PySem.W.Frag} {H : Hp} {vs : List V} {ds : List PyData} {v : V} {d : PyData} (h : ThAll K H vs ds) (h2 : Th K H v d) : ThAll K H (vs ++ [v]) (ds ++ [d]) := by
  induction vs generalizing ds with
  | nil =>
    cases h
    exact .cons h2 .nil
  | cons x xs ih =>
    cases h with
    | cons a b => exact .cons a (ih b)
section
variable {P : Program} {w : World} {K : PySem.W.Frag} {mg : Str → Option Value} {base : Heap} {C : Addr}
theorem sc_first : FnScope ["self", "name", "spent", "tried", "ready", "number", "sources", "longer", "ways", "one", "source"] ["self", "name", "spent"] (defScope s_Search_first_right) := ⟨rfl, rfl, rfl, by decide +kernel, rfl, by decide +kernel, by decide +kernel⟩
set_option maxHeartbeats 0
theorem cal_first {m j : Nat} (D : DefM K C "first_right" "Search.first_right" s_Search_first_right) (cl : SCls K C) (hj : 2 ≤ j) (gall : mg "all" = none) (CF : Cal P w K mg base 2 "fitted" (spFit K)) (CO : Cal P w K mg base 1 "with_one_more" (spOneMore K))
    (CT : MCal P w K mg base C j "told" (spTold P w K C m)) (CM : MCal P w K mg base C (j + 1) "missing" (spMiss P w K C m)) : MCal P w K mg base C (j + 2) "first_right" (spFirst P w K C (m + 1)) := by
  refine mkMCal D sc_first (fun _ _ _ _ _ _ us hl => match us, hl with | [_, _, _], _ => rfl) (fun vs H Q E h => ?_) (fun f cdv A outer s H vs Q E hr h => ?_)
  · obtain ⟨o, q, d1, kd, t, rs, F, z, ns, Ok, rfl, _⟩ := h
    rfl
  · obtain ⟨o, q, d1, kd, t, rs, F, z, ns, Ok, rfl, S, O, ht, okp, hz, le, k⟩ := h
    refine ⟨_, (pss_cons (ps_set (i := 3) sc_first.nd rfl (.inl rfl) (pe_cal CF hr (by omega) (pa_cons (pe_fld (pv 0) rfl) (pa_cons (pv 1) (pa_cons (pv 2) pa_nil)))))
    (pss_cons (ps_setLc (i := 4) (own := [("one", 9)]) (g := gName 9) (by rfl) sc_first.nd rfl rfl (sw_true rfl rfl rfl (by decide +kernel)) (pi_list (pv 3)) (blkOk_by (own := [("one", 9)]) (N := ["self", "name", "spent", "tried", "ready", "number", "sources", "longer", "ways", "one", "source"]) (sc := defScope s_Search_first_right) (by decide +kernel)) (fun _ _ _ _ _ => pg_name (i := 9) sc_first.nd rfl (Or.inl rfl)) (fun _ _ _ _ _ => pts_one (pt_val (pe_callB (show CallR _ (.builtin "all") (rAll K) from cr_all rfl) (by rfl) gall (by decide +kernel) (pa_cons (pe_lc (own := [("source", 10)]) (g := gName 10) (tt := tYes) (by rfl) sc_first.nd (inL (K := K) (pe_ix (show IxR _ (rIxT K) from ix_tup) (pv 9) pe_int (fun _ _ => rfl))) (blkOk_by (own := [("source", 10)]) (N := ["self", "name", "spent", "tried", "ready", "number", "sources", "longer", "ways", "one", "source"]) (sc := { kind := ScopeKind.function, names := [ (".0", NameKind.local), ("one", NameKind.local), ("all", NameKind.globalImplicit), ("self", NameKind.cell)], isGenerator := false, isCoroutine := false }) (by decide +kernel)) (fun _ _ _ _ _ => pg_name (i := 10) sc_first.nd rfl (Or.inl rfl)) (fun _ _ _ _ _ => pts_nil) (fun _ _ _ _ _ => (pe_cmp (pc_din (units1 hr.units) (pv 10) (show PE _ _ (tFld K _ _) from pe_fld (pv 0) rfl)) rfl))) pa_nil)))) (fun _ _ _ _ _ => (pv 9)))
    (pss_cons (ps_for PassesOwn.never rfl (pi_list (pe_op op_cat (pv 4) (pv 3))) (pg_tup rfl (pgs_cons (pg_name (i := 5) sc_first.nd rfl (.inl rfl)) (pgs_cons (pg_name (i := 6) sc_first.nd rfl (.inl rfl)) pgs_nil)))
    (pss_cons (ps_set (i := 7) sc_first.nd rfl (.inr rfl) (pe_cal CO hr (by omega) (pa_cons (pv 2) (pa_cons (pv 5) pa_nil))))
    (pss_one (ps_if (pt_cmpR op_isN (pe_mcal CM cl.cl hr (by omega) (pv 0) (pa_cons (pv 6) (pa_cons (pv 7) pa_nil))) pe_non (nomark _)) (pss_cons (ps_setLc (i := 8) (own := [("source", 10)]) (g := gName 10) (tt := tYes) (by rfl) sc_first.nd rfl rfl (sw_true rfl rfl rfl (by decide +kernel)) (pi_list (pv 6)) (blkOk_by (own := [("source", 10)]) (N := ["self", "name", "spent", "tried", "ready", "number", "sources", "longer", "ways", "one", "source"]) (sc := defScope s_Search_first_right) (by decide +kernel)) (fun _ _ _ _ _ => pg_name (i := 10) sc_first.nd rfl (Or.inl rfl)) (fun _ _ _ _ _ => pts_nil) (fun _ _ _ _ _ => (pe_mcal CT cl.cl hr (by omega) (pv 0) (pa_cons (pv 10) (pa_cons (pv 7) pa_nil)))))
    (pss_one (ps_ret (pe_tup (pa_cons (pv 1) (pa_cons (pe_ix ix_tup (pe_ix ix_tup (pe_fld (pv 0) rfl) (pv 5) (fun _ _ => rfl)) pe_int (fun _ _ => rfl)) (StX.pa_star (pv 8) pa_nil))))))) pss_nil))))
    (pss_one (ps_ret pe_non))))), ?_⟩
    obtain ⟨dx, hob⟩ := S.ob
    obtain ⟨xb, hq, hx⟩ := S.bk
    obtain ⟨nd, lt⟩ := O.nd _ okp
    have lz := (O.tx _ okp).2
    have many := (book_len O.bk).1
    have blen := (book_len O.bk).2
    refine ⟨_, rfl, o, C, dx, _, _, rfl, hob, cl.cl, cl.nB, flds_book _ _ _, _, rfl, _, rfl, q, xb, rs, z, t, ns, rfl, hq, hx, O.bk, lz, SqT.of ht, fun p L H1 s1 hp cells eL => ?_⟩
    have S1 := S.same s1
    have ht1 := s1 _ _ ht
    have hob1 := s1 _ _ hob
    have few : L.length ≤ 6 := by
      have z1 := congrArg List.length eL
      have z2 := List.length_filterMap_le (rowOf z ns) rs.zipIdx
      rw [List.length_map] at z1
      rw [List.length_zipIdx] at z2
      unfold fitD at z1
      omega
    have inL : ∀ c ∈ L, c.2.2 ∈ fitD rs z ns := fun c mc => by
      rw [← eL]
      exact List.mem_map.mpr ⟨c, mc, rfl⟩
    have short : ∀ c ∈ L, c.2.2.2.length ≤ 3 := fun c mc => by
      obtain ⟨r, hr2, _, _, e⟩ := fit_row (inL c mc)
      rw [e]
      exact of_few (blen r (List.mem_of_getElem? hr2)) z
    refine ⟨_, rfl, p, rfl, ⟨_, SqL.of hp⟩, fun D nD => ?_⟩
    refine lc_list (K := K) (a := p) (xs := L.map fun c => V.ref c.1) (fun i H' => Same H1 H' ∧ H' D = some (.lst (((L.take i).filter (rdy F)).map fun c : Cell => V.ref c.1))) ⟨same_upd nD, upd_same⟩ (fun i H' _ h => h.1.seq (SqL.of hp)) ?_ ?_
    · rintro i x H2 hx2 ⟨s2, hD⟩
      obtain ⟨c, hc, rfl⟩ := Option.map_eq_some_iff.mp ((List.getElem?_map ..).symm.trans hx2)
      have mc := List.mem_of_getElem? hc
      obtain ⟨g1, g2⟩ := (cells c mc).same s2
      have hob2 := s2 _ _ hob1
      have th2 := s2 _ _ S1.th
      refine ⟨rfl, ?_⟩
      refine ⟨_, rfl, c.1, _, 1, _, rfl, rfl, SqT.of g1, atI_nat (j := 1) rfl, c.2.1, rfl, ⟨_, SqL.of g2⟩, fun D2 nD2 => ?_⟩
      refine lc_list (K := K) (a := c.2.1) (xs := c.2.2.2.map V.str) (fun j H' => Same H2 H' ∧ H' D2 = some (.lst (((c.2.2.2.take j).map fun s => decide (s ∈ F)).map V.bl))) ⟨same_upd nD2, upd_same⟩ (fun j H' _ h => h.1.seq (SqL.of g2)) ?_ ?_
      · rintro j y H3 hy ⟨s3, hD2⟩
        obtain ⟨s, hs, rfl⟩ := Option.map_eq_some_iff.mp ((List.getElem?_map ..).symm.trans hy)
        refine ⟨rfl, _, rfl, _, rfl, o, C, dx, _, _, rfl, s3 _ _ hob2, cl.cl, cl.nT, flds_there _ _ _, d1, _, rfl, DGet.k (k := Sum.inr s) (s3 _ _ th2), _, hD2, ?_, same_mut s3 nD2, ?_⟩
        · have := short c mc
          rw [List.length_map, List.length_map, List.length_take, sizeLine_eq]
          omega
        · rw [upd_same, List.take_add_one, hs, List.map_append, List.map_append, dk_val]
          rfl
      · rintro H3 ⟨s3, hD2⟩
        rw [List.length_map, List.take_length] at hD2
        have e : ((c.2.2.2.map fun s => decide (s ∈ F)).all id) = rdy F c := by
          unfold rdy
          rw [Bool.eq_iff_iff, List.all_map, List.all_eq_true, decide_eq_true_iff]
          exact ⟨fun h s m => of_decide_eq_true (h s m), fun h s m => decide_eq_true (h s m)⟩
        refine ⟨D2, _, rfl, SqL.of hD2, _, rfl, ?_⟩
        have s13 := s2.trans s3
        have hD3 := s3 _ _ hD
        have step := filter_step (p := rdy F) hc
        rw [e]
        cases hb : rdy F c with
        | true =>
          rw [hb] at step
          refine iteT' rfl ?_
          refine ⟨_, rfl, _, hD3, ?_, same_mut s13 nD, ?_⟩
          · have := List.length_filter_le (rdy F) (L.take i)
            rw [List.length_take] at this
            rw [List.length_map, sizeLine_eq]
            omega
          · rw [upd_same, step, List.map_append]
            rfl
        | false =>
          rw [hb] at step
          refine iteF' rfl ⟨s13, ?_⟩
          rw [step]
          simpa using hD3
    · rintro H2 ⟨s2, hD⟩
      rw [List.length_map, List.take_length] at hD
      have few2 := List.length_filter_le (rdy F) L
      refine ⟨_, rfl, _, rfl, _, _, _, _, rfl, rfl, hD, s2 _ _ hp, by rw [List.length_map, List.length_map, sizeLine_eq]; omega, fun l nl => ?_⟩
      have s3 : Same H2 (upd H2 l (.lst (((L.filter (rdy F)).map fun c : Cell => V.ref c.1) ++ L.map fun c => V.ref c.1))) := same_upd nl
      have hl : upd H2 l (.lst (((L.filter (rdy F)).map fun c : Cell => V.ref c.1) ++ L.map fun c => V.ref c.1)) l = some (.lst ((L.filter (rdy F) ++ L).map fun c => V.ref c.1)) := by
        rw [upd_same, List.map_append]
      have s13 := s2.trans s3
      have s03 := s1.trans s13
      generalize upd H2 l (.lst (((L.filter (rdy F)).map fun c : Cell => V.ref c.1) ++ L.map fun c => V.ref c.1)) = H3 at s3 hl s13 s03
      have S3 := S1.same s13
      have eM : (L.filter (rdy F) ++ L).map (·.2.2) = tryL rs F z ns := by
        rw [List.map_append, rdy_filter, eL]
        rfl
      have cellsM : ∀ c ∈ L.filter (rdy F) ++ L, c ∈ L := fun c mc => by
        rcases List.mem_append.mp mc with m | m
        · exact (List.mem_filter.mp m).1
        · exact m
      have cells3 : ∀ c ∈ L, CellOk H3 c ∧ c.1 ≠ kd ∧ c.2.1 ≠ kd := fun c mc => by
        have g := (cells c mc).same s13
        exact ⟨g, fun z => S3.nkd.1 _ (z ▸ g.1), fun z => S3.nkd.2.2.2.1 _ (z ▸ g.2)⟩
      have lk : l ≠ kd := fun z => S3.nkd.2.2.2.1 _ (z ▸ hl)
      have ht3 := s13 _ _ ht1
      have tk : t ≠ kd := fun z => S3.nkd.1 _ (z ▸ ht3)
      clear cells hD
      generalize L.filter (rdy F) ++ L = M at hl eM cellsM
      refine ⟨l, rfl, ⟨_, SqL.of hl⟩, for_list (K := K) (a := l) (xs := M.map fun c => V.ref c.1) (fun i σ H' => ∃ v5 v6 v7 v8 : Option V, σ = [some (.ref o), some (.str z), some (.ref t), some (.ref p), some (.ref D), v5, v6, v7, v8, none, none] ∧ But kd H3 H' ∧ SAt P w K C H' o q d1 kd rs F Ok ∧
        ((tryL rs F z ns).take i).findSome? (rowW rs F z ns) = none) ⟨_, _, _, _, rfl, But.refl kd H3, S3, rfl⟩ (fun i σ H' _ ⟨_, _, _, _, _, b, _⟩ => SqL.of (b _ _ hl lk)) ?_ ?_⟩
      · rintro i x σ H4 hx4 ⟨v5, v6, v7, v8, rfl, b4, S4, no⟩
        obtain ⟨c, hc, rfl⟩ := Option.map_eq_some_iff.mp ((List.getElem?_map ..).symm.trans hx4)
        have mc := cellsM c (List.mem_of_getElem? hc)
        have hrow : (tryL rs F z ns)[i]? = some c.2.2 := by
          rw [← eM, List.getElem?_map, hc]
          rfl
        obtain ⟨c3, n1, n2⟩ := cells3 c mc
        obtain ⟨g1, g2⟩ := c3.but b4 n1 n2
        obtain ⟨r, hr2, nin, _, eof⟩ := fit_row (inL c mc)
        have hlt := (List.getElem?_eq_some_iff.mp hr2).1
        refine ⟨c.1, _, rfl, SqT.of g1, rfl, _, _, rfl, _, _, rfl, rfl, ?_⟩
        have lns : ns.length ≤ 1000 := by
          have y := nodup_len (l := ns) (m := List.range rs.length) nd fun k m => List.mem_range.mpr (lt k m)
          rw [List.length_range] at y
          omega
        refine ⟨_, rfl, _, rfl, t, ns, c.2.2.1, rfl, SqT.of (b4 _ _ ht3 tk), lns, fun t2 H5 s5 nt2 ht2 => ?_⟩
        have S5 := S4.same s5
        have g25 := s5 _ _ g2
        have b5 := b4.same s5
        have b35 : But kd H4 H5 := Same.but s5
        obtain ⟨dx5, hob5⟩ := S5.ob
        have okn : ∀ s ∈ c.2.2.2, Ok (s, srt (ns ++ [c.2.2.1])) := fun s ms => O.cl (z, ns) _ okp ⟨c.2.2.1, r, hr2, nin, by rw [← eof]; exact ms, rfl⟩
        have perm : (srt (ns ++ [c.2.2.1])).Perm (c.2.2.1 :: ns) := (srt_perm _).trans (List.perm_append_singleton _ _)
        have le2 : rs.length + 1 ≤ (srt (ns ++ [c.2.2.1])).length + m := by
          rw [perm.length_eq, List.length_cons]
          omega
        generalize srt (ns ++ [c.2.2.1]) = ns2 at ht2 okn perm le2 ⊢
        refine ⟨_, rfl, o, dx5, _, rfl, hob5, flds_no _ _ _ (by decide +kernel) (by decide +kernel) (by decide +kernel), _, rfl, _, rfl, o, q, d1, kd, t2, c.2.1, rs, F, c.2.2.2, ns2, Ok, rfl, S5, O, ht2, g25, okn, le2, fun H6 b6 S6 => ⟨rfl, _, rfl, ?_⟩⟩
        have n2k : c.2.1 ≠ kd := n2
        have g26 := b6 _ _ g25 n2k
        have t2k : t2 ≠ kd := fun z => S5.nkd.1 _ (z ▸ ht2)
        have ht26 := b6 _ _ ht2 t2k
        have b36 := b5.trans b6
        cases hf : c.2.2.2.find? (fun s => (way rs F s ns2).isNone) with
        | some s =>
          obtain ⟨ms, hw⟩ := find_some hf
          refine iteF' rfl ?_
          refine ⟨_, _, _, _, rfl, b36, S6, first_no hrow no ?_⟩
          unfold rowW
          rw [way_perm perm] at hw
          have y : allO (c.2.2.2.map fun s => way rs F s (c.2.2.1 :: ns)) = none := allO_none.mpr (List.mem_map.mpr ⟨s, ms, hw⟩)
          rw [y]
          rfl
        | none =>
          have all := find_none hf
          refine iteT' rfl ?_
          refine ⟨_, rfl, c.2.1, rfl, ⟨_, SqL.of g26⟩, fun D7 nD7 => ?_⟩
          have D7k : D7 ≠ kd := fun z => by
            obtain ⟨u, hu⟩ := S6.nkd.2.2.2.2
            rw [z, hu] at nD7
            cases nD7
          have D7c : c.2.1 ≠ D7 := ne_of_none g26 nD7
          have D7t : t2 ≠ D7 := ne_of_none ht26 nD7
          refine lc_list (K := K) (a := c.2.1) (xs := c.2.2.2.map V.str) (fun j H' => But kd H6 H' ∧ SAt P w K C H' o q d1 kd rs F Ok ∧ ∃ vs ds, H' D7 = some (.lst vs) ∧ ThAll K H' vs ds ∧ onlyTs ds = true ∧ ds.length = j ∧ (c.2.2.2.take j).map (fun s => way rs F s ns2) = ds.map some)
            ⟨(Same.but (same_upd nD7)), S6.same (same_upd nD7), [], [], upd_same, .nil, rfl, rfl, rfl⟩ (fun j H' _ h => SqL.of (h.1 _ _ g26 n2k)) ?_ ?_
          · rintro j x H7 hx7 ⟨b7, S7, vs, ds, hD7, ta, ot, ej, ew⟩
            obtain ⟨s, hs, rfl⟩ := Option.map_eq_some_iff.mp ((List.getElem?_map ..).symm.trans hx7)
            have ms := List.mem_of_getElem? hs
            obtain ⟨dx7, hob7⟩ := S7.ob
            refine ⟨rfl, _, rfl, o, dx7, _, rfl, hob7, flds_no _ _ _ (by decide +kernel) (by decide +kernel) (by decide +kernel), _, rfl, _, rfl, o, q, d1, kd, t2, rs, F, s, ns2, Ok, rfl, S7, O, b7 _ _ ht26 t2k, okn s ms, le2, fun v H8 b8 S8 rw8 => ?_⟩
            obtain ⟨d, hw⟩ := all s ms
            rw [hw] at rw8
            have hD8 := b8 _ _ hD7 D7k
            have ta8 := thAll_tups (S7.tups b8) ta ot
            have t9 := upd_tups (u := .lst (vs ++ [v])) hD8
            have hvl := thAll_len ta8
            refine ⟨vs, hD8, ?_, (b7.trans b8).upd2 nD7, S8.mut hD8, vs ++ [v], ds ++ [d], upd_same, snoc_all (thAll_tups t9 ta8 ot) (th_tups t9 rw8.1 rw8.2), ?_, ?_, ?_⟩
            · have := (List.getElem?_eq_some_iff.mp hs).1
              have := short c mc
              rw [hvl, sizeLine_eq]
              omega
            · exact onlyTs_all.mpr fun e me => by
                rcases List.mem_append.mp me with me | me
                · exact onlyTs_all.mp ot e me
                · rw [List.mem_singleton.mp me]
                  exact rw8.2
            · rw [List.length_append, ej]
              rfl
            · rw [List.take_add_one, hs, List.map_append, List.map_append, ew]
              show _ ++ [way rs F s ns2] = _
              rw [hw]
              rfl
          · rintro H7 ⟨b7, S7, vs, ds, hD7, ta, ot, ej, ew⟩
            rw [List.length_map, List.take_length] at ew
            obtain ⟨dx7, hob7⟩ := S7.ob
            obtain ⟨xb7, hq7, hx7⟩ := S7.bk
            obtain ⟨x7, hx7i, th7⟩ : ∃ x, xb7[c.2.2.1]? = some x ∧ Th K H7 x r.d := by
              have y := thAll_len hx7
              rw [List.length_map] at y
              have e := List.getElem?_eq_getElem (show c.2.2.1 < xb7.length by omega)
              obtain ⟨d, hd, th⟩ := th_at hx7 e
              rw [List.getElem?_map, hr2] at hd
              cases hd
              exact ⟨_, e, th⟩
            obtain ⟨a7, p7, q7, y7, rfl, ha7, _⟩ := th_rule th7
            have hvl := thAll_len ta
            refine ⟨_, rfl, _, rfl, o, C, dx7, _, _, rfl, hob7, cl.cl, cl.nB, flds_book _ _ _, _, rfl, q, _, (c.2.2.1 : Int), .ref a7, rfl, rfl, hq7, atI_nat hx7i, a7, _, 0, _, rfl, rfl, ha7, atI_nat (j := 0) rfl, _, rfl, D7, vs, rfl, .inr (SqL.of hD7), ?_⟩
            refine ⟨?_, fun T nT => ?_⟩
            · have := short c mc
              have y := congrArg List.length ew
              rw [List.length_map, List.length_map] at y
              rw [List.append_nil, List.length_cons, List.length_cons, hvl, sizeLine_eq]
              omega
            · have s8 : Same H7 (upd H7 T (.tup (V.str z :: V.str r.lab :: (vs ++ [])))) := same_upd nT
              refine k (.ref T) _ (((Same.but s03).trans b36).trans (b7.same s8)) (S7.same s8) ?_
              have hw : way rs F z ns = some (nodeD z r.lab ds) := by
                rw [way_out nd lt hz]
                refine first_at hrow no ?_
                unfold rowW
                have e1 : c.2.2.2.map (fun s => way rs F s (c.2.2.1 :: ns)) = ds.map some := by
                  rw [← ew]
                  exact List.map_congr_left fun s _ => (way_perm perm).symm
                have e2 : labO rs c.2.2.1 = r.lab := by
                  unfold labO
                  rw [hr2]
                rw [allO_some.mpr e1, e2]
                rfl
              rw [hw]
              refine ⟨.tup (SqT.of upd_same) (.cons (.str z) (.cons (.str r.lab) ?_)), ?_⟩
              · have y := thAll_tups (Same.tups s8) ta ot
                simpa only [List.append_nil] using y
              · show onlyTs _ = true
                simp [onlyTs, onlyT, ot]
      · rintro σ H4 ⟨v5, v6, v7, v8, rfl, b4, S4, no⟩
        have e : (M.map fun c => V.ref c.1).length = (tryL rs F z ns).length := by
          rw [← eM, List.length_map, List.length_map]
        rw [e, List.take_length] at no
        refine k .non H4 ((Same.but s03).trans b4) S4 ?_
        rw [way_out nd lt hz, no]
        rfl
end
end Lk

/-! K22i -/
set_option Elab.async false
set_option linter.all false
set_option maxRecDepth 100000
set_option maxHeartbeats 4000000
namespace Lk
open PySem PySem.Spec PyProof.Rows L2
section
variable {P : Program} {w : World} {K : PySem.W.Frag} {mg : Str → Option Value} {base : Heap} {C : Addr}
/-- told, whatever is spent -/
theorem told_all (DT : DefM K C "told" "Search.told" s_Search_told) (DF : DefM K C "first_right" "Search.first_right" s_Search_first_right) (DM : DefM K C "missing" "Search.missing" s_Search_missing) (cl : SCls K C) (gall : mg "all" = none)
    (CF : Cal P w K mg base 2 "fitted" (spFit K)) (CO : Cal P w K mg base 1 "with_one_more" (spOneMore K)) : ∀ m, MCal P w K mg base C (3 * m + 2) "told" (spTold P w K C m)
  | 0 => mcal_never (ps := ["self", "name", "spent"]) DT (fun _ _ _ _ _ _ us hl => match us, hl with | [_, _, _], _ => rfl) fun vs H Q E h => by
    obtain ⟨o, q, d1, kd, t, rs, F, z, ns, Ok, _, _, O, _, okp, le, _⟩ := h
    obtain ⟨nd, lt⟩ := O.nd _ okp
    have y := nodup_len (l := ns) (m := List.range rs.length) nd fun k m => List.mem_range.mpr (lt k m)
    rw [List.length_range] at y
    omega
  | m + 1 => by
    have CT := told_all DT DF DM cl gall CF CO m
    have CM := cal_missing DM cl CT
    have CR := cal_first DF cl (by omega) gall CF CO CT CM
    have z := cal_told DT cl CR
    have e : 3 * m + 2 + 2 + 1 = 3 * (m + 1) + 2 := by omega
    rw [e] at z
    exact z
theorem ins_nodup : ∀ {F ks : List Str}, F.Nodup → (∀ y ∈ F, y ∉ ks) → F.foldl insK ks = ks ++ F
  | [], ks, _, _ => (List.append_nil ks).symm
  | y :: F, ks, h, n => by
    obtain ⟨h1, h2⟩ := List.nodup_cons.mp h
    have e : insK ks y = ks ++ [y] := if_neg (n y List.mem_cons_self)
    rw [List.foldl_cons, e, ins_nodup h2 fun x m => ?_, List.append_assoc]
    · rfl
    · rw [List.mem_append, List.mem_singleton]
      rintro (z | z)
      · exact n x (List.mem_cons_of_mem _ m) z
      · exact h1 (z ▸ m)
def spInit (P : Program) (w : World) (K : PySem.W.Frag) (C : Addr) : Sp := fun vs H Q _ => ∃ (o dx q f : Addr) (xs : List V) (rs : List Rl) (F : List Str), vs = [.ref o, .ref q, .ref f] ∧ H o = some (.ins C dx []) ∧ SqT K H q xs ∧ ThAll K H xs (rs.map Rl.d) ∧ SqT K H f (F.map V.str) ∧ F.Nodup ∧ F.length ≤ 1000000 ∧
  ∀ (d1 kd : Addr) (H' : Hp), H d1 = none → H kd = none → But o H H' → (∀ Ok, SAt P w K C H' o q d1 kd rs F Ok) → Q .non H'
theorem sc_init : FnScope ["self", "book", "files", "name"] ["self", "book", "files"] (defScope s_Search_init) := ⟨rfl, rfl, rfl, by decide +kernel, rfl, by decide +kernel, by decide +kernel⟩
theorem dk_take {F : List Str} {i : Nat} {y : Str} (h : F.Nodup) (hy : F[i]? = some y) : putK (dk (F.take i)) (Sum.inr y) (V.bl true) = dk (F.take (i + 1)) := by
  rw [dk_put]
  congr 1
  have n : y ∉ F.take i := fun m => by
    obtain ⟨j, hj, e⟩ := List.getElem_of_mem m
    rw [List.length_take] at hj
    rw [List.getElem_take] at e
    have e2 : F[j]? = some y := by rw [← e]; exact List.getElem?_eq_getElem (by omega)
    have := (List.getElem?_inj (List.getElem?_eq_some_iff.mp e2).1 h).mp (e2.trans hy.symm)
    omega
  unfold insK
  rw [if_neg n, List.take_add_one, hy]
  rfl
theorem dc_files {σ : L2.St} {H : Hp} {f : Addr} {F : List Str} {iv : Nat} {ti : TE} {Q : VK} (hi : ∀ R : VK, R (.ref f) H → ti σ H R) (hf : SqT K H f (F.map V.str)) (nd : F.Nodup) (few : F.length ≤ 1000000)
    (wp : ∀ x : V, wipe ((wipe σ [iv]).set iv (some x)) [iv] = wipe σ [iv]) (hv : ∀ x : V, ((wipe σ [iv]).set iv (some x))[iv]? = some (some x)) (k : ∀ D H', H D = none → Same H H' → H' D = some (.dK (dk F)) → Q (.ref D) H') :
    tDc (iTup K ti) (gName iv) tYes (tVar iv) (tC (.bl true)) [iv] σ H Q := by
  refine hi _ ⟨f, rfl, ⟨_, hf⟩, fun D nD => ?_⟩
  refine dc_tup (K := K) (a := f) (xs := F.map V.str) (fun i H' => Same H H' ∧ H' D = some (.dK (dk (F.take i)))) ⟨same_upd nD, by rw [upd_same]; rfl⟩ (fun i H' _ h => Same.seqT h.1 hf) ?_ ?_
  · rintro i x H' hx ⟨s, hD⟩
    obtain ⟨y, hy, rfl⟩ := Option.map_eq_some_iff.mp ((List.getElem?_map ..).symm.trans hx)
    refine ⟨wp _, _, hv _, dk (F.take i), Sum.inr y, rfl, hD, ?_, same_mut s nD, ?_⟩
    · rw [dk_len, List.length_take, sizeLine_eq]
      omega
    · rw [upd_same, dk_take nd hy]
  · rintro H' ⟨s, hD⟩
    rw [List.length_map, List.take_length] at hD
    exact k D H' nD s hD
theorem nxD_open {q : L2.St → Hp → Prop} {rt : VK} {bk ct : L2.St → Hp → Prop} {σ : L2.St} {H : Hp} (h : q σ H) : Ends.nx { nx := q, rt := rt, bk := bk, ct := ct } σ H := h
theorem seq_fld {K : PySem.W.Frag} {ta tv : TE} {f : Str} {r : TS} {D : Ends} {σ : L2.St} {H : Hp} (h : tv σ H fun y H1 => ta σ H1 fun x H2 => ∃ a C dx fs, x = .ref a ∧ H2 a = some (.ins C dx fs) ∧ Cls K C ∧ NoAttr K C f ∧ fs.length < 1000 ∧ r D σ (upd H2 a (.ins C dx (putF f y fs)))) :
    tSeq (sFld K ta tv f) r D σ H := h
theorem cal_init (D : DefM K C "__init__" "Search.__init__" s_Search_init) (cl : SCls K C) : MCal P w K mg base C 1 "__init__" (spInit P w K C) := by
  refine mkMCal D sc_init (fun _ _ _ _ _ _ us hl => match us, hl with | [_, _, _], _ => rfl) (fun vs H Q E h => ?_) (fun f cdv A outer s H vs Q E hr h => ?_)
  · obtain ⟨o, dx, q, f, xs, rs, F, rfl, _⟩ := h
    rfl
  · obtain ⟨o, dx, q, f, xs, rs, F, rfl, ho, hq, hx, hf, nd, few, k⟩ := h
    refine ⟨_, (pss_cons (ps_fld (pv 0) (pv 1) rfl)
    (pss_cons (ps_fld (pv 0) (pe_dc (own := [("name", 3)]) (g := gName 3) (tt := tYes) (by rfl) sc_init.nd (pi_tup (pv 2)) (blkOk_by (own := [("name", 3)]) (N := ["self", "book", "files", "name"]) (sc := defScope s_Search_init) (by decide +kernel)) (fun _ _ _ _ _ => pg_name (i := 3) sc_init.nd rfl (Or.inl rfl)) (fun _ _ _ _ _ => pts_nil) (fun _ _ _ _ _ => (pv 3)) (fun _ _ _ _ _ => pe_bl)) rfl)
    (pss_one (ps_fld (pv 0) pe_dnewK rfl)))), ?_⟩
    refine ⟨_, rfl, _, rfl, o, C, dx, [], rfl, ho, cl.cl, cl.nB, (by show 0 < 1000; decide), ?_⟩
    have t1 : ∀ u, Tups H (upd H o u) := fun u => ⟨fun b xs e => by rw [upd_ne (ne_of e ho (fun z => nomatch z))]; exact e, fun b ob u' e => by rw [upd_ne (ne_of e ho (fun z => nomatch z))]; exact e⟩
    have b1 : But o H (upd H o (.ins C dx (putF "book" (V.ref q) []))) := (But.refl o H).upd
    have h1 : upd H o (.ins C dx (putF "book" (V.ref q) [])) o = some (.ins C dx (putF "book" (V.ref q) [])) := upd_same
    have t1 := t1 (.ins C dx (putF "book" (V.ref q) []))
    generalize upd H o (.ins C dx (putF "book" (V.ref q) [])) = H1 at b1 h1 t1 ⊢
    refine nxD_open (seq_fld ?_)
    refine dc_files (K := K) (σ := [some (.ref o), some (.ref q), some (.ref f), none]) (ti := tVar 2) (f := f) (F := F) (iv := 3) (fun R h => ⟨_, rfl, h⟩) (t1.seqT hf) nd few (fun _ => rfl) (fun _ => rfl) fun d1 H2 nd1 s2 hd1 => ?_
    have od1 : o ≠ d1 := ne_of_none h1 nd1
    refine ⟨_, rfl, o, C, dx, _, rfl, s2 _ _ h1, cl.cl, cl.nT, (by show 1 < 1000; decide), ?_⟩
    have h2 := s2 _ _ h1
    have t3 : ∀ u, Tups H2 (upd H2 o u) := fun u => ⟨fun b xs e => by rw [upd_ne (ne_of e h2 (fun z => nomatch z))]; exact e, fun b ob u' e => by rw [upd_ne (ne_of e h2 (fun z => nomatch z))]; exact e⟩
    refine fun kd nkd => ?_
    have okd : o ≠ kd := fun z => by
      rw [← z, upd_same] at nkd
      cases nkd
    have dkd : d1 ≠ kd := fun z => by
      rw [← z, upd_ne od1.symm, hd1] at nkd
      cases nkd
    have nkd2 : H2 kd = none := by rwa [upd_ne okd.symm] at nkd
    refine ⟨_, rfl, o, C, dx, _, rfl, by rw [upd_ne okd, upd_same], cl.cl, cl.nK, (by show 2 < 1000; decide), ?_⟩
    have nd1' : H d1 = none := b1.free nd1 od1.symm
    have nkd' : H kd = none := b1.free (s2.free nkd2) okd.symm
    refine k d1 kd _ nd1' nkd' (fun c u e n => ?_) fun Ok => ⟨⟨dx, ?_⟩, ⟨xs, ?_, ?_⟩, ?_, dkd, [], ?_, List.nodup_nil, fun p v m => nomatch m⟩
    · rw [upd_ne n, upd_ne (ne_of_none e nkd'), upd_ne n]
      exact s2 _ _ (b1 _ _ e n)
    · rw [upd_same]
      rfl
    · have t4 := (t1.trans (Same.tups s2)).trans (t3 (.ins C dx (putF "there" (V.ref d1) (putF "book" (V.ref q) []))))
      refine (t4.trans (Same.tups (same_upd (o := .dK []) nkd))).trans ⟨fun b xs e => ?_, fun b ob u' e => ?_⟩ |>.seqT hq
      · have ne : b ≠ o := fun z => by
          rw [z, upd_ne okd, upd_same] at e
          cases e
        rw [upd_ne ne]
        exact e
      · have ne : b ≠ o := fun z => by
          rw [z, upd_ne okd, upd_same] at e
          cases e
        rw [upd_ne ne]
        exact e
    · have t4 := (t1.trans (Same.tups s2)).trans (t3 (.ins C dx (putF "there" (V.ref d1) (putF "book" (V.ref q) []))))
      refine thAll_tups ((t4.trans (Same.tups (same_upd (o := .dK []) nkd))).trans ⟨fun b xs e => ?_, fun b ob u' e => ?_⟩) hx book_onlyT
      · have ne : b ≠ o := fun z => by
          rw [z, upd_ne okd, upd_same] at e
          cases e
        rw [upd_ne ne]
        exact e
      · have ne : b ≠ o := fun z => by
          rw [z, upd_ne okd, upd_same] at e
          cases e
        rw [upd_ne ne]
        exact e
    · rw [upd_ne od1.symm, upd_ne dkd, upd_ne od1.symm]
      exact hd1
    · refine NAt.new ?_
      rw [upd_ne okd.symm, upd_same]
end
end Lk

/-! K22e -/
set_option Elab.async false
set_option linter.all false
set_option maxRecDepth 100000
set_option maxHeartbeats 4000000
namespace Lk
open PySem PySem.Spec PyProof.Rows L2
section
variable {P : Program} {w : World} {K : PySem.W.Frag} {mg : Str → Option Value} {base : Heap}
def ded : List Str → List Str
  | [] => []
  | x :: r => if x ∈ r then ded r else x :: ded r
theorem ded_mem : ∀ {ss : List Str} {y : Str}, y ∈ ded ss ↔ y ∈ ss
  | [], y => Iff.rfl
  | x :: r, y => by
    unfold ded
    split
    · rename_i h
      rw [ded_mem, List.mem_cons]
      exact ⟨.inr, fun z => z.elim (fun e => e ▸ h) id⟩
    · rw [List.mem_cons, List.mem_cons, ded_mem]
theorem ded_nodup : ∀ ss : List Str, (ded ss).Nodup
  | [] => List.nodup_nil
  | x :: r => by
    unfold ded
    split
    · exact ded_nodup r
    · rename_i h
      exact List.nodup_cons.mpr ⟨fun z => h (ded_mem.mp z), ded_nodup r⟩
def ascL (ss : List Str) : List Str := ((ded ss).mergeSort leT).mergeSort leL
theorem ascL_is (ss : List Str) : IsAsc (ascL ss) ss := asc_of (ded_nodup ss) (fun _ => ded_mem) (List.mergeSort_perm _ _) (List.pairwise_mergeSort leT_trans leT_total _)
def strD : PyData → Str
  | .str x => x
  | _ => ""
def dFiles : PyData → Bool
  | .tuple ds => decide (ds.length ≤ 60) && (ds.all dName && decide (ds.map strD = ascL (ds.map strD)))
  | _ => false
theorem names_strs : ∀ {ds : List PyData}, ds.all dName = true → ds = (ds.map strD).map PyData.str
  | [], _ => rfl
  | d :: r, h => by
    rw [List.all_cons, Bool.and_eq_true] at h
    have e : d = .str (strD d) := by
      cases d with
      | str x => rfl
      | _ => exact Bool.noConfusion h.1
    rw [List.map_cons, List.map_cons, ← names_strs h.2, ← e]
theorem strs_vs {H : Hp} : ∀ {xs : List V} {ss : List Str}, ThAll K H xs (ss.map PyData.str) → xs = ss.map V.str
  | [], [], _ => rfl
  | _ :: _, _ :: _, .cons (.str x) t => by rw [List.map_cons, strs_vs t]
theorem eqv_strs : ∀ ss cs : List Str, PyData.eqvAll (ss.map PyData.str) (cs.map PyData.str) = decide (ss = cs)
  | [], [] => rfl
  | [], _ :: _ => rfl
  | _ :: _, [] => rfl
  | x :: r, y :: t => by
    have e : PyData.eqvAll ((x :: r).map PyData.str) ((y :: t).map PyData.str) = ((x == y) && PyData.eqvAll (r.map PyData.str) (t.map PyData.str)) := by
      rw [List.map_cons, List.map_cons, PyData.eqvAll]
      rfl
    rw [e, eqv_strs r t, Bool.eq_iff_iff, Bool.and_eq_true, beq_iff_eq, decide_eq_true_iff, decide_eq_true_iff, List.cons.injEq]
theorem name_ok {x : Str} (h : dName (.str x) = true) : PyData.strOk x = true := by
  refine ok_of_all fun c hc => ?_
  have h2 : (!(TL.tl x).isEmpty && ((TL.tl x).dropWhile upB).all loB) = true := h
  rw [Bool.and_eq_true, List.all_eq_true] at h2
  rw [← List.takeWhile_append_dropWhile (p := upB) (l := TL.tl x)] at hc
  rcases List.mem_append.mp hc with hc | hc
  · have := List.all_eq_true.mp (List.all_takeWhile (p := upB) (l := TL.tl x)) c hc
    simp only [upB, Bool.and_eq_true, decide_eq_true_eq] at this
    omega
  · have := h2.2 c hc
    simp only [loB, Bool.and_eq_true, decide_eq_true_eq] at this
    omega
theorem shaped_tstrs {ss : List Str} (h : ∀ x ∈ ss, PyData.strOk x = true) : SeqAt.shaped (.tuple (ss.map PyData.str)) = true := by
  have h1 : ∀ l : List Str, (∀ x ∈ l, PyData.strOk x = true) → PyData.canLayAll0 (l.map PyData.str) = true ∧ PyData.depthAll (l.map PyData.str) = 0 := fun l => by
    induction l with
    | nil => exact fun _ => ⟨rfl, rfl⟩
    | cons x r ih =>
      intro h
      obtain ⟨a, b⟩ := ih fun y hy => h y (List.mem_cons_of_mem _ hy)
      refine ⟨?_, ?_⟩
      · rw [List.map_cons, PyData.canLayAll0, a, Bool.and_true]
        exact h x List.mem_cons_self
      · rw [List.map_cons, PyData.depthAll, b]
        rfl
  obtain ⟨a, b⟩ := h1 ss h
  unfold SeqAt.shaped
  rw [PyData.canLay0, a, PyData.depth, b]
  rfl
theorem dp_tstrs {H : Hp} : ∀ ss : List Str, DpAll K H (ss.map V.str) (ss.map PyData.str)
  | [] => .nil
  | x :: r => .cons (.str x) (dp_tstrs r)
theorem sc_p_are_files : FnScope ["thing", "name"] ["thing"] (defScope s_p_are_files) := ⟨rfl, rfl, rfl, by decide +kernel, rfl, by decide +kernel, by decide +kernel⟩
theorem cal_p_are_files (D : Def1 K mg "are_files" s_p_are_files) (T : Glc mg) (G : Glb mg) (B : Glk mg) (F : Con1 mg "MOST_FILES" (.int 60)) (C1 : Cal P w K mg base 1 "is_name" (spIsName K)) (C2 : Cal P w K mg base 1 "ascending" (spAsc K)) : Cal P w K mg base 2 "are_files" (spOneS K dFiles) := by
  refine mkCal D sc_p_are_files (fun _ _ _ _ _ _ us hl => match us, hl with | [_], _ => rfl) (fun vs H Q E h => ?_) (fun f cdv A outer s H vs Q E hr h => ?_)
  · obtain ⟨v, d, rfl, _⟩ := h
    rfl
  · obtain ⟨v, d, rfl, ht, hb, k⟩ := h
    refine ⟨_, pss_cons (ps_if (PW.pt (pw_or (pt_not (pt_val (pe_isi (T := "tuple") (pv 0) T.isinst T.tuple (by decide +kernel)))) (pw_or1 (pt_cmpR op_gt (pe_callB call_len_seq (by rfl) G.len PySem.boot_len (pa_cons (pv 0) pa_nil)) (pe_con1 F) (nomark _))))) (pss_one (ps_ret pe_bl)) pss_nil)
      (pss_one (ps_ret (pe_and (pe_callB (cr_all rfl) (by rfl) B.all (by decide +kernel) (pa_cons (pe_lc (own := [("name", 1)]) (g := gName 1) (tt := tYes) (by rfl) sc_p_are_files.nd (pi_tup (pv 0))
        (blkOk_by (own := [("name", 1)]) (N := ["thing", "name"]) (sc := defScope s_p_are_files) (by decide +kernel)) (fun _ _ _ _ _ => pg_name (i := 1) sc_p_are_files.nd rfl (Or.inl rfl)) (fun _ _ _ _ _ => pts_nil)
        (fun _ _ _ _ _ => pe_cal C1 hr (by decide) (pa_cons (pv 1) pa_nil))) pa_nil)) (pe_one (pe_cmpR (op_eqD hr.units) (pv 0) (pe_cal C2 hr (by decide) (pa_cons (pv 0) pa_nil)) (nomark _)))))), ?_⟩
    refine ⟨_, rfl, v, _, _, _, _, rfl, .ty _, th_ty ht, kit_tup d, _, rfl, ?_⟩
    cases e : isTup d with
    | false =>
      have z : dFiles d = false := by
        cases d with
        | tuple ds => cases e
        | _ => rfl
      rw [z] at k
      exact iteT (iteT (k H (Same.refl H)))
    | true =>
      obtain ⟨a, xs, ds, rfl, rfl, hs, ha⟩ := th_tup ht e
      have hl := thAll_len ha
      have ed : dFiles (.tuple ds) = (decide (ds.length ≤ 60) && (ds.all dName && decide (ds.map strD = ascL (ds.map strD)))) := rfl
      refine iteF ⟨_, rfl, a, xs, rfl, .inr hs, _, _, rfl, rfl, _, rfl, ?_⟩
      refine ite2 (fun h1 => ?_) (fun h1 => ?_)
      · have g : ¬ ds.length ≤ 60 := by
          have := of_decide_eq_true h1
          omega
        rw [ed, decide_eq_false g, Bool.false_and] at k
        exact k H (Same.refl H)
      · have g : ds.length ≤ 60 := by
          apply Classical.byContradiction
          intro z
          exact h1 (decide_eq_true (by omega))
        rw [ed, decide_eq_true g, Bool.true_and] at k
        refine all_read (n := 2) rfl hs ha (by omega) (fun _ => rfl) (fun x d H' R hd th s q => ⟨_, rfl, x, d, rfl, th, Nat.le_trans (bulk_in hd) hb, q H' (Same.refl H')⟩) fun H1 s1 => ⟨_, rfl, ?_⟩
        cases e2 : ds.all dName with
        | false =>
          rw [e2, Bool.false_and] at k
          exact iteF (k H1 s1)
        | true =>
          rw [e2, Bool.true_and] at k
          have en := names_strs e2
          generalize ds.map strD = ss at en k
          subst en
          have ex := strs_vs ha
          subst ex
          have ok : ∀ x ∈ ss, PyData.strOk x = true := fun x hx => name_ok (List.all_eq_true.mp e2 _ (List.mem_map.mpr ⟨x, hx, rfl⟩))
          rw [List.length_map] at g
          have small : ∀ y ∈ ss, y.length ≤ sizeLine := fun y hy => by
            have h2 := bulk_in (List.mem_map.mpr ⟨y, hy, rfl⟩ : PyData.str y ∈ ss.map PyData.str)
            have h3 : (PyData.str y).bulk ≤ 1000000 := Nat.le_trans h2 hb
            exact Nat.le_trans h3 (by decide)
          refine iteT ⟨_, rfl, _, rfl, a, ss, rfl, .inr (Same.seqT s1 hs), by show ss.length + 1 < 4096; omega, small, fun cs p H2 s2 hp asc => ?_⟩
          have ec : cs = ascL ss := asc.uniq (ascL_is ss)
          have okc : ∀ x ∈ cs, PyData.strOk x = true := fun x hx => ok x ((asc.mem x).mp hx)
          refine ⟨.tuple (ss.map .str), .tuple (cs.map .str), .tup (Same.seqT (s1.trans s2) hs) (dp_tstrs ss), .tup (.inl (.inl hp)) (dp_tstrs cs), shaped_tstrs ok, shaped_tstrs okc, ?_⟩
          have ev : PyData.eqv (.tuple (ss.map .str)) (.tuple (cs.map .str)) = decide (ss = ascL ss) := by
            rw [← ec]
            exact eqv_strs ss cs
          rw [ev]
          exact k H2 (s1.trans s2)
end
end Lk

/-! K22j -/
set_option Elab.async false
set_option linter.all false
set_option maxRecDepth 100000
set_option maxHeartbeats 4000000
namespace Lk
open PySem PySem.Spec PyProof.Rows L2
section
variable {P : Program} {w : World} {K : PySem.W.Frag} {mg : Str → Option Value} {base : Heap} {C : Addr}
/-- the names of files, ascending -/
structure Fl (F : List Str) : Prop where
  ok : dFiles (.tuple (F.map PyData.str)) = true
  len : ∀ y ∈ F, y.length ≤ 1000
theorem Fl.few {F : List Str} (h : Fl F) : F.length ≤ 60 := by
  have z := h.ok
  unfold dFiles at z
  simp only [Bool.and_eq_true, decide_eq_true_eq, List.length_map] at z
  exact z.1
theorem strD_map (F : List Str) : (F.map PyData.str).map strD = F := by
  rw [List.map_map]
  exact (List.map_congr_left fun x _ => rfl).trans (List.map_id _)
theorem Fl.asc {F : List Str} (h : Fl F) : F = ascL F := by
  have z := h.ok
  unfold dFiles at z
  simp only [Bool.and_eq_true, decide_eq_true_eq, List.length_map, strD_map] at z
  exact z.2.2
theorem Fl.nd {F : List Str} (h : Fl F) : F.Nodup := by
  rw [h.asc]
  exact (ascL_is F).1
theorem Fl.bulk {F : List Str} (h : Fl F) : (PyData.tuple (F.map PyData.str)).bulk ≤ 1000000 := by
  have s : PyData.bulkAll (F.map PyData.str) ≤ (F.map PyData.str).length * (1000 + 1) := bulkAll_le fun d m => by
    obtain ⟨y, my, rfl⟩ := List.mem_map.mp m
    exact h.len y my
  rw [List.length_map] at s
  have few := h.few
  show PyData.bulkAll (F.map PyData.str) ≤ 1000000
  omega
theorem th_strs2 {H : Hp} : ∀ ss : List Str, ThAll K H (ss.map V.str) (ss.map PyData.str)
  | [] => .nil
  | x :: r => .cons (.str x) (th_strs2 r)
def spNeedF (K : PySem.W.Frag) : Sp := fun vs H Q _ => ∃ (f : Addr) (F : List Str), vs = [.ref f] ∧ SqT K H f (F.map V.str) ∧ Fl F ∧ ∀ H', Same H H' → Q .non H'
theorem sc_p_need_files : FnScope ["thing"] ["thing"] (defScope s_p_need_files) := ⟨rfl, rfl, rfl, by decide +kernel, rfl, by decide +kernel, by decide +kernel⟩
theorem cal_p_need_files (D : Def1 K mg "need_files" s_p_need_files) (C1 : Cal P w K mg base 2 "are_files" (spOneS K dFiles)) : Cal P w K mg base 3 "need_files" (spNeedF K) := by
  refine mkCal D sc_p_need_files (fun _ _ _ _ _ _ us hl => match us, hl with | [_], _ => rfl) (fun vs H Q E h => ?_) (fun f cdv A outer s H vs Q E hr h => ?_)
  · obtain ⟨f, F, rfl, _⟩ := h
    rfl
  · obtain ⟨f, F, rfl, hf, hF, k⟩ := h
    refine ⟨_, pss_one (ps_if (pt_not (pt_val (pe_cal C1 hr (by decide) (pa_cons (pv 0) pa_nil)))) (pss_one ps_never) pss_nil), ?_⟩
    exact ⟨_, rfl, .ref f, _, rfl, .tup hf (th_strs2 F), hF.bulk, fun H' s => ⟨_, rfl, iteF' (by rw [hF.ok]; rfl) (k H' s)⟩⟩
def spThings (K : PySem.W.Frag) : Sp := fun vs H Q _ => ∃ (q f : Addr) (xs : List V) (rs : List Rl) (F : List Str) (z : Str), vs = [.ref q, .ref f, .str z] ∧ SqT K H q xs ∧ ThAll K H xs (rs.map Rl.d) ∧ dBook (.tuple (rs.map Rl.d)) = true ∧ SqT K H f (F.map V.str) ∧ Fl F ∧ z.length ≤ 1000 ∧ dName (.str z) = true ∧ ∀ H', Same H H' → Q .non H'
theorem sc_p_things : FnScope ["book", "files", "name"] ["book", "files", "name"] (defScope s_p_need_things) := ⟨rfl, rfl, rfl, by decide +kernel, rfl, by decide +kernel, by decide +kernel⟩
theorem cal_p_things (D : Def1 K mg "need_things" s_p_need_things) (CB : Cal P w K mg base 7 "need_book" (spNeedB K)) (CF : Cal P w K mg base 3 "need_files" (spNeedF K)) (CN : Cal P w K mg base 2 "need_name" (spNeed0 K)) : Cal P w K mg base 8 "need_things" (spThings K) := by
  refine mkCal D sc_p_things (fun _ _ _ _ _ _ us hl => match us, hl with | [_, _, _], _ => rfl) (fun vs H Q E h => ?_) (fun f cdv A outer s H vs Q E hr h => ?_)
  · obtain ⟨q, f, xs, rs, F, z, rfl, _⟩ := h
    rfl
  · obtain ⟨q, f, xs, rs, F, z, rfl, hq, hx, hB, hf, hF, lz, nz, k⟩ := h
    refine ⟨_, pss_cons (ps_expr (pe_cal CB hr (by decide) (pa_cons (pv 0) pa_nil))) (pss_cons (ps_expr (pe_cal CF hr (by decide) (pa_cons (pv 1) pa_nil))) (pss_one (ps_expr (pe_cal CN hr (by decide) (pa_cons (pv 2) pa_nil))))), ?_⟩
    refine ⟨_, rfl, q, xs, rs, rfl, hq, hx, hB, fun H1 s1 => ?_⟩
    refine ⟨_, rfl, f, F, rfl, Same.seqT s1 hf, hF, fun H2 s2 => ?_⟩
    exact ⟨_, rfl, z, rfl, Nat.le_trans lz (by decide), nz, k H2 (s1.trans s2)⟩
/-- what the calls ask of a book, files and a name -/
structure Asks (K : PySem.W.Frag) (H : Hp) (q f : Addr) (rs : List Rl) (F : List Str) (z : Str) (Ok : Place → Prop) : Prop where
  bk : ∃ xs, SqT K H q xs ∧ ThAll K H xs (rs.map Rl.d)
  fl : SqT K H f (F.map V.str)
  fok : Fl F
  nz : dName (.str z) = true
  ok : OkR rs Ok
  st : Ok (z, [])
theorem Asks.same {H H' : Hp} {q f : Addr} {rs : List Rl} {F : List Str} {z : Str} {Ok : Place → Prop} (A : Asks K H q f rs F z Ok) (s : Same H H') : Asks K H' q f rs F z Ok := by
  obtain ⟨xs, h1, h2⟩ := A.bk
  exact ⟨⟨xs, Same.seqT s h1, thAll_same s h2⟩, Same.seqT s A.fl, A.fok, A.nz, A.ok, A.st⟩
def spWay (K : PySem.W.Frag) : Sp := fun vs H Q _ => ∃ (q f : Addr) (rs : List Rl) (F : List Str) (z : Str) (Ok : Place → Prop), vs = [.ref q, .ref f, .str z] ∧ Asks K H q f rs F z Ok ∧ ∀ (v : V) (H' : Hp), Same H H' → RW K H' v (way rs F z []) → Q v H'
theorem sc_p_way : FnScope ["book", "files", "name"] ["book", "files", "name"] (defScope s_p_way) := ⟨rfl, rfl, rfl, by decide +kernel, rfl, by decide +kernel, by decide +kernel⟩
theorem cal_p_way (D : Def1 K mg "way" s_p_way) (Z : Kls K mg "Search" C) (cl : SCls K C) (CH : Cal P w K mg base 8 "need_things" (spThings K)) (CI : MCal P w K mg base C 1 "__init__" (spInit P w K C)) (CT : MCal P w K mg base C 23 "told" (spTold P w K C 7)) : Cal P w K mg base 24 "way" (spWay K) := by
  refine mkCal D sc_p_way (fun _ _ _ _ _ _ us hl => match us, hl with | [_, _, _], _ => rfl) (fun vs H Q E h => ?_) (fun f cdv A outer s H vs Q E hr h => ?_)
  · obtain ⟨q, f, rs, F, z, Ok, rfl, _⟩ := h
    rfl
  · obtain ⟨q, f, rs, F, z, Ok, rfl, As, k⟩ := h
    refine ⟨_, (pss_cons (ps_expr (pe_cal CH hr (by omega) (pa_cons (pv 0) (pa_cons (pv 1) (pa_cons (pv 2) pa_nil)))))
    (pss_one (ps_ret (pe_mcal CT cl.cl hr (by omega) (pe_new CI Z hr (by decide) (pa_cons (pv 0) (pa_cons (pv 1) pa_nil))) (pa_cons (pv 2) (pa_cons (pe_tup pa_nil) pa_nil)))))), ?_⟩
    obtain ⟨xs, hq, hx⟩ := As.bk
    have lz := (As.ok.tx _ As.st).2
    refine ⟨_, rfl, _, rfl, _, rfl, q, f, xs, rs, F, z, rfl, hq, hx, As.ok.bk, As.fl, As.fok, lz, As.nz, fun H1 s1 => ?_⟩
    refine ⟨_, rfl, _, rfl, fun o dx no nd ne => ?_⟩
    have s2 : Same H1 (upd (upd H1 dx (.own o)) o (.ins C dx [])) := fun b u e => by
      rw [upd_ne (ne_of_none e no), upd_ne (ne_of_none e nd)]
      exact e
    have ho : upd (upd H1 dx (.own o)) o (.ins C dx []) o = some (.ins C dx []) := upd_same
    have s12 := s1.trans s2
    generalize upd (upd H1 dx (.own o)) o (.ins C dx []) = H2 at s2 ho s12
    refine ⟨o, dx, q, f, xs, rs, F, rfl, ho, Same.seqT s12 hq, thAll_same s12 hx, Same.seqT s12 As.fl, As.fok.nd, Nat.le_trans As.fok.few (by decide), fun d1 kd H3 n1 n2 b3 mk => ⟨rfl, ?_⟩⟩
    have S3 := mk Ok
    obtain ⟨dx3, hob3⟩ := S3.ob
    refine ⟨o, dx3, _, rfl, hob3, flds_no _ _ _ (by decide +kernel) (by decide +kernel) (by decide +kernel), _, rfl, (by show 0 ≤ sizeLine; decide), fun t nt => ?_⟩
    have s4 := same_upd (o := .tup []) nt
    have t4 : upd H3 t (.tup []) t = some (.tup (([] : List Nat).map fun n : Nat => V.int (n : Int))) := upd_same
    have S4 := S3.same s4
    have many := (book_len As.ok.bk).1
    refine ⟨o, q, d1, kd, t, rs, F, z, [], Ok, rfl, S4, As.ok, t4, As.st, by show rs.length + 1 ≤ 0 + 7; omega, fun v H5 b5 S5 rw5 => ?_⟩
    refine k v H5 (fun b u e => ?_) rw5
    have e2 := s12 _ _ e
    have no2 : b ≠ o := ne_of_none (s1 _ _ e) no
    exact b5 _ _ (s4 _ _ (b3 _ _ e2 no2)) (ne_of_none e2 n2)
def spCan (K : PySem.W.Frag) : Sp := fun vs H Q _ => ∃ (q f : Addr) (rs : List Rl) (F : List Str) (z : Str) (Ok : Place → Prop), vs = [.ref q, .ref f, .str z] ∧ Asks K H q f rs F z Ok ∧ ∀ H', Same H H' → Q (.bl (way rs F z []).isSome) H'
theorem sc_p_can : FnScope ["book", "files", "name"] ["book", "files", "name"] (defScope s_p_can) := ⟨rfl, rfl, rfl, by decide +kernel, rfl, by decide +kernel, by decide +kernel⟩
theorem cal_p_can (D : Def1 K mg "can" s_p_can) (CW : Cal P w K mg base 24 "way" (spWay K)) : Cal P w K mg base 25 "can" (spCan K) := by
  refine mkCal D sc_p_can (fun _ _ _ _ _ _ us hl => match us, hl with | [_, _, _], _ => rfl) (fun vs H Q E h => ?_) (fun f cdv A outer s H vs Q E hr h => ?_)
  · obtain ⟨q, f, rs, F, z, Ok, rfl, _⟩ := h
    rfl
  · obtain ⟨q, f, rs, F, z, Ok, rfl, As, k⟩ := h
    refine ⟨_, (pss_one (ps_ret (pe_cmpR op_notN (pe_cal CW hr (by omega) (pa_cons (pv 0) (pa_cons (pv 1) (pa_cons (pv 2) pa_nil)))) pe_non (nomark _)))), ?_⟩
    refine ⟨_, rfl, _, rfl, _, rfl, q, f, rs, F, z, Ok, rfl, As, fun v H1 s1 rw1 => ⟨rfl, ?_⟩⟩
    have e := rw_non As.ok As.st rw1
    have y := k H1 s1
    show Q (V.bl (!decide (v = .non))) H1
    rw [e]
    cases h : way rs F z [] with
    | none =>
      rw [h] at y
      exact y
    | some d =>
      rw [h] at y
      exact y
end
end Lk

/-! K22A -/
set_option Elab.async false
set_option linter.all false
set_option maxRecDepth 100000
set_option maxHeartbeats 4000000
namespace Lk
open PySem PySem.Spec PyProof.Rows L2
/-! ### what a way makes -/
def wName : PyData → Str
  | .tuple (.str z :: _) => z
  | _ => ""
def wKids : PyData → List PyData
  | .tuple (_ :: _ :: ds) => ds
  | _ => []
inductive WD : Nat → PyData → Prop
  | leaf {n : Nat} {z : Str} : WD n (leafD z)
  | node {n : Nat} {z lab : Str} {ds : List PyData} : ds.length ≤ 3 → (∀ d ∈ ds, WD n d) → WD (n + 1) (nodeD z lab ds)
theorem isW_wd {rs : List Rl} {F : List Str} (L : ∀ r ∈ rs, RlLen r) {n : Nat} {z : Str} {sp : List Nat} {d : PyData} (h : IsW rs F n z sp d) : WD n d := by
  induction h with
  | leaf _ => exact .leaf
  | @node n z sp c ds h1 h2 h3 h4 h5 ih =>
    obtain ⟨r, hr, _, _, e⟩ := fit_row h2
    refine .node (by rw [h3, e]; exact of_few (L r (List.mem_of_getElem? hr)) z) fun d md => ?_
    obtain ⟨i, hi, e2⟩ := List.getElem_of_mem md
    have hd : ds[i]? = some d := by rw [← e2]; exact List.getElem?_eq_getElem hi
    have hc : c.2[i]? = some (c.2[i]'(by omega)) := List.getElem?_eq_getElem (by omega)
    exact ih i _ d hc hd
structure WShape (n : Nat) (d : PyData) (z : Str) (rest : List PyData) : Prop where
  e : d = .tuple (.str z :: rest)
  nm : wName d = z
  kids : wKids d = rest.drop 1
  few : (rest.drop 1).length ≤ 3
  each : ∀ x ∈ rest.drop 1, ∃ m, n = m + 1 ∧ WD m x
  short : rest.length ≤ 4
theorem WD.shape {n : Nat} {d : PyData} (h : WD n d) : ∃ z rest, WShape n d z rest := by
  cases h with
  | leaf =>
    rename_i z
    exact ⟨z, [], rfl, rfl, rfl, Nat.zero_le _, (fun _ m => nomatch m), Nat.zero_le _⟩
  | node h1 h2 =>
    rename_i m z lab ds
    exact ⟨z, .str lab :: ds, rfl, rfl, rfl, h1, fun x mx => ⟨m, rfl, h2 x mx⟩, by rw [List.length_cons]; omega⟩
abbrev St2 := List Str × List Str
def add2 (z : Str) (st : St2) : St2 := if z ∈ st.1 then st else (st.1 ++ [z], st.2 ++ [z])
def mk2 : Nat → PyData → St2 → St2
  | 0, d, st => if wName d ∈ st.1 then st else add2 (wName d) st
  | n + 1, d, st => if wName d ∈ st.1 then st else add2 (wName d) ((wKids d).foldl (fun s e => mk2 n e s) st)
theorem add2_len (z : Str) (st : St2) : (add2 z st).1.length ≤ st.1.length + 1 ∧ (add2 z st).2.length ≤ st.2.length + 1 := by
  unfold add2
  split
  · omega
  · rw [List.length_append, List.length_append]
    exact ⟨Nat.le_refl _, Nat.le_refl _⟩
theorem pow4 (n : Nat) : 1 ≤ 4 ^ n := Nat.pow_pos (by decide)
theorem fold2_len {f : PyData → St2 → St2} {b : Nat} (hf : ∀ e s, (f e s).1.length ≤ s.1.length + b ∧ (f e s).2.length ≤ s.2.length + b) : ∀ (ds : List PyData) (st : St2), (ds.foldl (fun s e => f e s) st).1.length ≤ st.1.length + ds.length * b ∧ (ds.foldl (fun s e => f e s) st).2.length ≤ st.2.length + ds.length * b
  | [], st => ⟨by simp, by simp⟩
  | d :: ds, st => by
    have a := hf d st
    have c := fold2_len hf ds (f d st)
    rw [List.foldl_cons, List.length_cons, Nat.add_mul, Nat.one_mul]
    omega
def wid : Nat → PyData → Nat
  | 0, _ => 1
  | n + 1, d => 1 + ((wKids d).map (wid n)).sum
theorem fold2_sum {n : Nat} (hf : ∀ e s, (mk2 n e s).1.length ≤ s.1.length + wid n e ∧ (mk2 n e s).2.length ≤ s.2.length + wid n e) : ∀ (ds : List PyData) (st : St2), (ds.foldl (fun s e => mk2 n e s) st).1.length ≤ st.1.length + (ds.map (wid n)).sum ∧ (ds.foldl (fun s e => mk2 n e s) st).2.length ≤ st.2.length + (ds.map (wid n)).sum
  | [], st => ⟨by simp, by simp⟩
  | d :: ds, st => by
    have a := hf d st
    have c := fold2_sum hf ds (mk2 n d st)
    rw [List.foldl_cons, List.map_cons, List.sum_cons]
    omega
theorem mk2_len : ∀ (n : Nat) (d : PyData) (st : St2), (mk2 n d st).1.length ≤ st.1.length + wid n d ∧ (mk2 n d st).2.length ≤ st.2.length + wid n d
  | 0, d, st => by
    unfold mk2 wid
    split
    · omega
    · exact add2_len _ _
  | n + 1, d, st => by
    unfold mk2 wid
    split
    · omega
    · have a := add2_len (wName d) ((wKids d).foldl (fun s e => mk2 n e s) st)
      have b := fold2_sum (mk2_len n) (wKids d) st
      omega
theorem sum_le3 {b : Nat} {f : PyData → Nat} : ∀ {ds : List PyData}, (∀ d ∈ ds, f d ≤ b) → (ds.map f).sum ≤ ds.length * b
  | [], _ => Nat.zero_le _
  | d :: ds, h => by
    have a := h d List.mem_cons_self
    have c := sum_le3 fun e m => h e (List.mem_cons_of_mem _ m)
    rw [List.map_cons, List.sum_cons, List.length_cons, Nat.add_mul, Nat.one_mul]
    omega
theorem wid_le {n : Nat} {d : PyData} (h : WD n d) : wid n d ≤ 4 ^ n := by
  induction h with
  | @leaf n z =>
    cases n with
    | zero => exact Nat.le_refl _
    | succ n => exact pow4 _
  | @node n z lab ds h1 h2 ih =>
    have s : (ds.map (wid n)).sum ≤ ds.length * 4 ^ n := sum_le3 ih
    have p := pow4 n
    have m : ds.length * 4 ^ n ≤ 3 * 4 ^ n := Nat.mul_le_mul_right _ h1
    show 1 + (ds.map (wid n)).sum ≤ 4 ^ (n + 1)
    rw [Nat.pow_succ]
    omega
def But2 (a b : Addr) (H H' : Hp) : Prop := ∀ q o, H q = some o → q ≠ a → q ≠ b → H' q = some o
theorem But2.trans {a b : Addr} {H H1 H2 : Hp} (x : But2 a b H H1) (y : But2 a b H1 H2) : But2 a b H H2 := fun q o h n1 n2 => y q o (x q o h n1 n2) n1 n2
theorem Same.but2 {a b : Addr} {H H' : Hp} (s : Same H H') : But2 a b H H' := fun q o h _ _ => s q o h
theorem But2.tups {a b : Addr} {H H' : Hp} (x : But2 a b H H') (h1 : ∀ ys, H a ≠ some (.tup ys)) (h2 : ∀ o u, H a ≠ some (.frz o u)) (g1 : ∀ ys, H b ≠ some (.tup ys)) (g2 : ∀ o u, H b ≠ some (.frz o u)) : Tups H H' :=
  ⟨fun c xs h => x _ _ h (fun z => h1 xs (z ▸ h)) fun z => g1 xs (z ▸ h), fun c o u h => x _ _ h (fun z => h2 o u (z ▸ h)) fun z => g2 o u (z ▸ h)⟩
theorem cut_from {xs : List V} {i : Int} (h : 0 ≤ i) : cutV xs (some i) none = xs.drop i.toNat := by
  unfold cutV
  rw [sIx_some h, HT.sIx_none]
  by_cases hi : i.toNat ≤ xs.length
  · rw [Nat.min_eq_left hi]
    exact List.take_of_length_le (by rw [List.length_drop]; omega)
  · rw [List.drop_eq_nil_of_le (by omega : xs.length ≤ min i.toNat xs.length), List.drop_eq_nil_of_le (by omega), List.take_nil]
theorem th_drop {K : PySem.W.Frag} {H : Hp} : ∀ {vs : List V} {ds : List PyData} (n : Nat), ThAll K H vs ds → ThAll K H (vs.drop n) (ds.drop n)
  | _, _, 0, h => h
  | _, _, n + 1, .nil => .nil
  | _, _, n + 1, .cons _ t => th_drop n t
section
variable {K : PySem.W.Frag} {n : Nat} {d : PyData} {z : Str} {rest : List PyData} {H : Hp} {v : V}
theorem th_way (h : Th K H v d) (w : WShape n d z rest) : ∃ a vs, v = .ref a ∧ SqT K H a (.str z :: vs) ∧ ThAll K H vs rest := by
  obtain ⟨e, _⟩ := w
  subst e
  cases h with
  | tup hs ha =>
    cases ha with
    | cons h1 t =>
      cases h1
      exact ⟨_, _, rfl, hs, t⟩
theorem rest_onlyT (w : WShape n d z rest) (o : onlyT d = true) : onlyTs (rest.drop 1) = true := by
  rw [w.e] at o
  have o2 : onlyTs (.str z :: rest) = true := o
  exact onlyTs_all.mpr fun x m => onlyTs_all.mp o2 x (List.mem_cons_of_mem _ (List.mem_of_mem_drop m))
end
def spMake (K : PySem.W.Frag) (m : Nat) : Sp := fun vs H Q _ => ∃ (v : V) (d : PyData) (n : Nat) (a l : Addr) (ks ms : List Str), vs = [v, .ref a, .ref l] ∧ Th K H v d ∧ onlyT d = true ∧ WD n d ∧ n < m ∧ H a = some (.dK (dk ks)) ∧ H l = some (.lst (ms.map V.str)) ∧
  ks.length + wid n d ≤ 900000 ∧ ms.length + wid n d ≤ 900000 ∧ ∀ H', But2 a l H H' → H' a = some (.dK (dk (mk2 n d (ks, ms)).1)) → H' l = some (.lst ((mk2 n d (ks, ms)).2.map V.str)) → Q .non H'
def spLMade (K : PySem.W.Frag) (ret : Bool) (m : Nat) : Sp := fun vs H Q _ => ∃ (v : V) (d : PyData) (n : Nat) (a l : Addr) (ks ms : List Str), vs = [v, .ref a, .ref l] ∧ Th K H v d ∧ onlyT d = true ∧ WD n d ∧ n < m ∧ H a = some (.lst (ks.map V.str)) ∧ H l = some (.lst (ms.map V.str)) ∧ a ≠ l ∧
  ks.length + wid n d ≤ 900000 ∧ ms.length + wid n d ≤ 900000 ∧ ∀ H', But2 a l H H' → H' a = some (.lst ((mk2 n d (ks, ms)).1.map V.str)) → H' l = some (.lst ((mk2 n d (ks, ms)).2.map V.str)) → Q (if ret then .ref l else .non) H'
theorem in_strs {z : Str} {ks : List Str} : inV (V.str z) (ks.map V.str) = decide (z ∈ ks) := by
  unfold inV
  rw [Bool.eq_iff_iff, List.any_eq_true, decide_eq_true_iff]
  constructor
  · rintro ⟨x, mx, e⟩
    obtain ⟨y, my, rfl⟩ := List.mem_map.mp mx
    have e2 : y = z := of_decide_eq_true (show decide (y = z) = true from e)
    exact e2 ▸ my
  · intro m
    exact ⟨_, List.mem_map.mpr ⟨z, m, rfl⟩, decide_eq_true rfl⟩
theorem flat_strs {ks : List Str} : (ks.map V.str).all flatV = true := by
  rw [List.all_eq_true]
  intro v m
  obtain ⟨n, _, rfl⟩ := List.mem_map.mp m
  rfl
theorem part_sum {n : Nat} {ds : List PyData} {i : Nat} : ((ds.take i).map (wid n)).sum + ((ds.drop i).map (wid n)).sum = (ds.map (wid n)).sum := by
  rw [← List.sum_append, ← List.map_append, List.take_append_drop]
end Lk

/-! K22C -/
set_option Elab.async false
set_option linter.all false
set_option maxRecDepth 100000
set_option maxHeartbeats 4000000
namespace Lk
open PySem PySem.Spec PyProof.Rows L2
section
variable {P : Program} {w : World} {K : PySem.W.Frag} {mg : Str → Option Value} {base : Heap}
theorem way_wd {rs : List Rl} {F : List Str} {z : Str} {ns : List Nat} {Ok : Place → Prop} (O : OkR rs Ok) (ok : Ok (z, srt ns)) {d : PyData} (h : way rs F z ns = some d) : IsW rs F 6 z ns d ∧ WD 6 d := by
  have p := srt_perm ns
  obtain ⟨nd, lt⟩ := O.nd _ ok
  have i := way_isW 6 (p.nodup_iff.mp nd) (fun k mk => lt k (p.mem_iff.mpr mk)) (by have := (book_len O.bk).1; omega) h
  exact ⟨i, isW_wd (book_len O.bk).2 i⟩
end
end Lk

/-! K22D -/
set_option Elab.async false
set_option linter.all false
set_option maxRecDepth 100000
set_option maxHeartbeats 4000000
namespace Lk
open PySem PySem.Spec PyProof.Rows L2
/-! ### ways: they may be compared -/
theorem canLay_all : ∀ {ds : List PyData}, PyData.canLayAll0 ds = true ↔ ∀ d ∈ ds, d.canLay0 = true
  | [] => ⟨(fun _ _ m => nomatch m), (fun _ => rfl)⟩
  | d :: ds => by
    rw [PyData.canLayAll0, Bool.and_eq_true, canLay_all]
    exact ⟨fun h e m => (List.mem_cons.mp m).elim (fun z => z ▸ h.1) (h.2 e), fun h => ⟨h d List.mem_cons_self, fun e m => h e (List.mem_cons_of_mem _ m)⟩⟩
theorem depth_all {b : Nat} : ∀ {ds : List PyData}, (∀ d ∈ ds, d.depth ≤ b) → PyData.depthAll ds ≤ b
  | [], _ => Nat.zero_le _
  | d :: ds, h => by
    have a := h d List.mem_cons_self
    have c := depth_all fun e m => h e (List.mem_cons_of_mem _ m)
    rw [PyData.depthAll]
    omega
theorem lay_tuple {ds : List PyData} {b : Nat} (h : ∀ d ∈ ds, d.canLay0 = true ∧ d.depth ≤ b) : (PyData.tuple ds).canLay0 = true ∧ (PyData.tuple ds).depth ≤ b + 1 := by
  refine ⟨?_, ?_⟩
  · rw [PyData.canLay0]
    exact canLay_all.mpr fun d m => (h d m).1
  · rw [PyData.depth]
    have := depth_all (b := b) fun d m => (h d m).2
    omega
theorem shaped_of {d : PyData} {b : Nat} (h : d.canLay0 = true ∧ d.depth ≤ b) (hb : b ≤ 64) : SeqAt.shaped d = true := by
  unfold SeqAt.shaped
  rw [h.1, Bool.true_and, decide_eq_true_eq]
  omega
theorem lab_ok {x : Str} (h : dLabel (.str x) = true) : PyData.strOk x = true := by
  refine ok_of_all fun c hc => ?_
  have h2 : (decide (1 ≤ x.length) && (decide (x.length ≤ 8) && (TL.tl x).all loB)) = true := h
  rw [Bool.and_eq_true, Bool.and_eq_true, List.all_eq_true] at h2
  have := h2.2.2 c hc
  simp only [loB, Bool.and_eq_true, decide_eq_true_eq] at this
  omega
theorem rule_lab {rs : List Rl} (h : dBook (.tuple (rs.map Rl.d)) = true) {r : Rl} (m : r ∈ rs) : dLabel (.str r.lab) = true := by
  have h2 : (decide ((rs.map Rl.d).length ≤ 6) && (rs.map Rl.d).all dRule) = true := h
  rw [Bool.and_eq_true, List.all_eq_true] at h2
  have h3 : (dLabel (.str r.lab) && (dPat (.tuple [.str r.b, .str r.e]) && (decide ((r.ss.map Src.d).length ≤ 3) && (r.ss.map Src.d).all dSrc1))) = true := h2.2 _ (List.mem_map.mpr ⟨r, m, rfl⟩)
  rw [Bool.and_eq_true] at h3
  exact h3.1
theorem srt_cons {ns : List Nat} {k : Nat} : srt (srt ns ++ [k]) = srt (k :: ns) := srt_same ((List.perm_append_singleton k _).trans ((srt_perm ns).cons k))
theorem srt_snoc {ns : List Nat} {k : Nat} : srt (ns ++ [k]) = srt (k :: ns) := srt_same (List.perm_append_singleton k _)
theorem ok_succ {rs : List Rl} {Ok : Place → Prop} (O : OkR rs Ok) {z : Str} {sp : List Nat} (ok : Ok (z, srt sp)) {c : WRow} (h : c ∈ fitD rs z sp) {s : Str} (m : s ∈ c.2) : Ok (s, srt (c.1 :: sp)) := by
  obtain ⟨r, hr, no, _, e⟩ := fit_row h
  exact O.cl (z, srt sp) _ ok ⟨c.1, r, hr, fun x => no (mem_srt.mp x), by rw [← e]; exact m, srt_cons.symm⟩
theorem isW_lay {rs : List Rl} {F : List Str} {Ok : Place → Prop} (O : OkR rs Ok) {n : Nat} {z : Str} {sp : List Nat} {d : PyData} (h : IsW rs F n z sp d) : Ok (z, srt sp) → d.canLay0 = true ∧ d.depth ≤ n + 1 := by
  induction h with
  | @leaf n z sp _ =>
    intro ok
    have y := lay_tuple (ds := [.str z]) (b := n) fun d m => by
      rw [List.mem_singleton.mp m]
      exact ⟨(O.tx _ ok).1, Nat.zero_le _⟩
    exact y
  | @node n z sp c ds h1 h2 h3 h4 h5 ih =>
    intro ok
    obtain ⟨r, hr, _, _, _⟩ := fit_row h2
    refine lay_tuple (b := n + 1) fun d m => ?_
    rcases List.mem_cons.mp m with e | m
    · rw [e]
      exact ⟨(O.tx _ ok).1, Nat.zero_le _⟩
    · rcases List.mem_cons.mp m with e | m
      · rw [e]
        refine ⟨?_, Nat.zero_le _⟩
        have e2 : labO rs c.1 = r.lab := by
          unfold labO
          rw [hr]
        rw [e2]
        exact lab_ok (rule_lab O.bk (List.mem_of_getElem? hr))
      · obtain ⟨i, hi, e2⟩ := List.getElem_of_mem m
        have hd : ds[i]? = some d := by rw [← e2]; exact List.getElem?_eq_getElem hi
        have hc : c.2[i]? = some (c.2[i]'(by omega)) := List.getElem?_eq_getElem (by omega)
        exact ih i _ d hc hd (ok_succ O ok h2 (List.mem_of_getElem? hc))
/-- a way, or None, as data -/
def wayD : Option PyData → PyData
  | none => .none
  | some d => d
theorem RW.th {K : PySem.W.Frag} {H : Hp} {v : V} {o : Option PyData} (h : RW K H v o) : Th K H v (wayD o) := by
  cases o with
  | none =>
    have e : v = .non := h
    rw [e]
    exact .non
  | some d => exact h.1
theorem way_lay {rs : List Rl} {F : List Str} {Ok : Place → Prop} (O : OkR rs Ok) {z : Str} {ns : List Nat} (ok : Ok (z, srt ns)) : (wayD (way rs F z ns)).canLay0 = true ∧ (wayD (way rs F z ns)).depth ≤ 7 := by
  cases h : way rs F z ns with
  | none => exact ⟨rfl, Nat.zero_le _⟩
  | some d => exact isW_lay O (way_wd O ok h).1 ok
theorem way_shaped {rs : List Rl} {F : List Str} {Ok : Place → Prop} (O : OkR rs Ok) {z : Str} {ns : List Nat} (ok : Ok (z, srt ns)) : SeqAt.shaped (wayD (way rs F z ns)) = true := shaped_of (way_lay O ok) (by decide)
theorem eqv_self {d : PyData} (h : SeqAt.shaped d = true) : PyData.eqv d d = true := by
  exact SeqAt.eqv_refl d (SeqAt.canLay_of_shaped h)
end Lk

/-! K22E -/
set_option Elab.async false
set_option linter.all false
set_option maxRecDepth 100000
set_option maxHeartbeats 4000000
namespace Lk
open PySem PySem.Spec PyProof.Rows L2
section
variable {K : PySem.W.Frag}
theorem fills_readX {σ : L2.St} {H : Hp} {a : Addr} {xs : List V} {ss : List Src} {m : Str} {jm iv : Nat} {tx : TE} {Q : VK} (hv : ∀ R : VK, R (.ref a) H → tx σ H R) (hs : SqT K H a xs) (ha : ThAll K H xs (ss.map Src.d)) (small : ss.length ≤ 1000) (len : ∀ s ∈ ss, SrcLen s) (lm : m.length ≤ 1000000)
    (wp : ∀ x : V, wipe ((wipe σ [iv]).set iv (some x)) [iv] = wipe σ [iv]) (hi : ∀ x : V, ((wipe σ [iv]).set iv (some x))[iv]? = some (some x)) (hm : ∀ x : V, ((wipe σ [iv]).set iv (some x))[jm]? = some (some (.str m)))
    (k : ∀ D H', H D = none → Same H H' → H' D = some (.lst ((ss.map (Src.put m)).map V.str)) → Q (.ref D) H') :
    tLc (iTup K tx) (gName iv) tYes (tCall (spFill K) [] E0 (tCons (tVar iv) (tCons (tVar jm) tNil))) [iv] σ H Q := by
  have hl := thAll_len ha
  rw [List.length_map] at hl
  refine hv _ ⟨a, rfl, ⟨_, hs⟩, fun D nD => ?_⟩
  refine lc_tup (K := K) (a := a) (xs := xs) (fun i H' => H' D = some (.lst (((ss.take i).map (Src.put m)).map V.str)) ∧ Same H H') ⟨upd_same, same_upd nD⟩ (fun i H' _ h => Same.seqT h.2 hs) ?_ ?_
  · rintro i x H' hx ⟨hD, s⟩
    obtain ⟨d, hd, th⟩ := th_at ha hx
    rw [List.getElem?_map, Option.map_eq_some_iff] at hd
    obtain ⟨c, hc, rfl⟩ := hd
    have hlt : i < ss.length := (List.getElem?_eq_some_iff.mp hc).1
    refine ⟨wp x, put_read (c := c) (hi x) (hm x) (th_same s th) (len c (List.mem_of_getElem? hc)) lm ⟨_, hD, ?_, ?_, same_mut s nD⟩⟩
    · rw [List.length_map, List.length_map, List.length_take, sizeLine_eq]
      omega
    · rw [upd_same, List.take_add_one, hc, List.map_append, List.map_append]
      rfl
  · rintro H' ⟨hD, s⟩
    rw [hl, List.take_length] at hD
    exact k D H' nD s hD
end
/-- a row of the law's, as it lies on the heap: its tuple, its list, its number and names, its label -/
abbrev LCell := Addr × Addr × WRow × Str
def LCellOk (H : Hp) (c : LCell) : Prop := H c.1 = some (.tup [.int (c.2.2.1.1 : Int), .str c.2.2.2, .ref c.2.1]) ∧ H c.2.1 = some (.lst (c.2.2.1.2.map V.str))
theorem LCellOk.same {H H' : Hp} {c : LCell} (h : LCellOk H c) (s : Same H H') : LCellOk H' c := ⟨s _ _ h.1, s _ _ h.2⟩
def spLWay (K : PySem.W.Frag) (m : Nat) : Sp := fun vs H Q _ => ∃ (q f t : Addr) (rs : List Rl) (F : List Str) (z : Str) (ns : List Nat) (Ok : Place → Prop), vs = [.ref q, .ref f, .str z, .ref t] ∧ (∃ xs, SqT K H q xs ∧ ThAll K H xs (rs.map Rl.d)) ∧ SqT K H f (F.map V.str) ∧ OkR rs Ok ∧
  H t = some (.tup (ns.map fun n : Nat => V.int (n : Int))) ∧ Ok (z, srt ns) ∧ rs.length + 1 ≤ ns.length + m ∧ ∀ (v : V) (H' : Hp), Same H H' → RW K H' v (way rs F z ns) → Q v H'
/-- (name, label) + what is made of the ways -/
theorem cat_end {K : PySem.W.Frag} {H : Hp} {t1 b : Addr} {z lab : Str} {vs : List V} {ds : List PyData} {Q : VK} (h1 : SqT K H t1 [.str z, .str lab]) (h2 : SqT K H b vs) (ta : ThAll K H vs ds) (ot : onlyTs ds = true) (few : vs.length ≤ 3)
    (k : ∀ v H', Same H H' → Th K H' v (nodeD z lab ds) ∧ onlyT (nodeD z lab ds) = true → Q v H') : rCatA K (.ref t1) (.ref b) H Q := by
  have oo : onlyT (nodeD z lab ds) = true := by
    show onlyTs _ = true
    simp [onlyTs, onlyT, ot]
  refine ⟨t1, b, _, _, rfl, rfl, h1, h2, by rw [sizeLine_eq]; show 2 + vs.length ≤ _; omega, (fun e => nomatch e), fun _ e => ?_, fun _ _ p np => ?_⟩
  · subst e
    cases ta
    exact k _ H (Same.refl H) ⟨.tup h1 (.cons (.str z) (.cons (.str lab) .nil)), oo⟩
  · exact k _ _ (same_upd np) ⟨.tup (SqT.of upd_same) (.cons (.str z) (.cons (.str lab) (thAll_tups (Same.tups (same_upd np)) ta ot))), oo⟩
theorem eqv_none (o : Option PyData) (h : ∀ d, o = some d → ∃ ds, d = .tuple ds) : PyData.eqv (wayD o) .none = o.isNone := by
  cases o with
  | none => rfl
  | some d =>
    obtain ⟨ds, rfl⟩ := h d rfl
    rfl
section
variable {P : Program} {w : World} {K : PySem.W.Frag} {mg : Str → Option Value} {base : Heap}
theorem sc_way : FnScope ["book", "files", "name", "spent", "rows", "number", "rule", "middle", "label", "sources", "ways", "source"] ["book", "files", "name", "spent"] (defScope s_way) := ⟨rfl, rfl, rfl, by decide +kernel, rfl, by decide +kernel, by decide +kernel⟩
set_option maxHeartbeats 0
theorem cal_lway1 {m j : Nat} (hj : 1 ≤ j) (D : Def1 K mg "_law_way" s_way) (G : Glb mg) (T : Glc mg) (CS : Cal P w K mg base 1 "_law_stem" (spLStem K)) (CP : Cal P w K mg base 1 "_law_put" (spFill K)) (CW : Cal P w K mg base j "_law_way" (spLWay K m)) :
    Cal P w K mg base (j + 1) "_law_way" (spLWay K (m + 1)) := by
  refine mkCal D sc_way (fun _ _ _ _ _ _ us hl => match us, hl with | [_, _, _, _], _ => rfl) (fun vs H Q E h => ?_) (fun f cdv A outer s H vs Q E hr h => ?_)
  · obtain ⟨q, f, t, rs, F, z, ns, Ok, rfl, _⟩ := h
    rfl
  · obtain ⟨q, f, t, rs, F, z, ns, Ok, rfl, ⟨xb, hq, hx⟩, hf, O, ht, okp, le, k⟩ := h
    refine ⟨_, (pss_cons (ps_if (pt_cmpR op_in_seq (pv 2) (pv 1) (by rfl)) (pss_one (ps_ret (pe_tup (pa_cons (pv 2) pa_nil)))) pss_nil)
    (pss_cons (ps_set (i := 4) sc_way.nd rfl (.inl rfl) (pe_lst pa_nil))
    (pss_cons (ps_for PassesOwn.never rfl (pi_enT (by rfl) G.enumerate (pa_cons (pv 0) pa_nil)) (pg_tup rfl (pgs_cons (pg_name (i := 5) sc_way.nd rfl (.inr rfl)) (pgs_cons (pg_name (i := 6) sc_way.nd rfl (.inl rfl)) pgs_nil)))
    (pss_cons (ps_set (i := 7) sc_way.nd rfl (.inr rfl) (pe_cal CS hr (by omega) (pa_cons (pe_ix ix_tup (pv 6) pe_int (fun _ _ => rfl)) (pa_cons (pv 2) pa_nil))))
    (pss_one (ps_if (PW.pt (pw_and (pt_cmpR op_notN (pv 7) pe_non (nomark _)) (pw_and1 (pt_cmpR op_notIn_seq (pv 5) (pv 3) (by rfl))))) (pss_one (ps_expr (pe_bm PySem.F.plainAttrs_list PySem.F.slot_list_append PySem.F.type_list_append mt_append (pv 4) (pa_cons (pe_tup (pa_cons (pv 5) (pa_cons (pe_ix ix_tup (pv 6) pe_int (fun _ _ => rfl)) (pa_cons (pe_lc (own := [("source", 11)]) (g := gName 11) (tt := tYes) (by rfl) sc_way.nd (pi_tup (pe_ix ix_tup (pv 6) pe_int (fun _ _ => rfl))) (blkOk_by (own := [("source", 11)]) (N := ["book", "files", "name", "spent", "rows", "number", "rule", "middle", "label", "sources", "ways", "source"]) (sc := defScope s_way) (by decide +kernel)) (fun _ _ _ _ _ => pg_name (i := 11) sc_way.nd rfl (Or.inl rfl)) (fun _ _ _ _ _ => pts_nil) (fun _ _ _ _ _ => (pe_cal CP hr (by omega) (pa_cons (pv 11) (pa_cons (pv 7) pa_nil))))) pa_nil)))) pa_nil)))) pss_nil))))
    (pss_cons (ps_for PassesOwn.never rfl (pi_list (pv 4)) (pg_tup rfl (pgs_cons (pg_name (i := 5) sc_way.nd rfl (.inr rfl)) (pgs_cons (pg_name (i := 8) sc_way.nd rfl (.inl rfl)) (pgs_cons (pg_name (i := 9) sc_way.nd rfl (.inl rfl)) pgs_nil))))
    (pss_one (ps_if (pt_cmpR (op_eqNil hr.units) (pe_lc (own := [("source", 11)]) (g := gName 11) (by rfl) sc_way.nd (pi_list (pv 9)) (blkOk_by (own := [("source", 11)]) (N := ["book", "files", "name", "spent", "rows", "number", "rule", "middle", "label", "sources", "ways", "source"]) (sc := defScope s_way) (by decide +kernel)) (fun _ _ _ _ _ => pg_name (i := 11) sc_way.nd rfl (Or.inl rfl)) (fun _ _ _ _ _ => pts_one (pt_cmpR (show OpR _ (compareOp .NotIn) (rIn K true) from op_notIn_seq) (pv 11) (pv 1) (by rfl))) (fun _ _ _ _ _ => (pv 11))) (pe_lst pa_nil) (nomark _)) (pss_one (ps_ret (pe_op op_catA (pe_tup (pa_cons (pv 2) (pa_cons (pv 8) pa_nil))) (pe_callTy call_tuple_of (by rfl) T.tuple (by decide +kernel) (pa_cons (pe_lc (own := [("source", 11)]) (g := gName 11) (tt := tYes) (by rfl) sc_way.nd (pi_list (pv 9)) (blkOk_by (own := [("source", 11)]) (N := ["book", "files", "name", "spent", "rows", "number", "rule", "middle", "label", "sources", "ways", "source"]) (sc := defScope s_way) (by decide +kernel)) (fun _ _ _ _ _ => pg_name (i := 11) sc_way.nd rfl (Or.inl rfl)) (fun _ _ _ _ _ => pts_nil) (fun _ _ _ _ _ => (pe_tup (pa_cons (pv 11) pa_nil)))) pa_nil))))) pss_nil)))
    (pss_cons (ps_for PassesOwn.never rfl (pi_list (pv 4)) (pg_tup rfl (pgs_cons (pg_name (i := 5) sc_way.nd rfl (.inr rfl)) (pgs_cons (pg_name (i := 8) sc_way.nd rfl (.inl rfl)) (pgs_cons (pg_name (i := 9) sc_way.nd rfl (.inl rfl)) pgs_nil))))
    (pss_cons (ps_setLc (i := 10) (own := [("source", 11)]) (g := gName 11) (tt := tYes) (by rfl) sc_way.nd rfl rfl (sw_true rfl rfl rfl (by decide +kernel)) (pi_list (pv 9)) (blkOk_by (own := [("source", 11)]) (N := ["book", "files", "name", "spent", "rows", "number", "rule", "middle", "label", "sources", "ways", "source"]) (sc := defScope s_way) (by decide +kernel)) (fun _ _ _ _ _ => pg_name (i := 11) sc_way.nd rfl (Or.inl rfl)) (fun _ _ _ _ _ => pts_nil) (fun _ _ _ _ _ => (pe_cal CW hr (by omega) (pa_cons (pv 0) (pa_cons (pv 1) (pa_cons (pv 11) (pa_cons (pe_op (show OpR _ (binaryOp .Add) (rCatA K) from op_catA) (pv 3) (pe_tup (pa_cons (pv 5) pa_nil))) pa_nil)))))))
    (pss_one (ps_if (pt_cmpR (op_notInD (units65 hr)) pe_non (pv 10) (by rfl)) (pss_one (ps_ret (pe_op op_catA (pe_tup (pa_cons (pv 2) (pa_cons (pv 8) pa_nil))) (pe_callTy call_tuple_of (by rfl) T.tuple (by decide +kernel) (pa_cons (pv 10) pa_nil))))) pss_nil))))
    (pss_one (ps_ret pe_non))))))), ?_⟩
    obtain ⟨nd0, lt0⟩ := O.nd _ okp
    have pm := srt_perm ns
    have nd : ns.Nodup := pm.nodup_iff.mp nd0
    have lt : ∀ k ∈ ns, k < rs.length := fun k mk => lt0 k (pm.mem_iff.mpr mk)
    have lz : z.length ≤ 1000 := (O.tx _ okp).2
    have many := (book_len O.bk).1
    have blen := (book_len O.bk).2
    have lns : ns.length ≤ 6 := by
      have y := nodup_len (l := ns) (m := List.range rs.length) nd fun k m => List.mem_range.mpr (lt k m)
      rw [List.length_range] at y
      omega
    refine ⟨_, rfl, _, rfl, f, _, rfl, .inr hf, rfl, flat_strs, _, rfl, ?_⟩
    by_cases hz : z ∈ F
    · refine iteT' ?_ ?_
      · show inV (V.str z) _ = true
        rw [in_strs, decide_eq_true hz]
      refine ⟨_, rfl, (by show 1 ≤ sizeLine; decide), fun p np => ?_⟩
      refine k (.ref p) _ (same_upd np) ?_
      rw [way_in hz]
      exact ⟨.tup (SqT.of upd_same) (.cons (.str z) .nil), rfl⟩
    refine iteF' ?_ ?_
    · show inV (V.str z) _ = false
      rw [in_strs, decide_eq_false hz]
    refine ⟨(by show 0 ≤ sizeLine; decide), fun D nD => ?_⟩
    have hl := thAll_len hx
    rw [List.length_map] at hl
    refine ⟨_, rfl, q, _, rfl, Same.seqT (same_upd nD) hq, for_enT (K := K) (a := q) (xs := xb) (fun i σ H' => ∃ v5 v6 v7 : Option V, σ = [some (.ref q), some (.ref f), some (.str z), some (.ref t), some (.ref D), v5, v6, v7, none, none, none, none] ∧ Same H H' ∧
      ∃ L : List LCell, H' D = some (.lst (L.map fun c => V.ref c.1)) ∧ (∀ c ∈ L, LCellOk H' c ∧ c.2.1 ≠ D ∧ c.1 ≠ D ∧ c.2.2.2 = labO rs c.2.2.1.1) ∧ L.map (·.2.2.1) = ((rs.zipIdx).take i).filterMap (rowOf z ns))
      ⟨_, _, _, rfl, same_upd nD, [], upd_same, (fun _ m => nomatch m), rfl⟩ (fun i σ H' ⟨_, _, _, _, s, _⟩ => Same.seqT s hq) ?_ ?_⟩
    · rintro i x σ H' T' hx2 nT ⟨v5, v6, v7, rfl, sH, L, hD, cells, eL⟩
      obtain ⟨d, hd, th⟩ := th_at hx hx2
      rw [List.getElem?_map, Option.map_eq_some_iff] at hd
      obtain ⟨r, hr2, rfl⟩ := hd
      have R := blen r (List.mem_of_getElem? hr2)
      have hzi : (rs.zipIdx)[i]? = some (r, i) := by rw [List.getElem?_zipIdx, hr2]; simp
      have hlt : i < rs.length := (List.getElem?_eq_some_iff.mp hr2).1
      have s1 : Same H' (upd H' T' (.tup [.int (i : Int), x])) := same_upd nT
      refine ⟨T', _, rfl, .inl (.inl upd_same), rfl, _, _, rfl, _, _, rfl, rfl, ?_⟩
      generalize upd H' T' (.tup [.int (i : Int), x]) = H1 at s1 ⊢
      have sH1 := sH.trans s1
      have hD1 := s1 _ _ hD
      obtain ⟨a, p, s, ys, rfl, ha3, hp, hs, hys⟩ := th_rule (th_same sH1 th)
      refine ⟨_, rfl, a, _, 1, _, rfl, rfl, ha3, atI_nat (j := 1) rfl, _, rfl, p, r.b, r.e, z, rfl, hp, Nat.le_trans R.lb (by decide), Nat.le_trans R.le (by decide), Nat.le_trans lz (by decide), ?_⟩
      have cells1 : ∀ c ∈ L, LCellOk H1 c ∧ c.2.1 ≠ D ∧ c.1 ≠ D ∧ c.2.2.2 = labO rs c.2.2.1.1 := fun c m => ⟨(cells c m).1.same s1, (cells c m).2⟩
      have skip : stemO r.b r.e z = none ∨ i ∈ ns → L.map (·.2.2.1) = ((rs.zipIdx).take (i + 1)).filterMap (rowOf z ns) := fun h => by
        rw [fm_step hzi, row_no h, ← eL]
        simp
      cases hst : stemO r.b r.e z with
      | none =>
        refine ⟨fun m' hm' => ?_, fun _ => ?_⟩
        · rw [stemO_some hm'] at hst
          cases hst
        · refine ⟨_, rfl, rfl, _, rfl, iteF' rfl ?_⟩
          exact ⟨_, _, _, rfl, sH1, L, hD1, cells1, skip (.inl hst)⟩
      | some mm =>
        refine ⟨fun m' hm' => ?_, fun no => absurd ⟨mm, stemO_eq hst⟩ no⟩
        rw [stemO_some hm'] at hst
        obtain rfl := Option.some.inj hst
        replace hst := stemO_some hm'
        refine ⟨_, rfl, rfl, _, rfl, iteT' rfl ?_⟩
        refine ⟨_, rfl, _, rfl, t, _, rfl, .inr (SqT.of (sH1 _ _ ht)), rfl, flat_ints, _, rfl, ?_⟩
        by_cases hin : i ∈ ns
        · refine iteF' ?_ ?_
          · show (!inV (V.int (i : Int)) _) = false
            rw [in_ints, decide_eq_true hin]
            rfl
          · exact ⟨_, _, _, rfl, sH1, L, hD1, cells1, skip (.inr hin)⟩
        · refine iteT' ?_ ?_
          · show (!inV (V.int (i : Int)) _) = true
            rw [in_ints, decide_eq_false hin]
            rfl
          · have lm := stemO_len hst
            refine ⟨_, rfl, .inl ⟨rfl, _, SqL.of hD1⟩, ?_⟩
            refine ⟨_, rfl, _, rfl, a, _, 0, _, rfl, rfl, ha3, atI_nat (j := 0) rfl, ?_⟩
            refine fills_readX (K := K) (σ := [some (.ref q), some (.ref f), some (.str z), some (.ref t), some (.ref D), some (.int (i : Int)), some (.ref a), some (.str m'), none, none, none, none]) (a := s) (xs := ys) (ss := r.ss) (m := m') (jm := 7) (iv := 11) (fun R h => ⟨_, rfl, a, _, 2, _, rfl, rfl, ha3, atI_nat (j := 2) rfl, h⟩) hs hys (Nat.le_trans R.ls (by decide)) R.each (by omega) (fun _ => rfl) (fun _ => rfl) (fun _ => rfl) fun l H2 nl s2 hl2 => ?_
            refine ⟨(by show 3 ≤ sizeLine; decide), fun p2 np2 => ?_⟩
            have s3 : Same H2 (upd H2 p2 (.tup [.int (i : Int), .str r.lab, .ref l])) := same_upd np2
            have at2 : upd H2 p2 (.tup [.int (i : Int), .str r.lab, .ref l]) p2 = some (.tup [.int (i : Int), .str r.lab, .ref l]) := upd_same
            have hl3 := s3 _ _ hl2
            have hD3 := s3 _ _ (s2 _ _ hD1)
            have s13 := s2.trans s3
            generalize upd H2 p2 (.tup [.int (i : Int), .str r.lab, .ref l]) = H3 at s3 at2 hl3 hD3 s13 ⊢
            have nlD : l ≠ D := fun z => by
              rw [z, hD1] at nl
              cases nl
            have np2D : p2 ≠ D := fun z => by
              rw [z, hD3] at at2
              cases at2
            have few : L.length ≤ 6 := by
              have z1 := congrArg List.length eL
              have z2 := List.length_filterMap_le (rowOf z ns) ((rs.zipIdx).take i)
              rw [List.length_map] at z1
              rw [List.length_take, List.length_zipIdx] at z2
              omega
            have eapp : (L.map fun c => V.ref c.1) ++ [V.ref p2] = (L ++ [(p2, l, (i, r.ss.map (Src.put m')), r.lab)]).map fun c => V.ref c.1 := by
              rw [List.map_append]
              rfl
            refine ⟨D, _, _, rfl, rfl, hD3, by rw [List.length_map, sizeLine_eq]; omega, ?_⟩
            rw [eapp]
            refine ⟨_, _, _, rfl, same_mut (sH1.trans s13) nD, _, upd_same, fun c mc => ?_, ?_⟩
            · rcases List.mem_append.mp mc with mc | mc
              · obtain ⟨g, n1, n2, e⟩ := cells1 c mc
                have g3 := g.same s13
                exact ⟨⟨(upd_ne n2).trans g3.1, (upd_ne n1).trans g3.2⟩, n1, n2, e⟩
              · rw [List.mem_singleton.mp mc]
                refine ⟨⟨(upd_ne np2D).trans at2, (upd_ne nlD).trans hl3⟩, nlD, np2D, ?_⟩
                show r.lab = labO rs i
                unfold labO
                rw [hr2]
            · rw [fm_step hzi, row_yes hst hin, List.map_append, eL]
              rfl
    · rintro σ H1 ⟨v5, v6, v7, rfl, s1, L, hD, cells, eL⟩
      have eL2 : L.map (·.2.2.1) = fitD rs z ns := by
        rw [eL, hl]
        unfold fitD
        congr 1
        exact List.take_of_length_le (by rw [List.length_zipIdx]; exact Nat.le_refl _)
      have few : L.length ≤ 6 := by
        have z1 := congrArg List.length eL2
        have z2 := List.length_filterMap_le (rowOf z ns) rs.zipIdx
        rw [List.length_map] at z1
        rw [List.length_zipIdx] at z2
        unfold fitD at z1
        omega
      have inL : ∀ c ∈ L, c.2.2.1 ∈ fitD rs z ns := fun c mc => by
        rw [← eL2]
        exact List.mem_map.mpr ⟨c, mc, rfl⟩
      have short : ∀ c ∈ L, c.2.2.1.2.length ≤ 3 := fun c mc => by
        obtain ⟨r, hr2, _, _, e⟩ := fit_row (inL c mc)
        rw [e]
        exact of_few (blen r (List.mem_of_getElem? hr2)) z
      have at_ : ∀ {i : Nat} {c : LCell}, L[i]? = some c → (fitD rs z ns)[i]? = some c.2.2.1 := fun {i c} h => by
        rw [← eL2, List.getElem?_map, h]
        rfl
      have hq1 := Same.seqT s1 hq
      have hx1 := thAll_same s1 hx
      have hf1 := Same.seqT s1 hf
      have ht1 := s1 _ _ ht
      refine ⟨_, rfl, D, rfl, ⟨_, SqL.of hD⟩, ?_⟩
      refine for_list (K := K) (a := D) (xs := L.map fun c => V.ref c.1) (fun i σ H' => ∃ v5 v6 v7 v8 v9 : Option V, σ = [some (.ref q), some (.ref f), some (.str z), some (.ref t), some (.ref D), v5, v6, v7, v8, v9, none, none] ∧ Same H1 H' ∧ ∀ d ∈ (fitD rs z ns).take i, ¬ ∀ s ∈ d.2, s ∈ F)
        ⟨_, _, _, _, _, rfl, Same.refl H1, fun d m => by rw [List.take_zero] at m; cases m⟩ (fun i σ H' _ ⟨_, _, _, _, _, _, s, _⟩ => SqL.of (s _ _ hD)) ?_ ?_
      · rintro i x σ H2 hx2 ⟨v5, v6, v7, v8, v9, rfl, s2, no⟩
        obtain ⟨c, hc, rfl⟩ := Option.map_eq_some_iff.mp ((List.getElem?_map ..).symm.trans hx2)
        have mc := List.mem_of_getElem? hc
        obtain ⟨g, _, _, elb⟩ := cells c mc
        obtain ⟨g1, g2⟩ := g.same s2
        have sc3 := short c mc
        refine ⟨c.1, _, rfl, SqT.of g1, rfl, _, _, rfl, _, _, rfl, _, _, rfl, rfl, ?_⟩
        refine ⟨_, rfl, c.2.1, rfl, ⟨_, SqL.of g2⟩, fun D2 nD2 => ?_⟩
        refine lc_list (K := K) (a := c.2.1) (xs := c.2.2.1.2.map V.str) (fun j H' => Same H2 H' ∧ H' D2 = some (.lst (((c.2.2.1.2.take j).filter fun s => decide (s ∉ F)).map V.str))) ⟨same_upd nD2, upd_same⟩ (fun j H' _ h => h.1.seq (SqL.of g2)) ?_ ?_
        · rintro j y H3 hy ⟨s3, hD2⟩
          obtain ⟨s, hs, rfl⟩ := Option.map_eq_some_iff.mp ((List.getElem?_map ..).symm.trans hy)
          have hf3 := Same.seqT (s2.trans s3) hf1
          refine ⟨rfl, _, rfl, _, rfl, f, _, rfl, .inr hf3, rfl, flat_strs, _, rfl, ?_⟩
          have step := filter_step (p := fun s => decide (s ∉ F)) hs
          by_cases hin : s ∈ F
          · refine iteF' ?_ ⟨s3, ?_⟩
            · show (!inV (V.str s) _) = false
              rw [in_strs, decide_eq_true hin]
              rfl
            · rw [step, if_neg (by simpa using hin), List.append_nil]
              exact hD2
          · refine iteT' ?_ ?_
            · show (!inV (V.str s) _) = true
              rw [in_strs, decide_eq_false hin]
              rfl
            · refine ⟨_, rfl, _, hD2, ?_, same_mut s3 nD2, ?_⟩
              · have := List.length_filter_le (fun s => decide (s ∉ F)) (c.2.2.1.2.take j)
                rw [List.length_take] at this
                rw [List.length_map, sizeLine_eq]
                omega
              · rw [upd_same, step, if_pos (by simpa using hin), List.map_append]
                rfl
        · rintro H3 ⟨s3, hD2⟩
          rw [List.length_map, List.take_length] at hD2
          refine ⟨(by show 0 ≤ sizeLine; decide), fun E nE => ?_⟩
          have s4 := s3.trans (same_upd (o := .lst []) nE)
          have hD24 := same_upd (o := .lst []) nE _ _ hD2
          refine ⟨D2, E, _, rfl, rfl, SqL.of hD24, SqL.of upd_same, _, rfl, ?_⟩
          have s24 := s2.trans s4
          have g24 := s4 _ _ g2
          generalize upd H3 E (.lst []) = H4 at s4 s24 g24
          have yes : ((c.2.2.1.2.filter fun s => decide (s ∉ F)).map V.str).isEmpty = true ↔ ∀ s ∈ c.2.2.1.2, s ∈ F := by
            rw [List.isEmpty_iff, List.map_eq_nil_iff, List.filter_eq_nil_iff]
            exact ⟨fun h s m => by have := h s m; simpa using this, fun h s m => by simpa using h s m⟩
          by_cases hall : ∀ s ∈ c.2.2.1.2, s ∈ F
          · refine iteT' (yes.mpr hall) ?_
            refine ⟨_, rfl, _, rfl, (by show 2 ≤ sizeLine; decide), fun t1 nt1 => ?_⟩
            have s5 := same_upd (o := .tup [.str z, .str c.2.2.2]) nt1
            have ht5 : upd H4 t1 (.tup [.str z, .str c.2.2.2]) t1 = some (.tup [.str z, .str c.2.2.2]) := upd_same
            have s25 := s24.trans s5
            have g25 := s5 _ _ g24
            generalize upd H4 t1 (.tup [.str z, .str c.2.2.2]) = H5 at s5 ht5 s25 g25
            refine ⟨_, rfl, c.2.1, rfl, ⟨_, SqL.of g25⟩, fun D3 nD3 => ?_⟩
            refine lc_list (K := K) (a := c.2.1) (xs := c.2.2.1.2.map V.str) (fun j H' => Same H5 H' ∧ ∃ vs, H' D3 = some (.lst vs) ∧ ThAll K H' vs ((c.2.2.1.2.take j).map leafD)) ⟨same_upd nD3, [], upd_same, .nil⟩ (fun j H' _ h => h.1.seq (SqL.of g25)) ?_ ?_
            · rintro j y H6 hy ⟨s6, vs, hD3, ta⟩
              obtain ⟨s, hs, rfl⟩ := Option.map_eq_some_iff.mp ((List.getElem?_map ..).symm.trans hy)
              refine ⟨rfl, _, rfl, (by show 1 ≤ sizeLine; decide), fun p np => ?_⟩
              have s7 := same_upd (o := .tup [.str s]) np
              have hp7 : upd H6 p (.tup [.str s]) p = some (.tup [.str s]) := upd_same
              have hD7 := s7 _ _ hD3
              have ta7 := thAll_same s7 ta
              have s67 := s6.trans s7
              generalize upd H6 p (.tup [.str s]) = H7 at s7 hp7 hD7 ta7 s67
              have lv := thAll_len ta7
              rw [List.length_map, List.length_take] at lv
              have t8 := upd_tups (u := .lst (vs ++ [.ref p])) hD7
              have o7 : onlyTs ((c.2.2.1.2.take j).map leafD) = true := onlyTs_all.mpr fun d m => by
                obtain ⟨s, _, rfl⟩ := List.mem_map.mp m
                rfl
              refine ⟨vs, hD7, by rw [sizeLine_eq]; omega, same_mut s67 nD3, _, upd_same, ?_⟩
              rw [List.take_add_one, hs, List.map_append]
              exact snoc_all (thAll_tups t8 ta7 o7) (th_tups t8 (.tup (SqT.of hp7) (.cons (.str s) .nil) : Th K H7 (.ref p) (leafD s)) rfl)
            · rintro H6 ⟨s6, vs, hD3, ta⟩
              rw [List.length_map, List.take_length] at ta
              refine ⟨D3, vs, rfl, .inl ⟨SqL.of hD3, fun b nb => ?_⟩⟩
              have s7 := same_upd (o := .tup vs) nb
              have hb : upd H6 b (.tup vs) b = some (.tup vs) := upd_same
              have ta7 := thAll_same s7 ta
              have s57 := s6.trans s7
              generalize upd H6 b (.tup vs) = H7 at s7 hb ta7 s57
              have lv := thAll_len ta7
              rw [List.length_map] at lv
              refine cat_end (SqT.of (s57 _ _ ht5)) (SqT.of hb) ta7 (onlyTs_all.mpr fun d m => by obtain ⟨s, _, rfl⟩ := List.mem_map.mp m; rfl) (by omega) fun v H8 s8 hv => ?_
              refine k v H8 ((s1.trans (s25.trans s57)).trans s8) ?_
              rw [way_ready nd lt hz (at_ hc) no hall, ← elb]
              exact hv
          · refine iteF' (by rw [Bool.eq_false_iff]; exact fun z => hall (yes.mp z)) ?_
            refine ⟨_, _, _, _, _, rfl, s24, fun d m => ?_⟩
            rw [List.take_add_one, at_ hc] at m
            rcases List.mem_append.mp m with m | m
            · exact no d m
            · have e : d = c.2.2.1 := by simpa using m
              rw [e]
              exact hall
      · rintro σ H2 ⟨v5, v6, v7, v8, v9, rfl, s2, no⟩
        have no2 : ∀ d ∈ fitD rs z ns, ¬ ∀ s ∈ d.2, s ∈ F := fun d m => no d (by
          rw [List.length_map, ← List.length_map (f := fun c : LCell => c.2.2.1), eL2, List.take_length]
          exact m)
        have once := way_once nd lt hz no2
        have hq2 := Same.seqT s2 hq1
        have hx2 := thAll_same s2 hx1
        have hf2 := Same.seqT s2 hf1
        have ht2 := s2 _ _ ht1
        have hD2 := s2 _ _ hD
        refine ⟨_, rfl, D, rfl, ⟨_, SqL.of hD2⟩, ?_⟩
        refine for_list (K := K) (a := D) (xs := L.map fun c => V.ref c.1) (fun i σ H' => ∃ v5 v6 v7 v8 v9 v10 : Option V, σ = [some (.ref q), some (.ref f), some (.str z), some (.ref t), some (.ref D), v5, v6, v7, v8, v9, v10, none] ∧ Same H2 H' ∧ ((fitD rs z ns).take i).findSome? (rowW rs F z ns) = none)
          ⟨_, _, _, _, _, _, rfl, Same.refl H2, rfl⟩ (fun i σ H' _ ⟨_, _, _, _, _, _, _, s, _⟩ => SqL.of (s _ _ hD2)) ?_ ?_
        · rintro i x σ H3 hx3 ⟨v5, v6, v7, v8, v9, v10, rfl, s3, non⟩
          obtain ⟨c, hc, rfl⟩ := Option.map_eq_some_iff.mp ((List.getElem?_map ..).symm.trans hx3)
          have mc := List.mem_of_getElem? hc
          obtain ⟨g, _, _, elb⟩ := cells c mc
          obtain ⟨g1, g2⟩ := g.same (s2.trans s3)
          have sc3 := short c mc
          refine ⟨c.1, _, rfl, SqT.of g1, rfl, _, _, rfl, _, _, rfl, _, _, rfl, rfl, ?_⟩
          have okn : ∀ s ∈ c.2.2.1.2, Ok (s, srt (ns ++ [c.2.2.1.1])) := fun s ms => by
            rw [srt_snoc]
            exact ok_succ O okp (inL c mc) ms
          have perm : (ns ++ [c.2.2.1.1]).Perm (c.2.2.1.1 :: ns) := List.perm_append_singleton _ _
          have le2 : rs.length + 1 ≤ (ns ++ [c.2.2.1.1]).length + m := by
            rw [List.length_append]
            show _ ≤ _ + 1 + m
            omega
          refine ⟨_, rfl, c.2.1, rfl, ⟨_, SqL.of g2⟩, fun D3 nD3 => ?_⟩
          refine lc_list (K := K) (a := c.2.1) (xs := c.2.2.1.2.map V.str) (fun j H' => Same H3 H' ∧ ∃ vs os, H' D3 = some (.lst vs) ∧ ThAll K H' vs (os.map wayD) ∧ onlyTs (os.map wayD) = true ∧ os = (c.2.2.1.2.take j).map fun s => way rs F s (ns ++ [c.2.2.1.1]))
            ⟨same_upd nD3, [], [], upd_same, .nil, rfl, rfl⟩ (fun j H' _ h => h.1.seq (SqL.of g2)) ?_ ?_
          · rintro j y H4 hy ⟨s4, vs, os, hD3, ta, ot, eos⟩
            obtain ⟨s, hs, rfl⟩ := Option.map_eq_some_iff.mp ((List.getElem?_map ..).symm.trans hy)
            have ms := List.mem_of_getElem? hs
            refine ⟨rfl, _, rfl, _, rfl, _, rfl, ?_⟩
            have s34 := s3.trans s4
            refine cat_read (K := K) (t0 := t) (ns := ns) (n := c.2.2.1.1) (i := 3) (j := 5) rfl rfl (s34 _ _ ht2) (by omega) fun u H5 s5 hu => ?_
            have s35 := s34.trans s5
            refine ⟨q, f, u, rs, F, s, ns ++ [c.2.2.1.1], Ok, rfl, ⟨xb, Same.seqT s35 hq2, thAll_same s35 hx2⟩, Same.seqT s35 hf2, O, hu, okn s ms, le2, fun v H6 s6 rw6 => ?_⟩
            have hD6 := s6 _ _ (s5 _ _ hD3)
            have ta6 := thAll_same (s5.trans s6) ta
            have t7 := upd_tups (u := .lst (vs ++ [v])) hD6
            have lv := thAll_len ta6
            rw [List.length_map, eos, List.length_map, List.length_take] at lv
            have ov : onlyT (wayD (way rs F s (ns ++ [c.2.2.1.1]))) = true := by
              revert rw6
              cases way rs F s (ns ++ [c.2.2.1.1]) with
              | none => exact fun _ => rfl
              | some d => exact fun h => h.2
            refine ⟨vs, hD6, by rw [sizeLine_eq]; omega, same_mut (s4.trans (s5.trans s6)) nD3, _, os ++ [way rs F s (ns ++ [c.2.2.1.1])], upd_same, ?_, ?_, ?_⟩
            · rw [List.map_append]
              exact snoc_all (thAll_tups t7 ta6 ot) (th_tups t7 rw6.th ov)
            · rw [List.map_append]
              exact onlyTs_all.mpr fun e me => by
                rcases List.mem_append.mp me with me | me
                · exact onlyTs_all.mp ot e me
                · rw [List.mem_singleton.mp me]
                  exact ov
            · rw [List.take_add_one, hs, List.map_append, eos]
              rfl
          · rintro H4 ⟨s4, vs, os, hD3, ta, ot, eos⟩
            rw [List.length_map, List.take_length] at eos
            have lay : ∀ d ∈ os.map wayD, d.canLay0 = true ∧ d.depth ≤ 7 := fun d md => by
              rw [eos, List.map_map] at md
              obtain ⟨s, ms, rfl⟩ := List.mem_map.mp md
              exact way_lay O (okn s ms)
            have sh : SeqAt.shaped (.list (os.map wayD)) = true := by
              have y := lay_tuple lay
              exact shaped_of (d := .list (os.map wayD)) (b := 8) ⟨y.1, y.2⟩ (by decide)
            refine ⟨_, rfl, .none, os.map wayD, .non, th_dp (.lst (SqL.of hD3) ta) (by have y := lay_tuple lay; exact y.1), rfl, sh, _, rfl, ?_⟩
            have each : ∀ o ∈ os, PyData.eqv (wayD o) .none = o.isNone := fun o mo => eqv_none o fun d e => by
              subst e
              rw [eos] at mo
              obtain ⟨s, ms, e⟩ := List.mem_map.mp mo
              exact way_tup ((srt_perm _).nodup_iff.mp (O.nd _ (okn s ms)).1) (fun k mk => (O.nd _ (okn s ms)).2 k (mem_srt.mpr mk)) e
            have isn : ((os.map wayD).any fun z => PyData.eqv z .none) = true ↔ none ∈ os := by
              rw [List.any_map, List.any_eq_true]
              constructor
              · rintro ⟨o, mo, e⟩
                have e2 : PyData.eqv (wayD o) .none = true := e
                rw [each o mo] at e2
                cases o with
                | none => exact mo
                | some d => cases e2
              · intro mo
                exact ⟨none, mo, rfl⟩
            have erow : rowW rs F z ns c.2.2.1 = (allO os).map (nodeD z c.2.2.2) := by
              unfold rowW
              rw [eos, elb]
              congr 2
              exact List.map_congr_left fun s _ => (way_perm perm).symm
            by_cases hno : none ∈ os
            · refine iteF' (by rw [isn.mpr hno]; rfl) ?_
              refine ⟨_, _, _, _, _, _, rfl, s3.trans s4, first_no (at_ hc) non ?_⟩
              rw [erow, allO_none.mpr hno]
              rfl
            · refine iteT' (by rw [Bool.eq_false_iff.mpr fun z => hno (isn.mp z)]; rfl) ?_
              obtain ⟨ds, hds⟩ : ∃ ds, allO os = some ds := by
                cases e : allO os with
                | none => exact absurd (allO_none.mp e) hno
                | some ds => exact ⟨ds, rfl⟩
              have eds := allO_some.mp hds
              have edm : os.map wayD = ds := by
                rw [eds, List.map_map]
                exact (List.map_congr_left fun d _ => rfl).trans (List.map_id _)
              rw [edm] at ta ot
              refine ⟨_, rfl, _, rfl, (by show 2 ≤ sizeLine; decide), fun t1 nt1 => ?_⟩
              have s5 := same_upd (o := .tup [.str z, .str c.2.2.2]) nt1
              have ht5 : upd H4 t1 (.tup [.str z, .str c.2.2.2]) t1 = some (.tup [.str z, .str c.2.2.2]) := upd_same
              have hD5 := s5 _ _ hD3
              have ta5 := thAll_same s5 ta
              have s45 := s4.trans s5
              generalize upd H4 t1 (.tup [.str z, .str c.2.2.2]) = H5 at s5 ht5 hD5 ta5 s45
              refine ⟨_, rfl, D3, vs, rfl, .inl ⟨SqL.of hD5, fun b nb => ?_⟩⟩
              have s6 := same_upd (o := .tup vs) nb
              have hb : upd H5 b (.tup vs) b = some (.tup vs) := upd_same
              have ta6 := thAll_same s6 ta5
              have ht6 := s6 _ _ ht5
              have s46 := s45.trans s6
              generalize upd H5 b (.tup vs) = H6 at s6 hb ta6 ht6 s46
              have lv := thAll_len ta6
              have lds := congrArg List.length eds
              rw [eos, List.length_map, List.length_map] at lds
              refine cat_end (SqT.of ht6) (SqT.of hb) ta6 ot (by omega) fun v H8 s8 hv => ?_
              refine k v H8 ((s1.trans (s2.trans (s3.trans s46))).trans s8) ?_
              rw [once, first_at (at_ hc) non (d := nodeD z c.2.2.2 ds) (by rw [erow, hds]; rfl)]
              exact hv
        · rintro σ H3 ⟨v5, v6, v7, v8, v9, v10, rfl, s3, non⟩
          have e : (L.map fun c => V.ref c.1).length = (fitD rs z ns).length := by
            rw [← eL2, List.length_map, List.length_map]
          rw [e, List.take_length] at non
          refine k .non H3 (s1.trans (s2.trans s3)) ?_
          rw [once, non]
          rfl
theorem cal_lway (D : Def1 K mg "_law_way" s_way) (G : Glb mg) (T : Glc mg) (CS : Cal P w K mg base 1 "_law_stem" (spLStem K)) (CP : Cal P w K mg base 1 "_law_put" (spFill K)) : ∀ m, Cal P w K mg base (m + 1) "_law_way" (spLWay K m)
  | 0 => cal_never (ps := ["book", "files", "name", "spent"]) D (fun _ _ _ _ _ _ us hl => match us, hl with | [_, _, _, _], _ => rfl) fun vs H Q E h => by
    obtain ⟨q, f, t, rs, F, z, ns, Ok, _, _, _, O, _, okp, le, _⟩ := h
    obtain ⟨nd, lt⟩ := O.nd _ okp
    have y := nodup_len (l := srt ns) (m := List.range rs.length) nd fun k m => List.mem_range.mpr (lt k m)
    rw [List.length_range, (srt_perm ns).length_eq] at y
    omega
  | m + 1 => cal_lway1 (by omega) D G T CS CP (cal_lway D G T CS CP m)
end
end Lk

/-! K22F -/
set_option Elab.async false
set_option linter.all false
set_option maxRecDepth 100000
set_option maxHeartbeats 4000000
namespace Lk
open PySem PySem.Spec PyProof.Rows L2
/-! ### ways from other files -/
theorem try_mem {rs : List Rl} {F : List Str} {z : Str} {sp : List Nat} {c : WRow} : c ∈ tryL rs F z sp ↔ c ∈ fitD rs z sp := by
  unfold tryL
  rw [List.mem_append, List.mem_filter]
  exact ⟨fun h => h.elim (·.1) id, .inr⟩
theorem some_iff {α β : Type} {f : α → Option β} {l : List α} : l.findSome? f ≠ none ↔ ∃ x ∈ l, f x ≠ none := by
  rw [Ne, List.findSome?_eq_none_iff]
  constructor
  · intro h
    apply Classical.byContradiction
    intro no
    exact h fun x m => Classical.byContradiction fun y => no ⟨x, m, y⟩
  · rintro ⟨x, m, y⟩ h
    exact y (h x m)
/-- more files never hinder -/
theorem wayM_mono {rs : List Rl} {F F' : List Str} (sub : ∀ y ∈ F, y ∈ F') : ∀ (n : Nat) (z : Str) (sp : List Nat), wayM rs F n z sp ≠ none → wayM rs F' n z sp ≠ none
  | 0, z, sp, h => by
    unfold wayM at h ⊢
    by_cases hz : z ∈ F
    · rw [if_pos (sub z hz)]
      exact fun y => nomatch y
    · rw [if_neg hz] at h
      exact absurd rfl h
  | n + 1, z, sp, h => by
    unfold wayM at h ⊢
    by_cases hz' : z ∈ F'
    · rw [if_pos hz']
      exact fun y => nomatch y
    · rw [if_neg hz']
      rw [if_neg (fun y => hz' (sub z y))] at h
      obtain ⟨c, mc, hc⟩ := some_iff.mp h
      refine some_iff.mpr ⟨c, try_mem.mpr (try_mem.mp mc), fun y => hc ?_⟩
      rw [Option.map_eq_none_iff, allO_none] at y ⊢
      obtain ⟨s, ms, e⟩ := List.mem_map.mp y
      refine List.mem_map.mpr ⟨s, ms, Classical.byContradiction fun no => ?_⟩
      exact wayM_mono sub n s (c.1 :: sp) no e
/-- only the files count that a chain comes to -/
theorem wayM_loc {rs : List Rl} {F F' : List Str} {G : Str → List Nat → Prop} (step : ∀ y sp c, G y sp → c ∈ fitD rs y sp → ∀ s ∈ c.2, G s (c.1 :: sp)) (agree : ∀ y sp, G y sp → (y ∈ F ↔ y ∈ F')) :
    ∀ (n : Nat) (z : Str) (sp : List Nat), G z sp → wayM rs F n z sp = wayM rs F' n z sp
  | 0, z, sp, g => by
    unfold wayM
    by_cases hz : z ∈ F
    · rw [if_pos hz, if_pos ((agree z sp g).mp hz)]
    · rw [if_neg hz, if_neg (fun y => hz ((agree z sp g).mpr y))]
  | n + 1, z, sp, g => by
    unfold wayM
    by_cases hz : z ∈ F
    · rw [if_pos hz, if_pos ((agree z sp g).mp hz)]
    · rw [if_neg hz, if_neg (fun y => hz ((agree z sp g).mpr y))]
      have et : tryL rs F z sp = tryL rs F' z sp := by
        unfold tryL
        congr 1
        refine List.filter_congr fun c mc => ?_
        rw [decide_eq_decide]
        exact ⟨fun h s ms => (agree s _ (step z sp c g mc s ms)).mp (h s ms), fun h s ms => (agree s _ (step z sp c g mc s ms)).mpr (h s ms)⟩
      rw [et]
      have cong : ∀ (l : List WRow), (∀ c ∈ l, c ∈ fitD rs z sp) → l.findSome? (fun c => (allO (c.2.map fun s => wayM rs F n s (c.1 :: sp))).map (nodeD z (labO rs c.1))) = l.findSome? fun c => (allO (c.2.map fun s => wayM rs F' n s (c.1 :: sp))).map (nodeD z (labO rs c.1)) := fun l => by
        induction l with
        | nil => exact fun _ => rfl
        | cons c l ih =>
          intro h
          have e : (c.2.map fun s => wayM rs F n s (c.1 :: sp)) = c.2.map fun s => wayM rs F' n s (c.1 :: sp) := List.map_congr_left fun s ms => wayM_loc step agree n s (c.1 :: sp) (step z sp c g (h c List.mem_cons_self) s ms)
          rw [List.findSome?_cons, List.findSome?_cons, e, ih fun x m => h x (List.mem_cons_of_mem _ m)]
      exact cong _ fun c m => try_mem.mp m
/-- what is told with a way: the rows that right_with goes down by -/
theorem way_node {rs : List Rl} {F : List Str} {z : Str} {sp : List Nat} {d : PyData} (nd : sp.Nodup) (lt : ∀ k ∈ sp, k < rs.length) (hz : z ∉ F) (h : way rs F z sp = some d) :
    ∃ c ds, c ∈ fitD rs z sp ∧ d = nodeD z (labO rs c.1) ds ∧ (c.2.map fun s => way rs F s (c.1 :: sp)) = ds.map some := by
  rw [way_out nd lt hz] at h
  obtain ⟨c, mc, e⟩ := List.exists_of_findSome?_eq_some h
  unfold rowW at e
  obtain ⟨ds, hd, rfl⟩ := Option.map_eq_some_iff.mp e
  exact ⟨c, ds, try_mem.mp mc, rfl, allO_some.mp hd⟩
/-! ### blocks -/
noncomputable def missO (rs : List Rl) (F : List Str) (c : WRow) (ns : List Nat) : Option Str := c.2.find? fun s => (way rs F s (srt (ns ++ [c.1]))).isNone
/-- the rows that a row asks for -/
noncomputable def behind (rs : List Rl) (F : List Str) (p : NK) : List NK := (fitD rs p.1 p.2).map fun c => ((missO rs F c p.2).getD "", srt (p.2 ++ [c.1]))
structure Gone (rs : List Rl) (F : List Str) (Ok : Place → Prop) (p : NK) : Prop where
  ok : Ok p
  no : way rs F p.1 p.2 = none
theorem gone_miss {rs : List Rl} {F : List Str} {Ok : Place → Prop} (O : OkR rs Ok) {p : NK} (g : Gone rs F Ok p) {c : WRow} (mc : c ∈ fitD rs p.1 p.2) :
    ∃ s, missO rs F c p.2 = some s ∧ s ∈ c.2 ∧ Gone rs F Ok (s, srt (p.2 ++ [c.1])) := by
  obtain ⟨z, ns⟩ := p
  obtain ⟨nd, lt⟩ := O.nd _ g.ok
  have hz : z ∉ F := fun h => by
    have e := g.no
    rw [way_in h] at e
    cases e
  have e := g.no
  rw [way_out nd lt hz] at e
  have e2 := (List.findSome?_eq_none_iff.mp e) c (try_mem.mpr mc)
  unfold rowW at e2
  rw [Option.map_eq_none_iff] at e2
  obtain ⟨s, ms, es⟩ := List.mem_map.mp (allO_none.mp e2)
  have perm : (c.1 :: ns).Perm (srt (ns ++ [c.1])) := (List.perm_append_singleton c.1 ns).symm.trans (srt_perm _).symm
  rw [way_perm perm] at es
  have h : missO rs F c ns ≠ none := fun h => by
    unfold missO at h
    have z := List.find?_eq_none.mp h s ms
    rw [es] at z
    exact z rfl
  cases h2 : missO rs F c ns with
  | none => exact absurd h2 h
  | some s' =>
    obtain ⟨m1, m2⟩ := find_some h2
    obtain ⟨r, hr, no, _, eof⟩ := fit_row mc
    exact ⟨s', rfl, m1, O.cl (z, ns) _ g.ok ⟨c.1, r, hr, no, by rw [← eof]; exact m1, rfl⟩, m2⟩
theorem gone_behind {rs : List Rl} {F : List Str} {Ok : Place → Prop} (O : OkR rs Ok) {p r : NK} (g : Gone rs F Ok p) (m : r ∈ behind rs F p) : Gone rs F Ok r := by
  obtain ⟨c, mc, rfl⟩ := List.mem_map.mp m
  obtain ⟨s, e, _, g2⟩ := gone_miss O g mc
  rw [e]
  exact g2
theorem behind_len {rs : List Rl} {F : List Str} {p : NK} : (behind rs F p).length ≤ rs.length := by
  unfold behind
  rw [List.length_map]
  have z2 := List.length_filterMap_le (rowOf p.1 p.2) rs.zipIdx
  rw [List.length_zipIdx] at z2
  exact z2
/-- a block -/
structure Blk (rs : List Rl) (F : List Str) (Ok : Place → Prop) (z : Str) (Bk : List NK) : Prop where
  nd : Bk.Nodup
  st : (z, []) ∈ Bk
  all : ∀ p ∈ Bk, Gone rs F Ok p
  cl : ∀ p ∈ Bk, ∀ r ∈ behind rs F p, r ∈ Bk
def spBehind (P : Program) (w : World) (K : PySem.W.Frag) (C : Addr) : Sp := fun vs H Q _ => ∃ (o q d1 kd b : Addr) (rs : List Rl) (F : List Str) (p : NK) (Ok : Place → Prop), vs = [.ref o, .ref b] ∧ SAt P w K C H o q d1 kd rs F Ok ∧ OkR rs Ok ∧ KeyAt H b p ∧ Gone rs F Ok p ∧
  ∀ (l : Addr) (L : List (Addr × NK)) (H' : Hp), H l = none → l ≠ kd → But kd H H' → SAt P w K C H' o q d1 kd rs F Ok → H' l = some (.lst (L.map fun c => V.ref c.1)) → (∀ c ∈ L, KeyAt H' c.1 c.2) → L.map (·.2) = behind rs F p → Q (.ref l) H'
def spBlock (K : PySem.W.Frag) : Sp := fun vs H Q _ => ∃ (q f : Addr) (rs : List Rl) (F : List Str) (z : Str) (Ok : Place → Prop), vs = [.ref q, .ref f, .str z] ∧ Asks K H q f rs F z Ok ∧ ∀ (v : V) (H' : Hp), Same H H' →
  ((∃ d, way rs F z [] = some d) → v = .non) → (way rs F z [] = none → ∃ (l : Addr) (L : List (Addr × NK)), v = .ref l ∧ H l = none ∧ H' l = some (.lst (L.map fun c => V.ref c.1)) ∧ (∀ c ∈ L, KeyAt H' c.1 c.2) ∧ Blk rs F Ok z (L.map (·.2))) → Q v H'
section
variable {P : Program} {w : World} {K : PySem.W.Frag} {mg : Str → Option Value} {base : Heap} {C : Addr}
theorem sc_p_behind : FnScope ["search", "row", "name", "spent", "found", "number", "sources", "longer"] ["search", "row"] (defScope s_p_rows_behind) := ⟨rfl, rfl, rfl, by decide +kernel, rfl, by decide +kernel, by decide +kernel⟩
theorem KeyAt.tups {H H' : Hp} {b : Addr} {p : NK} (h : KeyAt H b p) (t : Tups H H') : KeyAt H' b p := h.keeps t.1
theorem nxb_set {x : V} {i : Nat} {te : TE} {g : TG} {r : TS} {D : Ends} {σ : L2.St} {H : Hp} (h : te (σ.set i (some x)) H fun y H1 => g y (σ.set i (some x)) H1 (r D)) : gName i x σ H (tSeq (tAsg te g) r D) := h
theorem But.mutN {a D : Addr} {H H' : Hp} {o : HO} (b : But a H H') (n : H D = none) : But a H (L2.upd H' D o) := fun q u e nq => by
  rw [L2.upd_ne (ne_of_none e n)]
  exact b q u e nq
theorem But.but2L {a b : Addr} {H H' : Hp} (x : But a H H') : But2 a b H H' := fun q u e n1 _ => x q u e n1
theorem But2.mutR {a b : Addr} {H H' : Hp} {o : HO} (x : But2 a b H H') : But2 a b H (L2.upd H' b o) := fun q u e n1 n2 => by
  rw [L2.upd_ne n2]
  exact x q u e n1 n2
set_option maxHeartbeats 0
theorem cal_p_behind (D : Def1 K mg "rows_behind" s_p_rows_behind) (cl : SCls K C) (CF : Cal P w K mg base 2 "fitted" (spFit K)) (CO : Cal P w K mg base 1 "with_one_more" (spOneMore K)) (CM : MCal P w K mg base C 24 "missing" (spMiss P w K C 7)) : Cal P w K mg base 25 "rows_behind" (spBehind P w K C) := by
  refine mkCal D sc_p_behind (fun _ _ _ _ _ _ us hl => match us, hl with | [_, _], _ => rfl) (fun vs H Q E h => ?_) (fun f cdv A outer s H vs Q E hr h => ?_)
  · obtain ⟨o, q, d1, kd, b, rs, F, p, Ok, rfl, _⟩ := h
    rfl
  · obtain ⟨o, q, d1, kd, b, rs, F, ⟨z, ns⟩, Ok, rfl, S, O, hb, g, k⟩ := h
    refine ⟨_, (pss_cons (ps_asg (pv 1) (pg_tup rfl (pgs_cons (pg_name (i := 2) sc_p_behind.nd rfl (.inl rfl)) (pgs_cons (pg_name (i := 3) sc_p_behind.nd rfl (.inl rfl)) pgs_nil))))
    (pss_cons (ps_set (i := 4) sc_p_behind.nd rfl (.inl rfl) (pe_lst pa_nil))
    (pss_cons (ps_for PassesOwn.never rfl (pi_list (pe_cal CF hr (by omega) (pa_cons (pe_fld (pv 0) rfl) (pa_cons (pv 2) (pa_cons (pv 3) pa_nil))))) (pg_tup rfl (pgs_cons (pg_name (i := 5) sc_p_behind.nd rfl (.inl rfl)) (pgs_cons (pg_name (i := 6) sc_p_behind.nd rfl (.inl rfl)) pgs_nil)))
    (pss_cons (ps_set (i := 7) sc_p_behind.nd rfl (.inl rfl) (pe_cal CO hr (by omega) (pa_cons (pv 3) (pa_cons (pv 5) pa_nil))))
    (pss_one (ps_expr (pe_bm PySem.F.plainAttrs_list PySem.F.slot_list_append PySem.F.type_list_append mt_append (pv 4) (pa_cons (pe_tup (pa_cons (pe_mcal CM cl.cl hr (by omega) (pv 0) (pa_cons (pv 6) (pa_cons (pv 7) pa_nil))) (pa_cons (pv 7) pa_nil))) pa_nil))))))
    (pss_one (ps_ret (pv 4)))))), ?_⟩
    obtain ⟨t, hbt, ht⟩ := hb
    obtain ⟨nd, lt⟩ := O.nd _ g.ok
    have tz := O.tx _ g.ok
    have many := (book_len O.bk).1
    have lns : ns.length ≤ 6 := by
      have y := nodup_len (l := ns) (m := List.range rs.length) nd fun k m => List.mem_range.mpr (lt k m)
      rw [List.length_range] at y
      omega
    refine ⟨_, rfl, b, _, rfl, SqT.of hbt, rfl, _, _, rfl, _, _, rfl, rfl, ?_⟩
    refine ⟨(by show 0 ≤ sizeLine; decide), fun D nD => ?_⟩
    have s1 := same_upd (o := .lst []) nD
    have hD1 : upd H D (.lst []) D = some (.lst []) := upd_same
    have S1 := S.same s1
    generalize upd H D (.lst []) = H1 at s1 hD1 S1
    obtain ⟨dx, hob⟩ := S1.ob
    obtain ⟨xb, hq, hx⟩ := S1.bk
    refine ⟨_, rfl, o, C, dx, _, _, rfl, hob, cl.cl, cl.nB, flds_book _ _ _, _, rfl, _, rfl, q, xb, rs, z, t, ns, rfl, hq, hx, O.bk, tz.2, SqT.of (s1 _ _ ht), fun p2 L H2 s2 hp2 cells eL => ?_⟩
    have S2 := S1.same s2
    have hD2 := s2 _ _ hD1
    have s02 := s1.trans s2
    have nDkd : D ≠ kd := fun e => by
      obtain ⟨u, hu⟩ := S.nkd.2.2.2.2
      rw [e, hu] at nD
      cases nD
    refine ⟨p2, rfl, ⟨_, SqL.of hp2⟩, ?_⟩
    have lL : L.length = (behind rs F (z, ns)).length := by
      unfold behind
      rw [List.length_map, ← eL, List.length_map]
    refine for_list (K := K) (a := p2) (xs := L.map fun c => V.ref c.1) (fun i σ H' => ∃ v5 v6 v7 : Option V, σ = [some (.ref o), some (.ref b), some (.str z), some (.ref t), some (.ref D), v5, v6, v7] ∧ But kd H H' ∧ But2 kd D H2 H' ∧ SAt P w K C H' o q d1 kd rs F Ok ∧ H' p2 = some (.lst (L.map fun c => V.ref c.1)) ∧
      ∃ M : List (Addr × NK), H' D = some (.lst (M.map fun c => V.ref c.1)) ∧ (∀ c ∈ M, KeyAt H' c.1 c.2) ∧ M.map (·.2) = (behind rs F (z, ns)).take i)
      ⟨_, _, _, rfl, Same.but s02, Same.but2 (Same.refl _), S2, hp2, [], hD2, (fun _ m => nomatch m), rfl⟩ (fun i σ H' _ ⟨_, _, _, _, _, _, _, h, _⟩ => SqL.of h) ?_ ?_
    · rintro i x σ H3 hx3 ⟨v5, v6, v7, rfl, b3, b23, S3, hp3, M, hD3, keys, eM⟩
      obtain ⟨cc, hcc, rfl⟩ := Option.map_eq_some_iff.mp ((List.getElem?_map ..).symm.trans hx3)
      have mcc := List.mem_of_getElem? hcc
      have mrow : cc.2.2 ∈ fitD rs z ns := by rw [← eL]; exact List.mem_map.mpr ⟨cc, mcc, rfl⟩
      obtain ⟨c1, c2⟩ := cells cc mcc
      obtain ⟨s, es, ms, gs⟩ := gone_miss O g mrow
      have es' : missO rs F cc.2.2 ns = some s := es
      have ne1 : cc.2.2.2 ≠ [] := List.ne_nil_of_mem ms
      have c13 : H3 cc.1 = some (.tup [.int (cc.2.2.1 : Int), .ref cc.2.1]) := b23 _ _ c1 (fun e => S2.nkd.1 _ (e ▸ c1)) (fun e => by rw [e, hD2] at c1; cases c1)
      have c23 : H3 cc.2.1 = some (.lst (cc.2.2.2.map V.str)) := b23 _ _ c2 (fun e => S2.nkd.2.2.2.1 _ (e ▸ c2)) (fun e => by
        rw [e, hD2] at c2
        injection c2 with c2
        injection c2 with c2
        exact ne1 (List.map_eq_nil_iff.mp c2.symm))
      have ht3 := b3 _ _ ht (fun e => S.nkd.1 _ (e ▸ ht))
      refine ⟨cc.1, _, rfl, SqT.of c13, rfl, _, _, rfl, _, _, rfl, rfl, ?_⟩
      -- longer
      refine nxb_set ?_
      refine ⟨_, rfl, _, rfl, t, ns, cc.2.2.1, rfl, SqT.of ht3, by omega, fun u H4 s4 nu hu => ?_⟩
      have S4 := S3.same s4
      refine ⟨_, rfl, .inl ⟨rfl, _, SqL.of (s4 _ _ hD3)⟩, ?_⟩
      obtain ⟨dx4, hob4⟩ := S4.ob
      have okS : ∀ y ∈ cc.2.2.2, Ok (y, srt (ns ++ [cc.2.2.1])) := fun y my => by
        obtain ⟨r, hr, no, _, eof⟩ := fit_row mrow
        exact O.cl (z, ns) _ g.ok ⟨cc.2.2.1, r, hr, no, by rw [← eof]; exact my, rfl⟩
      have le : rs.length + 1 ≤ (srt (ns ++ [cc.2.2.1])).length + 7 := by omega
      refine ⟨_, rfl, o, dx4, _, rfl, hob4, flds_no _ _ _ (by decide +kernel) (by decide +kernel) (by decide +kernel), _, rfl, _, rfl, o, q, d1, kd, u, cc.2.1, rs, F, cc.2.2.2, srt (ns ++ [cc.2.2.1]), Ok, rfl, S4, O, hu, s4 _ _ c23, okS, le, fun H5 b5 S5 => ?_⟩
      have em : (cc.2.2.2.find? fun s => (way rs F s (srt (ns ++ [cc.2.2.1]))).isNone) = some s := es'
      rw [em, show vO (some s) = V.str s from rfl]
      refine ⟨_, rfl, (by show 2 ≤ sizeLine; decide), fun y ny => ?_⟩
      have s6 := same_upd (o := .tup [.str s, .ref u]) ny
      have hy : upd H5 y (.tup [.str s, .ref u]) y = some (.tup [.str s, .ref u]) := upd_same
      have S6 := S5.same s6
      have hu5 : H5 u = some (.tup ((srt (ns ++ [cc.2.2.1])).map fun n : Nat => V.int (n : Int))) := b5 _ _ hu (fun e => S4.nkd.1 _ (e ▸ hu))
      have hu6 := s6 _ _ hu5
      have b46 : But kd H4 (upd H5 y (.tup [.str s, .ref u])) := b5.trans (Same.but s6)
      generalize upd H5 y (.tup [.str s, .ref u]) = H6 at s6 hy S6 hu6 b46
      have b36 : But kd H3 H6 := (Same.but s4).trans b46
      have hD6 := b36 _ _ hD3 nDkd
      have t36 := S3.tups b36
      have lM : M.length = min i (behind rs F (z, ns)).length := by
        have y := congrArg List.length eM
        rw [List.length_map, List.length_take] at y
        exact y
      have bl : (behind rs F (z, ns)).length ≤ rs.length := behind_len
      have t7 := upd_tups (u := .lst ((M ++ [(y, (s, srt (ns ++ [cc.2.2.1])))]).map fun c => V.ref c.1)) hD6
      have S7 := S6.mut (u := .lst ((M ++ [(y, (s, srt (ns ++ [cc.2.2.1])))]).map fun c => V.ref c.1)) hD6
      have eapp : (M.map fun c => V.ref c.1) ++ [V.ref y] = (M ++ [(y, ((s, srt (ns ++ [cc.2.2.1])) : NK))]).map fun c => V.ref c.1 := by
        rw [List.map_append]
        rfl
      refine ⟨D, _, _, rfl, rfl, hD6, by rw [List.length_map, sizeLine_eq]; omega, ?_⟩
      rw [eapp]
      refine ⟨_, _, _, rfl, (b3.trans b36).mutN nD, (b23.trans b36.but2L).mutR, S7, ?_, _, upd_same, fun c mc => ?_, ?_⟩
      · have ilt := (List.getElem?_eq_some_iff.mp hcc).1
        have nep : p2 ≠ D := fun e => by
          rw [e, hD2] at hp2
          injection hp2 with hp2
          injection hp2 with hp2
          have z := congrArg List.length hp2
          rw [List.length_map] at z
          have z0 : ([] : List V).length = 0 := rfl
          omega
        rw [upd_ne nep]
        exact b36 _ _ hp3 (fun e => S3.nkd.2.2.2.1 _ (e ▸ hp3))
      · rcases List.mem_append.mp mc with mc | mc
        · exact ((keys c mc).tups t36).tups t7
        · rw [List.mem_singleton.mp mc]
          exact KeyAt.tups ⟨u, hy, hu6⟩ t7
      · have hbi : (behind rs F (z, ns))[i]? = some ((s, srt (ns ++ [cc.2.2.1])) : NK) := by
          unfold behind
          rw [← eL, List.map_map, List.getElem?_map, hcc]
          show some ((missO rs F cc.2.2 ns).getD "", srt (ns ++ [cc.2.2.1])) = _
          rw [es']
          rfl
        rw [List.map_append, eM, List.take_add_one, hbi]
        rfl
    · rintro σ H3 ⟨v5, v6, v7, rfl, b3, b23, S3, hp3, M, hD3, keys, eM⟩
      rw [List.length_map, lL, List.take_length] at eM
      exact ⟨_, rfl, k D M H3 nD nDkd b3 S3 hD3 keys eM⟩
end
end Lk

/-! K22G -/
set_option Elab.async false
set_option linter.all false
set_option maxRecDepth 100000
set_option maxHeartbeats 4000000
namespace Lk
open PySem PySem.Spec PyProof.Rows L2
/-- what goes round while a block is sought -/
structure BAt (P : Program) (w : World) (K : PySem.W.Frag) (C : Addr) (H H' : Hp) (o q d1 kd R Wl : Addr) (rs : List Rl) (F : List Str) (z : Str) (Ok : Place → Prop) (kvs : List (NK × V)) (Wt : List (Addr × NK)) : Prop where
  same : Same H H'
  s : SAt P w K C H' o q d1 kd rs F Ok
  n : NAt P w H' R kvs
  nd : (kvs.map (·.1)).Nodup
  w : H' Wl = some (.lst (Wt.map fun c => V.ref c.1))
  ks : ∀ c ∈ Wt, KeyAt H' c.1 c.2 ∧ Gone rs F Ok c.2
  gs : ∀ p ∈ kvs.map (·.1), Gone rs F Ok p
  st : (z, []) ∈ kvs.map (·.1) ∨ (z, []) ∈ Wt.map (·.2)
  cl : ∀ p ∈ kvs.map (·.1), ∀ r ∈ behind rs F p, r ∈ kvs.map (·.1) ∨ r ∈ Wt.map (·.2)
  f1 : H kd = none
  f2 : H R = none
  f3 : H Wl = none
  n1 : R ≠ kd
  n2 : Wl ≠ kd
  n3 : R ≠ Wl
  n4 : R ≠ d1
theorem NAt.nolst {P : Program} {w : World} {H : Hp} {d : Addr} {kvs : List (NK × V)} (g : NAt P w H d kvs) {ys : List V} : H d ≠ some (.lst ys) := by
  obtain ⟨_, ⟨_, e⟩ | ⟨xs, e, _⟩⟩ := g
  · rw [e]
    exact fun z => nomatch z
  · rw [e]
    exact fun z => nomatch z
theorem NAt.noins {P : Program} {w : World} {H : Hp} {d : Addr} {kvs : List (NK × V)} (g : NAt P w H d kvs) {c dx : Addr} {fs : List (Str × V)} : H d ≠ some (.ins c dx fs) := by
  obtain ⟨_, ⟨_, e⟩ | ⟨xs, e, _⟩⟩ := g
  · rw [e]
    exact fun z => nomatch z
  · rw [e]
    exact fun z => nomatch z
theorem NAt.tupsR {P : Program} {w : World} {H H' : Hp} {d : Addr} {kvs : List (NK × V)} (g : NAt P w H d kvs) (t : Tups H H') (e : H' d = H d) : NAt P w H' d kvs := g.same (fun o h => by rw [e]; exact h) t.1
section
variable {P : Program} {w : World} {K : PySem.W.Frag} {mg : Str → Option Value} {base : Heap} {C : Addr}
theorem sc_p_block : FnScope ["book", "files", "name", "search", "rows", "waiting", "row"] ["book", "files", "name"] (defScope s_p_block) := ⟨rfl, rfl, rfl, by decide +kernel, rfl, by decide +kernel, by decide +kernel⟩
theorem keys_snd {H : Hp} : ∀ {kvs : List (NK × V)} {bs : List Addr}, IsKeysN H kvs bs → ∃ L : List (Addr × NK), L.map (·.1) = bs ∧ L.map (·.2) = kvs.map (·.1) ∧ ∀ c ∈ L, KeyAt H c.1 c.2 := by
  intro kvs bs h
  unfold IsKeysN at h
  induction h with
  | nil => exact ⟨[], rfl, rfl, fun _ m => nomatch m⟩
  | @cons p b kvs bs hb _ ih =>
    obtain ⟨L, e1, e2, e3⟩ := ih
    refine ⟨(b, p.1) :: L, by rw [List.map_cons, e1], by rw [List.map_cons, List.map_cons, e2], fun c mc => ?_⟩
    rcases List.mem_cons.mp mc with e | mc
    · rw [e]
      exact hb
    · exact e3 c mc
theorem keyAt_same {H H' : Hp} {b : Addr} {p : NK} (h : KeyAt H b p) (s : Same H H') : KeyAt H' b p := h.keeps fun c xs e => s _ _ e
theorem nxc_set {te : TE} {g : TG} {r : TS} {D : Ends} {rt : VK} {bk ct : L2.St → Hp → Prop} {σ : L2.St} {H : Hp} (h : te σ H fun x H1 => g x σ H1 (r D)) : tNext { nx := tSeq (tAsg te g) r D, rt := rt, bk := bk, ct := ct } σ H := h
theorem nxc_ifS {x : V} {i : Nat} {t : TT} {ts r : TS} {D : Ends} {σ : L2.St} {H : Hp} (h : tSeq (tIfS t ts tNext) r D (σ.set i (some x)) H) : gName i x σ H (tSeq (tIfS t ts tNext) r D) := h
theorem nxc_while {x : V} {i : Nat} {t : TT} {tb r : TS} {D : Ends} {σ : L2.St} {H : Hp} (h : tWhile t tb { D with nx := r D } (σ.set i (some x)) H) : gName i x σ H (tSeq (tWhile t tb) r D) := h
theorem nxc_if {x : V} {i : Nat} {t : TT} {ts : TS} {D : Ends} {σ : L2.St} {H : Hp} (h : tIfS t ts tNext D (σ.set i (some x)) H) : gName i x σ H (tIfS t ts tNext D) := h
set_option maxHeartbeats 0
theorem cal_p_block (D : Def1 K mg "block" s_p_block) (gl : mg "list" = none) (Z : Kls K mg "Search" C) (cl : SCls K C) (CH : Cal P w K mg base 8 "need_things" (spThings K)) (CI : MCal P w K mg base C 1 "__init__" (spInit P w K C)) (CT : MCal P w K mg base C 23 "told" (spTold P w K C 7)) (CB : Cal P w K mg base 25 "rows_behind" (spBehind P w K C)) :
    Cal P w K mg base 26 "block" (spBlock K) := by
  refine mkCal D sc_p_block (fun _ _ _ _ _ _ us hl => match us, hl with | [_, _, _], _ => rfl) (fun vs H Q E h => ?_) (fun f' cdv A outer s H vs Q E hr h => ?_)
  · obtain ⟨q, f, rs, F, z, Ok, rfl, _⟩ := h
    rfl
  · obtain ⟨q, f, rs, F, z, Ok, rfl, As, k⟩ := h
    refine ⟨_, (pss_cons (ps_expr (pe_cal CH hr (by omega) (pa_cons (pv 0) (pa_cons (pv 1) (pa_cons (pv 2) pa_nil)))))
    (pss_cons (ps_set (i := 3) sc_p_block.nd rfl (.inl rfl) (pe_new CI Z hr (by decide) (pa_cons (pv 0) (pa_cons (pv 1) pa_nil))))
    (pss_cons (ps_if (pt_cmpR op_notN (pe_mcal CT cl.cl hr (by omega) (pv 3) (pa_cons (pv 2) (pa_cons (pe_tup pa_nil) pa_nil))) pe_non (nomark _)) (pss_one (ps_ret pe_non)) pss_nil)
    (pss_cons (ps_set (i := 4) sc_p_block.nd rfl (.inl rfl) pe_dnewK)
    (pss_cons (ps_set (i := 5) sc_p_block.nd rfl (.inl rfl) (pe_lst (pa_cons (pe_tup (pa_cons (pv 2) (pa_cons (pe_tup pa_nil) pa_nil))) pa_nil)))
    (pss_cons (ps_while PassesOwn.never (pt_truth (pv 5) (by intro _; rfl))
    (pss_cons (ps_set (i := 6) sc_p_block.nd rfl (.inl rfl) (pe_bm0 PySem.F.plainAttrs_list PySem.F.slot_list_pop PySem.F.type_list_pop mt_pop (pv 5)))
    (pss_one (ps_if (pt_cmp (pc_nnotin (u9 hr) (pv 6) (pv 4))) (pss_cons (ps_nput (u9 hr) (pv 4) (pv 6) pe_bl (by rfl))
    (pss_one (ps_expr (pe_bm PySem.F.plainAttrs_list PySem.F.slot_list_extend PySem.F.type_list_extend mt_extend (pv 5) (pa_cons (pe_cal CB hr (by omega) (pa_cons (pv 3) (pa_cons (pv 6) pa_nil))) pa_nil))))) pss_nil))))
    (pss_one (ps_ret (pe_callTy (call_list_N rfl) (by rfl) gl (by decide +kernel) (pa_cons (pv 4) pa_nil)))))))))), ?_⟩
    obtain ⟨xs, hq, hx⟩ := As.bk
    have lz := (As.ok.tx _ As.st).2
    refine ⟨_, rfl, _, rfl, _, rfl, q, f, xs, rs, F, z, rfl, hq, hx, As.ok.bk, As.fl, As.fok, lz, As.nz, fun H1 s1 => ?_⟩
    refine ⟨_, rfl, _, rfl, fun o dx no nd ne => ?_⟩
    have s2 : Same H1 (upd (upd H1 dx (.own o)) o (.ins C dx [])) := fun b u e => by
      rw [upd_ne (ne_of_none e no), upd_ne (ne_of_none e nd)]
      exact e
    have ho : upd (upd H1 dx (.own o)) o (.ins C dx []) o = some (.ins C dx []) := upd_same
    have s12 := s1.trans s2
    generalize upd (upd H1 dx (.own o)) o (.ins C dx []) = H2 at s2 ho s12
    refine ⟨o, dx, q, f, xs, rs, F, rfl, ho, Same.seqT s12 hq, thAll_same s12 hx, Same.seqT s12 As.fl, As.fok.nd, Nat.le_trans As.fok.few (by decide), fun d1 kd H3 n1 n2 b3 mk => ⟨rfl, ?_⟩⟩
    have S3 := mk Ok
    obtain ⟨dx3, hob3⟩ := S3.ob
    have s03 : Same H H3 := fun b u e => b3 _ _ (s12 _ _ e) (ne_of_none (s1 _ _ e) no)
    have kd0 : H kd = none := s12.free n2
    refine nx_open (nxc_ifS ?_)
    refine ⟨_, rfl, o, dx3, _, rfl, hob3, flds_no _ _ _ (by decide +kernel) (by decide +kernel) (by decide +kernel), _, rfl, (by show 0 ≤ sizeLine; decide), fun t nt => ?_⟩
    have s4 := same_upd (o := .tup []) nt
    have t4 : upd H3 t (.tup []) t = some (.tup (([] : List Nat).map fun n : Nat => V.int (n : Int))) := upd_same
    have S4 := S3.same s4
    have many := (book_len As.ok.bk).1
    have s04 := s03.trans s4
    generalize upd H3 t (.tup []) = H4 at s4 t4 S4 s04
    refine ⟨o, q, d1, kd, t, rs, F, z, [], Ok, rfl, S4, As.ok, t4, As.st, by show rs.length + 1 ≤ 0 + 7; omega, fun v H5 b5 S5 rw5 => ?_⟩
    have s05 : Same H H5 := fun b u e => b5 _ _ (s04 _ _ e) (ne_of_none e kd0)
    have en := rw_non As.ok As.st rw5
    refine ⟨rfl, _, rfl, ?_⟩
    cases hw : way rs F z [] with
    | some d =>
      rw [hw] at en
      refine iteT' (by rw [en]; rfl) (k .non H5 s05 (fun _ => rfl) fun e => ?_)
      rw [hw] at e
      cases e
    | none =>
      rw [hw] at en
      refine iteF' (by rw [en]; rfl) ?_
      -- rows
      refine nxc_set ?_
      refine fun R nR => ?_
      have s6 := same_upd (o := .dK []) nR
      have hR6 : upd H5 R (.dK []) R = some (.dK []) := upd_same
      have S6 := S5.same s6
      have nRkd : R ≠ kd := fun e => by
        obtain ⟨u, hu⟩ := S5.nkd.2.2.2.2
        rw [e, hu] at nR
        cases nR
      have nRd1 : R ≠ d1 := fun e => by
        rw [e, S5.th] at nR
        cases nR
      have R0 := s05.free nR
      generalize upd H5 R (.dK []) = H6 at s6 hR6 S6
      have s06 := s05.trans s6
      -- waiting
      refine nxb_set ?_
      refine ⟨_, rfl, (by show 0 ≤ sizeLine; decide), fun t7 nt7 => ?_⟩
      have s7 := same_upd (o := .tup []) nt7
      have ht7 : upd H6 t7 (.tup []) t7 = some (.tup (([] : List Nat).map fun n : Nat => V.int (n : Int))) := upd_same
      generalize upd H6 t7 (.tup []) = H7 at s7 ht7
      refine ⟨(by show 2 ≤ sizeLine; decide), fun b8 nb8 => ?_⟩
      have s8 := same_upd (o := .tup [.str z, .ref t7]) nb8
      have hb8 : upd H7 b8 (.tup [.str z, .ref t7]) b8 = some (.tup [.str z, .ref t7]) := upd_same
      have ht8 := s8 _ _ ht7
      generalize upd H7 b8 (.tup [.str z, .ref t7]) = H8 at s8 hb8 ht8
      refine ⟨(by show 1 ≤ sizeLine; decide), fun Wl nWl => ?_⟩
      have s9 := same_upd (o := .lst [.ref b8]) nWl
      have hW9 : upd H8 Wl (.lst [.ref b8]) Wl = some (.lst [.ref b8]) := upd_same
      have s68 := s7.trans s8
      have S8 := S6.same s68
      have nWkd : Wl ≠ kd := fun e => by
        obtain ⟨u, hu⟩ := S8.nkd.2.2.2.2
        rw [e, hu] at nWl
        cases nWl
      have nRW : R ≠ Wl := ne_of_none (s68 _ _ hR6) nWl
      have W0 := (s06.trans s68).free nWl
      generalize upd H8 Wl (.lst [.ref b8]) = H9 at s9 hW9
      have s69 := s68.trans s9
      have g0 : Gone rs F Ok (z, []) := ⟨As.st, hw⟩
      have A0 : BAt P w K C H H9 o q d1 kd R Wl rs F z Ok [] [(b8, (z, []))] := ⟨s06.trans s69, S6.same s69, NAt.new (s69 _ _ hR6), List.nodup_nil, hW9, fun c mc => by
          rw [List.mem_singleton.mp mc]
          exact ⟨⟨t7, s9 _ _ hb8, s9 _ _ ht8⟩, g0⟩, (fun _ m => nomatch m), .inr (List.mem_singleton.mpr rfl), (fun _ m => nomatch m), kd0, R0, W0, nRkd, nWkd, nRW, nRd1⟩
      -- while waiting
      refine nxc_while ?_
      refine ⟨fun g σ H' => ∃ (kvs : List (NK × V)) (Wt : List (Addr × NK)) (v6 : Option V), σ = [some (.ref q), some (.ref f), some (.str z), some (.ref o), some (.ref R), some (.ref Wl), v6] ∧ BAt P w K C H H' o q d1 kd R Wl rs F z Ok kvs Wt ∧ Wt.length ≤ 1 + 6 * kvs.length ∧ g = 8 * (100001 - kvs.length) + Wt.length, ⟨_, [], _, _, rfl, A0, Nat.le_refl _, rfl⟩, ?_⟩
      rintro g σ H10 ⟨kvs, Wt, v6, rfl, A10, lW, rfl⟩
      refine ⟨_, rfl, _, .inl ⟨_, SqL.of A10.w, rfl⟩, ?_⟩
      have few := ok_few As.ok A10.nd fun p v m => (A10.gs p (List.mem_map.mpr ⟨(p, v), m, rfl⟩)).ok
      rcases List.eq_nil_or_concat Wt with rfl | ⟨Wt0, c0, eW⟩
      · refine iteF' rfl ?_
        refine ⟨_, rfl, R, kvs, rfl, A10.n, fun l bs nl keys => ?_⟩
        obtain ⟨L, e1, e2, e3⟩ := keys_snd keys
        have s11 := same_upd (o := .lst (bs.map V.ref)) nl
        refine k _ _ (A10.same.trans s11) (fun ⟨d, e⟩ => by rw [hw] at e; cases e) fun _ => ⟨l, L, rfl, A10.same.free nl, ?_, fun c mc => keyAt_same (e3 c mc) s11, ?_⟩
        · rw [upd_same, ← e1, List.map_map]
          rfl
        · rw [e2]
          refine ⟨A10.nd, A10.st.resolve_right (fun m => nomatch m), A10.gs, fun p mp r mr => (A10.cl p mp r mr).resolve_right (fun m => nomatch m)⟩
      rw [List.concat_eq_append] at eW
      subst eW
      rw [List.length_append] at lW
      have l1 : ([c0] : List (Addr × NK)).length = 1 := rfl
      refine iteT' (by simp) ⟨fun σ' H' => ∃ g' < 8 * (100001 - kvs.length) + (Wt0 ++ [c0]).length, ∃ (kvs : List (NK × V)) (Wt : List (Addr × NK)) (v6 : Option V), σ' = [some (.ref q), some (.ref f), some (.str z), some (.ref o), some (.ref R), some (.ref Wl), v6] ∧ BAt P w K C H H' o q d1 kd R Wl rs F z Ok kvs Wt ∧ Wt.length ≤ 1 + 6 * kvs.length ∧ g' = 8 * (100001 - kvs.length) + Wt.length, fun σ' H' h => h, ?_⟩
      -- pop
      refine ⟨_, rfl, .inl ⟨rfl, _, SqL.of A10.w⟩, Wl, _, .ref c0.1, rfl, rfl, A10.w, by simp, ?_⟩
      have el : ((Wt0 ++ [c0]).map fun c => V.ref c.1).dropLast = Wt0.map fun c => V.ref c.1 := by simp
      rw [el]
      have t11 := upd_tups (u := .lst (Wt0.map fun c => V.ref c.1)) A10.w
      have S11 := A10.s.mut (u := .lst (Wt0.map fun c => V.ref c.1)) A10.w
      have N11 : NAt P w (upd H10 Wl (.lst (Wt0.map fun c => V.ref c.1))) R kvs := A10.n.tupsR t11 (upd_ne A10.n3)
      obtain ⟨kc0, gc0⟩ := A10.ks c0 (List.mem_append_right _ (List.mem_singleton.mpr rfl))
      have kc11 := kc0.tups t11
      have k11 : ∀ c ∈ Wt0, KeyAt (upd H10 Wl (.lst (Wt0.map fun c => V.ref c.1))) c.1 c.2 ∧ Gone rs F Ok c.2 := fun c mc => ⟨(A10.ks c (List.mem_append_left _ mc)).1.tups t11, (A10.ks c (List.mem_append_left _ mc)).2⟩
      have w11 : upd H10 Wl (.lst (Wt0.map fun c => V.ref c.1)) Wl = some (.lst (Wt0.map fun c => V.ref c.1)) := upd_same
      have s11 : Same H (upd H10 Wl (.lst (Wt0.map fun c => V.ref c.1))) := same_mut A10.same A10.f3
      generalize upd H10 Wl (.lst (Wt0.map fun c => V.ref c.1)) = H11 at t11 S11 N11 kc11 k11 w11 s11
      refine nx_open (nxc_if ?_)
      refine ⟨_, rfl, _, rfl, R, c0.1, c0.2, kvs, rfl, rfl, N11, kc11, _, rfl, ?_⟩
      have inW : ∀ r : NK, r ∈ (Wt0 ++ [c0]).map (·.2) → r ∈ Wt0.map (·.2) ∨ r = c0.2 := fun r m => by
        rw [List.map_append] at m
        rcases List.mem_append.mp m with m | m
        · exact .inl m
        · exact .inr (List.mem_singleton.mp m)
      cases hv : valV kvs c0.2 with
      | some v0 =>
        have inK : c0.2 ∈ kvs.map (·.1) := List.mem_map.mpr ⟨(c0.2, v0), valV_mem hv, rfl⟩
        refine iteF' rfl ⟨_, ?_, kvs, Wt0, _, rfl, ⟨s11, S11, N11, A10.nd, w11, k11, A10.gs, ?_, fun p mp r mr => ?_, A10.f1, A10.f2, A10.f3, A10.n1, A10.n2, A10.n3, A10.n4⟩, by omega, rfl⟩
        · rw [List.length_append]
          omega
        · rcases A10.st with h | h
          · exact .inl h
          · rcases inW _ h with h | h
            · exact .inr h
            · rw [h]
              exact .inl inK
        · rcases A10.cl p mp r mr with h | h
          · exact .inl h
          · rcases inW _ h with h | h
            · exact .inr h
            · rw [h]
              exact .inl inK
      | none =>
        have notK : c0.2 ∉ kvs.map (·.1) := fun m => by
          obtain ⟨e, me, e2⟩ := List.mem_map.mp m
          have z : (valV kvs c0.2).isSome = true := by
            rw [← valV_any, List.any_eq_true]
            exact ⟨e, me, decide_eq_true e2⟩
          rw [hv] at z
          cases z
        refine iteT' rfl ?_
        refine ⟨_, rfl, _, rfl, R, c0.1, c0.2, kvs, rfl, rfl, N11, kc11, by rw [sizeLine_eq]; omega, fun u g12 => ?_⟩
        have b12 : But R H11 (upd H11 R u) := (But.refl R H11).upd
        have t12 : Tups H11 (upd H11 R u) := b12.tups (fun ys => N11.notup) (fun ob u' => N11.nofrz)
        have kdR : kd ≠ R := fun e => A10.n1 e.symm
        have S12 : SAt P w K C (upd H11 R u) o q d1 kd rs F Ok := by
          obtain ⟨dx6, ob6⟩ := S11.ob
          obtain ⟨xs6, h1, h2⟩ := S11.bk
          obtain ⟨kv6, g6, nd6, each6⟩ := S11.kn
          refine ⟨⟨dx6, b12 _ _ ob6 fun e => N11.noins (e ▸ ob6)⟩, ⟨xs6, t12.seqT h1, thAll_tups t12 h2 book_onlyT⟩, b12 _ _ S11.th fun e => A10.n4 e.symm, S11.ne, kv6, g6.same (fun u' e => by rw [upd_ne kdR]; exact e) t12.1, nd6, fun p v m => ⟨(each6 p v m).1, (each6 p v m).2.tups t12⟩⟩
        have kc12 := kc11.tups t12
        have k12 : ∀ c ∈ Wt0, KeyAt (upd H11 R u) c.1 c.2 ∧ Gone rs F Ok c.2 := fun c mc => ⟨(k11 c mc).1.tups t12, (k11 c mc).2⟩
        have w12 : upd H11 R u Wl = some (.lst (Wt0.map fun c => V.ref c.1)) := by rw [upd_ne (fun e => A10.n3 e.symm)]; exact w11
        have s12' : Same H (upd H11 R u) := same_mut s11 A10.f2
        generalize upd H11 R u = H12 at g12 b12 t12 S12 kc12 k12 w12 s12'
        -- waiting.extend(..)
        refine ⟨_, rfl, .inl ⟨rfl, _, SqL.of w12⟩, _, rfl, _, rfl, o, q, d1, kd, c0.1, rs, F, c0.2, Ok, rfl, S12, As.ok, kc12, gc0, fun l L H13 nl lkd b13 S13 hl keys eL => ?_⟩
        have t13 := S12.tups b13
        have w13 := b13 _ _ w12 A10.n2
        have g13 : NAt P w H13 R (putK kvs c0.2 (V.bl true)) := g12.same (fun u' e => b13 _ _ e A10.n1) t13.1
        have lL : L.length ≤ 6 := by
          have y := congrArg List.length eL
          rw [List.length_map] at y
          have y2 := behind_len (rs := rs) (F := F) (p := c0.2)
          omega
        have eapp : (Wt0.map fun c => V.ref c.1) ++ (L.map fun c => V.ref c.1) = (Wt0 ++ L).map fun c => V.ref c.1 := (List.map_append ..).symm
        have s13 : Same H H13 := fun b u e => b13 _ _ (s12' _ _ e) (ne_of_none e A10.f1)
        refine ⟨Wl, l, _, _, rfl, rfl, w13, hl, by rw [List.length_map, List.length_map, sizeLine_eq]; omega, ?_⟩
        rw [eapp]
        have t14 := upd_tups (u := .lst ((Wt0 ++ L).map fun c => V.ref c.1)) w13
        have kk : ∀ p : NK, p ∈ (putK kvs c0.2 (V.bl true)).map (·.1) ↔ p ∈ kvs.map (·.1) ∨ p = c0.2 := fun p => by
          rw [putK_new _ hv, List.map_append, List.mem_append]
          exact or_congr_right List.mem_singleton
        have lk : (putK kvs c0.2 (V.bl true)).length = kvs.length + 1 := by rw [putK_new _ hv, List.length_append]; rfl
        have inB : ∀ r, r ∈ behind rs F c0.2 → r ∈ (Wt0 ++ L).map (·.2) := fun r mr => by
          rw [List.map_append, eL]
          exact List.mem_append_right _ mr
        have inW0 : ∀ r, r ∈ Wt0.map (·.2) → r ∈ (Wt0 ++ L).map (·.2) := fun r mr => by
          rw [List.map_append]
          exact List.mem_append_left _ mr
        refine ⟨_, ?_, putK kvs c0.2 (V.bl true), Wt0 ++ L, _, rfl, ⟨same_mut s13 A10.f3, S13.mut w13, g13.tupsR t14 (upd_ne A10.n3), putK_keys A10.nd, upd_same, fun c mc => ?_, fun p mp => ?_, ?_, fun p mp r mr => ?_, A10.f1, A10.f2, A10.f3, A10.n1, A10.n2, A10.n3, A10.n4⟩, ?_, rfl⟩
        · rw [lk, List.length_append, List.length_append]
          omega
        · rcases List.mem_append.mp mc with mc | mc
          · exact ⟨((k12 c mc).1.tups t13).tups t14, (k12 c mc).2⟩
          · refine ⟨(keys c mc).tups t14, gone_behind As.ok gc0 ?_⟩
            rw [← eL]
            exact List.mem_map.mpr ⟨c, mc, rfl⟩
        · rcases (kk p).mp mp with mp | rfl
          · exact A10.gs p mp
          · exact gc0
        · rcases A10.st with h | h
          · exact .inl ((kk _).mpr (.inl h))
          · rcases inW _ h with h | h
            · exact .inr (inW0 _ h)
            · exact .inl ((kk _).mpr (.inr h))
        · rcases (kk p).mp mp with mp | rfl
          · rcases A10.cl p mp r mr with h | h
            · exact .inl ((kk r).mpr (.inl h))
            · rcases inW _ h with h | h
              · exact .inr (inW0 _ h)
              · exact .inl ((kk r).mpr (.inr h))
          · exact .inr (inB r mr)
        · rw [lk, List.length_append]
          omega
end
end Lk

/-! K22H -/
set_option Elab.async false
set_option linter.all false
set_option maxRecDepth 100000
set_option maxHeartbeats 4000000
namespace Lk
open PySem PySem.Spec PyProof.Rows L2
def isInt : PyData → Bool
  | .int _ => true
  | .bool _ => true
  | _ => false
def isBol : PyData → Bool
  | .bool _ => true
  | _ => false
theorem kit_int {K : PySem.W.Frag} : ∀ d : PyData, PySem.W.kitOne K (.type (tyN d)) (.type "int") = some (isInt d)
  | .none => kit_ty (show kitB "NoneType" "int" = some false by decide +kernel)
  | .bool _ => kit_ty (show kitB "bool" "int" = some true by decide +kernel)
  | .int _ => kit_ty (show kitB "int" "int" = some true by decide +kernel)
  | .str _ => kit_ty (show kitB "str" "int" = some false by decide +kernel)
  | .list _ => kit_ty (show kitB "list" "int" = some false by decide +kernel)
  | .tuple _ => kit_ty (show kitB "tuple" "int" = some false by decide +kernel)
  | .dict _ => kit_ty (show kitB "dict" "int" = some false by decide +kernel)
theorem kit_bol {K : PySem.W.Frag} : ∀ d : PyData, PySem.W.kitOne K (.type (tyN d)) (.type "bool") = some (isBol d)
  | .none => kit_ty (show kitB "NoneType" "bool" = some false by decide +kernel)
  | .bool _ => kit_ty (show kitB "bool" "bool" = some true by decide +kernel)
  | .int _ => kit_ty (show kitB "int" "bool" = some false by decide +kernel)
  | .str _ => kit_ty (show kitB "str" "bool" = some false by decide +kernel)
  | .list _ => kit_ty (show kitB "list" "bool" = some false by decide +kernel)
  | .tuple _ => kit_ty (show kitB "tuple" "bool" = some false by decide +kernel)
  | .dict _ => kit_ty (show kitB "dict" "bool" = some false by decide +kernel)
/-! ### rows: any object -/
def numM (m : Nat) : PyData → Bool
  | .int i => decide (0 ≤ i) && decide (i < (m : Int))
  | _ => false
def ltI : PyData → PyData → Bool
  | .int i, .int j => decide (i < j)
  | _, _ => false
def ascI : List PyData → Bool
  | [] => true
  | [_] => true
  | x :: y :: ds => ltI x y && ascI (y :: ds)
def rowB (m : Nat) : PyData → Bool
  | .tuple [a, .tuple ns] => dName a && (ns.all (numM m) && ascI ns)
  | _ => false
/-- the object that a row is -/
def rowD (p : NK) : PyData := .tuple [.str p.1, .tuple (p.2.map fun n : Nat => .int (n : Int))]
def RowOk (m : Nat) (p : NK) : Prop := dName (.str p.1) = true ∧ (∀ n ∈ p.2, n < m) ∧ p.2.Pairwise (· < ·)
theorem num_of {m : Nat} {d : PyData} (h : numM m d = true) : ∃ n : Nat, d = .int (n : Int) ∧ n < m := by
  cases d with
  | int i =>
    have h2 : (decide (0 ≤ i) && decide (i < (m : Int))) = true := h
    rw [Bool.and_eq_true, decide_eq_true_iff, decide_eq_true_iff] at h2
    exact ⟨i.toNat, by rw [Int.toNat_of_nonneg h2.1], by omega⟩
  | _ => cases h
theorem nums_of {m : Nat} : ∀ {ns : List PyData}, ns.all (numM m) = true → ∃ ks : List Nat, ns = ks.map (fun n : Nat => PyData.int (n : Int)) ∧ ∀ n ∈ ks, n < m
  | [], _ => ⟨[], rfl, fun _ m => nomatch m⟩
  | d :: ns, h => by
    rw [List.all_cons, Bool.and_eq_true] at h
    obtain ⟨n, rfl, hn⟩ := num_of h.1
    obtain ⟨ks, rfl, hk⟩ := nums_of h.2
    refine ⟨n :: ks, rfl, fun x mx => ?_⟩
    rcases List.mem_cons.mp mx with rfl | mx
    · exact hn
    · exact hk x mx
theorem nums_all {m : Nat} {ks : List Nat} : (ks.map fun n : Nat => PyData.int (n : Int)).all (numM m) = true ↔ ∀ n ∈ ks, n < m := by
  rw [List.all_eq_true]
  constructor
  · intro h n mn
    have h2 : (decide (0 ≤ (n : Int)) && decide ((n : Int) < (m : Int))) = true := h _ (List.mem_map.mpr ⟨n, mn, rfl⟩)
    rw [Bool.and_eq_true, decide_eq_true_iff, decide_eq_true_iff] at h2
    omega
  · intro h d md
    obtain ⟨n, mn, rfl⟩ := List.mem_map.mp md
    show (decide (0 ≤ (n : Int)) && decide ((n : Int) < (m : Int))) = true
    have := h n mn
    rw [Bool.and_eq_true, decide_eq_true_iff, decide_eq_true_iff]
    omega
theorem asc_pair : ∀ {ks : List Nat}, ascI (ks.map fun n : Nat => PyData.int (n : Int)) = true ↔ ks.Pairwise (· < ·)
  | [] => ⟨fun _ => .nil, fun _ => rfl⟩
  | [x] => ⟨fun _ => List.pairwise_singleton _ _, fun _ => rfl⟩
  | x :: y :: ks => by
    have e : ascI ((x :: y :: ks).map fun n : Nat => PyData.int (n : Int)) = (decide ((x : Int) < (y : Int)) && ascI ((y :: ks).map fun n : Nat => PyData.int (n : Int))) := rfl
    rw [e, Bool.and_eq_true, decide_eq_true_iff, asc_pair (ks := y :: ks)]
    constructor
    · rintro ⟨a, b⟩
      refine List.pairwise_cons.mpr ⟨fun z mz => ?_, b⟩
      rcases List.mem_cons.mp mz with rfl | mz
      · omega
      · have := (List.pairwise_cons.mp b).1 z mz
        omega
    · intro h
      obtain ⟨a, b⟩ := List.pairwise_cons.mp h
      have := a y List.mem_cons_self
      exact ⟨by omega, b⟩
theorem row_of {m : Nat} {d : PyData} (h : rowB m d = true) : ∃ p : NK, d = rowD p ∧ RowOk m p := by
  unfold rowB at h
  split at h
  · rename_i a ns
    rw [Bool.and_eq_true, Bool.and_eq_true] at h
    obtain ⟨h1, h2, h3⟩ := h
    obtain ⟨ks, rfl, hk⟩ := nums_of h2
    cases a with
    | str x => exact ⟨(x, ks), rfl, h1, hk, asc_pair.mp h3⟩
    | _ => cases h1
  · cases h
theorem row_is {m : Nat} {p : NK} (h : RowOk m p) : rowB m (rowD p) = true := by
  show (dName (.str p.1) && ((p.2.map fun n : Nat => PyData.int (n : Int)).all (numM m) && ascI (p.2.map fun n : Nat => PyData.int (n : Int)))) = true
  rw [h.1, nums_all.mpr h.2.1, asc_pair.mpr h.2.2]
  rfl
/-- all pairs that stand side by side -/
theorem asc_at : ∀ {ns : List PyData}, ascI ns = ((ns.zip (ns.drop 1)).all fun c => ltI c.1 c.2)
  | [] => rfl
  | [_] => rfl
  | x :: y :: ns => by
    have e : ascI (x :: y :: ns) = (ltI x y && ascI (y :: ns)) := rfl
    rw [e, asc_at (ns := y :: ns)]
    rfl
theorem cutL_to {l : List PyData} {i : Int} (h : 0 ≤ i) : cutL l none (some i) = l.take i.toNat := by
  unfold cutL
  rw [HT.sIx_none, sIx_some h, List.drop_zero, Nat.sub_zero, Nat.min_comm]
  exact List.take_eq_take_iff.mpr (by omega)
theorem cutL_from {l : List PyData} {i : Int} (h : 0 ≤ i) : cutL l (some i) none = l.drop i.toNat := by
  unfold cutL
  rw [HT.sIx_none, sIx_some h]
  by_cases hi : i.toNat ≤ l.length
  · rw [Nat.min_eq_left hi]
    exact List.take_of_length_le (by rw [List.length_drop]; exact Nat.le_refl _)
  · rw [Nat.min_eq_right (by omega), List.drop_of_length_le (Nat.le_refl _), List.drop_of_length_le (by omega), List.take_nil]
section
variable {K : PySem.W.Frag}
theorem slA_to {H : Hp} {v0 : V} {ds : List PyData} {n : Int} {Q : VK} (n0 : 0 ≤ n) (h : Th K H v0 (.tuple ds)) (k : ∀ v H', Same H H' → Th K H' v (.tuple (ds.take n.toNat)) → Q v H') : rSlA K v0 none (some n) H Q := by
  have z := (mk_slT (K := K) (te := fun _ H Q => Q v0 H) (σ := []) (H0 := H) (ds := ds) (lo := none) (hi := some n) (fun H1 s Q q => q v0 H1 (Same.refl _) (th_same s h)) mkp_none (mkp_int (i := n))) H (Same.refl H) Q (fun v H' s t => k v H' s (by rw [cutL_to n0] at t; exact t))
  obtain ⟨i, e, z⟩ := z
  cases e
  exact z
theorem slA_from {H : Hp} {v0 : V} {ds : List PyData} {n : Int} {Q : VK} (n0 : 0 ≤ n) (h : Th K H v0 (.tuple ds)) (k : ∀ v H', Same H H' → Th K H' v (.tuple (ds.drop n.toNat)) → Q v H') : rSlA K v0 (some n) none H Q := by
  have z := (mk_slT (K := K) (te := fun _ H Q => Q v0 H) (σ := []) (H0 := H) (ds := ds) (lo := some n) (hi := none) (fun H1 s Q q => q v0 H1 (Same.refl _) (th_same s h)) (mkp_int (i := n)) mkp_none) H (Same.refl H) Q (fun v H' s t => k v H' s (by rw [cutL_from n0] at t; exact t))
  obtain ⟨i, e, z⟩ := z
  cases e
  exact z
theorem nxs_none {σ : L2.St} {H : Hp} {Q : Option Int → Hp → Prop} (h : Q none H) : tNoPart σ H Q := h
end
theorem rowB_name {m : Nat} {d1 d2 : PyData} (h : dName d1 = false) : rowB m (.tuple [d1, d2]) = false := by
  cases d2 with
  | tuple ns =>
    show (dName d1 && _) = false
    rw [h]
    rfl
  | _ => rfl
section
variable {P : Program} {w : World} {K : PySem.W.Frag} {mg : Str → Option Value} {base : Heap}
/-- all([f(x) for x in t]), the source read by tx, a tuple -/
theorem all_readT {σ : L2.St} {H : Hp} {a : Addr} {xs : List V} {ds : List PyData} {p : PyData → Bool} {j iv : Nat} {te : TE} {Q : VK} (hv : σ[j]? = some (some (.ref a))) (hs : SqT K H a xs) (ha : ThAll K H xs ds) (small : ds.length ≤ 2000)
    (wp : ∀ (x : V), wipe ((wipe σ [iv]).set iv (some x)) [iv] = wipe σ [iv])
    (call : ∀ (x : V) (d : PyData) (H' : Hp) (R : VK), d ∈ ds → Th K H' x d → Same H H' → (∀ H2, Same H' H2 → R (.bl (p d)) H2) → te ((wipe σ [iv]).set iv (some x)) H' R) (k : ∀ H', Same H H' → Q (.bl (ds.all p)) H') :
    tCB (rAll K) (tCons (tLc (iTup K (tVar j)) (gName iv) tYes te [iv]) tNil) σ H Q := by
  have hl := thAll_len ha
  refine ⟨_, hv, a, rfl, ⟨_, hs⟩, fun D nD => ?_⟩
  refine lc_tup (K := K) (a := a) (xs := xs) (fun i H' => H' D = some (.lst (((ds.take i).map p).map V.bl)) ∧ Same H H') ⟨upd_same, same_upd nD⟩ (fun i H' _ h => Same.seqT h.2 hs) ?_ ?_
  · rintro i x H' hx ⟨hD, s⟩
    obtain ⟨d, hd, th⟩ := th_at ha hx
    have hi : i < ds.length := (List.getElem?_eq_some_iff.mp hd).1
    refine ⟨wp x, call x d H' _ (List.mem_of_getElem? hd) (th_same s th) s fun H2 s2 => ⟨_, s2 _ _ hD, ?_, ?_, same_mut (s.trans s2) nD⟩⟩
    · rw [List.length_map, List.length_map, List.length_take, sizeLine_eq]
      omega
    · rw [upd_same, List.take_add_one, hd, List.map_append, List.map_append]
      rfl
  · rintro H' ⟨hD, s⟩
    rw [hl, List.take_length] at hD
    refine ⟨D, ds.map p, rfl, SqL.of hD, ?_⟩
    have e : (ds.map p).all id = ds.all p := by rw [List.all_map]; rfl
    rw [e]
    exact k H' s
theorem all_readL {σ : L2.St} {H : Hp} {a : Addr} {xs : List V} {ds : List PyData} {p : PyData → Bool} {j iv : Nat} {te : TE} {Q : VK} (hv : σ[j]? = some (some (.ref a))) (hs : SqL K H a xs) (ha : ThAll K H xs ds) (small : ds.length ≤ 2000)
    (wp : ∀ (x : V), wipe ((wipe σ [iv]).set iv (some x)) [iv] = wipe σ [iv])
    (call : ∀ (x : V) (d : PyData) (H' : Hp) (R : VK), d ∈ ds → Th K H' x d → Same H H' → (∀ H2, Same H' H2 → R (.bl (p d)) H2) → te ((wipe σ [iv]).set iv (some x)) H' R) (k : ∀ H', Same H H' → Q (.bl (ds.all p)) H') :
    tCB (rAll K) (tCons (tLc (iList K (tVar j)) (gName iv) tYes te [iv]) tNil) σ H Q := by
  have hl := thAll_len ha
  refine ⟨_, hv, a, rfl, ⟨_, hs⟩, fun D nD => ?_⟩
  refine lc_list (K := K) (a := a) (xs := xs) (fun i H' => H' D = some (.lst (((ds.take i).map p).map V.bl)) ∧ Same H H') ⟨upd_same, same_upd nD⟩ (fun i H' _ h => h.2.seq hs) ?_ ?_
  · rintro i x H' hx ⟨hD, s⟩
    obtain ⟨d, hd, th⟩ := th_at ha hx
    have hi : i < ds.length := (List.getElem?_eq_some_iff.mp hd).1
    refine ⟨wp x, call x d H' _ (List.mem_of_getElem? hd) (th_same s th) s fun H2 s2 => ⟨_, s2 _ _ hD, ?_, ?_, same_mut (s.trans s2) nD⟩⟩
    · rw [List.length_map, List.length_map, List.length_take, sizeLine_eq]
      omega
    · rw [upd_same, List.take_add_one, hd, List.map_append, List.map_append]
      rfl
  · rintro H' ⟨hD, s⟩
    rw [hl, List.take_length] at hD
    refine ⟨D, ds.map p, rfl, SqL.of hD, ?_⟩
    have e : (ds.map p).all id = ds.all p := by rw [List.all_map]; rfl
    rw [e]
    exact k H' s
/-- a comprehension over zip(t, u): two tuples -/
theorem lc_zT {a b : Addr} {xs ys : List V} {g : TG} {tt : TT} {te : TE} {vs : List Nat} {σ : L2.St} {H1 : Hp} {D : Addr} {Qd : Hp → Prop} {n : Nat} (hn : n = min xs.length ys.length) (Pv : Nat → Hp → Prop) (h0 : Pv 0 (upd H1 D (.lst []))) (hq : ∀ i H, Pv i H → SqT K H a xs ∧ SqT K H b ys)
    (hs : ∀ (i : Nat) (x y : V) (T : Addr) (H : Hp), xs[i]? = some x → ys[i]? = some y → Pv i H → H T = none → g (.ref T) (wipe σ vs) (upd H T (.tup [x, y])) fun σ2 H2 => wipe σ2 vs = wipe σ vs ∧ tt σ2 H2 fun b H3 =>
      if b = true then te σ2 H3 fun y H4 => ∃ acc, H4 D = some (.lst acc) ∧ acc.length < sizeLine ∧ Pv (i + 1) (upd H4 D (.lst (acc ++ [y]))) else Pv (i + 1) H3) (hd : ∀ H, Pv n H → Qd H) :
    ∃ W : Nat → Nat → Hp → Prop, (∃ m, W 0 m (upd H1 D (.lst []))) ∧ ∀ i m H, W i m H →
      ((RZ.ItzT K a b).stop i H ∧ Qd H) ∨ ((RZ.ItzT K a b).go i H ∧ ∃ Nx : Hp → Prop, (∀ H', Nx H' → ∃ m', m' < m ∧ W (i + 1) m' H') ∧ ∀ x H', (RZ.ItzT K a b).yld i H x H' → g x (wipe σ vs) H' fun σ2 H2 => wipe σ2 vs = wipe σ vs ∧ tt σ2 H2 fun b H3 =>
        if b = true then te σ2 H3 fun y H4 => ∃ acc, H4 D = some (.lst acc) ∧ acc.length < sizeLine ∧ Nx (upd H4 D (.lst (acc ++ [y]))) else Nx H3) := by
  refine ⟨fun i m H => n = m + i ∧ Pv i H, ⟨n, rfl, h0⟩, ?_⟩
  rintro i m H ⟨em, p⟩
  obtain ⟨qx, qy⟩ := hq i H p
  cases m with
  | zero =>
    have e : n = i := by omega
    exact .inl ⟨⟨xs, ys, qx, qy, by omega⟩, hd H (e ▸ p)⟩
  | succ m =>
    have lt : i < xs.length := by omega
    have lt2 : i < ys.length := by omega
    refine .inr ⟨⟨xs, ys, _, _, qx, qy, List.getElem?_eq_getElem lt, List.getElem?_eq_getElem lt2⟩, Pv (i + 1), fun H' p' => ⟨m, by omega, by omega, p'⟩, ?_⟩
    rintro v H' ⟨T, x, y, rfl, nT, rfl, ex, ey⟩
    exact hs i x y T H (ex xs qx) (ey ys qy) p nT
theorem nxc_if2 {t : TT} {ts r : TS} {D : Ends} {rt : VK} {bk ct : L2.St → Hp → Prop} {σ : L2.St} {H : Hp} (h : tIfS t ts tNext { D with nx := r D } σ H) : tNext { nx := tSeq (tIfS t ts tNext) r D, rt := rt, bk := bk, ct := ct } σ H := h
theorem nexJ_ret {te : TE} {rt : VK} {nx : L2.St → Hp → Prop} {bk ct : L2.St → Hp → Prop} {σ : L2.St} {H : Hp} (h : te σ H rt) : tNext { nx := tRet te { nx := nx, rt := rt, bk := bk, ct := ct }, rt := rt, bk := bk, ct := ct } σ H := h
def spNumX (K : PySem.W.Frag) : Sp := fun vs H Q _ => ∃ (v1 v2 : V) (a : Addr) (xs : List V) (d2 : PyData), vs = [v1, v2] ∧ v1 = .ref a ∧ SqT K H a xs ∧ Th K H v2 d2 ∧ Q (.bl (numM xs.length d2)) H
theorem sx_number : FnScope ["book", "thing"] ["book", "thing"] (defScope s_p_is_number_in) := ⟨rfl, rfl, rfl, by decide +kernel, rfl, by decide +kernel, by decide +kernel⟩
theorem calx_number (D : Def1 K mg "is_number_in" s_p_is_number_in) (T : Glc mg) (G : Glb mg) (gb : mg "bool" = none) : Cal P w K mg base 1 "is_number_in" (spNumX K) := by
  refine mkCal D sx_number (fun _ _ _ _ _ _ us hl => match us, hl with | [_, _], _ => rfl) (fun vs H Q E h => ?_) (fun f cdv A outer s H vs Q E hr h => ?_)
  · obtain ⟨v1, v2, a, xs, d2, rfl, _⟩ := h
    rfl
  · obtain ⟨v1, v2, a, xs, d2, rfl, rfl, ha, h2, k⟩ := h
    refine ⟨_, (pss_one (ps_ret (pe_and (pe_isi (T := "int") (pv 1) T.isinst G.int (by decide +kernel)) (pe_and (pe_not (pe_isi (T := "bool") (pv 1) T.isinst gb (by decide +kernel))) (pe_one (pe_chain op_le op_lt pe_int (pv 1) (pe_callB call_len_seq (by rfl) G.len PySem.boot_len (pa_cons (pv 0) pa_nil)))))))), ?_⟩
    refine ⟨_, rfl, v2, _, _, _, _, rfl, .ty _, th_ty h2, kit_int d2, _, rfl, ?_⟩
    cases hi : isInt d2 with
    | false =>
      refine iteF' rfl ?_
      have z : numM xs.length d2 = false := by
        cases d2 with
        | int i => cases hi
        | _ => rfl
      rw [z] at k
      exact k
    | true =>
      refine iteT' rfl ⟨_, rfl, v2, _, _, _, _, rfl, .ty _, th_ty h2, kit_bol d2, _, rfl, _, rfl, ?_⟩
      cases hb : isBol d2 with
      | true =>
        refine iteF' rfl ?_
        have z : numM xs.length d2 = false := by
          cases d2 with
          | bool i => rfl
          | _ => cases hb
        rw [z] at k
        exact k
      | false =>
        refine iteT' rfl ?_
        obtain ⟨i, rfl⟩ : ∃ i, d2 = .int i := by
          cases d2 with
          | int i => exact ⟨i, rfl⟩
          | bool i => cases hb
          | _ => cases hi
        obtain rfl : v2 = .int i := by
          cases h2
          rfl
        replace k : Q (.bl (decide (0 ≤ i) && decide (i < (xs.length : Int)))) H := k
        refine ⟨_, rfl, _, _, rfl, rfl, _, rfl, ?_⟩
        by_cases y : 0 ≤ i
        · refine iteT' (decide_eq_true y) ⟨_, rfl, a, xs, rfl, .inr ha, _, _, rfl, rfl, ?_⟩
          rw [decide_eq_true y, Bool.true_and] at k
          exact k
        · refine iteF' (decide_eq_false y) ?_
          rw [decide_eq_false y, Bool.false_and] at k
          exact k
/-- is_row of any object -/
def spRow (K : PySem.W.Frag) : Sp := fun vs H Q _ => ∃ (q : Addr) (xb : List V) (v : V) (d : PyData), vs = [.ref q, v] ∧ SqT K H q xb ∧ Th K H v d ∧ d.bulk ≤ 1000000 ∧ (∀ a ns, d = .tuple [a, .tuple ns] → ns.length ≤ 2000) ∧ ∀ H', Same H H' → Q (.bl (rowB xb.length d)) H'
theorem sc_p_is_row : FnScope ["book", "thing", "name", "spent", "number", "one", "other"] ["book", "thing"] (defScope s_p_is_row) := ⟨rfl, rfl, rfl, by decide +kernel, rfl, by decide +kernel, by decide +kernel⟩
set_option maxHeartbeats 0
theorem cal_is_row (D : Def1 K mg "is_row" s_p_is_row) (T : Glc mg) (G : Glb mg) (gz : mg "zip" = none) (gall : mg "all" = none) (CN : Cal P w K mg base 1 "is_name" (spIsName K)) (CI : Cal P w K mg base 1 "is_number_in" (spNumX K)) : Cal P w K mg base 2 "is_row" (spRow K) := by
  refine mkCal D sc_p_is_row (fun _ _ _ _ _ _ us hl => match us, hl with | [_, _], _ => rfl) (fun vs H Q E h => ?_) (fun f cdv A outer s H vs Q E hr h => ?_)
  · obtain ⟨q, xb, v, d, rfl, _⟩ := h
    rfl
  · obtain ⟨q, xb, v, d, rfl, hq, th, bk, few, k⟩ := h
    refine ⟨_, (pss_cons (ps_if (PW.pt (pw_or (pt_not (pt_val (pe_isi (T := "tuple") (pv 1) T.isinst T.tuple (by decide +kernel)))) (pw_or1 (pt_cmpR op_ne (pe_callB call_len_seq (by rfl) G.len PySem.boot_len (pa_cons (pv 1) pa_nil)) pe_int (nomark _))))) (pss_one (ps_ret pe_bl)) pss_nil)
    (pss_cons (ps_asg (pv 1) (pg_tup rfl (pgs_cons (pg_name (i := 2) sc_p_is_row.nd rfl (.inl rfl)) (pgs_cons (pg_name (i := 3) sc_p_is_row.nd rfl (.inl rfl)) pgs_nil))))
    (pss_cons (ps_if (PW.pt (pw_or (pt_not (pt_val (pe_cal CN hr (by omega) (pa_cons (pv 2) pa_nil)))) (pw_or1 (pt_not (pt_val (pe_isi (T := "tuple") (pv 3) T.isinst T.tuple (by decide +kernel))))))) (pss_one (ps_ret pe_bl)) pss_nil)
    (pss_cons (ps_if (pt_not (pt_val (pe_callB (cr_all rfl) (by rfl) gall (by decide +kernel) (pa_cons (pe_lc (own := [("number", 4)]) (g := gName 4) (tt := tYes) (by rfl) sc_p_is_row.nd (pi_tup (pv 3)) (blkOk_by (own := [("number", 4)]) (N := ["book", "thing", "name", "spent", "number", "one", "other"]) (sc := defScope s_p_is_row) (by decide +kernel)) (fun _ _ _ _ _ => pg_name (i := 4) sc_p_is_row.nd rfl (Or.inl rfl)) (fun _ _ _ _ _ => pts_nil) (fun _ _ _ _ _ => (pe_cal CI hr (by omega) (pa_cons (pv 0) (pa_cons (pv 4) pa_nil))))) pa_nil)))) (pss_one (ps_ret pe_bl)) pss_nil)
    (pss_one (ps_ret (pe_callB (cr_all rfl) (by rfl) gall (by decide +kernel) (pa_cons (pe_lc (own := [("one", 5), ("other", 6)]) (g := gTup K 2 (gCons (gName 5) (gCons (gName 6) gNil))) (tt := tYes) (by rfl) sc_p_is_row.nd (RZ.pi_zipA (by rfl) gz (pa_cons (pv 3) (pa_cons (pe_slice sl_tupA (pv 3) (po_some pe_int) po_none) pa_nil))) (blkOk_by (own := [("one", 5), ("other", 6)]) (N := ["book", "thing", "name", "spent", "number", "one", "other"]) (sc := defScope s_p_is_row) (by decide +kernel)) (fun _ _ _ _ _ => pg_tup rfl (pgs_cons (pg_name (i := 5) sc_p_is_row.nd rfl (Or.inl rfl)) (pgs_cons (pg_name (i := 6) sc_p_is_row.nd rfl (Or.inl rfl)) pgs_nil))) (fun _ _ _ _ _ => pts_nil) (fun _ _ _ _ _ => (pe_cmpR op_lt (pv 5) (pv 6) (nomark _)))) pa_nil)))))))), ?_⟩
    have no : rowB xb.length d = false → ∀ H', Same H H' → Q (.bl false) H' := fun e H' s => by
      have z := k H' s
      rwa [e] at z
    refine ⟨_, rfl, v, _, _, _, _, rfl, .ty _, th_ty th, kit_tup _, _, rfl, ?_⟩
    cases et : isTup d with
    | false =>
      refine iteT' rfl (iteT' rfl (no ?_ H (Same.refl H)))
      cases d with
      | tuple _ => cases et
      | _ => rfl
    | true =>
    obtain ⟨a, vs', ds, rfl, rfl, hs, hv⟩ := th_tup th et
    have lv := thAll_len hv
    refine iteF' rfl ⟨_, rfl, a, _, rfl, .inr hs, rfl, _, rfl, ?_⟩
    rcases Classical.em (¬ ds.length = 2) with l2 | l2
    · refine iteT' (by rw [decide_eq_false (fun y => l2 (by have e := V.int.inj y; omega))]; rfl) (no ?_ H (Same.refl H))
      unfold rowB
      split
      · rename_i e
        rw [PyData.tuple.inj e] at l2
        exact absurd rfl l2
      · rfl
    replace l2 := Classical.not_not.mp l2
    refine iteF' (by rw [decide_eq_true (by rw [show vs'.length = 2 by omega]; rfl)]; rfl) ?_
    obtain ⟨d1, d2, rfl⟩ : ∃ d1 d2, ds = [d1, d2] := by
      match ds, l2 with
      | [d1, d2], _ => exact ⟨d1, d2, rfl⟩
    cases hv with
    | @cons v1 vs1 _ _ h1 hv1 =>
    cases hv1 with
    | @cons v2 vs2 _ _ h2 hv2 =>
    cases hv2
    have b12 : d1.bulk ≤ 1000000 := by
      have e : (PyData.tuple [d1, d2]).bulk = d1.bulk + 1 + (d2.bulk + 1 + 0) := rfl
      omega
    refine nxc_set ?_
    refine ⟨_, rfl, a, _, rfl, hs, rfl, _, _, rfl, _, _, rfl, rfl, ?_⟩
    refine ⟨_, rfl, v1, d1, rfl, h1, b12, _, rfl, ?_⟩
    cases en : dName d1 with
    | false => exact iteT' rfl (iteT' rfl (no (rowB_name en) H (Same.refl H)))
    | true =>
    refine iteF' rfl ⟨_, rfl, v2, _, _, _, _, rfl, .ty _, th_ty h2, kit_tup _, _, rfl, ?_⟩
    cases et2 : isTup d2 with
    | false =>
      refine iteT' rfl (no ?_ H (Same.refl H))
      cases d2 with
      | tuple _ => cases et2
      | _ => rfl
    | true =>
    obtain ⟨a2, xs2, ns, rfl, rfl, hs2, hx2⟩ := th_tup h2 et2
    have l3 := few _ _ rfl
    have ln2 := thAll_len hx2
    refine iteF' rfl (nxc_if2 ?_)
    refine all_readT (K := K) (ds := ns) (p := numM xb.length) (j := 3) (iv := 4) rfl hs2 hx2 l3 (fun _ => rfl) (fun x d H' R hd th s q' => ⟨_, rfl, _, rfl, .ref q, x, q, xb, d, rfl, rfl, Same.seqT s hq, th, q' H' (Same.refl H')⟩) fun H1 s1 => ⟨_, rfl, ?_⟩
    cases eall : ns.all (numM xb.length) with
    | false =>
      refine iteT' rfl (no ?_ H1 s1)
      show (dName d1 && (ns.all (numM xb.length) && ascI ns)) = false
      rw [eall, Bool.false_and, Bool.and_false]
    | true =>
    refine iteF' rfl ?_
    obtain ⟨ks, eks, _⟩ := nums_of eall
    have th2 : Th K H1 (.ref a2) (.tuple ns) := th_same s1 (.tup hs2 hx2)
    refine nexJ_ret ?_
    refine ⟨_, rfl, _, rfl, 1, rfl, nxs_none ?_⟩
    refine slA_from (K := K) (by decide) th2 fun v3 H2 s2 th3 => ?_
    obtain ⟨a3, ys, rfl, hs3, hx3⟩ := th_of_tup th3
    have ln3 := thAll_len hx3
    have e1 : (1 : Int).toNat = 1 := rfl
    rw [e1] at hx3 ln3
    rw [List.length_drop] at ln3
    refine ⟨a2, a3, xs2, ys, rfl, .inr ⟨Same.seqT (s1.trans s2) hs2, hs3, fun D nD => ?_⟩⟩
    refine lc_zT (K := K) (n := xs2.length - 1) (xs := xs2) (ys := ys) (by omega) (fun i H' => Same H2 H' ∧ H' D = some (.lst ((((ns.zip (ns.drop 1)).take i).map fun c => ltI c.1 c.2).map V.bl))) ⟨same_upd nD, upd_same⟩ (fun i H' h => ⟨Same.seqT ((s1.trans s2).trans h.1) hs2, Same.seqT h.1 hs3⟩) ?_ ?_
    · rintro i x y T' H3 hx hy ⟨s3, hD⟩ nT
      obtain ⟨dx, hdx, tx⟩ := th_at hx2 hx
      obtain ⟨dy, hdy, ty⟩ := th_at hx3 hy
      have mx := List.mem_of_getElem? hdx
      have my := List.mem_of_mem_drop (List.mem_of_getElem? hdy)
      rw [eks] at mx my
      obtain ⟨n1, _, rfl⟩ := List.mem_map.mp mx
      obtain ⟨n2, _, rfl⟩ := List.mem_map.mp my
      cases tx
      cases ty
      have s4 := same_upd (o := .tup [.int (n1 : Int), .int (n2 : Int)]) nT
      have hz : (ns.zip (ns.drop 1))[i]? = some (.int (n1 : Int), .int (n2 : Int)) := List.getElem?_zip_eq_some.mpr ⟨hdx, hdy⟩
      refine ⟨T', _, rfl, .inl (.inl upd_same), rfl, _, _, rfl, _, _, rfl, rfl, rfl, _, rfl, _, rfl, _, _, rfl, rfl, _, s4 _ _ hD, ?_, same_mut (s3.trans s4) nD, ?_⟩
      · rw [List.length_map, List.length_map, List.length_take, sizeLine_eq, List.length_zip, List.length_drop]
        omega
      · rw [upd_same, List.take_add_one, hz, List.map_append, List.map_append]
        rfl
    · rintro H3 ⟨s3, hD⟩
      have lz : (ns.zip (ns.drop 1)).length = xs2.length - 1 := by
        rw [List.length_zip, List.length_drop]
        omega
      rw [← lz, List.take_length] at hD
      refine ⟨D, _, rfl, SqL.of hD, ?_⟩
      rw [List.all_map]
      have z := k H3 ((s1.trans s2).trans s3)
      have e : rowB xb.length (.tuple [d1, .tuple ns]) = ((ns.zip (ns.drop 1)).all (id ∘ fun c => ltI c.1 c.2)) := by
        show (dName d1 && (ns.all (numM xb.length) && ascI ns)) = _
        rw [en, eall, asc_at]
        rfl
      rwa [e] at z
end
end Lk

/-! K22I -/
set_option Elab.async false
set_option linter.all false
set_option maxRecDepth 100000
set_option maxHeartbeats 4000000
namespace Lk
open PySem PySem.Spec PyProof.Rows L2
/-! ### blocks judged -/
/-- each rule asks for a source that is a row, too -/
noncomputable def holdsR (rs : List Rl) (Bk : List NK) (p : NK) (c : WRow) : Bool := c.2.any fun s => decide ((s, srt (p.2 ++ [c.1])) ∈ Bk)
noncomputable def holdsB (rs : List Rl) (Bk : List NK) (p : NK) : Bool := (fitD rs p.1 p.2).all (holdsR rs Bk p)
section
variable {P : Program} {w : World} {K : PySem.W.Frag} {mg : Str → Option Value} {base : Heap}
def spHolds (P : Program) (w : World) (K : PySem.W.Frag) : Sp := fun vs H Q _ => ∃ (q d b : Addr) (xb : List V) (rs : List Rl) (kvs : List (NK × V)) (Bk : List NK) (p : NK), vs = [.ref q, .ref d, .ref b] ∧ SqT K H q xb ∧ ThAll K H xb (rs.map Rl.d) ∧ dBook (.tuple (rs.map Rl.d)) = true ∧ QAt P w K H d kvs ∧
  (∀ x, (valV kvs x).isSome = true ↔ x ∈ Bk) ∧ KeyQ K H b p ∧ p.1.length ≤ 1000 ∧ p.2.length ≤ 1000 ∧ ∀ H', Same H H' → Q (.bl (holdsB rs Bk p)) H'
theorem sc_p_holds : FnScope ["book", "rows", "row", "name", "spent", "number", "sources", "longer", "source"] ["book", "rows", "row"] (defScope s_p_holds_out) := ⟨rfl, rfl, rfl, by decide +kernel, rfl, by decide +kernel, by decide +kernel⟩
set_option maxHeartbeats 0
theorem cal_holds (D : Def1 K mg "holds_out" s_p_holds_out) (gany : mg "any" = none) (CF : Cal P w K mg base 2 "fitted" (spFit K)) (CO : Cal P w K mg base 1 "with_one_more" (spOneMore K)) : Cal P w K mg base 3 "holds_out" (spHolds P w K) := by
  refine mkCal D sc_p_holds (fun _ _ _ _ _ _ us hl => match us, hl with | [_, _, _], _ => rfl) (fun vs H Q E h => ?_) (fun f cdv A outer s H vs Q E hr h => ?_)
  · obtain ⟨q, d, b, xb, rs, kvs, Bk, p, rfl, _⟩ := h
    rfl
  · obtain ⟨q, d, b, xb, rs, kvs, Bk, ⟨z, ns⟩, rfl, hq, hx, bk, g, hm, hb, lz, lns, k⟩ := h
    refine ⟨_, (pss_cons (ps_asg (pv 2) (pg_tup rfl (pgs_cons (pg_name (i := 3) sc_p_holds.nd rfl (.inl rfl)) (pgs_cons (pg_name (i := 4) sc_p_holds.nd rfl (.inl rfl)) pgs_nil))))
    (pss_cons (ps_for PassesOwn.never rfl (pi_list (pe_cal CF hr (by omega) (pa_cons (pv 0) (pa_cons (pv 3) (pa_cons (pv 4) pa_nil))))) (pg_tup rfl (pgs_cons (pg_name (i := 5) sc_p_holds.nd rfl (.inl rfl)) (pgs_cons (pg_name (i := 6) sc_p_holds.nd rfl (.inl rfl)) pgs_nil)))
    (pss_cons (ps_set (i := 7) sc_p_holds.nd rfl (.inr rfl) (pe_cal CO hr (by omega) (pa_cons (pv 4) (pa_cons (pv 5) pa_nil))))
    (pss_one (ps_if (pt_not (pt_val (pe_callB (cr_any rfl) (by rfl) gany (by decide +kernel) (pa_cons (pe_lc (own := [("source", 8)]) (g := gName 8) (tt := tYes) (by rfl) sc_p_holds.nd (pi_list (pv 6)) (blkOk_by (own := [("source", 8)]) (N := ["book", "rows", "row", "name", "spent", "number", "sources", "longer", "source"]) (sc := defScope s_p_holds_out) (by decide +kernel)) (fun _ _ _ _ _ => pg_name (i := 8) sc_p_holds.nd rfl (Or.inl rfl)) (fun _ _ _ _ _ => pts_nil) (fun _ _ _ _ _ => (pe_cmp (show PC _ CmpOp.In _ _ (tQIn P w K _ _) from pc_qin (u9 hr) (pe_tup (pa_cons (pv 8) (pa_cons (pv 7) pa_nil))) (pv 1)) rfl))) pa_nil)))) (pss_one (ps_ret pe_bl)) pss_nil))))
    (pss_one (ps_ret pe_bl)))), ?_⟩
    obtain ⟨t, hbt, ht⟩ := hb
    refine ⟨_, rfl, b, _, rfl, hbt, rfl, _, _, rfl, _, _, rfl, rfl, ?_⟩
    refine ⟨_, rfl, _, rfl, _, rfl, q, xb, rs, z, t, ns, rfl, hq, hx, bk, lz, ht, fun p2 L H2 s2 hp2 cells eL => ?_⟩
    refine ⟨p2, rfl, ⟨_, SqL.of hp2⟩, ?_⟩
    refine for_list (K := K) (a := p2) (xs := L.map fun c => V.ref c.1) (fun i σ H' => ∃ v5 v6 v7 : Option V, σ = [some (.ref q), some (.ref d), some (.ref b), some (.str z), some (.ref t), v5, v6, v7, none] ∧ Same H2 H' ∧ ((fitD rs z ns).take i).all (holdsR rs Bk (z, ns)) = true)
      ⟨_, _, _, rfl, Same.refl _, rfl⟩ (fun i σ H' _ ⟨_, _, _, _, h, _⟩ => h.seq (SqL.of hp2)) ?_ ?_
    · rintro i x σ H3 hx3 ⟨v5, v6, v7, rfl, s3, yes⟩
      obtain ⟨cc, hcc, rfl⟩ := Option.map_eq_some_iff.mp ((List.getElem?_map ..).symm.trans hx3)
      have mcc := List.mem_of_getElem? hcc
      have hrow : (fitD rs z ns)[i]? = some cc.2.2 := by rw [← eL, List.getElem?_map, hcc]; rfl
      have mrow := List.mem_of_getElem? hrow
      obtain ⟨c1, c2⟩ := (cells cc mcc).same s3
      have s23 := s2.trans s3
      refine ⟨cc.1, _, rfl, SqT.of c1, rfl, _, _, rfl, _, _, rfl, rfl, ?_⟩
      refine nxb_set ?_
      refine ⟨_, rfl, _, rfl, t, ns, cc.2.2.1, rfl, Same.seqT s23 ht, lns, fun u H4 s4 nu hu => ?_⟩
      have s34 := s3.trans s4
      have c24 := s4 _ _ c2
      have few : cc.2.2.2.length ≤ 3 := by
        obtain ⟨r, hr2, _, _, e⟩ := fit_row mrow
        rw [e]
        exact of_few ((book_len bk).2 r (List.mem_of_getElem? hr2)) z
      refine nxc_if ?_
      refine ⟨_, rfl, cc.2.1, rfl, ⟨_, SqL.of c24⟩, fun D' nD => ?_⟩
      refine lc_list (K := K) (a := cc.2.1) (xs := cc.2.2.2.map V.str) (fun j H' => Same H4 H' ∧ H' D' = some (.lst (((cc.2.2.2.take j).map fun s => decide ((s, srt (ns ++ [cc.2.2.1])) ∈ Bk)).map V.bl))) ⟨same_upd nD, upd_same⟩ (fun j H' _ h => h.1.seq (SqL.of c24)) ?_ ?_
      · rintro j y H5 hy ⟨s5, hD⟩
        obtain ⟨s', hs', rfl⟩ := Option.map_eq_some_iff.mp ((List.getElem?_map ..).symm.trans hy)
        refine ⟨rfl, _, rfl, _, rfl, (by show 2 ≤ sizeLine; decide), fun y ny => ?_⟩
        have s6 := same_upd (o := .tup [.str s', .ref u]) ny
        have s26 := ((s23.trans s4).trans s5).trans s6
        have hbl : (valV kvs (s', srt (ns ++ [cc.2.2.1]))).isSome = decide ((s', srt (ns ++ [cc.2.2.1])) ∈ Bk) := by
          rw [Bool.eq_iff_iff, hm, decide_eq_true_iff]
        refine ⟨_, rfl, d, y, (s', srt (ns ++ [cc.2.2.1])), kvs, rfl, rfl, g.same s26, ⟨u, SqT.of upd_same, SqT.of ((s5.trans s6) _ _ hu)⟩, ?_⟩
        rw [hbl]
        refine ⟨_, s6 _ _ hD, ?_, same_mut (s5.trans s6) nD, ?_⟩
        · rw [List.length_map, List.length_map, List.length_take, sizeLine_eq]
          omega
        · rw [upd_same, List.take_add_one, hs', List.map_append, List.map_append]
          rfl
      · rintro H5 ⟨s5, hD⟩
        rw [List.length_map, List.take_length] at hD
        refine ⟨D', _, rfl, SqL.of hD, _, rfl, ?_⟩
        have eany : ((cc.2.2.2.map fun s => decide ((s, srt (ns ++ [cc.2.2.1])) ∈ Bk)).any id) = holdsR rs Bk (z, ns) cc.2.2 := by
          rw [List.any_map]
          rfl
        rw [eany]
        have s25 := (s23.trans s4).trans s5
        cases eh : holdsR rs Bk (z, ns) cc.2.2 with
        | true =>
          refine iteF' rfl ⟨_, _, _, rfl, (s3.trans s4).trans s5, ?_⟩
          rw [List.take_add_one, hrow, List.all_append, yes]
          show (true && ([cc.2.2].all (holdsR rs Bk (z, ns)))) = true
          rw [List.all_cons, eh]
          rfl
        | false =>
          have e : holdsB rs Bk (z, ns) = false := by
            unfold holdsB
            exact List.all_eq_false.mpr ⟨cc.2.2, mrow, by rw [eh]; exact Bool.false_ne_true⟩
          have z' := k H5 s25
          rw [e] at z'
          exact iteT' rfl z'
    · rintro σ H3 ⟨v5, v6, v7, rfl, s3, yes⟩
      have e : holdsB rs Bk (z, ns) = true := by
        rw [List.length_map] at yes
        have l : L.length = (fitD rs z ns).length := by rw [← eL, List.length_map]
        rw [l, List.take_length] at yes
        exact yes
      have z' := k H3 (s2.trans s3)
      rw [e] at z'
      exact z'
end
end Lk

/-! K22J -/
set_option Elab.async false
set_option linter.all false
set_option maxRecDepth 100000
set_option maxHeartbeats 4000000
namespace Lk
open PySem PySem.Spec PyProof.Rows L2
def unN : PyData → Nat
  | .int i => i.toNat
  | _ => 0
def unRow : PyData → NK
  | .tuple [.str x, .tuple ns] => (x, ns.map unN)
  | _ => ("", [])
theorem unRow_row (p : NK) : unRow (rowD p) = p := by
  obtain ⟨x, ns⟩ := p
  have e : (ns.map fun n : Nat => PyData.int (n : Int)).map unN = ns := by
    rw [List.map_map]
    exact (List.map_congr_left fun n _ => by rfl).trans (List.map_id _)
  show (x, (ns.map fun n : Nat => PyData.int (n : Int)).map unN) = _
  rw [e]
noncomputable def goodB (rs : List Rl) (F : List Str) (z : Str) (Bk : List NK) : Bool := decide Bk.Nodup && (decide ((z, []) ∈ Bk) && Bk.all fun p => decide (p.1 ∉ F) && holdsB rs Bk p)
/-- is it a block -/
noncomputable def blkB (rs : List Rl) (F : List Str) (z : Str) : PyData → Bool
  | .list ds => ds.all (rowB rs.length) && goodB rs F z (ds.map unRow)
  | _ => false
def SmallB (d : PyData) : Prop := ∀ ds, d = .list ds → ds.length ≤ 2000 ∧ ∀ e ∈ ds, ∀ a ns, e = .tuple [a, .tuple ns] → ns.length ≤ 60 ∧ ∀ x, a = .str x → x.length ≤ 1000
section
variable {K : PySem.W.Frag} {H : Hp}
theorem th_lstB {v : V} {d : PyData} (h : Th K H v d) (e : isLst d = true) : ∃ a xs ds, v = .ref a ∧ d = .list ds ∧ SqL K H a xs ∧ ThAll K H xs ds := by
  cases h with
  | lst hs ha => exact ⟨_, _, _, rfl, rfl, hs, ha⟩
  | _ => cases e
theorem ints_inv : ∀ {vs : List V} {ns : List Nat}, ThAll K H vs (ns.map fun n : Nat => PyData.int (n : Int)) → vs = ns.map fun n : Nat => V.int (n : Int)
  | _, [], .nil => rfl
  | _, _ :: _, .cons (.int _) t => by rw [List.map_cons, ints_inv t]
theorem key_th {v : V} {p : NK} (h : Th K H v (rowD p)) : ∃ b, v = .ref b ∧ KeyQ K H b p := by
  obtain ⟨b, xs, rfl, hs, hx⟩ := th_of_tup h
  cases hx with
  | cons h1 h2 =>
    cases h2 with
    | cons h2 h3 =>
      cases h3
      cases h1
      obtain ⟨t, ys, rfl, ht, hy⟩ := th_of_tup h2
      rw [ints_inv hy] at ht
      exact ⟨b, rfl, t, hs, ht⟩
theorem rows_th {m : Nat} : ∀ {xs : List V} {ds : List PyData}, ThAll K H xs ds → ds.all (rowB m) = true → ∃ L : List (Addr × NK), xs = L.map (fun c => V.ref c.1) ∧ ds = L.map (fun c => rowD c.2) ∧ (∀ c ∈ L, KeyQ K H c.1 c.2 ∧ RowOk m c.2)
  | [], [], .nil, _ => ⟨[], rfl, rfl, fun _ m => nomatch m⟩
  | _ :: _, _ :: _, .cons h t, e => by
    rw [List.all_cons, Bool.and_eq_true] at e
    obtain ⟨p, rfl, ok⟩ := row_of e.1
    obtain ⟨b, rfl, kb⟩ := key_th h
    obtain ⟨L, rfl, rfl, hL⟩ := rows_th t e.2
    refine ⟨(b, p) :: L, rfl, rfl, fun c mc => ?_⟩
    rcases List.mem_cons.mp mc with rfl | mc
    · exact ⟨kb, ok⟩
    · exact hL c mc
end
theorem un_rows (L : List (Addr × NK)) : (L.map fun c => rowD c.2).map unRow = L.map (·.2) := by
  rw [List.map_map]
  exact List.map_congr_left fun c _ => unRow_row c.2
section
variable {P : Program} {w : World} {K : PySem.W.Frag} {mg : Str → Option Value} {base : Heap}
def spShowsB (K : PySem.W.Frag) : Sp := fun vs H Q _ => ∃ (q f : Addr) (xb : List V) (rs : List Rl) (F : List Str) (z : Str) (v : V) (d : PyData), vs = [.ref q, .ref f, .str z, v] ∧ SqT K H q xb ∧ ThAll K H xb (rs.map Rl.d) ∧ dBook (.tuple (rs.map Rl.d)) = true ∧ SqT K H f (F.map V.str) ∧ Fl F ∧ z.length ≤ 1000 ∧ dName (.str z) = true ∧
  Th K H v d ∧ d.bulk ≤ 1000000 ∧ SmallB d ∧ ∀ H', Same H H' → Q (.bl (blkB rs F z d)) H'
theorem sc_p_shows : FnScope ["book", "files", "name", "thing", "rows", "there", "row", "file"] ["book", "files", "name", "thing"] (defScope s_p_shows_block) := ⟨rfl, rfl, rfl, by decide +kernel, rfl, by decide +kernel, by decide +kernel⟩
theorem nxc_setS {te : TE} {i : Nat} {r : TS} {D : Ends} {rt : VK} {bk ct : L2.St → Hp → Prop} {σ : L2.St} {H : Hp} (h : te σ H fun x H1 => gName i x σ H1 (r D)) : tNext { nx := tSeq (tAsg te (gName i)) r D, rt := rt, bk := bk, ct := ct } σ H := h
theorem nxc_retS {x : V} {i : Nat} {te : TE} {D : Ends} {σ : L2.St} {H : Hp} (h : te (σ.set i (some x)) H D.rt) : gName i x σ H (tRet te D) := h
set_option maxHeartbeats 0
theorem cal_shows_block (D : Def1 K mg "shows_block" s_p_shows_block) (T : Glc mg) (G : Glb mg) (tl : mg "list" = none) (gall : mg "all" = none) (CT : Cal P w K mg base 8 "need_things" (spThings K)) (CR : Cal P w K mg base 2 "is_row" (spRow K)) (CH : Cal P w K mg base 3 "holds_out" (spHolds P w K)) : Cal P w K mg base 9 "shows_block" (spShowsB K) := by
  refine mkCal D sc_p_shows (fun _ _ _ _ _ _ us hl => match us, hl with | [_, _, _, _], _ => rfl) (fun vs H Q E h => ?_) (fun g cdv A outer s H vs Q E hr h => ?_)
  · obtain ⟨q, f, xb, rs, F, z, v, d, rfl, _⟩ := h
    rfl
  · obtain ⟨q, f, xb, rs, F, z, v, d, rfl, hq, hx, bk, hf, fl, lz, nz, th, bu, sm, k⟩ := h
    refine ⟨_, (pss_cons (ps_expr (pe_cal CT hr (by omega) (pa_cons (pv 0) (pa_cons (pv 1) (pa_cons (pv 2) pa_nil)))))
    (pss_cons (ps_if (PW.pt (pw_or (pt_not (pt_val (pe_isi (T := "list") (pv 3) T.isinst tl (by decide +kernel)))) (pw_or1 (pt_not (pt_val (pe_callB (cr_all rfl) (by rfl) gall (by decide +kernel) (pa_cons (pe_lc (own := [("row", 6)]) (g := gName 6) (tt := tYes) (by rfl) sc_p_shows.nd (pi_list (pv 3)) (blkOk_by (own := [("row", 6)]) (N := ["book", "files", "name", "thing", "rows", "there", "row", "file"]) (sc := defScope s_p_shows_block) (by decide +kernel)) (fun _ _ _ _ _ => pg_name (i := 6) sc_p_shows.nd rfl (Or.inl rfl)) (fun _ _ _ _ _ => pts_nil) (fun _ _ _ _ _ => (pe_cal CR hr (by omega) (pa_cons (pv 0) (pa_cons (pv 6) pa_nil))))) pa_nil))))))) (pss_one (ps_ret pe_bl)) pss_nil)
    (pss_cons (ps_set (i := 4) sc_p_shows.nd rfl (.inr rfl) (pe_dcQ (own := [("row", 6)]) (g := gName 6) (tt := tYes) (u9 hr) (by rfl) sc_p_shows.nd (pi_list (pv 3)) (blkOk_by (own := [("row", 6)]) (N := ["book", "files", "name", "thing", "rows", "there", "row", "file"]) (sc := defScope s_p_shows_block) (by decide +kernel)) (fun _ _ _ _ _ => pg_name (i := 6) sc_p_shows.nd rfl (Or.inl rfl)) (fun _ _ _ _ _ => pts_nil) (fun _ _ _ _ _ => (pv 6)) (fun _ _ _ _ _ => pe_bl)))
    (pss_cons (ps_if (PW.pt (pw_or (pt_cmpR op_ne (pe_callB call_len_Q (by rfl) G.len PySem.boot_len (pa_cons (pv 4) pa_nil)) (pe_callB call_len_seq (by rfl) G.len PySem.boot_len (pa_cons (pv 3) pa_nil)) (nomark _)) (pw_or1 (pt_cmp (pc_qnotin (u9 hr) (pe_tup (pa_cons (pv 2) (pa_cons (pe_tup pa_nil) pa_nil))) (pv 4)))))) (pss_one (ps_ret pe_bl)) pss_nil)
    (pss_cons (ps_set (i := 5) sc_p_shows.nd rfl (.inr rfl) (pe_dc (own := [("file", 7)]) (g := gName 7) (tt := tYes) (by rfl) sc_p_shows.nd (pi_tup (pv 1)) (blkOk_by (own := [("file", 7)]) (N := ["book", "files", "name", "thing", "rows", "there", "row", "file"]) (sc := defScope s_p_shows_block) (by decide +kernel)) (fun _ _ _ _ _ => pg_name (i := 7) sc_p_shows.nd rfl (Or.inl rfl)) (fun _ _ _ _ _ => pts_nil) (fun _ _ _ _ _ => (pv 7)) (fun _ _ _ _ _ => pe_bl)))
    (pss_one (ps_ret (pe_callB (cr_all rfl) (by rfl) gall (by decide +kernel) (pa_cons (pe_lc (own := [("row", 6)]) (g := gName 6) (tt := tYes) (by rfl) sc_p_shows.nd (pi_list (pv 3)) (blkOk_by (own := [("row", 6)]) (N := ["book", "files", "name", "thing", "rows", "there", "row", "file"]) (sc := defScope s_p_shows_block) (by decide +kernel)) (fun _ _ _ _ _ => pg_name (i := 6) sc_p_shows.nd rfl (Or.inl rfl)) (fun _ _ _ _ _ => pts_nil) (fun _ _ _ _ _ => (pe_and (pe_cmp (pc_dnotin (units1 hr.units) (pe_ix (show IxR _ (rIxT K) from ix_tup) (pv 6) pe_int (fun _ _ => rfl)) (pv 5)) rfl) (pe_one (pe_cal CH hr (by omega) (pa_cons (pv 0) (pa_cons (pv 4) (pa_cons (pv 6) pa_nil)))))))) pa_nil))))))))), ?_⟩
    have no : blkB rs F z d = false → ∀ H', Same H H' → Q (.bl false) H' := fun e H' s => by
      have z := k H' s
      rwa [e] at z
    have lxb := thAll_len hx
    rw [List.length_map] at lxb
    refine ⟨_, rfl, _, rfl, _, rfl, q, f, xb, rs, F, z, rfl, hq, hx, bk, hf, fl, lz, nz, fun H1 s1 => ?_⟩
    refine ⟨_, rfl, v, _, _, _, _, rfl, .ty _, th_ty (th_same s1 th), kit_lst _, _, rfl, ?_⟩
    cases et : isLst d with
    | false =>
      refine iteT' rfl (iteT' rfl (no ?_ H1 s1))
      cases d with
      | list _ => cases et
      | _ => rfl
    | true =>
    obtain ⟨a, vs', ds, rfl, rfl, hs, hv⟩ := th_lstB (th_same s1 th) et
    have lv := thAll_len hv
    obtain ⟨l2, small⟩ := sm _ rfl
    refine iteF' rfl ?_
    refine all_readL (K := K) (ds := ds) (p := rowB rs.length) (j := 3) (iv := 6) rfl hs hv l2 (fun _ => rfl) (fun x e H' R he the s q' => ?_) fun H2 s2 => ⟨_, rfl, ?_⟩
    · refine ⟨_, rfl, _, rfl, q, xb, x, e, rfl, Same.seqT (s1.trans s) hq, the, ?_, fun a ns ee => Nat.le_trans (small e he a ns ee).1 (by decide), fun H2 s2 => ?_⟩
      · exact Nat.le_trans (bulk_in he) bu
      · rw [lxb]
        exact q' H2 s2
    cases eall : ds.all (rowB rs.length) with
    | false =>
      refine iteT' rfl (no ?_ H2 (s1.trans s2))
      show (ds.all (rowB rs.length) && _) = false
      rw [eall, Bool.false_and]
    | true =>
    refine iteF' rfl ?_
    obtain ⟨L, rfl, rfl, hL⟩ := rows_th (thAll_same s2 hv) eall
    refine nxc_setS ?_
    rw [List.length_map] at l2
    refine dcQ_list (K := K) (a := a) (L := L) (fun R r => ⟨_, rfl, r⟩) (s2.seq hs) (fun c mc => (hL c mc).1) (fun _ => rfl) (fun _ => rfl) (by rw [sizeLine_eq]; omega) fun D' kvs H3 nD s3 g le nd mem => ?_
    have s13 := (s1.trans s2).trans s3
    have noG : goodB rs F z (L.map (·.2)) = false → ∀ H', Same H H' → Q (.bl false) H' := fun e H' s => no (by
      show ((L.map fun c => rowD c.2).all (rowB rs.length) && goodB rs F z ((L.map fun c => rowD c.2).map unRow)) = false
      rw [un_rows, e, Bool.and_false]) H' s
    refine nxc_ifS ?_
    refine ⟨_, rfl, D', kvs, rfl, g, _, rfl, a, _, rfl, .inl ((s2.trans s3).seq hs), rfl, _, rfl, ?_⟩
    rw [List.length_map]
    rcases Classical.em (¬ kvs.length = L.length) with lne | leq
    · refine iteT' (by rw [decide_eq_false (fun y => lne (by have e := V.int.inj y; omega))]; rfl) (iteT' rfl (noG ?_ H3 s13))
      unfold goodB
      rw [decide_eq_false (fun y => lne (nd.mpr y)), Bool.false_and]
    replace leq := Classical.not_not.mp leq
    refine iteF' (by rw [decide_eq_true (by rw [leq])]; rfl) ?_
    refine ⟨_, rfl, (by show 0 ≤ sizeLine; decide), fun e0 ne0 => ⟨(by show 2 ≤ sizeLine; decide), fun y0 ny0 => ?_⟩⟩
    have s4 := same_upd (o := .tup []) ne0
    have he0 : upd H3 e0 (.tup []) e0 = some (.tup []) := upd_same
    generalize upd H3 e0 (.tup []) = H4 at s4 he0 ny0
    have s5 := same_upd (o := .tup [.str z, .ref e0]) ny0
    have hy0 : upd H4 y0 (.tup [.str z, .ref e0]) y0 = some (.tup [.str z, .ref e0]) := upd_same
    have he1 := s5 _ _ he0
    generalize upd H4 y0 (.tup [.str z, .ref e0]) = H5 at s5 hy0 he1
    have s15 := (s13.trans s4).trans s5
    have s35 := s4.trans s5
    refine ⟨_, rfl, D', y0, (z, []), kvs, rfl, rfl, g.same s35, ⟨e0, SqT.of hy0, SqT.of he1⟩, _, rfl, ?_⟩
    rcases Classical.em (¬ (z, []) ∈ L.map (·.2)) with zno | zin
    · refine iteT' (by
        cases hv' : (valV kvs (z, [])).isSome with
        | false => rfl
        | true => exact absurd ((mem _).mp hv') zno) (noG ?_ H5 s15)
      unfold goodB
      rw [decide_eq_false zno, Bool.false_and, Bool.and_false]
    replace zin := Classical.not_not.mp zin
    refine iteF' (by rw [(mem _).mpr zin]; rfl) ?_
    refine nxc_setS ?_
    refine dc_files (K := K) (f := f) (F := F) (iv := 7) (fun R h => ⟨_, rfl, h⟩) (Same.seqT s15 hf) fl.nd (by have := fl.few; omega) (fun _ => rfl) (fun _ => rfl) fun d1 H6 nd1 s6 hd1 => ?_
    refine nxc_retS ?_
    have s16 := s15.trans s6
    have s26 := s35.trans s6
    refine all_readL (K := K) (ds := L.map fun c => rowD c.2) (p := fun e => decide ((unRow e).1 ∉ F) && holdsB rs (L.map (·.2)) (unRow e)) (j := 3) (iv := 6) rfl (((s2.trans s3).trans s26).seq hs) (thAll_same ((s2.trans s3).trans s26) hv) (by rw [List.length_map]; exact l2) (fun _ => rfl) (fun x e H' R he the s q' => ?_) fun H7 s7 => ?_
    · obtain ⟨c, mc, rfl⟩ := List.mem_map.mp he
      obtain ⟨b, rfl, kb⟩ := key_th the
      obtain ⟨t, hb1, ht1⟩ := id kb
      obtain ⟨sm1, sm2⟩ := small _ he _ _ rfl
      rw [List.length_map] at sm1
      replace sm2 := sm2 _ rfl
      rw [unRow_row] at q'
      refine ⟨_, rfl, b, _, 0, _, rfl, rfl, hb1, atI_nat (j := 0) rfl, _, rfl, d1, _, rfl, DGet.k (k := Sum.inr c.2.1) (s _ _ hd1), _, rfl, ?_⟩
      by_cases hin : c.2.1 ∈ F
      · refine iteF' (by rw [dk_val, decide_eq_true hin]; rfl) ?_
        have z' := q' H' (Same.refl H')
        rw [decide_eq_false (fun y => y hin), Bool.false_and] at z'
        exact z'
      · refine iteT' (by rw [dk_val, decide_eq_false hin]; rfl) ?_
        refine ⟨_, rfl, _, rfl, _, rfl, q, D', b, xb, rs, kvs, L.map (·.2), c.2, rfl, Same.seqT (s16.trans s) hq, thAll_same (s16.trans s) hx, bk, g.same (s26.trans s), mem, kb, sm2, Nat.le_trans sm1 (by decide), fun H8 s8 => ?_⟩
        have z' := q' H8 s8
        rw [decide_eq_true hin, Bool.true_and] at z'
        exact z'
    · have z' := k H7 (s16.trans s7)
      have e : blkB rs F z (.list (L.map fun c => rowD c.2)) = (L.map fun c => rowD c.2).all (fun e => decide ((unRow e).1 ∉ F) && holdsB rs (L.map (·.2)) (unRow e)) := by
        show ((L.map fun c => rowD c.2).all (rowB rs.length) && goodB rs F z ((L.map fun c => rowD c.2).map unRow)) = _
        rw [un_rows, eall, Bool.true_and]
        unfold goodB
        rw [decide_eq_true (nd.mp leq), decide_eq_true zin, Bool.true_and, Bool.true_and, List.all_map, List.all_map]
        congr 1
        funext c
        show _ = (decide ((unRow (rowD c.2)).1 ∉ F) && holdsB rs (L.map (·.2)) (unRow (rowD c.2)))
        rw [unRow_row]
        rfl
      rwa [e] at z'
end
end Lk

/-! K22K -/
set_option Elab.async false
set_option linter.all false
set_option maxRecDepth 100000
set_option maxHeartbeats 4000000
namespace Lk
open PySem PySem.Spec PyProof.Rows L2
section
variable {P : Program} {w : World} {K : PySem.W.Frag} {mg : Str → Option Value} {base : Heap}
theorem sc_split : FnScope ["name", "size"] ["name"] (defScope s_split) := ⟨rfl, rfl, rfl, by decide +kernel, rfl, by decide +kernel, by decide +kernel⟩
theorem cal_split (D : Def1 K mg "_law_split" s_split) (G : Glb mg) : Cal P w K mg base 1 "_law_split" spSplit := by
  refine mkCal D sc_split (fun _ _ _ _ _ _ us hl => match us, hl with | [_], _ => rfl) (fun vs H Q E h => ?_) (fun f cdv A outer s H vs Q E hr h => ?_)
  · obtain ⟨x, rfl, _⟩ := h
    rfl
  · obtain ⟨x, rfl, hx, k⟩ := h
    have hz : x.length ≤ sizeLine := Nat.le_trans hx (by decide)
    have tA : TL.tl ("A" : Str) = [65] := by decide +kernel
    have tZ : TL.tl ("Z" : Str) = [90] := by decide +kernel
    have hl := TL.len_tl x
    refine ⟨_, pss_cons (ps_set (i := 1) sc_split.nd rfl (.inl rfl) pe_int)
      (pss_cons (ps_while PassesOwn.never (PW.pt (pw_and (pt_cmpR op_lt (pv 1) (pe_callB call_len_str (by rfl) G.len PySem.boot_len (pa_cons (pv 0) pa_nil)) (nomark _)) (pw_and1 (pt_chain op_le_str op_le_str pe_str (pe_item_str (pv 0) (pv 1) (fun _ _ => rfl)) pe_str))))
        (pss_one (ps_set (i := 1) sc_split.nd rfl (.inl rfl) (pe_op op_add (pv 1) pe_int))))
      (pss_one (ps_ret (pe_tup (pa_cons (pe_slice sl_str (pv 0) po_none (po_some (pv 1))) (pa_cons (pe_slice sl_str (pv 0) (po_some (pv 1)) po_none) pa_nil)))))), ?_⟩
    have fin : ∀ n : Nat, n ≤ (TL.tl x).length → (∀ c ∈ (TL.tl x).take n, upB c = true) → (∀ c, (TL.tl x)[n]? = some c → upB c = false) → tRet (tTup (tCons (tSl rSlS (tVar 0) tNoPart (tPart (tVar 1))) (tCons (tSl rSlS (tVar 0) (tPart (tVar 1)) tNoPart) tNil))) { nx := fun _ H' => Q .non H', rt := Q } [some (.str x), some (.int (n : Int))] H := by
      intro n hn up stop
      have hn2 : n ≤ x.length := by omega
      refine ⟨_, rfl, _, rfl, _, rfl, x, rfl, hz, _, rfl, _, rfl, _, rfl, x, rfl, hz, (by show 2 ≤ sizeLine; decide), fun p np => ?_⟩
      obtain ⟨e1, e2⟩ := take_tw up stop hn
      exact k p _ _ np (by rw [tl_cut_to hn2, e1]) (by rw [tl_cut_from hn2, e2])
    refine ⟨fun m σ H' => ∃ n : Nat, σ = [some (.str x), some (.int (n : Int))] ∧ n + m = (TL.tl x).length ∧ (∀ c ∈ (TL.tl x).take n, upB c = true) ∧ H' = H, ⟨_, 0, rfl, Nat.zero_add _, by simp, rfl⟩, ?_⟩
    rintro m σ H' ⟨n, rfl, em, up, rfl⟩
    refine ⟨_, rfl, _, rfl, x, rfl, hz, _, _, rfl, rfl, _, rfl, ?_⟩
    refine ite2 (fun hlt => ?_) (fun hge => ?_)
    · have hn : n < (TL.tl x).length := by
        have := of_decide_eq_true hlt
        omega
      have hc : x.cps[(n : Int).toNat]? = some ((TL.tl x)[n]) := by
        rw [Int.toNat_natCast, ← Array.getElem?_toList]
        exact List.getElem?_eq_getElem hn
      refine ⟨_, rfl, _, rfl, x, _, _, rfl, rfl, by omega, by omega, by omega, hc, _, _, rfl, rfl, _, rfl, ?_⟩
      rw [le_sg tA]
      have bad : ∀ b : Bool, upB ((TL.tl x)[n]) = b → ∀ c, (TL.tl x)[n]? = some c → upB c = b := fun b hb c h => by
        rw [List.getElem?_eq_getElem hn] at h
        rw [← Option.some.inj h]
        exact hb
      refine ite2 (fun h1 => ?_) (fun h1 => ?_)
      · refine ⟨_, _, rfl, rfl, _, rfl, ?_⟩
        rw [sg_le tZ]
        refine ite2 (fun h2 => ?_) (fun h2 => ?_)
        · have hu : upB ((TL.tl x)[n]) = true := by
            unfold upB
            rw [h1, h2]
            rfl
          refine ⟨fun σ' H'' => ∃ n' : Nat, n' = n + 1 ∧ σ' = [some (.str x), some (.int (n' : Int))] ∧ H'' = H', fun σ' H'' hN => ?_, _, rfl, _, _, rfl, rfl, n + 1, rfl, ?_, rfl⟩
          · obtain ⟨n', rfl, rfl, rfl⟩ := hN
            refine ⟨m - 1, by omega, n + 1, rfl, by omega, fun c hc' => ?_, rfl⟩
            rw [List.take_succ_eq_append_getElem hn] at hc'
            rcases List.mem_append.mp hc' with h | h
            · exact up c h
            · rw [List.mem_singleton.mp h]
              exact hu
          · show [some (V.str x), some (V.int ((n : Int) + 1))] = _
            rw [show ((n + 1 : Nat) : Int) = (n : Int) + 1 by omega]
        · exact fin n (by omega) up (bad false (by unfold upB; rw [Bool.not_eq_true _ |>.mp h2, Bool.and_false]))
      · exact ⟨_, rfl, fin n (by omega) up (bad false (by unfold upB; rw [Bool.not_eq_true _ |>.mp h1, Bool.false_and]))⟩
    · have hn : n = (TL.tl x).length := by
        have : ¬ ((n : Int) < (x.length : Int)) := fun z => hge (decide_eq_true z)
        omega
      exact fin n (by omega) up (fun c h => by
        rw [List.getElem?_eq_none (by omega)] at h
        cases h)
theorem sc_is_name : FnScope ["thing", "sign"] ["thing"] (defScope s_is_name) := ⟨rfl, rfl, rfl, by decide +kernel, rfl, by decide +kernel, by decide +kernel⟩
theorem cal_is_name (D : Def1 K mg "_law_is_name" s_is_name) (T : Glc mg) (CS : Cal P w K mg base 1 "_law_split" spSplit) : Cal P w K mg base 2 "_law_is_name" (spLName K) := by
  refine mkCal D sc_is_name (fun _ _ _ _ _ _ us hl => match us, hl with | [_], _ => rfl) (fun vs H Q E h => ?_) (fun f cdv A outer s H vs Q E hr h => ?_)
  · obtain ⟨v, d, rfl, _⟩ := h
    rfl
  · obtain ⟨v, d, rfl, ht, hb, hok, k⟩ := h
    have ta : TL.tl ("a" : Str) = [97] := by decide +kernel
    have tz : TL.tl ("z" : Str) = [122] := by decide +kernel
    refine ⟨_, pss_cons (ps_if (PW.pt (pw_or (pt_not (pt_val (pe_isi (T := "str") (pv 0) T.isinst T.str (by decide +kernel)))) (pw_or1 (pt_cmpR op_eq (pv 0) pe_str (nomark _))))) (pss_one (ps_ret pe_bl)) pss_nil)
      (pss_one (ps_ret (pe_cmpR (op_eqD hr.units) (pe_lc (own := [("sign", 1)]) (g := gName 1) (by rfl) sc_is_name.nd (pi_str (pe_ix ix_tup (pe_cal CS hr (by decide) (pa_cons (pv 0) pa_nil)) pe_int (fun _ _ => rfl)))
          (blkOk_by (own := [("sign", 1)]) (N := ["thing", "sign"]) (sc := defScope s_is_name) (by decide +kernel)) (fun _ _ _ _ _ => pg_name (i := 1) sc_is_name.nd rfl (Or.inl rfl)) (fun _ _ _ _ _ => pts_one (pt_not (pt_chain op_le_str op_le_str pe_str (pv 1) pe_str)))
          (fun _ _ _ _ _ => pv 1)) (pe_lst pa_nil) (nomark _)))), ?_⟩
    refine ⟨_, rfl, v, _, _, _, _, rfl, .ty _, th_ty ht, kit_str d, _, rfl, ?_⟩
    cases e : isStr d with
    | false =>
      rw [(not_str e).1] at k
      exact iteT (iteT (k H (Same.refl H)))
    | true =>
      obtain ⟨x, rfl, rfl⟩ := th_str ht e
      refine iteF ⟨_, rfl, rfl, _, rfl, ?_⟩
      refine ite2 (fun hne => ?_) (fun hne => ?_)
      · have hx : x = "" := V.str.inj (of_decide_eq_true hne)
        subst hx
        exact k H (Same.refl H)
      · have hx : TL.tl x ≠ [] := fun z => hne (decide_eq_true (by rw [tl_nil_iff.mp z]))
        refine ⟨_, rfl, x, rfl, hb, fun p hs ts np eh et => ?_⟩
        refine ⟨p, _, 1, .str ts, rfl, rfl, .inl (.inl upd_same), atI_nat (j := 1) rfl, ts, rfl, fun D nD => ?_⟩
        have sp : Same H (upd H p (.tup [.str hs, .str ts])) := same_upd np
        have nD0 : H D = none := sp.free nD
        have hsub : ∀ c ∈ TL.tl ts, c ∈ TL.tl x := fun c hc => by
          rw [et] at hc
          exact (List.dropWhile_sublist _).subset hc
        have hlen : (TL.tl ts).length ≤ 100000 := by
          rw [et]
          have h1 := (List.dropWhile_sublist upB (l := TL.tl x)).length_le
          have h2 : x.length ≤ 100000 := hb
          have := TL.len_tl x
          omega
        refine lc_str (x := ts) (fun pre H' => Same H H' ∧ ∃ ys : List Str, H' D = some (.lst (ys.map V.str)) ∧ ys.length ≤ pre.length ∧ (∀ y ∈ ys, PyData.strOk y = true) ∧ (ys = [] ↔ pre.all loB = true))
          ⟨same_mut sp nD0, [], upd_same, Nat.le_refl _, fun y h => (nomatch h), by simp⟩ ?_ ?_
        · rintro pre c post H' hsplit ⟨sH, ys, hD, hl, ho, hi⟩
          refine ⟨rfl, _, rfl, _, _, rfl, rfl, _, rfl, ?_⟩
          rw [le_sg ta]
          have hcl : c ∈ TL.tl ts := by rw [hsplit]; simp
          have hpl : pre.length ≤ 100000 := by
            rw [hsplit, List.length_append] at hlen
            omega
          have keep : ∀ b : Bool, loB c = b → (b = true → ∃ ys : List Str, H' D = some (.lst (ys.map V.str)) ∧ ys.length ≤ (pre ++ [c]).length ∧ (∀ y ∈ ys, PyData.strOk y = true) ∧ (ys = [] ↔ (pre ++ [c]).all loB = true)) := fun b hb2 hb3 => by
            refine ⟨ys, hD, by rw [List.length_append]; omega, ho, ?_⟩
            rw [List.all_append, Bool.and_eq_true, ← hi]
            simp [hb2, hb3]
          have grow : loB c = false → tVar 1 [some (V.str x), some (V.str (sg c))] H' fun y H4 => ∃ acc, H4 D = some (.lst acc) ∧ acc.length < sizeLine ∧ (Same H (upd H4 D (.lst (acc ++ [y]))) ∧ ∃ ys : List Str, (upd H4 D (.lst (acc ++ [y]))) D = some (.lst (ys.map V.str)) ∧ ys.length ≤ (pre ++ [c]).length ∧ (∀ y ∈ ys, PyData.strOk y = true) ∧ (ys = [] ↔ (pre ++ [c]).all loB = true)) := fun hb2 => by
            refine ⟨_, rfl, _, hD, by rw [List.length_map]; exact Nat.lt_of_le_of_lt (Nat.le_trans hl hpl) (by decide), same_mut sH nD0, ys ++ [sg c], by rw [upd_same, List.map_append]; rfl, by rw [List.length_append, List.length_append]; simp; omega, fun y hy => ?_, ?_⟩
            · rcases List.mem_append.mp hy with hy | hy
              · exact ho y hy
              · rw [List.mem_singleton.mp hy]
                exact ok_sg hok (hsub c hcl)
            · rw [List.all_append, Bool.and_eq_true]
              simp [hb2]
          refine ite2 (fun h1 => ?_) (fun h1 => ?_)
          · refine ⟨_, _, rfl, rfl, _, rfl, ?_⟩
            rw [sg_le tz]
            cases h2 : decide (c ≤ 122) with
            | true => exact iteF ⟨sH, keep true (by unfold loB; rw [h1, h2]; rfl) rfl⟩
            | false => exact iteT (grow (by unfold loB; rw [h2, Bool.and_false]))
          · exact ⟨_, rfl, iteT (grow (by unfold loB; rw [Bool.not_eq_true _ |>.mp h1, Bool.false_and]))⟩
        · rintro H' ⟨sH, ys, hD, hl, ho, hi⟩
          refine ⟨Nat.zero_le _, fun q nq => ?_⟩
          have nDq : D ≠ q := ne_of_none hD nq
          refine ⟨_, _, .lst (SqL.of (by rw [upd_ne nDq]; exact hD)) (dp_strs ys), .lst (SqL.of upd_same) .nil, shaped_strs ho, rfl, ?_⟩
          rw [eqv_strs_nil]
          have ed : decide (ys = []) = dName (.str x) := by
            rw [Bool.eq_iff_iff, decide_eq_true_iff, hi, et]
            show _ ↔ (!(TL.tl x).isEmpty && ((TL.tl x).dropWhile upB).all loB) = true
            cases q : TL.tl x with
            | nil => exact absurd q hx
            | cons c r => simp
          rw [ed]
          exact k _ (sH.trans (same_upd nq))
end
end Lk

/-! K22L -/
set_option Elab.async false
set_option linter.all false
set_option maxRecDepth 100000
set_option maxHeartbeats 4000000
namespace Lk
open PySem PySem.Spec PyProof.Rows L2
/-! ### the law's own judging -/
theorem ascI_uniq : ∀ {a b : List Int}, a.Pairwise (· < ·) → b.Pairwise (· < ·) → (∀ x, x ∈ a ↔ x ∈ b) → a = b
  | [], b, _, _, h => (List.eq_nil_iff_forall_not_mem.mpr fun x m => nomatch (h x).mpr m).symm
  | x :: a, [], _, _, h => nomatch (h x).mp List.mem_cons_self
  | x :: a, y :: b, pa, pb, h => by
    obtain ⟨ha, pa'⟩ := List.pairwise_cons.mp pa
    obtain ⟨hb, pb'⟩ := List.pairwise_cons.mp pb
    have e : x = y := by
      rcases List.mem_cons.mp ((h x).mp List.mem_cons_self) with e | m1
      · exact e
      · rcases List.mem_cons.mp ((h y).mpr List.mem_cons_self) with e | m2
        · exact e.symm
        · have := ha y m2
          have := hb x m1
          omega
    subst e
    rw [ascI_uniq pa' pb' fun z => ?_]
    have hz := h z
    rw [List.mem_cons, List.mem_cons] at hz
    constructor
    · intro m
      have := ha z m
      exact (hz.mp (.inr m)).resolve_left (by omega)
    · intro m
      have := hb z m
      exact (hz.mpr (.inr m)).resolve_left (by omega)
theorem eqv_intsI : ∀ xs ys : List Int, PyData.eqvAll (xs.map PyData.int) (ys.map PyData.int) = decide (xs = ys)
  | [], [] => rfl
  | [], _ :: _ => rfl
  | _ :: _, [] => rfl
  | x :: xs, y :: ys => by
    rw [List.map_cons, List.map_cons, PyData.eqvAll, eqv_intsI xs ys, Bool.eq_iff_iff, Bool.and_eq_true, decide_eq_true_iff, decide_eq_true_iff, List.cons.injEq]
    have e : PyData.eqv (.int x) (.int y) = true ↔ x = y := by simp [PyData.eqv]
    rw [e]
theorem shaped_tintsI (xs : List Int) : SeqAt.shaped (.tuple (xs.map PyData.int)) = true := by
  have h : SeqAt.shaped (.list (xs.map PyData.int)) = true := shaped_ints xs
  have e1 : (PyData.tuple (xs.map PyData.int)).canLay0 = (PyData.list (xs.map PyData.int)).canLay0 := by
    rw [PyData.canLay0, PyData.canLay0]
  have e2 : (PyData.tuple (xs.map PyData.int)).depth = (PyData.list (xs.map PyData.int)).depth := by
    rw [PyData.depth, PyData.depth]
  unfold SeqAt.shaped at h ⊢
  rw [e1, e2]
  exact h
theorem blkB_no {rs : List Rl} {F : List Str} {z : Str} {ds : List PyData} {e : PyData} (m : e ∈ ds) (h : rowB rs.length e = true → (unRow e).1 ∉ F → False) : blkB rs F z (.list ds) = false := by
  show (ds.all (rowB rs.length) && goodB rs F z (ds.map unRow)) = false
  rw [Bool.eq_false_iff]
  intro y
  rw [Bool.and_eq_true, List.all_eq_true] at y
  unfold goodB at y
  rw [Bool.and_eq_true, Bool.and_eq_true, List.all_eq_true] at y
  have g := y.2.2.2 _ (List.mem_map.mpr ⟨e, m, rfl⟩)
  rw [Bool.and_eq_true, decide_eq_true_iff] at g
  exact h (y.1 e m) g.1
def OkB (d : PyData) : Prop := ∀ ds, d = .list ds → ∀ a b, .tuple [a, b] ∈ ds → okS a = true
def pairB : PyData → Bool
  | .tuple [_, _] => true
  | _ => false
theorem pair_row {m : Nat} {d : PyData} (h : pairB d = false) : rowB m d = false := by
  unfold rowB
  split
  · cases h
  · rfl
section
variable {P : Program} {w : World} {K : PySem.W.Frag} {mg : Str → Option Value} {base : Heap}
def spLBlk (K : PySem.W.Frag) : Sp := fun vs H Q _ => ∃ (q f : Addr) (xb : List V) (rs : List Rl) (F : List Str) (z : Str) (v : V) (d : PyData), vs = [.ref q, .ref f, .str z, v] ∧ SqT K H q xb ∧ ThAll K H xb (rs.map Rl.d) ∧ dBook (.tuple (rs.map Rl.d)) = true ∧ SqT K H f (F.map V.str) ∧ PyData.strOk z = true ∧
  Th K H v d ∧ d.bulk ≤ 100000 ∧ SmallB d ∧ OkB d ∧ (∀ y ns c, PyData.strOk y = true → c ∈ fitD rs y ns → ∀ s ∈ c.2, PyData.strOk s = true) ∧ ∀ H', Same H H' → Q (.bl (blkB rs F z d)) H'
theorem sc_lblk : FnScope ["book", "files", "name", "thing", "here", "spent", "one", "number", "rule", "middle", "later", "row", "source"] ["book", "files", "name", "thing"] (defScope s_is_block) := ⟨rfl, rfl, rfl, by decide +kernel, rfl, by decide +kernel, by decide +kernel⟩
/-- tuple(sorted(t + (n,))) -/
theorem later_read {σ : L2.St} {H : Hp} {t0 : Addr} {ns : List Nat} {n iP iN : Nat} {Q : VK} (hP : σ[iP]? = some (some (.ref t0))) (hN : σ[iN]? = some (some (.int (n : Int)))) (h0 : SqT K H t0 (ns.map fun n : Nat => V.int (n : Int))) (small : ns.length ≤ 1000)
    (q : ∀ a H', Same H H' → H' a = some (.tup ((srt (ns ++ [n])).map fun n : Nat => V.int (n : Int))) → Q (.ref a) H') :
    tCB (fun xs H Q => ∃ p ys, xs = [.ref p] ∧ ((SqL K H p ys ∧ ∀ l, H l = none → Q (.ref l) (upd H l (.tup ys))) ∨ (SqT K H p ys ∧ Q (.ref p) H))) (tCons (tCB (rSortT K) (tCons (tOp (rCatA K) (tVar iP) (tTup (tCons (tVar iN) tNil))) tNil)) tNil) σ H Q := by
  refine ⟨_, hP, _, hN, (by show 1 ≤ sizeLine; decide), fun b nb => ?_⟩
  have s1 := same_upd (o := .tup [.int (n : Int)]) nb
  have hb : upd H b (.tup [.int (n : Int)]) b = some (.tup [.int (n : Int)]) := upd_same
  generalize upd H b (.tup [.int (n : Int)]) = H1 at s1 hb
  have cont : ∀ (u : Addr) (H2 : Hp), Same H1 H2 → SqT K H2 u (((ns ++ [n]).map fun n : Nat => (n : Int)).map V.int) → tCB (fun xs H Q => ∃ p ys, xs = [V.ref p] ∧ ((SqL K H p ys ∧ ∀ l, H l = none → Q (.ref l) (upd H l (.tup ys))) ∨ (SqT K H p ys ∧ Q (.ref p) H))) (tCons (fun _ H R => rSortT K [.ref u] H R) tNil) σ H2 Q := fun u H2 s2 hu => by
    refine ⟨u, (ns ++ [n]).map fun n : Nat => (n : Int), rfl, hu, fun ns' p pm pw np => ?_⟩
    have e := nat_out pm pw
    subst e
    have s3 := same_upd (o := .lst (((srt (ns ++ [n])).map fun n : Nat => (n : Int)).map V.int)) np
    refine ⟨p, _, rfl, .inl ⟨SqL.of upd_same, fun t nt => ?_⟩⟩
    refine q t _ (((s1.trans s2).trans s3).trans (same_upd nt)) ?_
    rw [upd_same, List.map_map]
    rfl
  have ei : (ns.map fun n : Nat => V.int (n : Int)) ++ [.int (n : Int)] = ((ns ++ [n]).map fun n : Nat => (n : Int)).map V.int := by
    rw [List.map_map, List.map_append]
    rfl
  refine ⟨t0, b, _, _, rfl, rfl, Same.seqT s1 h0, SqT.of hb, by rw [List.length_map, sizeLine_eq]; show ns.length + 1 ≤ _; omega, fun e => ?_, (fun _ e => nomatch e), fun _ _ p np => ?_⟩
  · have e2 : ns = [] := List.map_eq_nil_iff.mp e
    subst e2
    exact cont b H1 (Same.refl _) (SqT.of hb)
  · refine cont p _ (same_upd np) ?_
    rw [← ei]
    exact SqT.of upd_same
theorem nxL_set {te : TE} {i : Nat} {r : TS} {D : Ends} {σ : L2.St} {H : Hp} (h : te σ H fun x H1 => gName i x σ H1 (r D)) : tSeq (tAsg te (gName i)) r D σ H := h
theorem nxL_for {w : TI} {g : TG} {tb r : TS} {D : Ends} {rt : VK} {bk ct : L2.St → Hp → Prop} {σ : L2.St} {H : Hp} (h : tFor w g tb { D with nx := r D } σ H) : tNext { nx := tSeq (tFor w g tb) r D, rt := rt, bk := bk, ct := ct } σ H := h
theorem nxL_if1 {t : TT} {ts : TS} {D : Ends} {rt : VK} {bk ct : L2.St → Hp → Prop} {σ : L2.St} {H : Hp} (h : tIfS t ts tNext D σ H) : Ends.nx { nx := tIfS t ts tNext D, rt := rt, bk := bk, ct := ct } σ H := h
theorem nxL_ifS {t : TT} {ts r : TS} {D : Ends} {rt : VK} {bk ct : L2.St → Hp → Prop} {σ : L2.St} {H : Hp} (h : tIfS t ts tNext { D with nx := r D } σ H) : Ends.nx { nx := tSeq (tIfS t ts tNext) r D, rt := rt, bk := bk, ct := ct } σ H := h
theorem pair_is {e : PyData} (h : pairB e = true) : ∃ a b, e = .tuple [a, b] := by
  unfold pairB at h
  split at h
  · exact ⟨_, _, rfl⟩
  · cases h
theorem natI (ks : List Nat) : (ks.map fun n : Nat => (n : Int)).Pairwise (· < ·) ↔ ks.Pairwise (· < ·) := by
  rw [List.pairwise_map]
  exact ⟨fun h => h.imp fun z => by omega, fun h => h.imp fun z => by omega⟩
set_option maxHeartbeats 0
theorem cal_lblk (D : Def1 K mg "_law_is_block" s_is_block) (T : Glc mg) (G : Glb mg) (tl : mg "list" = none) (gb : mg "bool" = none) (gs : mg "sorted" = none) (ge : mg "set" = none) (CN : Cal P w K mg base 2 "_law_is_name" (spLName K)) (CS : Cal P w K mg base 1 "_law_stem" (spLStem K)) (CP : Cal P w K mg base 1 "_law_put" (spFill K)) :
    Cal P w K mg base 3 "_law_is_block" (spLBlk K) := by
  refine mkCal D sc_lblk (fun _ _ _ _ _ _ us hl => match us, hl with | [_, _, _, _], _ => rfl) (fun vs H Q E h => ?_) (fun g cdv A outer s H vs Q E hr h => ?_)
  · obtain ⟨q, f, xb, rs, F, z, v, d, rfl, _⟩ := h
    rfl
  · obtain ⟨q, f, xb, rs, F, z, v, d, rfl, hq, hx, bk, hf, okz, th, bu, sm, okd, stx, k⟩ := h
    refine ⟨_, (pss_cons (ps_if (PW.pt (pw_or (pt_not (pt_val (pe_isi (T := "list") (pv 3) T.isinst tl (by decide +kernel)))) (pw_or1 (pt_cmpR (op_neNil hr.units) (pe_lc (own := [("row", 11)]) (g := gName 11) (by rfl) sc_lblk.nd (pi_list (pv 3)) (blkOk_by (own := [("row", 11)]) (N := ["book", "files", "name", "thing", "here", "spent", "one", "number", "rule", "middle", "later", "row", "source"]) (sc := defScope s_is_block) (by decide +kernel)) (fun _ _ _ _ _ => pg_name (i := 11) sc_lblk.nd rfl (Or.inl rfl)) (fun _ _ _ _ _ => pts_one (PW.pt (pw_or (pt_not (pt_val (show PE _ _ (tCB (rIsi K) (tCons (tVar 11) (tCons (tC (.ty "tuple")) tNil))) from pe_isi (T := "tuple") (pv 11) T.isinst T.tuple (by decide +kernel)))) (pw_or1 (pt_cmpR op_ne (pe_callB (show CallR _ (.builtin "len") (fun xs H Q => ∃ p ys, xs = [V.ref p] ∧ (SqL K H p ys ∨ SqT K H p ys) ∧ Q (.int ys.length) H) from call_len_seq) (by rfl) G.len PySem.boot_len (pa_cons (pv 11) pa_nil)) pe_int (nomark _)))))) (fun _ _ _ _ _ => (pv 11))) (pe_lst pa_nil) (nomark _))))) (pss_one (ps_ret pe_bl)) pss_nil)
    (pss_cons (ps_for PassesOwn.never rfl (pi_list (pv 3)) (pg_tup rfl (pgs_cons (pg_name (i := 4) sc_lblk.nd rfl (.inl rfl)) (pgs_cons (pg_name (i := 5) sc_lblk.nd rfl (.inl rfl)) pgs_nil)))
    (pss_cons (ps_if (PW.pt (pw_or (pt_not (pt_val (pe_cal CN hr (by omega) (pa_cons (pv 4) pa_nil)))) (pw_or (pt_not (pt_val (pe_isi (T := "tuple") (pv 5) T.isinst T.tuple (by decide +kernel)))) (pw_or1 (pt_cmpR op_in_seq (pv 4) (pv 1) (by rfl)))))) (pss_one (ps_ret pe_bl)) pss_nil)
    (pss_cons (ps_for PassesOwn.never rfl (pi_tup (pv 5)) (pg_name (i := 6) sc_lblk.nd rfl (.inl rfl))
    (pss_one (ps_if (PW.pt (pw_or (pt_val (pe_isi (T := "bool") (pv 6) T.isinst gb (by decide +kernel))) (pw_or (pt_not (pt_val (pe_isi (T := "int") (pv 6) T.isinst G.int (by decide +kernel)))) (pw_or1 (pt_not (pt_chain op_le op_lt pe_int (pv 6) (pe_callB call_len_seq (by rfl) G.len PySem.boot_len (pa_cons (pv 0) pa_nil)))))))) (pss_one (ps_ret pe_bl)) pss_nil)))
    (pss_one (ps_if (pt_cmpR (op_neD hr.units) (pv 5) (pe_callTy call_tuple_of (by rfl) T.tuple (by decide +kernel) (pa_cons (pe_callB (cr_sortedSet rfl) (by rfl) gs (by decide +kernel) (pa_cons (pe_callTy (call_setI rfl) (by rfl) ge (by decide +kernel) (pa_cons (pv 5) pa_nil)) pa_nil)) pa_nil)) (nomark _)) (pss_one (ps_ret pe_bl)) pss_nil)))))
    (pss_cons (ps_if (PW.pt (pw_or (pt_cmpR op_ne (pe_callB call_len_SN (by rfl) G.len PySem.boot_len (pa_cons (pe_callTy (call_setN rfl hr.units) (by rfl) ge (by decide +kernel) (pa_cons (pv 3) pa_nil)) pa_nil)) (pe_callB call_len_seq (by rfl) G.len PySem.boot_len (pa_cons (pv 3) pa_nil)) (nomark _)) (pw_or1 (pt_cmpR (op_notInD (units65 hr)) (pe_tup (pa_cons (pv 2) (pa_cons (pe_tup pa_nil) pa_nil))) (pv 3) (by rfl))))) (pss_one (ps_ret pe_bl)) pss_nil)
    (pss_cons (ps_for PassesOwn.never rfl (pi_list (pv 3)) (pg_tup rfl (pgs_cons (pg_name (i := 4) sc_lblk.nd rfl (.inl rfl)) (pgs_cons (pg_name (i := 5) sc_lblk.nd rfl (.inl rfl)) pgs_nil)))
    (pss_one (ps_for PassesOwn.never rfl (pi_enT (by rfl) G.enumerate (pa_cons (pv 0) pa_nil)) (pg_tup rfl (pgs_cons (pg_name (i := 7) sc_lblk.nd rfl (.inl rfl)) (pgs_cons (pg_name (i := 8) sc_lblk.nd rfl (.inl rfl)) pgs_nil)))
    (pss_cons (ps_set (i := 9) sc_lblk.nd rfl (.inr rfl) (pe_cal CS hr (by omega) (pa_cons (pe_ix ix_tup (pv 8) pe_int (fun _ _ => rfl)) (pa_cons (pv 4) pa_nil))))
    (pss_one (ps_if (PW.pt (pw_and (pt_cmpR op_notN (pv 9) pe_non (nomark _)) (pw_and1 (pt_cmpR op_notIn_seq (pv 7) (pv 5) (by rfl))))) (pss_cons (ps_set (i := 10) sc_lblk.nd rfl (.inr rfl) (pe_callTy call_tuple_of (by rfl) T.tuple (by decide +kernel) (pa_cons (pe_callB (call_sortT hr.units) (by rfl) gs (by decide +kernel) (pa_cons (pe_op op_catA (pv 5) (pe_tup (pa_cons (pv 7) pa_nil))) pa_nil)) pa_nil)))
    (pss_one (ps_if (pt_cmpR (op_eqNil hr.units) (pe_lc (own := [("source", 12)]) (g := gName 12) (by rfl) sc_lblk.nd (pi_tup (pe_ix ix_tup (pv 8) pe_int (fun _ _ => rfl))) (blkOk_by (own := [("source", 12)]) (N := ["book", "files", "name", "thing", "here", "spent", "one", "number", "rule", "middle", "later", "row", "source"]) (sc := defScope s_is_block) (by decide +kernel)) (fun _ _ _ _ _ => pg_name (i := 12) sc_lblk.nd rfl (Or.inl rfl)) (fun _ _ _ _ _ => pts_one (pt_cmpR (show OpR _ (compareOp .In) (rInD K) from op_inD (units65 hr)) (pe_tup (pa_cons (pe_cal CP hr (by omega) (pa_cons (pv 12) (pa_cons (pv 9) pa_nil))) (pa_cons (pv 10) pa_nil))) (pv 3) (by rfl))) (fun _ _ _ _ _ => pe_int)) (pe_lst pa_nil) (nomark _)) (pss_one (ps_ret pe_bl)) pss_nil))) pss_nil))))))
    (pss_one (ps_ret pe_bl)))))), ?_⟩
    have no : blkB rs F z d = false → ∀ H', Same H H' → Q (.bl false) H' := fun e H' s => by
      have z := k H' s
      rwa [e] at z
    have lxb := thAll_len hx
    rw [List.length_map] at lxb
    refine ⟨_, rfl, v, _, _, _, _, rfl, .ty _, th_ty th, kit_lst _, _, rfl, ?_⟩
    cases et : isLst d with
    | false =>
      refine iteT' rfl (iteT' rfl (no ?_ H (Same.refl H)))
      cases d with
      | list _ => cases et
      | _ => rfl
    | true =>
    obtain ⟨a, vs', ds, rfl, rfl, hs, hv⟩ := th_lstB th et
    have lv := thAll_len hv
    obtain ⟨l2, small⟩ := sm _ rfl
    have okd := okd _ rfl
    refine iteF' rfl ⟨_, rfl, a, rfl, ⟨_, hs⟩, fun D1 nD1 => ?_⟩
    refine lc_list (K := K) (a := a) (xs := vs') (fun i H' => Same H H' ∧ ∃ acc : List V, H' D1 = some (.lst acc) ∧ acc.length ≤ i ∧ acc.isEmpty = (ds.take i).all pairB) ⟨same_upd nD1, [], upd_same, Nat.le_refl _, rfl⟩ (fun i H' _ h => h.1.seq hs) ?_ ?_
    · rintro i x H1 hx1 ⟨s1, acc, hD, la, em⟩
      obtain ⟨e, he, the⟩ := th_at hv hx1
      have hi : i < ds.length := (List.getElem?_eq_some_iff.mp he).1
      have step : (ds.take (i + 1)).all pairB = ((ds.take i).all pairB && pairB e) := by
        rw [List.take_add_one, he, List.all_append]
        show (_ && ([e].all pairB)) = _
        rw [List.all_cons, List.all_nil, Bool.and_true]
      have keep : pairB e = true → Same H H1 ∧ ∃ acc : List V, H1 D1 = some (.lst acc) ∧ acc.length ≤ i + 1 ∧ acc.isEmpty = (ds.take (i + 1)).all pairB := fun h => ⟨s1, acc, hD, by omega, by rw [step, h, Bool.and_true]; exact em⟩
      have grow : pairB e = false → ∃ acc, H1 D1 = some (.lst acc) ∧ acc.length < sizeLine ∧ (Same H (upd H1 D1 (.lst (acc ++ [x]))) ∧ ∃ acc' : List V, (upd H1 D1 (.lst (acc ++ [x]))) D1 = some (.lst acc') ∧ acc'.length ≤ i + 1 ∧ acc'.isEmpty = (ds.take (i + 1)).all pairB) := fun h => by
        refine ⟨acc, hD, by rw [sizeLine_eq]; omega, same_mut s1 nD1, acc ++ [x], upd_same, by rw [List.length_append]; show acc.length + 1 ≤ i + 1; omega, ?_⟩
        rw [step, h, Bool.and_false]
        cases acc <;> rfl
      refine ⟨rfl, _, rfl, x, _, _, _, _, rfl, .ty _, th_ty (th_same s1 the), kit_tup _, _, rfl, ?_⟩
      cases et1 : isTup e with
      | false =>
        refine iteT' rfl (iteT' rfl ⟨_, rfl, grow ?_⟩)
        cases e with
        | tuple _ => cases et1
        | _ => rfl
      | true =>
      obtain ⟨a1, ws, es, rfl, rfl, hs1, hw1⟩ := th_tup (th_same s1 the) et1
      have lw := thAll_len hw1
      refine iteF' rfl ⟨_, rfl, a1, _, rfl, .inr hs1, rfl, _, rfl, ?_⟩
      rcases Classical.em (¬ es.length = 2) with l3 | l3
      · refine iteT' (by rw [decide_eq_false (fun y => l3 (by have e := V.int.inj y; omega))]; rfl) ⟨_, rfl, grow ?_⟩
        unfold pairB
        split
        · rename_i e
          rw [PyData.tuple.inj e] at l3
          exact absurd rfl l3
        · rfl
      · replace l3 := Classical.not_not.mp l3
        refine iteF' (by rw [decide_eq_true (by rw [show ws.length = 2 by omega]; rfl)]; rfl) (keep ?_)
        match es, l3 with
        | [d1, d2], _ => rfl
    · rintro H1 ⟨s1, acc, hD, la, em⟩
      rw [lv, List.take_length] at em
      refine ⟨(by show 0 ≤ sizeLine; decide), fun Z nZ => ?_⟩
      have s2 := same_upd (o := .lst []) nZ
      refine ⟨D1, Z, acc, rfl, rfl, SqL.of (s2 _ _ hD), SqL.of upd_same, _, rfl, ?_⟩
      have s02 := s1.trans s2
      generalize upd H1 Z (.lst []) = H2 at s02
      cases ep : ds.all pairB with
      | false =>
        refine iteT' (by rw [em, ep]; rfl) (no ?_ H2 s02)
        obtain ⟨e, me, he⟩ := List.all_eq_false.mp ep
        exact blkB_no me fun y => by
          rw [pair_row (by simpa using he)] at y
          cases y
      | true =>
      refine iteF' (by rw [em, ep]; rfl) ?_
      rw [List.all_eq_true] at ep
      refine nxL_for ?_
      refine ⟨_, rfl, a, rfl, ⟨_, s02.seq hs⟩, ?_⟩
      refine for_list (K := K) (a := a) (xs := vs') (fun i σ H' => ∃ v4 v5 v6 : Option V, σ = [some (.ref q), some (.ref f), some (.str z), some (.ref a), v4, v5, v6, none, none, none, none, none, none] ∧ Same H H' ∧ ∀ e ∈ ds.take i, rowB rs.length e = true ∧ (unRow e).1 ∉ F)
        ⟨_, _, _, rfl, s02, fun e m => by rw [List.take_zero] at m; cases m⟩ (fun i σ H' _ ⟨_, _, _, _, s, _⟩ => s.seq hs) ?_ ?_
      · rintro i x σ H3 hx3 ⟨v4, v5, v6, rfl, s3, okR⟩
        obtain ⟨e, he, the⟩ := th_at hv hx3
        have me := List.mem_of_getElem? he
        obtain ⟨d1, d2, rfl⟩ := pair_is (ep e me)
        obtain ⟨b, ws, rfl, hsb, hw⟩ := th_of_tup (th_same s3 the)
        cases hw with
        | @cons w1 _ _ _ h1 hw1 =>
        cases hw1 with
        | @cons w2 _ _ _ h2 hw2 =>
        cases hw2
        have stop : (rowB rs.length (.tuple [d1, d2]) = true → (unRow (.tuple [d1, d2])).1 ∉ F → False) → ∀ H', Same H H' → Q (.bl false) H' := fun h H' s => no (blkB_no me h) H' s
        have b1 : d1.bulk ≤ 100000 := by
          have e1 : (PyData.tuple [d1, d2]).bulk = d1.bulk + 1 + (d2.bulk + 1 + 0) := rfl
          have e2 := bulk_in me
          have e3 : (PyData.list ds).bulk = PyData.bulkAll ds := rfl
          omega
        refine ⟨b, _, rfl, hsb, rfl, _, _, rfl, _, _, rfl, rfl, ?_⟩
        refine ⟨_, rfl, w1, d1, rfl, h1, b1, okd d1 d2 me, fun H4 s4 => ⟨_, rfl, ?_⟩⟩
        have s04 := s3.trans s4
        cases en : dName d1 with
        | false => exact iteT' rfl (iteT' rfl (stop (fun y _ => by rw [rowB_name en] at y; cases y) H4 s04))
        | true =>
        refine iteF' rfl ⟨_, rfl, w2, _, _, _, _, rfl, .ty _, th_ty (th_same s4 h2), kit_tup _, _, rfl, ?_⟩
        cases et2 : isTup d2 with
        | false =>
          refine iteT' rfl (iteT' rfl (stop (fun y _ => ?_) H4 s04))
          cases d2 with
          | tuple _ => cases et2
          | _ => cases y
        | true =>
        obtain ⟨t2, ys, ns, rfl, rfl, hs2, hx2⟩ := th_tup (th_same s4 h2) et2
        have ln2 := thAll_len hx2
        obtain ⟨x1, rfl⟩ : ∃ x, d1 = .str x := by
          cases d1 with
          | str x => exact ⟨x, rfl⟩
          | _ => cases en
        cases h1
        obtain ⟨few, _⟩ := small _ me _ _ rfl
        refine iteF' rfl ⟨_, rfl, _, rfl, f, _, rfl, .inr (Same.seqT s04 hf), rfl, flat_strs, _, rfl, ?_⟩
        by_cases hin : x1 ∈ F
        · refine iteT' (by show inV (V.str x1) _ = true; rw [in_strs, decide_eq_true hin]) (stop (fun _ y => y hin) H4 s04)
        refine iteF' (by show inV (V.str x1) _ = false; rw [in_strs, decide_eq_false hin]) ?_
        refine nxL_for ?_
        refine ⟨_, rfl, t2, rfl, ⟨_, hs2⟩, ?_⟩
        refine for_tup (K := K) (a := t2) (xs := ys) (fun j σ H' => ∃ v6 : Option V, σ = [some (.ref q), some (.ref f), some (.str z), some (.ref a), some (.str x1), some (.ref t2), v6, none, none, none, none, none, none] ∧ Same H4 H' ∧ ∀ e ∈ ns.take j, numM rs.length e = true)
          ⟨_, rfl, Same.refl _, fun e m => by rw [List.take_zero] at m; cases m⟩ (fun i σ H' _ ⟨_, _, s, _⟩ => Same.seqT s hs2) ?_ ?_
        · rintro j y σ H5 hy ⟨v6, rfl, s5, okN⟩
          obtain ⟨e, hen, the⟩ := th_at hx2 hy
          replace the := th_same s5 the
          have s05 := s04.trans s5
          have mn := List.mem_of_getElem? hen
          have bad : numM rs.length e = false → ∀ H', Same H H' → Q (.bl false) H' := fun h H' s => stop (fun y _ => by
            have y2 : (dName (.str x1) && (ns.all (numM rs.length) && ascI ns)) = true := y
            rw [Bool.and_eq_true, Bool.and_eq_true, List.all_eq_true] at y2
            rw [y2.2.1 e mn] at h
            cases h) H' s
          refine ⟨_, rfl, y, _, _, _, _, rfl, .ty _, th_ty the, kit_bol e, _, rfl, ?_⟩
          cases hb : isBol e with
          | true =>
            refine iteT' rfl (iteT' rfl (bad ?_ H5 s05))
            cases e with
            | bool _ => rfl
            | _ => cases hb
          | false =>
          refine iteF' rfl ⟨_, rfl, y, _, _, _, _, rfl, .ty _, th_ty the, kit_int e, _, rfl, ?_⟩
          cases hi : isInt e with
          | false =>
            refine iteT' rfl (iteT' rfl (bad ?_ H5 s05))
            cases e with
            | int _ => cases hi
            | _ => rfl
          | true =>
          obtain ⟨n, rfl⟩ : ∃ n, e = .int n := by
            cases e with
            | int n => exact ⟨n, rfl⟩
            | bool n => cases hb
            | _ => cases hi
          cases the
          refine iteF' rfl ⟨_, rfl, _, _, rfl, rfl, _, rfl, ?_⟩
          by_cases y0 : 0 ≤ n
          · refine iteT' (decide_eq_true y0) ⟨_, rfl, q, xb, rfl, .inr (Same.seqT s05 hq), _, _, rfl, rfl, _, rfl, ?_⟩
            by_cases y1 : n < (xb.length : Int)
            · refine iteF' (by rw [decide_eq_true y1]; rfl) ⟨_, rfl, s5, fun e m => ?_⟩
              rw [List.take_add_one, hen] at m
              rcases List.mem_append.mp m with m | m
              · exact okN e m
              · have e2 : e = .int n := by simpa using m
                rw [e2]
                show (decide (0 ≤ n) && decide (n < (rs.length : Int))) = true
                rw [decide_eq_true y0, decide_eq_true (by omega)]
                rfl
            · refine iteT' (by rw [decide_eq_false y1]; rfl) (bad ?_ H5 s05)
              show (decide (0 ≤ n) && decide (n < (rs.length : Int))) = false
              rw [decide_eq_false (by omega : ¬ n < (rs.length : Int)), Bool.and_false]
          · refine iteF' (decide_eq_false y0) ⟨_, rfl, iteT' rfl (bad ?_ H5 s05)⟩
            show (decide (0 ≤ n) && decide (n < (rs.length : Int))) = false
            rw [decide_eq_false y0, Bool.false_and]
        · rintro σ H5 ⟨v6, rfl, s5, okN⟩
          rw [ln2, List.take_length] at okN
          obtain ⟨ks, rfl, hks⟩ := nums_of (List.all_eq_true.mpr okN)
          rw [ints_inv hx2] at hs2
          have s05 := s04.trans s5
          rw [List.length_map] at few
          have ei : (ks.map fun n : Nat => V.int (n : Int)) = (ks.map fun n : Nat => (n : Int)).map V.int := by rw [List.map_map]; rfl
          have ed : (ks.map fun n : Nat => PyData.int (n : Int)) = (ks.map fun n : Nat => (n : Int)).map PyData.int := by rw [List.map_map]; rfl
          refine nxL_if1 ?_
          refine ⟨_, rfl, _, rfl, t2, ks.map fun n : Nat => (n : Int), rfl, by rw [← ei]; exact Same.seqT s5 hs2, by rw [List.length_map]; omega, fun p c np le => ?_⟩
          have s6 := same_upd (o := SetO w p (fun j => decide (j ∈ ks.map fun n : Nat => (n : Int))) c) np
          have hp6 : upd H5 p (SetO w p (fun j => decide (j ∈ ks.map fun n : Nat => (n : Int))) c) p = some (SetO w p (fun j => decide (j ∈ ks.map fun n : Nat => (n : Int))) c) := upd_same
          rw [List.length_map] at le
          refine ⟨p, _, c, rfl, hp6, by omega, fun ms p2 pw mem lms np2 => ?_⟩
          have s7 := same_upd (o := .lst (ms.map V.int)) np2
          refine ⟨p2, _, rfl, .inl ⟨SqL.of upd_same, fun t3 nt3 => ?_⟩⟩
          have s8 := same_upd (o := .tup (ms.map V.int)) nt3
          have s58 := (s6.trans s7).trans s8
          have s08 := s05.trans s58
          refine ⟨.tuple (ks.map fun n : Nat => PyData.int (n : Int)), .tuple (ms.map PyData.int), .tup (Same.seqT (s5.trans s58) hs2) (dp_nats _), .tup (SqT.of upd_same) (dp_ints ms), by rw [ed]; exact shaped_tintsI _, shaped_tintsI ms, _, rfl, ?_⟩
          have eq : PyData.eqv (.tuple (ks.map fun n : Nat => PyData.int (n : Int))) (.tuple (ms.map PyData.int)) = decide ((ks.map fun n : Nat => (n : Int)) = ms) := by
            rw [ed]
            exact eqv_intsI _ _
          rw [eq]
          by_cases asc : ks.Pairwise (· < ·)
          · have e2 : (ks.map fun n : Nat => (n : Int)) = ms := ascI_uniq ((natI ks).mpr asc) pw fun x => by
              rw [mem x, decide_eq_true_iff]
            refine iteF' (by rw [decide_eq_true e2]; rfl) ⟨_, _, _, rfl, s08, fun e m => ?_⟩
            rw [List.take_add_one, he] at m
            rcases List.mem_append.mp m with m | m
            · exact okR e m
            · have e3 : e = rowD (x1, ks) := List.mem_singleton.mp (show e ∈ [rowD (x1, ks)] from m)
              rw [e3, unRow_row]
              exact ⟨row_is ⟨en, hks, asc⟩, hin⟩
          · refine iteT' (by rw [decide_eq_false (show ¬ ((ks.map fun n : Nat => (n : Int)) = ms) from fun y => asc ((natI ks).mp (by rw [y]; exact pw)))]; rfl) (stop (fun y _ => ?_) _ s08)
            have y2 : (dName (.str x1) && ((ks.map fun n : Nat => PyData.int (n : Int)).all (numM rs.length) && ascI (ks.map fun n : Nat => PyData.int (n : Int)))) = true := y
            rw [Bool.and_eq_true, Bool.and_eq_true] at y2
            exact asc (asc_pair.mp y2.2.2)
      · rintro σ H3 ⟨v4, v5, v6, rfl, s3, okR⟩
        rw [lv, List.take_length] at okR
        have eall : ds.all (rowB rs.length) = true := List.all_eq_true.mpr fun e m => (okR e m).1
        obtain ⟨L, rfl, rfl, hL⟩ := rows_th hv eall
        have okT : ∀ c ∈ L, PyData.strOk c.2.1 = true := fun c mc => okd (.str c.2.1) (.tuple (c.2.2.map fun n : Nat => .int (n : Int))) (List.mem_map.mpr ⟨c, mc, rfl⟩)
        have shL : SeqAt.shaped (.list (L.map fun c => rowD c.2)) = true := shaped_pDs okT
        have dpL : ∀ {H' : Hp}, Same H H' → Dp K H' (.ref a) (.list (L.map fun c => rowD c.2)) := fun s => th_dp (th_same s th) (SeqAt.canLay_of_shaped shL)
        have eB : blkB rs F z (.list (L.map fun c => rowD c.2)) = goodB rs F z (L.map (·.2)) := by
          show ((L.map fun c => rowD c.2).all (rowB rs.length) && goodB rs F z ((L.map fun c => rowD c.2).map unRow)) = _
          rw [eall, un_rows, Bool.true_and]
        rw [List.length_map] at l2
        refine nxL_ifS ?_
        refine ⟨_, rfl, a, L, rfl, s3.seq hs, fun c mc => ((hL c mc).1).keeps fun _ _ h => seqT_same s3 h, by omega, fun p us np nd mem le => ?_⟩
        have s4 := same_upd (o := SetN P w L p us) np
        have hp4 : upd H3 p (SetN P w L p us) p = some (SetN P w L p us) := upd_same
        have s04 := s3.trans s4
        have sl := same_len nd mem
        rw [List.length_map, nodup_nk] at sl
        refine ⟨p, L, us, rfl, hp4, le, _, rfl, a, _, rfl, .inl (s04.seq hs), rfl, _, rfl, ?_⟩
        rw [List.length_map]
        rcases Classical.em (¬ us.length = L.length) with lne | leq
        · refine iteT' (by rw [decide_eq_false (fun y => lne (by have e := V.int.inj y; omega))]; rfl) (iteT' rfl (no ?_ _ s04))
          rw [eB]
          unfold goodB
          rw [decide_eq_false (fun y => lne (sl.2.mpr y)), Bool.false_and]
        replace leq := Classical.not_not.mp leq
        refine iteF' (by rw [decide_eq_true (by rw [leq])]; rfl) ?_
        refine ⟨_, rfl, (by show 0 ≤ sizeLine; decide), fun e0 ne0 => ⟨(by show 2 ≤ sizeLine; decide), fun y0 ny0 => ?_⟩⟩
        have s5 := same_upd (o := .tup []) ne0
        have s6 := same_upd (o := .tup [.str z, .ref e0]) ny0
        have he1 := s6 _ _ (upd_same (a := e0) (o := .tup []))
        have s06 := (s04.trans s5).trans s6
        refine ⟨_, rfl, pD (z, []), L.map fun c : Addr × Place => pD c.2, .tup (SqT.of upd_same) (.cons (.str _) (.cons (.tup (SqT.of he1) .nil) .nil)), dpL s06, shaped_pD okz, shaped_pDs okT, _, rfl, ?_⟩
        rw [any_pD]
        rcases Classical.em (¬ ((z, []) : Place) ∈ L.map (·.2)) with zno | zin
        · refine iteT' (by rw [decide_eq_false zno]; rfl) (no ?_ _ s06)
          rw [eB]
          unfold goodB
          rw [decide_eq_false (show ¬ ((z, []) : NK) ∈ L.map (·.2) from zno), Bool.false_and, Bool.and_false]
        replace zin := Classical.not_not.mp zin
        refine iteF' (by rw [decide_eq_true zin]; rfl) ?_
        refine nxL_for ?_
        refine ⟨_, rfl, a, rfl, ⟨_, s06.seq hs⟩, ?_⟩
        generalize upd (upd (upd H3 p (SetN P w L p us)) e0 (.tup [])) y0 (.tup [.str z, .ref e0]) = H6 at s06
        have blen := (book_len bk).2
        refine for_list (K := K) (a := a) (xs := L.map fun c => V.ref c.1) (fun i σ H' => ∃ v4 v5 v6 v7 v8 v9 v10 : Option V, σ = [some (.ref q), some (.ref f), some (.str z), some (.ref a), v4, v5, v6, v7, v8, v9, v10, none, none] ∧ Same H H' ∧ ∀ c ∈ L.take i, holdsB rs (L.map (·.2)) c.2 = true)
          ⟨_, _, _, _, _, _, _, rfl, s06, fun e m => by rw [List.take_zero] at m; cases m⟩ (fun i σ H' _ ⟨_, _, _, _, _, _, _, _, s, _⟩ => s.seq hs) ?_ ?_
        · rintro i x σ H7 hx7 ⟨v4, v5, v6, v7, v8, v9, v10, rfl, s7, okH⟩
          obtain ⟨c, hc, rfl⟩ := Option.map_eq_some_iff.mp ((List.getElem?_map ..).symm.trans hx7)
          have mc := List.mem_of_getElem? hc
          obtain ⟨⟨t, hb1, ht1⟩, rok⟩ := hL c mc
          obtain ⟨few, small2⟩ := small _ (List.mem_map.mpr ⟨c, mc, rfl⟩) _ _ rfl
          rw [List.length_map] at few
          have lz := small2 _ rfl
          refine ⟨c.1, _, rfl, Same.seqT s7 hb1, rfl, _, _, rfl, _, _, rfl, rfl, ?_⟩
          refine ⟨_, rfl, q, _, rfl, Same.seqT s7 hq, for_enT (K := K) (a := q) (xs := xb) (fun j σ H' => ∃ v7 v8 v9 v10 : Option V, σ = [some (.ref q), some (.ref f), some (.str z), some (.ref a), some (.str c.2.1), some (.ref t), v6, v7, v8, v9, v10, none, none] ∧ Same H H' ∧ ∀ r ∈ ((rs.zipIdx).take j).filterMap (rowOf c.2.1 c.2.2), holdsR rs (L.map (·.2)) c.2 r = true)
            ⟨_, _, _, _, rfl, s7, fun _ m => nomatch m⟩ (fun i σ H' ⟨_, _, _, _, _, s, _⟩ => Same.seqT s hq) ?_ ?_⟩
          · rintro j x σ H8 T' hx2 nT ⟨v7, v8, v9, v10, rfl, s8, okR⟩
            obtain ⟨d, hd, th2⟩ := th_at hx hx2
            rw [List.getElem?_map, Option.map_eq_some_iff] at hd
            obtain ⟨r, hr2, rfl⟩ := hd
            have R := blen r (List.mem_of_getElem? hr2)
            have hzi : (rs.zipIdx)[j]? = some (r, j) := by rw [List.getElem?_zipIdx, hr2]; simp
            have s9 : Same H8 (upd H8 T' (.tup [.int (j : Int), x])) := same_upd nT
            refine ⟨T', _, rfl, .inl (.inl upd_same), rfl, _, _, rfl, _, _, rfl, rfl, ?_⟩
            generalize upd H8 T' (.tup [.int (j : Int), x]) = H9 at s9 ⊢
            have s09 := s8.trans s9
            obtain ⟨a3, p3, s3', ys, rfl, ha3, hp3, hs3, hys⟩ := th_rule (th_same s09 th2)
            refine ⟨_, rfl, a3, _, 1, _, rfl, rfl, ha3, atI_nat (j := 1) rfl, _, rfl, p3, r.b, r.e, c.2.1, rfl, hp3, Nat.le_trans R.lb (by decide), Nat.le_trans R.le (by decide), Nat.le_trans lz (by decide), ?_⟩
            have skip : stemO r.b r.e c.2.1 = none ∨ j ∈ c.2.2 → ∀ r' ∈ ((rs.zipIdx).take (j + 1)).filterMap (rowOf c.2.1 c.2.2), holdsR rs (L.map (·.2)) c.2 r' = true := fun h => by
              rw [fm_step hzi, row_no h]
              simpa using okR
            cases hst : stemO r.b r.e c.2.1 with
            | none =>
              refine ⟨fun m' hm' => ?_, fun _ => ?_⟩
              · rw [stemO_some hm'] at hst
                cases hst
              · refine ⟨_, rfl, rfl, _, rfl, iteF' rfl (iteF' rfl ?_)⟩
                exact ⟨_, _, _, _, rfl, s09, skip (.inl hst)⟩
            | some mm =>
              refine ⟨fun m' hm' => ?_, fun no' => absurd ⟨mm, stemO_eq hst⟩ no'⟩
              rw [stemO_some hm'] at hst
              obtain rfl := Option.some.inj hst
              replace hst := stemO_some hm'
              refine ⟨_, rfl, rfl, _, rfl, iteT' rfl ?_⟩
              refine ⟨_, rfl, _, rfl, t, _, rfl, .inr (Same.seqT s09 ht1), rfl, flat_ints, _, rfl, ?_⟩
              by_cases hin : j ∈ c.2.2
              · refine iteF' ?_ ?_
                · show (!inV (V.int (j : Int)) _) = false
                  rw [in_ints, decide_eq_true hin]
                  rfl
                · exact ⟨_, _, _, _, rfl, s09, skip (.inr hin)⟩
              refine iteT' ?_ ?_
              · show (!inV (V.int (j : Int)) _) = true
                rw [in_ints, decide_eq_false hin]
                rfl
              have hrow := row_yes hst hin
              have mrow : ((j, r.ss.map (Src.put m')) : WRow) ∈ fitD rs c.2.1 c.2.2 := List.mem_filterMap.mpr ⟨(r, j), List.mem_of_getElem? hzi, hrow⟩
              have lm' := stemO_len hst
              have okS := stx c.2.1 c.2.2 _ (okT c mc) mrow
              refine nxL_set ?_
              refine later_read (K := K) (t0 := t) (ns := c.2.2) (n := j) rfl rfl (Same.seqT s09 ht1) (by omega) fun u H10 s10 hu => ?_
              refine nxc_if ?_
              refine ⟨_, rfl, a3, _, 2, _, rfl, rfl, Same.seqT s10 ha3, atI_nat (j := 2) rfl, s3', rfl, ⟨_, Same.seqT s10 hs3⟩, fun D2 nD2 => ?_⟩
              have lys := thAll_len hys
              rw [List.length_map] at lys
              have lss := R.ls
              refine lc_tup (K := K) (a := s3') (xs := ys) (fun l H' => Same H10 H' ∧ ∃ acc : List V, H' D2 = some (.lst acc) ∧ acc.length ≤ l ∧ acc.isEmpty = !((r.ss.take l).any fun sc => decide ((Src.put m' sc, srt (c.2.2 ++ [j])) ∈ L.map (·.2))))
                ⟨same_upd nD2, [], upd_same, Nat.le_refl _, rfl⟩ (fun l H' _ h => Same.seqT (s10.trans h.1) hs3) ?_ ?_
              · rintro l y H11 hy ⟨s11, acc, hD2, la, em⟩
                obtain ⟨d, hd3, th3⟩ := th_at hys hy
                rw [List.getElem?_map, Option.map_eq_some_iff] at hd3
                obtain ⟨sc, hsc, rfl⟩ := hd3
                have msc := List.mem_of_getElem? hsc
                have ll := (List.getElem?_eq_some_iff.mp hsc).1
                have step : ((r.ss.take (l + 1)).any fun sc => decide ((Src.put m' sc, srt (c.2.2 ++ [j])) ∈ L.map (·.2))) = (((r.ss.take l).any fun sc => decide ((Src.put m' sc, srt (c.2.2 ++ [j])) ∈ L.map (·.2))) || decide ((Src.put m' sc, srt (c.2.2 ++ [j])) ∈ L.map (·.2))) := by
                  rw [List.take_add_one, hsc, List.any_append]
                  show (_ || ([sc].any _)) = _
                  rw [List.any_cons, List.any_nil, Bool.or_false]
                have okP : PyData.strOk (Src.put m' sc) = true := okS _ (List.mem_map.mpr ⟨sc, msc, rfl⟩)
                refine ⟨rfl, put_read (c := sc) rfl rfl (th_same (s10.trans s11) th3) (R.each sc msc) (Nat.le_trans lm' (Nat.le_trans lz (by decide))) ?_⟩
                refine ⟨_, rfl, (by show 2 ≤ sizeLine; decide), fun y0 ny0 => ?_⟩
                have s12 := same_upd (o := .tup [.str (Src.put m' sc), .ref u]) ny0
                refine ⟨_, rfl, pD (Src.put m' sc, srt (c.2.2 ++ [j])), L.map fun c : Addr × Place => pD c.2, .tup (SqT.of upd_same) (.cons (.str _) (.cons (.tup (SqT.of ((s11.trans s12) _ _ hu)) (dp_nats _)) .nil)), dpL (((s09.trans s10).trans s11).trans s12), shaped_pD okP, shaped_pDs okT, _, rfl, ?_⟩
                rw [any_pD]
                by_cases hm : (Src.put m' sc, srt (c.2.2 ++ [j])) ∈ L.map (·.2)
                · refine iteT' (decide_eq_true hm) ⟨acc, s12 _ _ hD2, by rw [sizeLine_eq]; omega, same_mut (s11.trans s12) nD2, acc ++ [.int 1], upd_same, by rw [List.length_append]; show acc.length + 1 ≤ l + 1; omega, ?_⟩
                  rw [step, decide_eq_true hm, Bool.or_true]
                  cases acc <;> rfl
                · refine iteF' (decide_eq_false hm) ⟨s11.trans s12, acc, s12 _ _ hD2, by omega, ?_⟩
                  rw [step, decide_eq_false hm, Bool.or_false]
                  exact em
              · rintro H11 ⟨s11, acc, hD2, la, em⟩
                rw [lys, List.take_length] at em
                refine ⟨(by show 0 ≤ sizeLine; decide), fun Z nZ => ?_⟩
                have s12 := same_upd (o := .lst []) nZ
                have s012 := ((s09.trans s10).trans s11).trans s12
                refine ⟨D2, Z, acc, rfl, rfl, SqL.of (s12 _ _ hD2), SqL.of upd_same, _, rfl, ?_⟩
                have eh : holdsR rs (L.map (·.2)) c.2 (j, r.ss.map (Src.put m')) = (r.ss.any fun sc => decide ((Src.put m' sc, srt (c.2.2 ++ [j])) ∈ L.map (·.2))) := by
                  unfold holdsR
                  rw [List.any_map]
                  rfl
                cases ea : (r.ss.any fun sc => decide ((Src.put m' sc, srt (c.2.2 ++ [j])) ∈ L.map (·.2))) with
                | false =>
                  refine iteT' (by rw [em, ea]; rfl) (no ?_ _ s012)
                  rw [eB]
                  unfold goodB
                  have e : (L.map (·.2)).all (fun p => decide (p.1 ∉ F) && holdsB rs (L.map (·.2)) p) = false := List.all_eq_false.mpr ⟨c.2, List.mem_map.mpr ⟨c, mc, rfl⟩, by
                    have e2 : holdsB rs (L.map (·.2)) c.2 = false := by
                      unfold holdsB
                      exact List.all_eq_false.mpr ⟨_, mrow, by rw [eh, ea]; exact Bool.false_ne_true⟩
                    rw [e2, Bool.and_false]
                    exact Bool.false_ne_true⟩
                  rw [e, Bool.and_false, Bool.and_false]
                | true =>
                  refine iteF' (by rw [em, ea]; rfl) ⟨_, _, _, _, rfl, s012, fun r' mr => ?_⟩
                  rw [fm_step hzi, hrow] at mr
                  rcases List.mem_append.mp mr with mr | mr
                  · exact okR r' mr
                  · rw [List.mem_singleton.mp mr, eh, ea]
          · rintro σ H8 ⟨v7, v8, v9, v10, rfl, s8, okR⟩
            refine ⟨_, _, _, _, _, _, _, rfl, s8, fun c' m => ?_⟩
            rw [List.take_add_one, hc] at m
            rcases List.mem_append.mp m with m | m
            · exact okH c' m
            · have e : c' = c := List.mem_singleton.mp (show c' ∈ [c] from m)
              rw [e]
              unfold holdsB
              have e2 : (rs.zipIdx).take xb.length = rs.zipIdx := List.take_of_length_le (by rw [List.length_zipIdx]; omega)
              rw [e2] at okR
              exact List.all_eq_true.mpr okR
        · rintro σ H7 ⟨v4, v5, v6, v7, v8, v9, v10, rfl, s7, okH⟩
          rw [List.length_map, List.take_length] at okH
          have z' := k H7 s7
          have e : goodB rs F z (L.map (·.2)) = true := by
            unfold goodB
            rw [decide_eq_true (sl.2.mp leq), decide_eq_true (show ((z, []) : NK) ∈ L.map (·.2) from zin), Bool.true_and, Bool.true_and, List.all_eq_true]
            intro p mp
            obtain ⟨c, mc, rfl⟩ := List.mem_map.mp mp
            have nf := (okR _ (List.mem_map.mpr ⟨c, mc, rfl⟩)).2
            rw [unRow_row] at nf
            rw [okH c mc, decide_eq_true nf]
            rfl
          rw [eB, e] at z'
          exact z'
end
end Lk

/-! K22M -/
set_option Elab.async false
set_option linter.all false
set_option maxRecDepth 100000
set_option maxHeartbeats 4000000
namespace Lk
open PySem PySem.Spec PyProof.Rows L2
/-! ### what comes by rules of a name is a name -/
def CLp (l : List Nat) : Prop := (∀ c ∈ l, upB c = true ∨ loB c = true) ∧ l.Pairwise fun a b => upB a = true ∨ loB b = true
theorem cl_of_nm {l : List Nat} (h : nmB l = true) : CLp l := by
  unfold nmB at h
  rw [Bool.and_eq_true, List.all_eq_true] at h
  have e := List.takeWhile_append_dropWhile (p := upB) (l := l)
  have t := List.all_eq_true.mp (List.all_takeWhile (p := upB) (l := l))
  constructor
  · intro c hc
    rw [← e] at hc
    rcases List.mem_append.mp hc with m | m
    · exact .inl (t c m)
    · exact .inr (h.2 c m)
  · rw [← e, List.pairwise_append]
    refine ⟨List.pairwise_of_forall_mem_list fun a ha b _ => .inl (t a ha), List.pairwise_of_forall_mem_list fun a _ b hb => .inr (h.2 b hb), fun a ha b hb => .inl (t a ha)⟩
theorem nm_of_cl : ∀ {l : List Nat}, CLp l → l ≠ [] → nmB l = true := by
  have go : ∀ {l : List Nat}, CLp l → (l.dropWhile upB).all loB = true := fun {l} => by
    induction l with
    | nil => exact fun _ => rfl
    | cons c l ih =>
      rintro ⟨h1, h2⟩
      rw [List.pairwise_cons] at h2
      by_cases u : upB c = true
      · rw [List.dropWhile_cons, if_pos u]
        exact ih ⟨fun a m => h1 a (List.mem_cons_of_mem _ m), h2.2⟩
      · rw [List.dropWhile_cons, if_neg u, List.all_eq_true]
        intro a ma
        rcases List.mem_cons.mp ma with e | ma
        · rw [e]
          exact (h1 c List.mem_cons_self).resolve_left u
        · exact (h2.1 a ma).resolve_left u
  intro l h n
  unfold nmB
  rw [go h, Bool.and_true]
  cases l with
  | nil => exact absurd rfl n
  | cons => rfl
theorem cl_mid {a m b : List Nat} (h : CLp (a ++ m ++ b)) : CLp m := by
  have s : m.Sublist (a ++ m ++ b) := (List.sublist_append_right a m).trans (List.sublist_append_left (a ++ m) b)
  exact ⟨fun c hc => h.1 c (s.subset hc), h.2.sublist s⟩
theorem cl_put {a m b : List Nat} (ha : ∀ c ∈ a, upB c = true) (hb : ∀ c ∈ b, loB c = true) (h : CLp m) : CLp (a ++ m ++ b) := by
  constructor
  · intro c hc
    rcases List.mem_append.mp hc with hc | hc
    · rcases List.mem_append.mp hc with hc | hc
      · exact .inl (ha c hc)
      · exact h.1 c hc
    · exact .inr (hb c hc)
  · rw [List.pairwise_append, List.pairwise_append]
    exact ⟨⟨List.pairwise_of_forall_mem_list fun a ha' b _ => .inl (ha a ha'), h.2, fun x hx y _ => .inl (ha x hx)⟩, List.pairwise_of_forall_mem_list fun a _ b hb' => .inr (hb b hb'), fun x _ y hy => .inr (hb y hy)⟩
theorem name_of_rule {r : Rl} (hr : dRule r.d = true) {z y : Str} (hz : dName (.str z) = true) (h : y ∈ r.of z) : dName (.str y) = true := by
  cases e : stemO r.b r.e z with
  | none =>
    rw [of_none e] at h
    cases h
  | some m =>
    rw [of_some e] at h
    obtain ⟨s, hs, rfl⟩ := List.mem_map.mp h
    have ez := stemO_eq e
    have cz := cl_of_nm (show nmB (TL.tl z) = true from hz)
    rw [ez] at cz
    have cm := cl_mid cz
    have h2 : (dLabel (.str r.lab) && (dPat (.tuple [.str r.b, .str r.e]) && (decide ((r.ss.map Src.d).length ≤ 3) && (r.ss.map Src.d).all dSrc1))) = true := hr
    rw [Bool.and_eq_true, Bool.and_eq_true, Bool.and_eq_true, List.all_eq_true] at h2
    have q := h2.2.2.2 _ (List.mem_map.mpr ⟨s, hs, rfl⟩)
    unfold dSrc1 at q
    cases s with
    | pat b e2 =>
      have q2 : (dPat (.tuple [.str b, .str e2]) || (false && decide (0 ≤ 6))) = true := q
      rw [Bool.false_and, Bool.or_false] at q2
      obtain ⟨b1, b2, _, _⟩ := pat_ends q2
      have ne : ¬ (b = "" ∧ e2 = "") := by
        rintro ⟨e3, e4⟩
        subst e3 e4
        revert q2
        decide +kernel
      show nmB (TL.tl (b ++ m ++ e2)) = true
      rw [TL.tl_append, TL.tl_append]
      refine nm_of_cl (cl_put b1 b2 cm) fun z => ?_
      rw [List.append_eq_nil_iff, List.append_eq_nil_iff] at z
      exact ne ⟨TL.ext_tl (z.1.1.trans rfl), TL.ext_tl (z.2.trans rfl)⟩
    | nm x =>
      have q2 : (false || (dName (.str x) && decide (x.length ≤ 6))) = true := q
      rw [Bool.false_or, Bool.and_eq_true] at q2
      exact q2.1
theorem chain_name {rs : List Rl} (hB : dBook (.tuple (rs.map Rl.d)) = true) {z : Str} (hz : dName (.str z) = true) {ks : List Nat} {y : Str} (c : Chain rs z ks y) : dName (.str y) = true := by
  have h2 : (decide ((rs.map Rl.d).length ≤ 6) && (rs.map Rl.d).all dRule) = true := hB
  rw [Bool.and_eq_true, List.all_eq_true] at h2
  induction c with
  | start => exact hz
  | step c hr n hy ih => exact name_of_rule (h2.2 _ (List.mem_map.mpr ⟨_, List.mem_of_getElem? hr, rfl⟩)) ih hy
/-! ### _law_some_files -/
theorem asc_take {cs ss : List Str} (h : IsAsc cs ss) (n : Nat) : cs.take n = ascL (cs.take n) :=
  IsAsc.uniq (ss := cs.take n) ⟨(List.take_sublist n cs).nodup h.nd, fun _ => Iff.rfl, h.pw.sublist (List.take_sublist n cs)⟩ (ascL_is _)
theorem fl_of {F : List Str} (e : F = ascL F) (few : F.length ≤ 60) (each : ∀ y ∈ F, dName (.str y) = true ∧ y.length ≤ 1000) : Fl F := by
  refine ⟨?_, fun y m => (each y m).2⟩
  unfold dFiles
  simp only [Bool.and_eq_true, decide_eq_true_eq, List.length_map, strD_map, List.all_eq_true]
  exact ⟨few, fun d m => by obtain ⟨y, my, rfl⟩ := List.mem_map.mp m; exact (each y my).1, e⟩
def spFiles (K : PySem.W.Frag) : Sp := fun vs H Q _ => ∃ (p c l : Addr) (row : List Str), vs = [.ref p, .ref l] ∧ PotAt p c H ∧ SqT K H l (row.map V.str) ∧ l ≠ p ∧ row.length ≤ 3990 ∧ (∀ y ∈ row, dName (.str y) = true ∧ y.length ≤ 1000) ∧
  ∀ (t : Addr) (F : List Str) (H' : Hp), Ext p c H H' → H' t = some (.tup (F.map V.str)) → Fl F → (∀ y ∈ F, y ∈ row) → Q (.ref t) H'
section
variable {P : Program} {w : World} {K : PySem.W.Frag} {mg : Str → Option Value} {base : Heap}
theorem sc_some_files : FnScope ["pot", "row", "name"] ["pot", "row"] (defScope s_some_files) := ⟨rfl, rfl, rfl, by decide +kernel, rfl, by decide +kernel, by decide +kernel⟩
theorem cal_some_files (D : Def1 K mg "_law_some_files" s_some_files) (CB : Cal P w K mg base 2 "_law_below" spBelow) (CO : Cal P w K mg base 1 "_law_ordered" (spLOrd K)) : Cal P w K mg base 3 "_law_some_files" (spFiles K) := by
  refine mkCal D sc_some_files (fun _ _ _ _ _ _ us hl => match us, hl with | [_, _], _ => rfl) (fun vs H Q E h => ?_) (fun f cdv A outer s H vs Q E hr h => ?_)
  · obtain ⟨p, c, l, row, rfl, _⟩ := h
    rfl
  · obtain ⟨p, c, l, row, rfl, hP, hl, lp, few, each, k⟩ := h
    refine ⟨_, (pss_one (ps_ret (pe_slice sl_tupA (pe_cal CO hr (by omega) (pa_cons (pe_lc (own := [("name", 2)]) (g := gName 2) (by rfl) sc_some_files.nd (pi_tup (pv 1)) (blkOk_by (own := [("name", 2)]) (N := ["pot", "row", "name"]) (sc := defScope s_some_files) (by decide +kernel)) (fun _ _ _ _ _ => pg_name (i := 2) sc_some_files.nd rfl (Or.inl rfl)) (fun _ _ _ _ _ => pts_one (pt_cmpR op_eq (pe_cal CB hr (by omega) (pa_cons (pv 0) (pa_cons pe_int pa_nil))) pe_int (nomark _))) (fun _ _ _ _ _ => (pv 2))) pa_nil)) po_none (po_some pe_int)))), ?_⟩
    refine ⟨_, rfl, l, rfl, ⟨_, hl⟩, fun D nD => ?_⟩
    refine lc_tup (K := K) (a := l) (xs := row.map V.str) (fun i H' => Ext p c H H' ∧ ∃ ys, H' D = some (.lst (ys.map V.str)) ∧ ys.length ≤ i ∧ ∀ y ∈ ys, y ∈ row)
      ⟨hP.ref.mut hP nD, [], upd_same, Nat.le_refl _, fun _ m => nomatch m⟩ (fun i H' _ h => h.1.seqT lp hl) ?_ ?_
    · rintro i x H1 hx ⟨e1, ys, hD, ly, hy⟩
      obtain ⟨y, hyi, rfl⟩ := Option.map_eq_some_iff.mp ((List.getElem?_map ..).symm.trans hx)
      refine ⟨rfl, _, rfl, p, c, 2, rfl, e1.pot, by decide, by decide, fun r H2 r0 r1 e2 => ⟨rfl, _, rfl, ?_⟩⟩
      have Dp : D ≠ p := hP.nep nD
      have hD2 := e2.get hD Dp
      have e12 := e1.trans e2
      refine ite2 (fun _ => ?_) (fun _ => ⟨e12, ys, hD2, by omega, hy⟩)
      have lt := (List.getElem?_eq_some_iff.mp hyi).1
      refine ⟨_, rfl, _, hD2, by rw [List.length_map, sizeLine_eq]; omega, e12.mut hP nD, ys ++ [y], by rw [upd_same, List.map_append]; rfl, by rw [List.length_append]; show _ + 1 ≤ _; omega, fun x mx => ?_⟩
      rcases List.mem_append.mp mx with m | m
      · exact hy x m
      · rw [List.mem_singleton.mp m]
        exact List.mem_of_getElem? hyi
    · rintro H1 ⟨e1, ys, hD, ly, hy⟩
      rw [List.length_map] at ly
      refine ⟨D, ys, rfl, SqL.of hD, by omega, fun y my => Nat.le_trans (each y (hy y my)).2 (by decide), fun cs t H2 s2 ht asc => ?_⟩
      have sub : ∀ y ∈ cs.take 60, y ∈ row := fun y my => hy y ((asc.mem y).mp (List.mem_of_mem_take my))
      have fl : Fl (cs.take 60) := fl_of (asc_take asc 60) (by rw [List.length_take]; omega) fun y my => each y (sub y my)
      refine ⟨60, rfl, t, _, rfl, SqT.of ht, fun hh => ?_, fun hh b nb => ?_⟩
      · have h0 := hh.2
        rw [sIx_some (by decide), List.length_map] at h0
        have e60 : (60 : Int).toNat = 60 := rfl
        have ec : cs.take 60 = cs := List.take_of_length_le (by omega)
        rw [ec] at fl sub
        exact k t cs H2 (e1.same s2) ht fl sub
      · rw [cut_to (by decide)]
        have s3 := same_upd (o := .tup ((cs.map V.str).take (Int.toNat 60))) nb
        refine k b (cs.take 60) _ ((e1.same s2).same s3) ?_ fl sub
        rw [upd_same, List.map_take]
        rfl
end
end Lk

/-! K22N -/
set_option Elab.async false
set_option linter.all false
set_option maxRecDepth 100000
set_option maxHeartbeats 4000000
namespace Lk
open PySem PySem.Spec PyProof.Rows L2
/-! ### the places that wishes lead to -/
noncomputable def plc (rs : List Rl) (z : Str) : List Place := (List.range (rs.length + 1)).flatMap fun c => (lv rs z c).map fun p => (p.2, srt p.1)
theorem plc_in {rs : List Rl} {z : Str} {p : Place} (h : Snds rs z p) : p ∈ plc rs z := by
  obtain ⟨ks, c, e⟩ := h
  refine List.mem_flatMap.mpr ⟨ks.length, List.mem_range.mpr (Nat.lt_succ_of_le (chain_few c)), List.mem_map.mpr ⟨_, lv_of c, ?_⟩⟩
  show (p.1, srt ks) = p
  rw [← e]
theorem plc_len {rs : List Rl} {z : Str} {m : Nat} (hm : ∀ r ∈ rs, r.ss.length ≤ m) : ∀ i, ((List.range i).flatMap fun c => (lv rs z c).map fun p => ((p.2, srt p.1) : Place)).length ≤ sumM rs.length m i
  | 0 => Nat.le_refl _
  | i + 1 => by
    have ih := plc_len (z := z) hm i
    have l := lv_len (z := z) hm i
    rw [List.range_succ, List.flatMap_append, List.length_append]
    have one : ([i].flatMap fun c => (lv rs z c).map fun p => ((p.2, srt p.1) : Place)) = (lv rs z i).map fun p => ((p.2, srt p.1) : Place) := by simp
    rw [one, List.length_map]
    show _ ≤ sumM rs.length m i + most rs.length m i
    omega
theorem small_sum : ∀ n m, (n ≤ 4 ∧ m = 2) ∨ (n ≤ 3 ∧ m = 3) → sumM n m (n + 1) ≤ 640 := by
  rintro n m (⟨h, rfl⟩ | ⟨h, rfl⟩)
  · rcases n with _ | _ | _ | _ | _ | n
    all_goals first | decide | omega
  · rcases n with _ | _ | _ | _ | n
    all_goals first | decide | omega
/-- a drawn book -/
structure DrB (m : Nat) (rs : List Rl) : Prop where
  bk : dBook (.tuple (rs.map Rl.d)) = true
  tx : ∀ r ∈ rs, RlTx r
  len : ∀ r ∈ rs, r.ss.length ≤ m
  sum : sumM rs.length m (rs.length + 1) ≤ 640
  wg : wgt m rs.length ≤ 1200
  m3 : m ≤ 3
theorem drb_of {n m : Nat} {rs : List Rl} (hn : (n ≤ 4 ∧ m = 2) ∨ (n ≤ 3 ∧ m = 3)) (ok : ∀ r ∈ rs, RlOk m r) (le : rs.length ≤ n) : DrB m rs := by
  obtain ⟨_, s2, s3⟩ := small_books rs.length m (by omega)
  have dr : ∀ r ∈ rs, dRule r.d = true ∧ RlTx r := fun r mr => ok_draw (ok r mr) s3
  refine ⟨?_, fun r mr => (dr r mr).2, fun r mr => (ok r mr).len, small_sum _ _ (by omega), s2, s3⟩
  show (decide ((rs.map Rl.d).length ≤ 6) && (rs.map Rl.d).all dRule) = true
  rw [Bool.and_eq_true, decide_eq_true_eq, List.length_map, List.all_eq_true]
  refine ⟨by omega, fun d md => ?_⟩
  obtain ⟨r, mr, rfl⟩ := List.mem_map.mp md
  exact (dr r mr).1
theorem DrB.chain {m : Nat} {rs : List Rl} (D : DrB m rs) {z : Str} (hz : PyData.strOk z = true) {ks : List Nat} {y : Str} (c : Chain rs z ks y) : PyData.strOk y = true ∧ y.length ≤ z.length + 36 := by
  have q := chain_tx D.tx (book_len D.bk).2 hz c
  have f := chain_few c
  have g := (book_len D.bk).1
  exact ⟨q.1, by omega⟩
def OkW (rs : List Rl) (ws : List Str) (p : Place) : Prop := ∃ x ∈ ws, Snds rs x p
theorem okw_fin {m : Nat} {rs : List Rl} (D : DrB m rs) (ws : List Str) : ∃ L : List Place, L.length ≤ ws.length * 640 ∧ ∀ p, OkW rs ws p → p ∈ L := by
  refine ⟨ws.flatMap (plc rs), flat_le fun x _ => Nat.le_trans (plc_len D.len _) D.sum, fun p h => ?_⟩
  obtain ⟨x, mx, s⟩ := h
  exact List.mem_flatMap.mpr ⟨x, mx, plc_in s⟩
theorem okw {m : Nat} {rs : List Rl} (D : DrB m rs) {ws : List Str} (hw : ∀ x ∈ ws, PyData.strOk x = true ∧ x.length ≤ 900) (few : ws.length ≤ 100) : OkR rs (OkW rs ws) := by
  refine ⟨D.bk, fun p h => ?_, fun p h => ?_, fun p p' h s => ?_, ?_⟩
  · obtain ⟨x, mx, ks, c, _⟩ := h
    have y := D.chain (hw x mx).1 c
    have l := (hw x mx).2
    exact ⟨y.1, by omega⟩
  · obtain ⟨x, mx, ks, c, e⟩ := h
    have l := chain_lt c
    rw [e]
    exact ⟨(srt_perm ks).nodup_iff.mpr l.2, fun k mk => l.1 k (mem_srt.mp mk)⟩
  · obtain ⟨x, mx, h⟩ := h
    exact ⟨x, mx, snds_succ h s⟩
  · obtain ⟨L, l, h⟩ := okw_fin D ws
    exact ⟨L, by omega, h⟩
theorem okw_start {rs : List Rl} {ws : List Str} {x : Str} (h : x ∈ ws) : OkW rs ws (x, []) := ⟨x, h, [], .start, srt_nil.symm⟩
theorem okw_name {m : Nat} {rs : List Rl} (D : DrB m rs) {ws : List Str} (hw : ∀ x ∈ ws, dName (.str x) = true) {p : Place} (h : OkW rs ws p) : dName (.str p.1) = true := by
  obtain ⟨x, mx, ks, c, _⟩ := h
  exact chain_name D.bk (hw x mx) c
theorem kin_few {m : Nat} {rs : List Rl} (D : DrB m rs) {z : Str} {cs : List Str} (nd : cs.Nodup) (h : ∀ y ∈ cs, ∃ ks, Chain rs z ks y) : cs.length ≤ 640 := by
  have y := nodup_len (m := (plc rs z).map (·.1)) nd fun y my => by
    obtain ⟨ks, c⟩ := h y my
    exact List.mem_map.mpr ⟨(y, srt ks), plc_in ⟨ks, c, rfl⟩, rfl⟩
  rw [List.length_map] at y
  exact Nat.le_trans y (Nat.le_trans (plc_len D.len _) D.sum)
end Lk

/-! K22O -/
set_option Elab.async false
set_option linter.all false
set_option maxRecDepth 100000
set_option maxHeartbeats 4000000
namespace Lk
open PySem PySem.Spec PyProof.Rows L2
theorem lo_up {c : Nat} (h : loB c = true) : upB c = false := by
  unfold loB at h
  unfold upB
  simp only [Bool.and_eq_true, decide_eq_true_eq] at h
  rw [Bool.and_eq_false_iff]
  exact .inr (decide_eq_false (by omega))
theorem nm_heads {z : Str} {h t : List Nat} (n : Nm z h t) : (∀ c ∈ h, upB c = true) ∧ ∀ c ∈ t, loB c = true :=
  ⟨fun c hc => by
    have z := n.up c hc
    unfold Up at z
    unfold upB
    rw [decide_eq_true z.1, decide_eq_true z.2]
    rfl, fun c hc => by
    have z := n.lo c hc
    unfold Lo at z
    unfold loB
    rw [decide_eq_true z.1, decide_eq_true z.2]
    rfl⟩
theorem split_caps : ∀ {h t : List Nat}, (∀ c ∈ h, upB c = true) → (∀ c ∈ t, loB c = true) → (h ++ t).takeWhile upB = h ∧ (h ++ t).dropWhile upB = t
  | [], [], _, _ => ⟨rfl, rfl⟩
  | [], c :: t, _, ht => by
    have z := lo_up (ht c List.mem_cons_self)
    exact ⟨by simp [z], by simp [z]⟩
  | c :: h, t, hh, ht => by
    obtain ⟨a, b⟩ := split_caps (h := h) (t := t) (fun x hx => hh x (List.mem_cons_of_mem _ hx)) ht
    have z := hh c List.mem_cons_self
    exact ⟨by simp [z, a], by simp [z, b]⟩
theorem nm_split {z : Str} {h t : List Nat} (n : Nm z h t) : (TL.tl z).takeWhile upB = h ∧ (TL.tl z).dropWhile upB = t := by
  obtain ⟨a, b⟩ := nm_heads n
  rw [n.e]
  exact split_caps a b
theorem name_of {u v : List Nat} (hu : ∀ c ∈ u, upB c = true) (hv : ∀ c ∈ v, loB c = true) (ne : u ++ v ≠ []) : nmB (u ++ v) = true := nmB_app (List.all_eq_true.mpr hu) (List.all_eq_true.mpr hv) ne
theorem nm_isName {z : Str} {h t : List Nat} (n : Nm z h t) : dName (.str z) = true := by
  show nmB (TL.tl z) = true
  obtain ⟨a, b⟩ := nm_heads n
  rw [n.e]
  exact name_of a b n.ne
theorem shaped_tup {ss : List Str} (h : ∀ x ∈ ss, PyData.strOk x = true) : SeqAt.shaped (.tuple (ss.map PyData.str)) = true := by
  have h1 : ∀ l : List Str, (∀ x ∈ l, PyData.strOk x = true) → PyData.canLayAll0 (l.map PyData.str) = true ∧ PyData.depthAll (l.map PyData.str) = 0 := fun l => by
    induction l with
    | nil => exact fun _ => ⟨rfl, rfl⟩
    | cons x r ih =>
      intro h
      obtain ⟨a, b⟩ := ih fun y hy => h y (List.mem_cons_of_mem _ hy)
      refine ⟨?_, ?_⟩
      · rw [List.map_cons, PyData.canLayAll0, a, Bool.and_true]
        exact h x List.mem_cons_self
      · rw [List.map_cons, PyData.depthAll, b]
        rfl
  obtain ⟨a, b⟩ := h1 ss h
  unfold SeqAt.shaped
  rw [PyData.canLay0, a, PyData.depth, b]
  rfl

theorem dp_tup {K : PySem.W.Frag} {H : Hp} : ∀ ss : List Str, DpAll K H (ss.map V.str) (ss.map PyData.str)
  | [] => .nil
  | x :: r => .cons (.str x) (dp_tup r)
theorem shaped_lst {ss : List Str} (h : ∀ x ∈ ss, PyData.strOk x = true) : SeqAt.shaped (.list (ss.map PyData.str)) = true := by
  have z := shaped_tup h
  simpa [SeqAt.shaped, PyData.canLay0, PyData.depth] using z
/-! repr of drawn rules -/
theorem rl_pl {most : Nat} {r : Rl} (h : RlOk most r) : Pl 3 r.d := by
  have h0 : ∀ x ∈ (["cc", "as", "link", "", "A", "B", "AB", "o", "c", "s", "co", "Ac", "Bo", "Ao"] : List Str), (PyData.str x).showable = true ∧ (PyData.str x).leavesShort 13 = true := by decide +kernel
  have one : ∀ x ∈ (["cc", "as", "link", "", "A", "B", "AB", "o", "c", "s", "co", "Ac", "Bo", "Ao"] : List Str), Pl 0 (.str x) := fun x m => ⟨(h0 x m).1, (h0 x m).2, Nat.le_refl _, rfl⟩
  have i1 : ∀ x ∈ (["cc", "as", "link"] : List Str), x ∈ (["cc", "as", "link", "", "A", "B", "AB", "o", "c", "s", "co", "Ac", "Bo", "Ao"] : List Str) := by decide +kernel
  have i2 : ∀ x ∈ (["", "A", "B"] : List Str), x ∈ (["cc", "as", "link", "", "A", "B", "AB", "o", "c", "s", "co", "Ac", "Bo", "Ao"] : List Str) := by decide +kernel
  have i3 : ∀ x ∈ (["o", "c", "", "s"] : List Str), x ∈ (["cc", "as", "link", "", "A", "B", "AB", "o", "c", "s", "co", "Ac", "Bo", "Ao"] : List Str) := by decide +kernel
  have i4 : ∀ x ∈ (["", "A", "B", "AB"] : List Str), x ∈ (["cc", "as", "link", "", "A", "B", "AB", "o", "c", "s", "co", "Ac", "Bo", "Ao"] : List Str) := by decide +kernel
  have i5 : ∀ x ∈ (["", "c", "o", "s", "co"] : List Str), x ∈ (["cc", "as", "link", "", "A", "B", "AB", "o", "c", "s", "co", "Ac", "Bo", "Ao"] : List Str) := by decide +kernel
  have i6 : ∀ x ∈ (["A", "Ac", "Bo", "s", "Ao"] : List Str), x ∈ (["cc", "as", "link", "", "A", "B", "AB", "o", "c", "s", "co", "Ac", "Bo", "Ao"] : List Str) := by decide +kernel
  have two : ∀ {x y : Str}, Pl 0 (.str x) → Pl 0 (.str y) → Pl 1 (.tuple [.str x, .str y]) := fun hx hy => pl_tup fun d m => by
    rcases List.mem_cons.mp m with e | m
    · rw [e]
      exact hx
    · rw [List.mem_singleton.mp m]
      exact hy
  have srcs : Pl 2 (.tuple (r.ss.map Src.d)) := pl_tup fun d m => by
    obtain ⟨s, ms, rfl⟩ := List.mem_map.mp m
    have q := h.ss s ms
    cases s with
    | pat b e =>
      obtain ⟨q1, q2, _⟩ : b ∈ (["", "A", "B", "AB"] : List Str) ∧ e ∈ (["", "c", "o", "s", "co"] : List Str) ∧ ¬ (b = "" ∧ e = "") := q
      exact two (one b (i4 b q1)) (one e (i5 e q2))
    | nm x => exact (one x (i6 x q)).le (by decide)
  refine pl_tup fun d m => ?_
  rcases List.mem_cons.mp m with e | m
  · rw [e]
    exact (one _ (i1 _ h.lab)).le (by decide)
  · rcases List.mem_cons.mp m with e | m
    · rw [e]
      exact (two (one _ (i2 _ h.b)) (one _ (i3 _ h.e))).le (by decide)
    · rw [List.mem_singleton.mp m]
      exact srcs
theorem book_wf {most : Nat} {rs : List Rl} (h : ∀ r ∈ rs, RlOk most r) (hB : dBook (.tuple (rs.map Rl.d)) = true) : Wf (.tuple (rs.map Rl.d)) :=
  (pl_tup (k := 3) fun d m => by
    obtain ⟨r, mr, rfl⟩ := List.mem_map.mp m
    exact rl_pl (h r mr)).wf (by decide) (book_bulk hB)
theorem noPot_tuple {ds : List PyData} (h : ∀ d ∈ ds, noPot d = true) : noPot (.tuple ds) = true := by
  have z : noPotAll ds = true := by
    induction ds with
    | nil => rfl
    | cons d ds ih =>
      rw [noPotAll, h d List.mem_cons_self, ih fun e m => h e (List.mem_cons_of_mem _ m)]
      rfl
  rw [noPot]
  exact z
theorem book_flat {rs : List Rl} : noPot (.tuple (rs.map Rl.d)) = true := noPot_tuple fun e he => by
  obtain ⟨r, _, rfl⟩ := List.mem_map.mp he
  exact (rl_flat r).2
theorem th_ints2 {K : PySem.W.Frag} {H : Hp} {v : V} {n m : Nat} (h : Th K H v (.tuple [.int (n : Int), .int (m : Int)])) : ∃ q, v = .ref q ∧ SqT K H q [.int (n : Int), .int (m : Int)] := by
  cases h with
  | tup hs ha =>
    cases ha with
    | cons h1 t =>
      cases t with
      | cons h2 t =>
        cases t
        cases h1
        cases h2
        exact ⟨_, rfl, hs⟩
theorem pl_str {x : Str} (h : PyData.strOk x = true) : Pl 0 (.str x) := by
  refine ⟨rfl, ?_, Nat.le_refl _, rfl⟩
  have z := ok_iff.mp h
  show (x.cps.toList.all fun c => decide (c < 16 ^ 8)) = true
  rw [List.all_eq_true]
  intro c mc
  have y := z c mc
  rw [decide_eq_true_eq]
  omega
theorem pl_lst {k : Nat} {ds : List PyData} (h : ∀ d ∈ ds, Pl k d) : Pl (k + 1) (.list ds) := by
  obtain ⟨a, b, c, e⟩ := pl_all h
  refine ⟨?_, ?_, ?_, ?_⟩
  · rw [PyData.showable]
    exact a
  · rw [PyData.leavesShort]
    exact b
  · rw [PyData.depth]
    omega
  · rw [PyData.hasDict]
    exact e
end Lk

/-! K22P -/
set_option Elab.async false
set_option linter.all false
set_option maxRecDepth 100000
set_option maxHeartbeats 4000000
namespace Lk
open PySem PySem.Spec PyProof.Rows L2
theorem bulkAll_app : ∀ xs ys : List PyData, PyData.bulkAll (xs ++ ys) = PyData.bulkAll xs + PyData.bulkAll ys
  | [], ys => by
    rw [List.nil_append]
    show _ = 0 + _
    omega
  | x :: xs, ys => by
    rw [List.cons_append, PyData.bulkAll, PyData.bulkAll, bulkAll_app xs ys]
    omega
theorem sh_all {ds : List PyData} : PyData.showableAll ds = true ↔ ∀ d ∈ ds, d.showable = true := by
  induction ds with
  | nil => exact ⟨(fun _ _ m => nomatch m), fun _ => rfl⟩
  | cons x xs ih =>
    rw [PyData.showableAll, Bool.and_eq_true, ih]
    exact ⟨fun h e m => (List.mem_cons.mp m).elim (fun z => z ▸ h.1) (h.2 e), fun h => ⟨h x List.mem_cons_self, fun e m => h e (List.mem_cons_of_mem _ m)⟩⟩
theorem lv_all {ds : List PyData} : PyData.leavesShortAll 13 ds = true ↔ ∀ d ∈ ds, d.leavesShort 13 = true := by
  induction ds with
  | nil => exact ⟨(fun _ _ m => nomatch m), fun _ => rfl⟩
  | cons x xs ih =>
    rw [PyData.leavesShortAll, Bool.and_eq_true, ih]
    exact ⟨fun h e m => (List.mem_cons.mp m).elim (fun z => z ▸ h.1) (h.2 e), fun h => ⟨h x List.mem_cons_self, fun e m => h e (List.mem_cons_of_mem _ m)⟩⟩
theorem nl_all {ds : List PyData} : noLstAll ds = true ↔ ∀ d ∈ ds, noLst d = true := by
  induction ds with
  | nil => exact ⟨(fun _ _ m => nomatch m), fun _ => rfl⟩
  | cons x xs ih =>
    rw [noLstAll, Bool.and_eq_true, ih]
    exact ⟨fun h e m => (List.mem_cons.mp m).elim (fun z => z ▸ h.1) (h.2 e), fun h => ⟨h x List.mem_cons_self, fun e m => h e (List.mem_cons_of_mem _ m)⟩⟩
theorem np_all {ds : List PyData} : noPotAll ds = true ↔ ∀ d ∈ ds, noPot d = true := by
  induction ds with
  | nil => exact ⟨(fun _ _ m => nomatch m), fun _ => rfl⟩
  | cons x xs ih =>
    rw [noPotAll, Bool.and_eq_true, ih]
    exact ⟨fun h e m => (List.mem_cons.mp m).elim (fun z => z ▸ h.1) (h.2 e), fun h => ⟨h x List.mem_cons_self, fun e m => h e (List.mem_cons_of_mem _ m)⟩⟩
theorem hd_all {ds : List PyData} : PyData.hasDictAll ds = false ↔ ∀ d ∈ ds, d.hasDict = false := by
  induction ds with
  | nil => exact ⟨(fun _ _ m => nomatch m), fun _ => rfl⟩
  | cons x xs ih =>
    rw [PyData.hasDictAll, Bool.or_eq_false_iff, ih]
    exact ⟨fun h e m => (List.mem_cons.mp m).elim (fun z => z ▸ h.1) (h.2 e), fun h => ⟨h x List.mem_cons_self, fun e m => h e (List.mem_cons_of_mem _ m)⟩⟩
mutual
theorem hasDict_lay : ∀ d : PyData, d.canLay0 = true → d.hasDict = false
  | .none, _ => rfl
  | .bool _, _ => rfl
  | .int _, _ => rfl
  | .str _, _ => rfl
  | .list xs, h => by
    unfold PyData.hasDict
    unfold PyData.canLay0 at h
    exact hasDictAll_lay xs h
  | .tuple xs, h => by
    unfold PyData.hasDict
    unfold PyData.canLay0 at h
    exact hasDictAll_lay xs h
  | .dict kvs, h => nomatch h
theorem hasDictAll_lay : ∀ xs : List PyData, PyData.canLayAll0 xs = true → PyData.hasDictAll xs = false
  | [], _ => rfl
  | x :: xs, h => by
    unfold PyData.canLayAll0 at h
    rw [Bool.and_eq_true] at h
    unfold PyData.hasDictAll
    rw [hasDict_lay x h.1, hasDictAll_lay xs h.2]
    rfl
end
section
variable {K : PySem.W.Frag} {H H' : Hp} {p c : Addr} {σ : L2.St}
theorem pick_N {te : TE} {ds : List PyData} {Q : VK} {i : Nat} (h : MkN K te σ H ds) (hn : noPotAll ds = true) (l0 : 0 < ds.length) (l1 : ds.length ≤ 1000) (hP : PotAt p c H) (hi : σ[i]? = some (some (.ref p)))
    (k : ∀ v d H', d ∈ ds → Th K H' v d → Ext p c H H' → Q v H') : tCall (spPick K) [] E0 (tCons (tVar i) (tCons te tNil)) σ H Q :=
  ⟨_, hi, h H (Same.refl H) _ fun l xs H1 s1 nl t1 => by
    have hl := thAll_len t1
    have P1 := hP.same s1
    have s2 : Same H1 (upd H1 l (.lst xs)) := same_upd nl
    refine ⟨p, c, l, xs, rfl, P1.same s2, SqL.of upd_same, P1.nep nl, by omega, by omega, fun v H2 hv e2 => ?_⟩
    obtain ⟨d, hd, ht⟩ := th_of_mem t1 hv
    exact k v d H2 hd (th_ext (P1.same s2) e2 (th_same s2 ht) (noPot_of hn hd)) (Ext.pre (s1.trans s2) e2)⟩
end
/-! ### things: rows, and such with one change -/
section
variable {K : PySem.W.Frag} {H0 : Hp} {σ : L2.St} {te tf : TE} {ds es : List PyData}
theorem thAll_rev {H : Hp} : ∀ {vs : List V} {ds : List PyData}, ThAll K H vs ds → ThAll K H vs.reverse ds.reverse
  | _, _, .nil => .nil
  | _, _, .cons r t => by
    rw [List.reverse_cons, List.reverse_cons]
    exact thAll_app (thAll_rev t) (.cons r .nil)
theorem mk_slL {tl th : TO} {lo hi : Option Int} (h : MkL K te σ H0 ds) (hl : MkP tl σ H0 lo) (hh : MkP th σ H0 hi) : MkL K (tSl (rSlL K) te tl th) σ H0 (cutL ds lo hi) := fun H s Q q =>
  h H s _ fun p xs H1 s1 e1 t1 => hl H1 (s.trans s1) _ fun H2 s2 => hh H2 ((s.trans s1).trans s2) _ fun H3 s3 => by
    have x3 := s2.trans s3
    refine ⟨p, xs, rfl, SqL.of (x3 _ _ e1), fun r nr => ?_⟩
    exact q r _ _ ((s1.trans x3).trans (same_upd nr)) upd_same (thAll_same (x3.trans (same_upd nr)) (thAll_cut lo hi t1))
theorem mk_revL (h : MkL K te σ H0 ds) : MkL K (tRevL K te) σ H0 ds.reverse := fun H s Q q =>
  h H s _ fun p xs H1 s1 e1 t1 => ⟨p, xs, rfl, SqL.of e1, fun r nr => q r _ _ (s1.trans (same_upd nr)) upd_same (thAll_same (same_upd nr) (thAll_rev t1))⟩
theorem mk_ixL {i j : Nat} {p : Addr} {xs : List V} {n : Int} {v : V} {d : PyData} (hi : σ[i]? = some (some (.ref p))) (hj : σ[j]? = some (some (.int n))) (e : H0 p = some (.lst xs)) (hv : atI xs n = some v) (t : Th K H0 v d) : Mk1 K (tOp (rIxL K) (tVar i) (tVar j)) σ H0 d := fun H s Q q =>
  ⟨_, hi, _, hj, p, xs, n, v, rfl, rfl, SqL.of (s _ _ e), hv, q v H (Same.refl H) (th_same s t)⟩
theorem mk_sub {i j : Int} : Mk1 K (tOp (rI0 fun a b => V.int (a - b)) (tC (.int i)) (tC (.int j))) σ H0 (.int (i - j)) := fun H s Q q => ⟨i, j, rfl, rfl, q _ H (Same.refl H) (.int _)⟩
end
/-- an object without dicts, of limited size -/
structure Ob (k b : Nat) (d : PyData) : Prop where
  sh : d.showable = true
  lv : d.leavesShort 13 = true
  dp : d.depth ≤ k
  bk : d.bulk ≤ b
  np : noPot d = true
  cl : d.canLay0 = true
theorem Ob.le {k b k' b' : Nat} {d : PyData} (h : Ob k b d) (hk : k ≤ k') (hb : b ≤ b') : Ob k' b' d := ⟨h.sh, h.lv, Nat.le_trans h.dp hk, Nat.le_trans h.bk hb, h.np, h.cl⟩
theorem Ob.wf {k b : Nat} {d : PyData} (h : Ob k b d) (hk : k ≤ 60) (hb : b ≤ 1000000) : Wf d := ⟨h.sh, h.lv, Nat.le_trans h.bk hb, Nat.le_trans h.dp hk, .inl (hasDict_lay d h.cl)⟩
section
variable {k i j l : Nat} {a b c : PyData}
theorem ob_non : Ob 0 0 .none := ⟨rfl, rfl, Nat.le_refl _, Nat.le_refl _, rfl, rfl⟩
theorem ob_bl {x : Bool} : Ob 0 0 (.bool x) := ⟨rfl, rfl, Nat.le_refl _, Nat.le_refl _, rfl, rfl⟩
theorem ob_str {x : Str} {b : Nat} (h : PyData.strOk x = true) (le : x.length ≤ b) : Ob 0 b (.str x) := ⟨(pl_str h).sh, (pl_str h).lv, Nat.le_refl _, le, rfl, h⟩
theorem ob_nat : ∀ n : Fin 100, (PyData.int (n.val : Int)).leavesShort 13 = true ∧ (PyData.int (n.val : Int)).showable = true := by decide +kernel
theorem ob_int {n : Nat} (h : n < 100) : Ob 0 0 (.int (n : Int)) := ⟨(ob_nat ⟨n, h⟩).2, (ob_nat ⟨n, h⟩).1, Nat.le_refl _, Nat.le_refl _, rfl, rfl⟩
theorem ob_neg : Ob 0 0 (.int (0 - 1)) := ⟨by decide +kernel, by decide +kernel, Nat.le_refl _, Nat.le_refl _, rfl, rfl⟩
theorem ob_tup {ds : List PyData} (h : ∀ d ∈ ds, Ob k i d) {b : Nat} (hb : PyData.bulkAll ds ≤ b) : Ob (k + 1) b (.tuple ds) := by
  refine ⟨?_, ?_, ?_, hb, ?_, ?_⟩
  · rw [PyData.showable]
    exact sh_all.mpr fun d m => (h d m).sh
  · rw [PyData.leavesShort]
    exact lv_all.mpr fun d m => (h d m).lv
  · rw [PyData.depth]
    have := depth_all (b := k) fun d m => (h d m).dp
    omega
  · unfold noPot
    exact np_all.mpr fun d m => (h d m).np
  · rw [PyData.canLay0]
    exact canLay_all.mpr fun d m => (h d m).cl
theorem ob_list {ds : List PyData} (h : ∀ d ∈ ds, Ob k i d) {b : Nat} (hb : PyData.bulkAll ds ≤ b) (no : potLike ds = false) : Ob (k + 1) b (.list ds) := by
  refine ⟨?_, ?_, ?_, hb, ?_, ?_⟩
  · rw [PyData.showable]
    exact sh_all.mpr fun d m => (h d m).sh
  · rw [PyData.leavesShort]
    exact lv_all.mpr fun d m => (h d m).lv
  · rw [PyData.depth]
    have := depth_all (b := k) fun d m => (h d m).dp
    omega
  · unfold noPot
    rw [no, np_all.mpr fun d m => (h d m).np]
    rfl
  · rw [PyData.canLay0]
    exact canLay_all.mpr fun d m => (h d m).cl
theorem ob_t1 (ha : Ob k i a) : Ob (k + 1) (i + 1) (.tuple [a]) := ob_tup (k := k) (i := i) (fun d m => by rw [List.mem_singleton.mp m]; exact ha) (by have := ha.bk; show a.bulk + 1 + 0 ≤ _; omega)
theorem two {P : PyData → Prop} (ha : P a) (hb : P b) : ∀ d ∈ [a, b], P d := fun d m => by
  rcases List.mem_cons.mp m with rfl | m
  · exact ha
  · rw [List.mem_singleton.mp m]
    exact hb
theorem ob_t2 (ha : Ob k i a) (hb : Ob k j b) : Ob (k + 1) (i + j + 2) (.tuple [a, b]) := ob_tup (k := k) (i := i + j) (two (ha.le (Nat.le_refl _) (by omega)) (hb.le (Nat.le_refl _) (by omega))) (by have := ha.bk; have := hb.bk; show a.bulk + 1 + (b.bulk + 1 + 0) ≤ _; omega)
theorem pot2 : potLike [a, b] = false := by
  unfold potLike
  split
  · rename_i e
    have := congrArg List.length e
    simp at this
  · rfl
theorem ob_l2 (ha : Ob k i a) (hb : Ob k j b) : Ob (k + 1) (i + j + 2) (.list [a, b]) := ob_list (k := k) (i := i + j) (two (ha.le (Nat.le_refl _) (by omega)) (hb.le (Nat.le_refl _) (by omega))) (by have := ha.bk; have := hb.bk; show a.bulk + 1 + (b.bulk + 1 + 0) ≤ _; omega) pot2
theorem ob_t3 (ha : Ob k i a) (hb : Ob k j b) (hc : Ob k l c) : Ob (k + 1) (i + j + l + 3) (.tuple [a, b, c]) := ob_tup (k := k) (i := i + j + l) (fun d m => by
  rcases List.mem_cons.mp m with rfl | m
  · exact ha.le (Nat.le_refl _) (by omega)
  · exact two (P := Ob k (i + j + l)) (hb.le (Nat.le_refl _) (by omega)) (hc.le (Nat.le_refl _) (by omega)) d m) (by have := ha.bk; have := hb.bk; have := hc.bk; show a.bulk + 1 + (b.bulk + 1 + (c.bulk + 1 + 0)) ≤ _; omega)
end
def Ints (ds : List PyData) : Prop := ∀ d ∈ ds, Ob 0 0 d
theorem ints_bulk {ds : List PyData} (h : Ints ds) : PyData.bulkAll ds ≤ ds.length := by
  have := bulkAll_le (c := 0) (ds := ds) fun d m => (h d m).bk
  omega
theorem ob_ints {ds : List PyData} (h : Ints ds) {n : Nat} (l : ds.length ≤ n) : Ob 1 n (.tuple ds) := ob_tup h (Nat.le_trans (ints_bulk h) l)
theorem ob_lints {ds : List PyData} (h : Ints ds) (l : ds.length ≤ 3) : Ob 1 3 (.list ds) := ob_list h (Nat.le_trans (ints_bulk h) l) (by
  unfold potLike
  split
  · simp at l
  · rfl)
/-- what stands in a thing -/
structure El (e : PyData) : Prop where
  ob : Ob 3 60 e
  ni : ∀ i, e ≠ .int i
theorem no_pot {es : List PyData} (h : ∀ e ∈ es, ∀ i, e ≠ .int i) : potLike es = false := by
  unfold potLike
  split
  · rename_i i _ _
    exact absurd rfl (h (.int i) (by simp) i)
  · rfl
/-- a thing -/
def Thg (d : PyData) : Prop := d = .dict [] ∨ (Ob 4 40000 d ∧ ∀ es, d = .list es → es.length ≤ 650 ∧ ∀ e ∈ es, Ob 3 60 e)
theorem many_bulk {es : List PyData} (h : ∀ e ∈ es, Ob 3 60 e) (l : es.length ≤ 650) : PyData.bulkAll es ≤ 40000 := by
  have := bulkAll_le (c := 60) (ds := es) fun d m => (h d m).bk
  have : es.length * (60 + 1) ≤ 650 * (60 + 1) := Nat.mul_le_mul_right _ l
  omega
theorem thg_list {es : List PyData} (h : ∀ e ∈ es, El e) (l : es.length ≤ 650) : Thg (.list es) := .inr ⟨ob_list (fun e m => (h e m).ob) (many_bulk (fun e m => (h e m).ob) l) (no_pot fun e m => (h e m).ni), fun es' e => by
  cases e
  exact ⟨l, fun e m => (h e m).ob⟩⟩
theorem thg_tup {es : List PyData} (h : ∀ e ∈ es, El e) (l : es.length ≤ 650) : Thg (.tuple es) := .inr ⟨ob_tup (fun e m => (h e m).ob) (many_bulk (fun e m => (h e m).ob) l), fun es' e => nomatch e⟩
theorem Thg.small {d : PyData} (h : Thg d) : SmallB d ∧ OkB d ∧ d.bulk ≤ 100000 ∧ Wf d ∧ noPot d = true := by
  rcases h with rfl | ⟨ob, hl⟩
  · exact ⟨(fun ds e => nomatch e), (fun ds e => nomatch e), by decide, ⟨rfl, rfl, by decide, by decide, .inr rfl⟩, rfl⟩
  · refine ⟨fun ds e => ?_, fun ds e a b m => ?_, Nat.le_trans ob.bk (by decide), ob.wf (by decide) (by decide), ob.np⟩
    · obtain ⟨l, h2⟩ := hl ds e
      refine ⟨by omega, fun e me a ns ee => ?_⟩
      have z := (h2 e me).bk
      rw [ee] at z
      have e1 : (PyData.tuple [a, .tuple ns]).bulk = a.bulk + 1 + (PyData.bulkAll ns + 1 + 0) := rfl
      have len : ns.length ≤ PyData.bulkAll ns := by
        clear z e1 ee
        induction ns with
        | nil => exact Nat.le_refl _
        | cons n ns ih =>
          have e : PyData.bulkAll (n :: ns) = n.bulk + 1 + PyData.bulkAll ns := rfl
          rw [List.length_cons]
          omega
      refine ⟨by omega, fun x ex => ?_⟩
      have e2 : a.bulk = x.length := by rw [ex]; rfl
      omega
    · obtain ⟨_, h2⟩ := hl ds e
      have z := (h2 _ m).cl
      rw [PyData.canLay0] at z
      have z2 := canLay_all.mp z a List.mem_cons_self
      cases a with
      | str x => exact z2
      | _ => rfl

/-! ### a thing with one change -/
def RowS (q : NK) : Prop := PyData.strOk q.1 = true ∧ q.1.length ≤ 42 ∧ q.2.length ≤ 3 ∧ ∀ n ∈ q.2, n < 100
def intsN (ns : List Nat) : List PyData := ns.map fun n : Nat => .int (n : Int)
theorem intsN_ok {ns : List Nat} (h : ∀ n ∈ ns, n < 100) : Ints (intsN ns) := fun d m => by
  obtain ⟨n, mn, rfl⟩ := List.mem_map.mp m
  exact ob_int (h n mn)
theorem Ints.app {xs ys : List PyData} (h : Ints xs) (g : Ints ys) : Ints (xs ++ ys) := fun d m => (List.mem_append.mp m).elim (h d) (g d)
theorem Ints.rev {xs : List PyData} (h : Ints xs) : Ints xs.reverse := fun d m => h d (List.mem_reverse.mp m)
theorem Ints.one {d : PyData} (h : Ob 0 0 d) : Ints [d] := fun e m => by
  rw [List.mem_singleton.mp m]
  exact h
theorem el_tup {ds : List PyData} (h : Ob 3 60 (.tuple ds)) : El (.tuple ds) := ⟨h, fun _ e => nomatch e⟩
theorem row_el {q : NK} (h : RowS q) : El (rowD q) := el_tup ((ob_t2 ((ob_str h.1 h.2.1).le (Nat.zero_le 1) (Nat.le_refl _)) (ob_ints (intsN_ok h.2.2.2) (n := 3) (by unfold intsN; rw [List.length_map]; exact h.2.2.1))).le (by decide) (by decide))
def o1 (x : Str) (N : List PyData) : List PyData := [.none, .tuple [.str x], .tuple [.str x, .tuple N, .int 0], .list [.str x, .tuple N], .tuple [.str x, .list N], .tuple [.str x, .tuple (N ++ [.int 99])]]
def o2 (x : Str) (N : List PyData) (od : PyData) : List PyData := [od, .tuple [.str x, .tuple [.bool true]], .tuple [.str "aA", .tuple N], .tuple [.none, .tuple N], .tuple [.str x, .tuple (N ++ N)], .tuple [.str x, .none], .str "x"]
def o3 (x : Str) (N : List PyData) (od : PyData) : List PyData := [od, od, .tuple [.str x, .tuple [.int 1, .int 0]], .tuple [.str x, .tuple (N.reverse ++ [.int 0])], .tuple [.str x, .tuple [.int (0 - 1)]], .tuple [.str x, .tuple [.str "0"]]]
def o4 (x : Str) (od : PyData) : List PyData := [od, od, od, .tuple [.str x, .tuple [.none]], .tuple [.str x, .tuple [.tuple [.int 0]]], .tuple [.str x, .tuple [.bool false]], .tuple [.str "Zzzz", .tuple [.int 1, .int 0]]]
theorem i0 : Ob 0 0 (.int 0) := ob_int (n := 0) (by decide)
theorem i1 : Ob 0 0 (.int 1) := ob_int (n := 1) (by decide)
theorem i99 : Ob 0 0 (.int 99) := ob_int (n := 99) (by decide)
section
variable {x : Str} {N : List PyData}
theorem el2 {k i j : Nat} {a b : PyData} (ha : Ob k i a) (hb : Ob k j b) (hk : k ≤ 2) (hs : i + j + 2 ≤ 60) : El (.tuple [a, b]) := el_tup ((ob_t2 ha hb).le (by omega) hs)
theorem o1_el (hx : PyData.strOk x = true) (lx : x.length ≤ 42) (hN : Ints N) (lN : N.length ≤ 3) : ∀ d ∈ o1 x N, El d := by
  have X1 : Ob 1 42 (.str x) := (ob_str hx lx).le (by decide) (Nat.le_refl _)
  have T1 : Ob 1 3 (.tuple N) := ob_ints hN lN
  intro d m
  simp only [o1, List.mem_cons, List.mem_nil_iff, or_false] at m
  rcases m with rfl | rfl | rfl | rfl | rfl | rfl
  · exact ⟨ob_non.le (by decide) (by decide), fun _ e => nomatch e⟩
  · exact el_tup ((ob_t1 X1).le (by decide) (by decide))
  · exact el_tup ((ob_t3 X1 T1 (i0.le (k' := 1) (by decide) (Nat.le_refl _))).le (by decide) (by decide))
  · exact ⟨(ob_l2 X1 T1).le (by decide) (by decide), fun _ e => nomatch e⟩
  · exact el2 X1 (ob_lints hN lN) (by decide) (by decide)
  · exact el2 X1 (ob_ints (n := 4) (hN.app (.one i99)) (by rw [List.length_append]; show _ + 1 ≤ 4; omega)) (by decide) (by decide)
theorem o2_el (hx : PyData.strOk x = true) (lx : x.length ≤ 42) (hN : Ints N) (lN : N.length ≤ 3) {od : PyData} (ho : El od) : ∀ d ∈ o2 x N od, El d := by
  have X1 : Ob 1 42 (.str x) := (ob_str hx lx).le (by decide) (Nat.le_refl _)
  have T1 : Ob 1 3 (.tuple N) := ob_ints hN lN
  intro d m
  simp only [o2, List.mem_cons, List.mem_nil_iff, or_false] at m
  rcases m with rfl | rfl | rfl | rfl | rfl | rfl | rfl
  · exact ho
  · exact el2 X1 (ob_t1 ob_bl) (by decide) (by decide)
  · exact el2 ((ob_str (x := "aA") (b := 2) (by decide +kernel) (by decide +kernel)).le (by decide) (Nat.le_refl _)) T1 (by decide) (by decide)
  · exact el2 (ob_non.le (by decide) (Nat.le_refl _)) T1 (by decide) (by decide)
  · exact el2 X1 (ob_ints (n := 6) (hN.app hN) (by rw [List.length_append]; omega)) (by decide) (by decide)
  · exact el2 X1 (ob_non.le (k' := 1) (by decide) (Nat.le_refl _)) (by decide) (by decide)
  · exact ⟨(ob_str (x := "x") (b := 1) (by decide +kernel) (by decide +kernel)).le (by decide) (by decide), fun _ e => nomatch e⟩
theorem o3_el (hx : PyData.strOk x = true) (lx : x.length ≤ 42) (hN : Ints N) (lN : N.length ≤ 3) {od : PyData} (ho : El od) : ∀ d ∈ o3 x N od, El d := by
  have X1 : Ob 1 42 (.str x) := (ob_str hx lx).le (by decide) (Nat.le_refl _)
  intro d m
  simp only [o3, List.mem_cons, List.mem_nil_iff, or_false] at m
  rcases m with rfl | rfl | rfl | rfl | rfl | rfl
  · exact ho
  · exact ho
  · exact el2 X1 (ob_t2 i1 i0) (by decide) (by decide)
  · exact el2 X1 (ob_ints (n := 4) (hN.rev.app (.one i0)) (by rw [List.length_append, List.length_reverse]; show _ + 1 ≤ 4; omega)) (by decide) (by decide)
  · exact el2 X1 (ob_t1 ob_neg) (by decide) (by decide)
  · exact el2 X1 (ob_t1 (ob_str (x := "0") (b := 1) (by decide +kernel) (by decide +kernel))) (by decide) (by decide)
theorem o4_el (hx : PyData.strOk x = true) (lx : x.length ≤ 42) {od : PyData} (ho : El od) : ∀ d ∈ o4 x od, El d := by
  have X1 : Ob 1 42 (.str x) := (ob_str hx lx).le (by decide) (Nat.le_refl _)
  intro d m
  simp only [o4, List.mem_cons, List.mem_nil_iff, or_false] at m
  rcases m with rfl | rfl | rfl | rfl | rfl | rfl | rfl
  · exact ho
  · exact ho
  · exact ho
  · exact el2 X1 (ob_t1 ob_non) (by decide) (by decide)
  · exact el2 (X1.le (k' := 2) (by decide) (Nat.le_refl _)) (ob_t1 (ob_t1 i0)) (by decide) (by decide)
  · exact el2 X1 (ob_t1 ob_bl) (by decide) (by decide)
  · exact el2 ((ob_str (x := "Zzzz") (b := 4) (by decide +kernel) (by decide +kernel)).le (by decide) (Nat.le_refl _)) (ob_t2 i1 i0) (by decide) (by decide)
end
def bentA (ds : List PyData) (od e : PyData) (r : Int) : List PyData := [.list (cutL ds none (some r) ++ cutL ds (some (r + 1)) none), .list ((cutL ds none (some r) ++ [od]) ++ cutL ds (some (r + 1)) none), .list (ds ++ [od]), .tuple ds, .list (ds ++ [e])]
def bentB (ds : List PyData) : List PyData := [.list ds.reverse, .list (ds ++ [.tuple [.str "Zzzz", .tuple []]]), .list (ds ++ [.tuple [.str "Zzzz", .tuple [.int 0]]]), .list (cutL ds none (some 1)), .list (cutL ds (some 1) none)]
theorem len_cut2 (ds : List PyData) {r : Int} (r0 : 0 ≤ r) : (cutL ds none (some r)).length + (cutL ds (some (r + 1)) none).length ≤ ds.length := by
  rw [cutL_to r0, cutL_from (by omega), List.length_take, List.length_drop]
  omega
theorem bent_thg {ds : List PyData} {od e : PyData} {r : Int} (r0 : 0 ≤ r) (h : ∀ d ∈ ds, El d) (l : ds.length ≤ 640) (ho : El od) (he : El e) : ∀ d ∈ bentA ds od e r ++ bentB ds, Thg d := by
  have ok : ∀ {xs : List PyData}, (∀ d ∈ xs, d ∈ ds ∨ El d) → ∀ d ∈ xs, El d := fun h2 d m => (h2 d m).elim (h d) id
  have one : ∀ {a : PyData}, El a → ∀ d ∈ ds ++ [a], El d := fun ha d m => (List.mem_append.mp m).elim (h d) fun m => by
    rw [List.mem_singleton.mp m]
    exact ha
  have zz : Ob 1 4 (.str "Zzzz") := (ob_str (x := "Zzzz") (b := 4) (by decide +kernel) (by decide +kernel)).le (by decide) (Nat.le_refl _)
  have l1 : ∀ {a : PyData}, (ds ++ [a]).length ≤ 650 := fun {a} => by
    rw [List.length_append]
    show _ + 1 ≤ _
    omega
  have lc := len_cut2 ds r0
  have cut : ∀ {lo hi : Option Int}, ∀ d ∈ cutL ds lo hi, El d := fun d m => h d (mem_cutL m)
  have cutl : ∀ {lo hi : Option Int}, (cutL ds lo hi).length ≤ 650 := fun {lo hi} => by
    have := len_cutL ds lo hi
    omega
  intro d m
  simp only [bentA, bentB, List.cons_append, List.nil_append, List.mem_cons, List.mem_nil_iff, or_false] at m
  rcases m with rfl | rfl | rfl | rfl | rfl | rfl | rfl | rfl | rfl | rfl
  · exact thg_list (fun d m => (List.mem_append.mp m).elim (cut d) (cut d)) (by rw [List.length_append]; omega)
  · refine thg_list (fun d m => (List.mem_append.mp m).elim (fun m => (List.mem_append.mp m).elim (cut d) fun m => ?_) (cut d)) (by rw [List.length_append, List.length_append]; show _ + 1 + _ ≤ _; omega)
    rw [List.mem_singleton.mp m]
    exact ho
  · exact thg_list (one ho) l1
  · exact thg_tup h (by omega)
  · exact thg_list (one he) l1
  · exact thg_list (fun d m => h d (List.mem_reverse.mp m)) (by rw [List.length_reverse]; omega)
  · exact thg_list (one (el2 zz (ob_ints (ds := []) (n := 0) (fun _ m => nomatch m) (Nat.le_refl _)) (by decide) (by decide))) l1
  · exact thg_list (one (el2 zz (ob_t1 i0) (by decide) (by decide))) l1
  · exact thg_list cut cutl
  · exact thg_list cut cutl
end Lk

/-! K22Q -/
set_option Elab.async false
set_option linter.all false
set_option maxRecDepth 100000
set_option maxHeartbeats 4000000
namespace Lk
open PySem PySem.Spec PyProof.Rows L2
def spBent2 (K : PySem.W.Frag) : Sp := fun vs H Q _ => ∃ (p c l : Addr) (xs : List V) (L : List NK) (D0 : Addr) (x0 : List V), vs = [.ref p, .ref l] ∧ PotAt p c H ∧ H l = some (.lst xs) ∧ l ≠ p ∧ ThAll K H xs (L.map rowD) ∧ (∀ q ∈ L, RowS q) ∧ 0 < L.length ∧ L.length ≤ 640 ∧ H D0 = some (.lst x0) ∧ D0 ≠ l ∧ D0 ≠ p ∧ D0 ≠ c ∧ ∀ (v : V) (d : PyData) (H' : Hp), Ext p c H H' → (∀ o, Th K (upd H' D0 o) v d) → Thg d → Q v H'
section
variable {P : Program} {w : World} {K : PySem.W.Frag} {mg : Str → Option Value} {base : Heap}
theorem sc_bent : FnScope ["pot", "rows", "at", "here", "spent", "odd", "some"] ["pot", "rows"] (defScope s_bent) := ⟨rfl, rfl, rfl, by decide +kernel, rfl, by decide +kernel, by decide +kernel⟩
theorem els_pot {ds : List PyData} (h : ∀ d ∈ ds, El d) : noPotAll ds = true := np_all.mpr fun d m => (h d m).ob.np
theorem ints_nl (ns : List Nat) : noLst (.tuple (intsN ns)) = true := by
  unfold noLst
  exact nl_all.mpr fun d m => by
    obtain ⟨n, _, rfl⟩ := List.mem_map.mp m
    rfl
theorem row_nl (q : NK) : noLst (rowD q) = true := by
  unfold rowD noLst
  exact nl_all.mpr (two rfl (ints_nl q.2))
theorem nex_ret {x : V} {i : Nat} {te : TE} {D : Ends} {σ : L2.St} {H : Hp} (h : te (σ.set i (some x)) H D.rt) : gName i x σ H (tRet te D) := h
set_option maxHeartbeats 0
theorem cal_bent (D : Def1 K mg "_law_bent" s_bent) (T : Glc mg) (G : Glb mg) (gl : mg "list" = none) (CB : Cal P w K mg base 2 "_law_below" spBelow) (CK : Cal P w K mg base 3 "_law_pick" (spPick K)) : Cal P w K mg base 4 "_law_bent" (spBent2 K) := by
  refine mkCal D sc_bent (fun _ _ _ _ _ _ us hl => match us, hl with | [_, _], _ => rfl) (fun vs H Q E h => ?_) (fun g cdv A outer s H vs Q E hr h => ?_)
  · obtain ⟨p, c, l, xs, L, D0, x0, rfl, _⟩ := h
    rfl
  · obtain ⟨p, c, l, xs, L, D0, x0, rfl, hP, hl, lp, th, hR, l0, l640, hD, Dl, Dp, Dc, k⟩ := h
    refine ⟨_, (pss_cons (ps_set (i := 2) sc_bent.nd rfl (.inl rfl) (pe_cal CB hr (by omega) (pa_cons (pv 0) (pa_cons (pe_callB call_len_seq (by rfl) G.len PySem.boot_len (pa_cons (pv 1) pa_nil)) pa_nil))))
    (pss_cons (ps_asg (pe_ix ix_list (pv 1) (pv 2) (fun _ _ => rfl)) (pg_tup rfl (pgs_cons (pg_name (i := 3) sc_bent.nd rfl (.inl rfl)) (pgs_cons (pg_name (i := 4) sc_bent.nd rfl (.inl rfl)) pgs_nil))))
    (pss_cons (ps_set (i := 5) sc_bent.nd rfl (.inl rfl) (pe_cal CK hr (by omega) (pa_cons (pv 0) (pa_cons (pe_lst (pa_cons pe_non (pa_cons (pe_tup (pa_cons (pv 3) pa_nil)) (pa_cons (pe_tup (pa_cons (pv 3) (pa_cons (pv 4) (pa_cons pe_int pa_nil)))) (pa_cons (pe_lst (pa_cons (pv 3) (pa_cons (pv 4) pa_nil))) (pa_cons (pe_tup (pa_cons (pv 3) (pa_cons (pe_callTy call_list_of (by rfl) gl (by decide +kernel) (pa_cons (pv 4) pa_nil)) pa_nil))) (pa_cons (pe_tup (pa_cons (pv 3) (pa_cons (pe_op op_catA (pv 4) (pe_tup (pa_cons pe_int pa_nil))) pa_nil))) pa_nil))))))) pa_nil))))
    (pss_cons (ps_set (i := 5) sc_bent.nd rfl (.inl rfl) (pe_cal CK hr (by omega) (pa_cons (pv 0) (pa_cons (pe_lst (pa_cons (pv 5) (pa_cons (pe_tup (pa_cons (pv 3) (pa_cons (pe_tup (pa_cons pe_bl pa_nil)) pa_nil))) (pa_cons (pe_tup (pa_cons pe_str (pa_cons (pv 4) pa_nil))) (pa_cons (pe_tup (pa_cons pe_non (pa_cons (pv 4) pa_nil))) (pa_cons (pe_tup (pa_cons (pv 3) (pa_cons (pe_op op_catA (pv 4) (pv 4)) pa_nil))) (pa_cons (pe_tup (pa_cons (pv 3) (pa_cons pe_non pa_nil))) (pa_cons pe_str pa_nil)))))))) pa_nil))))
    (pss_cons (ps_set (i := 5) sc_bent.nd rfl (.inl rfl) (pe_cal CK hr (by omega) (pa_cons (pv 0) (pa_cons (pe_lst (pa_cons (pv 5) (pa_cons (pv 5) (pa_cons (pe_tup (pa_cons (pv 3) (pa_cons (pe_tup (pa_cons pe_int (pa_cons pe_int pa_nil))) pa_nil))) (pa_cons (pe_tup (pa_cons (pv 3) (pa_cons (pe_op op_catA (pe_revT0 (pv 4)) (pe_tup (pa_cons pe_int pa_nil))) pa_nil))) (pa_cons (pe_tup (pa_cons (pv 3) (pa_cons (pe_tup (pa_cons (pe_op op_sub pe_int pe_int) pa_nil)) pa_nil))) (pa_cons (pe_tup (pa_cons (pv 3) (pa_cons (pe_tup (pa_cons pe_str pa_nil)) pa_nil))) pa_nil))))))) pa_nil))))
    (pss_cons (ps_set (i := 5) sc_bent.nd rfl (.inl rfl) (pe_cal CK hr (by omega) (pa_cons (pv 0) (pa_cons (pe_lst (pa_cons (pv 5) (pa_cons (pv 5) (pa_cons (pv 5) (pa_cons (pe_tup (pa_cons (pv 3) (pa_cons (pe_tup (pa_cons pe_non pa_nil)) pa_nil))) (pa_cons (pe_tup (pa_cons (pv 3) (pa_cons (pe_tup (pa_cons (pe_tup (pa_cons pe_int pa_nil)) pa_nil)) pa_nil))) (pa_cons (pe_tup (pa_cons (pv 3) (pa_cons (pe_tup (pa_cons pe_bl pa_nil)) pa_nil))) (pa_cons (pe_tup (pa_cons pe_str (pa_cons (pe_tup (pa_cons pe_int (pa_cons pe_int pa_nil))) pa_nil))) pa_nil)))))))) pa_nil))))
    (pss_cons (ps_set (i := 6) sc_bent.nd rfl (.inl rfl) (pe_lst (pa_cons (pe_op op_cat (pe_slice sl_list (pv 1) po_none (po_some (pv 2))) (pe_slice sl_list (pv 1) (po_some (pe_op op_add (pv 2) pe_int)) po_none)) (pa_cons (pe_op op_cat (pe_op op_cat (pe_slice sl_list (pv 1) po_none (po_some (pv 2))) (pe_lst (pa_cons (pv 5) pa_nil))) (pe_slice sl_list (pv 1) (po_some (pe_op op_add (pv 2) pe_int)) po_none)) (pa_cons (pe_op op_cat (pv 1) (pe_lst (pa_cons (pv 5) pa_nil))) (pa_cons (pe_callTy call_tuple_of (by rfl) T.tuple (by decide +kernel) (pa_cons (pv 1) pa_nil)) (pa_cons (pe_op op_cat (pv 1) (pe_lst (pa_cons (pe_ix ix_list (pv 1) (pv 2) (fun _ _ => rfl)) pa_nil))) pa_nil)))))))
    (pss_one (ps_ret (pe_cal CK hr (by omega) (pa_cons (pv 0) (pa_cons (pe_op op_cat (pv 6) (pe_lst (pa_cons (pe_revL (pv 1)) (pa_cons (pe_op op_cat (pv 1) (pe_lst (pa_cons (pe_tup (pa_cons pe_str (pa_cons (pe_tup pa_nil) pa_nil))) pa_nil))) (pa_cons (pe_op op_cat (pv 1) (pe_lst (pa_cons (pe_tup (pa_cons pe_str (pa_cons (pe_tup (pa_cons pe_int pa_nil)) pa_nil))) pa_nil))) (pa_cons (pe_slice sl_list (pv 1) po_none (po_some pe_int)) (pa_cons (pe_slice sl_list (pv 1) (po_some pe_int) po_none) pa_nil))))))) pa_nil)))))))))))), ?_⟩
    have lx := thAll_len th
    rw [List.length_map] at lx
    have elL : ∀ d ∈ L.map rowD, El d := fun d m => by
      obtain ⟨q, mq, rfl⟩ := List.mem_map.mp m
      exact row_el (hR q mq)
    refine ⟨_, rfl, _, rfl, l, xs, rfl, .inl (SqL.of hl), p, c, _, rfl, hP, by omega, by omega, fun r H1 r0 r1 e1 => ?_⟩
    have P1 := e1.pot
    have hl1 := e1.get hl lp
    obtain ⟨v, hv, hg⟩ := atI_lt (xs := xs) r0 r1
    have fl := els_pot elL
    have nlr : noLstAll (L.map rowD) = true := nl_all.mpr fun d m => by
      obtain ⟨q, _, rfl⟩ := List.mem_map.mp m
      exact row_nl q
    have all1 : MTA D0 K H1 xs (L.map rowD) := mA_ext hP e1 Dp Dc ⟨⟨x0, hD⟩, thAll_mutL hD th nlr⟩ fl
    have D1 := e1.keep _ _ hD Dp
    obtain ⟨d, hd, thv0⟩ := th_at all1.2 hg
    obtain ⟨q, hq, rfl⟩ := Option.map_eq_some_iff.mp ((List.getElem?_map ..).symm.trans hd)
    have mq := List.mem_of_getElem? hq
    obtain ⟨okx, lx42, lN, smallN⟩ := hR q mq
    have elq := row_el (hR q mq)
    have thv : Th K H1 v (rowD q) := m_th ⟨all1.1, thv0⟩
    obtain ⟨b, rfl, t, hb1, ht1⟩ := key_th thv
    have thT0 : Th K H1 (.ref t) (.tuple (intsN q.2)) := .tup ht1 (by
      unfold intsN
      clear ht1 thv thv0 hd smallN lN
      generalize q.2 = ns
      induction ns with
      | nil => exact .nil
      | cons n ns ih => exact .cons (.int _) ih)
    have thT : MT D0 K H1 (.ref t) (.tuple (intsN q.2)) := ⟨⟨x0, D1⟩, th_mutL D1 thT0 (ints_nl q.2)⟩
    have lN2 : (intsN q.2).length ≤ 3 := by unfold intsN; rw [List.length_map]; exact lN
    have hN := intsN_ok smallN
    have flatT : noPot (.tuple (intsN q.2)) = true := (ob_ints hN lN2).np
    refine nx_open (nxb_set ?_)
    refine ⟨_, rfl, _, rfl, l, xs, r, _, rfl, rfl, SqL.of hl1, hv, ?_⟩
    refine ⟨b, _, rfl, hb1, rfl, _, _, rfl, _, _, rfl, rfl, ?_⟩
    -- odd
    refine nxL_set ?_
    have mx : ∀ {σ : L2.St} {H' : Hp}, Has D0 H' → σ[3]? = some (some (.str q.1)) → Mk1F D0 K (tVar 3) σ H' (.str q.1) := fun hh h => mf_var h ⟨hh, .str _⟩
    refine pickF_new (D := D0) (K := K) (p := p) (c := c) (i := 0) (ds := o1 q.1 (intsN q.2)) (mf_cons mf_non (mf_cons (mf_tup (mf_cons (mx ⟨x0, D1⟩ rfl) mf_nil) (by show 1 ≤ 1000; decide)) (mf_cons (mf_tup (mf_cons (mx ⟨x0, D1⟩ rfl) (mf_cons (mf_var rfl thT) (mf_cons mf_int mf_nil))) (by show 3 ≤ 1000; decide)) (mf_cons (mf_lst (mf_cons (mx ⟨x0, D1⟩ rfl) (mf_cons (mf_var rfl thT) mf_nil)) (by show 2 ≤ 1000; decide)) (mf_cons (mf_tup (mf_cons (mx ⟨x0, D1⟩ rfl) (mf_cons (mf_listT (mf_var rfl thT)).mk mf_nil)) (by show 2 ≤ 1000; decide))
      (mf_cons (mf_tup (mf_cons (mx ⟨x0, D1⟩ rfl) (mf_cons (mf_catT (mf_var rfl thT) (mf_tup (mf_cons mf_int mf_nil) (by show 1 ≤ 1000; decide)) (by show _ + 1 ≤ 1000; omega)) mf_nil)) (by show 2 ≤ 1000; decide)) mf_nil)))))) ⟨x0, D1⟩ Dp Dc (els_pot (o1_el okx lx42 hN lN2)) (by show 0 < 6; decide) (by show 6 ≤ 1000; decide) P1 rfl fun v1 d1 H2 m1 th1 e2 => ?_
    have El1 := o1_el okx lx42 hN lN2 d1 m1
    have P2 := e2.pot
    have D2 := e2.keep _ _ D1 Dp
    have thT2 := m_ext P1 e2 Dp Dc thT flatT
    have all2 := mA_ext P1 e2 Dp Dc all1 fl
    have hl2 := e2.get hl1 lp
    refine nxb_set ?_
    refine pickF_new (D := D0) (K := K) (p := p) (c := c) (i := 0) (ds := o2 q.1 (intsN q.2) d1) (mf_cons (mf_var rfl th1) (mf_cons (mf_tup (mf_cons (mx ⟨x0, D2⟩ rfl) (mf_cons (mf_tup (mf_cons mf_bl mf_nil) (by show 1 ≤ 1000; decide)) mf_nil)) (by show 2 ≤ 1000; decide)) (mf_cons (mf_tup (mf_cons mf_str (mf_cons (mf_var rfl thT2) mf_nil)) (by show 2 ≤ 1000; decide)) (mf_cons (mf_tup (mf_cons mf_non (mf_cons (mf_var rfl thT2) mf_nil)) (by show 2 ≤ 1000; decide))
      (mf_cons (mf_tup (mf_cons (mx ⟨x0, D2⟩ rfl) (mf_cons (mf_catT (mf_var rfl thT2) (mf_var rfl thT2) (by omega)) mf_nil)) (by show 2 ≤ 1000; decide)) (mf_cons (mf_tup (mf_cons (mx ⟨x0, D2⟩ rfl) (mf_cons mf_non mf_nil)) (by show 2 ≤ 1000; decide)) (mf_cons mf_str mf_nil))))))) ⟨x0, D2⟩ Dp Dc (els_pot (o2_el okx lx42 hN lN2 El1)) (by show 0 < 7; decide) (by show 7 ≤ 1000; decide) P2 rfl fun v2 d2 H3 m2 th2 e3 => ?_
    have El2 := o2_el okx lx42 hN lN2 El1 d2 m2
    have P3 := e3.pot
    have D3 := e3.keep _ _ D2 Dp
    have thT3 := m_ext P2 e3 Dp Dc thT2 flatT
    have all3 := mA_ext P2 e3 Dp Dc all2 fl
    have hl3 := e3.get hl2 lp
    refine nxb_set ?_
    refine pickF_new (D := D0) (K := K) (p := p) (c := c) (i := 0) (ds := o3 q.1 (intsN q.2) d2) (mf_cons (mf_var rfl th2) (mf_cons (mf_var rfl th2) (mf_cons (mf_tup (mf_cons (mx ⟨x0, D3⟩ rfl) (mf_cons (mf_tup (mf_cons mf_int (mf_cons mf_int mf_nil)) (by show 2 ≤ 1000; decide)) mf_nil)) (by show 2 ≤ 1000; decide))
      (mf_cons (mf_tup (mf_cons (mx ⟨x0, D3⟩ rfl) (mf_cons (mf_catT (mf_revT (mf_var rfl thT3)) (mf_tup (mf_cons mf_int mf_nil) (by show 1 ≤ 1000; decide)) (by rw [List.length_reverse]; show _ + 1 ≤ 1000; omega)) mf_nil)) (by show 2 ≤ 1000; decide)) (mf_cons (mf_tup (mf_cons (mx ⟨x0, D3⟩ rfl) (mf_cons (mf_tup (mf_cons mf_sub mf_nil) (by show 1 ≤ 1000; decide)) mf_nil)) (by show 2 ≤ 1000; decide))
      (mf_cons (mf_tup (mf_cons (mx ⟨x0, D3⟩ rfl) (mf_cons (mf_tup (mf_cons mf_str mf_nil) (by show 1 ≤ 1000; decide)) mf_nil)) (by show 2 ≤ 1000; decide)) mf_nil)))))) ⟨x0, D3⟩ Dp Dc (els_pot (o3_el okx lx42 hN lN2 El2)) (by show 0 < 6; decide) (by show 6 ≤ 1000; decide) P3 rfl fun v3 d3 H4 m3 th3 e4 => ?_
    have El3 := o3_el okx lx42 hN lN2 El2 d3 m3
    have P4 := e4.pot
    have D4 := e4.keep _ _ D3 Dp
    have all4 := mA_ext P3 e4 Dp Dc all3 fl
    have hl4 := e4.get hl3 lp
    refine nxb_set ?_
    refine pickF_new (D := D0) (K := K) (p := p) (c := c) (i := 0) (ds := o4 q.1 d3) (mf_cons (mf_var rfl th3) (mf_cons (mf_var rfl th3) (mf_cons (mf_var rfl th3) (mf_cons (mf_tup (mf_cons (mx ⟨x0, D4⟩ rfl) (mf_cons (mf_tup (mf_cons mf_non mf_nil) (by show 1 ≤ 1000; decide)) mf_nil)) (by show 2 ≤ 1000; decide))
      (mf_cons (mf_tup (mf_cons (mx ⟨x0, D4⟩ rfl) (mf_cons (mf_tup (mf_cons (mf_tup (mf_cons mf_int mf_nil) (by show 1 ≤ 1000; decide)) mf_nil) (by show 1 ≤ 1000; decide)) mf_nil)) (by show 2 ≤ 1000; decide)) (mf_cons (mf_tup (mf_cons (mx ⟨x0, D4⟩ rfl) (mf_cons (mf_tup (mf_cons mf_bl mf_nil) (by show 1 ≤ 1000; decide)) mf_nil)) (by show 2 ≤ 1000; decide))
      (mf_cons (mf_tup (mf_cons mf_str (mf_cons (mf_tup (mf_cons mf_int (mf_cons mf_int mf_nil)) (by show 2 ≤ 1000; decide)) mf_nil)) (by show 2 ≤ 1000; decide)) mf_nil))))))) ⟨x0, D4⟩ Dp Dc (els_pot (o4_el okx lx42 El3)) (by show 0 < 7; decide) (by show 7 ≤ 1000; decide) P4 rfl fun v4 d4 H5 m4 th4 e5 => ?_
    have El4 := o4_el okx lx42 El3 d4 m4
    have P5 := e5.pot
    have D5 := e5.keep _ _ D4 Dp
    have hl5 := e5.get hl4 lp
    have all5 := mA_ext P4 e5 Dp Dc all4 fl
    have e15 := (((e1.trans e2).trans e3).trans e4).trans e5
    have lLD : (L.map rowD).length ≤ 640 := by rw [List.length_map]; exact l640
    have lc := len_cut2 (L.map rowD) r0
    obtain ⟨d', hd', thv50⟩ := th_at all5.2 hg
    rw [hd] at hd'
    cases hd'
    have thv5 : MT D0 K H5 (.ref b) (rowD q) := ⟨all5.1, thv50⟩
    refine nxb_set ?_
    have mL : ∀ {σ : L2.St}, σ[1]? = some (some (.ref l)) → MkLF D0 K (tVar 1) σ H5 (L.map rowD) := fun h => mf_varL h Dl.symm hl5 all5
    refine (mf_lstL (K := K) (ds := bentA (L.map rowD) d4 (rowD q) r) (mf_cons (mf_cat (mf_slL (mL rfl) mkp_none (mkp_var rfl)) (mf_slL (mL rfl) (mkp_more rfl) mkp_none) (by omega)).mk (mf_cons (mf_cat (mf_cat (mf_slL (mL rfl) mkp_none (mkp_var rfl)) (mf_lstL (mf_cons (mf_var rfl th4) mf_nil) (by show 1 ≤ 1000; decide)) (by show _ + 1 ≤ 1000; omega)) (mf_slL (mL rfl) (mkp_more rfl) mkp_none) (by rw [List.length_append]; show _ + 1 + _ ≤ 1000; omega)).mk
      (mf_cons (mf_cat (mL rfl) (mf_lstL (mf_cons (mf_var rfl th4) mf_nil) (by show 1 ≤ 1000; decide)) (by show _ + 1 ≤ 1000; omega)).mk (mf_cons (mf_tupL (mL rfl)) (mf_cons (mf_cat (mL rfl) (mf_lstL (mf_cons (mf_ixL (i := 1) (j := 2) rfl rfl hl5 hv thv5) mf_nil) (by show 1 ≤ 1000; decide)) (by show _ + 1 ≤ 1000; omega)).mk mf_nil))))) (by show 5 ≤ 1000; decide)) ⟨x0, D5⟩ H5 (Same.refl _) _ fun l6 xs6 H6 s6 l6D hl6 tl6 => ?_
    have P6 := P5.same s6
    have D6 := s6 _ _ D5
    have hl6' := s6 _ _ hl5
    have all6 := mA_same s6 all5
    have mL6 : ∀ {σ : L2.St}, σ[1]? = some (some (.ref l)) → MkLF D0 K (tVar 1) σ H6 (L.map rowD) := fun h => mf_varL h Dl.symm hl6' all6
    have tg := bent_thg r0 elL lLD El4 elq
    refine nex_ret ?_
    have lc1 := len_cutL (L.map rowD) none (some 1)
    refine pickF_N (D := D0) (K := K) (p := p) (c := c) (i := 0) (ds := bentA (L.map rowD) d4 (rowD q) r ++ bentB (L.map rowD)) (mf_catN (mf_varL (i := 6) rfl l6D hl6 tl6) (mf_lstL (ds := bentB (L.map rowD)) (mf_cons (mf_revL (mL6 rfl)).mk (mf_cons (mf_cat (mL6 rfl) (mf_lstL (mf_cons (mf_tup (mf_cons mf_str (mf_cons (mf_tup mf_nil (by show 0 ≤ 1000; decide)) mf_nil)) (by show 2 ≤ 1000; decide)) mf_nil) (by show 1 ≤ 1000; decide)) (by show _ + 1 ≤ 1000; omega)).mk
      (mf_cons (mf_cat (mL6 rfl) (mf_lstL (mf_cons (mf_tup (mf_cons mf_str (mf_cons (mf_tup (mf_cons mf_int mf_nil) (by show 1 ≤ 1000; decide)) mf_nil)) (by show 2 ≤ 1000; decide)) mf_nil) (by show 1 ≤ 1000; decide)) (by show _ + 1 ≤ 1000; omega)).mk (mf_cons (mf_slL (mL6 rfl) mkp_none mkp_int).mk (mf_cons (mf_slL (mL6 rfl) mkp_int mkp_none).mk mf_nil))))) (by show 5 ≤ 1000; decide)) (by show 5 + 5 ≤ 1000; decide)) ⟨x0, D6⟩ Dp Dc (np_all.mpr fun d m => (tg d m).small.2.2.2.2) (by show 0 < 10; decide) (by show 10 ≤ 1000; decide) P6 rfl fun v' d' H7 hd' th' e7 => ?_
    exact k v' d' H7 ((e15.same s6).trans e7) (fun o => th_mask th'.2) (tg d' hd')
end
end Lk

/-! K22R -/
set_option Elab.async false
set_option linter.all false
set_option maxRecDepth 100000
set_option maxHeartbeats 4000000
namespace Lk
open PySem PySem.Spec PyProof.Rows L2
/-! ### the law's function -/
theorem srt_asc {ks : List Nat} (h : ks.Nodup) : (srt ks).Pairwise (· < ·) := by
  have nd : (srt ks).Nodup := (srt_perm ks).nodup_iff.mpr h
  have le := srt_le ks
  generalize srt ks = l at nd le
  induction l with
  | nil => exact .nil
  | cons x l ih =>
    obtain ⟨h1, h2⟩ := List.pairwise_cons.mp le
    obtain ⟨d1, d2⟩ := List.nodup_cons.mp nd
    refine List.pairwise_cons.mpr ⟨fun y my => ?_, ih d2 h2⟩
    have := h1 y my
    have : x ≠ y := fun e => d1 (e ▸ my)
    omega
/-- a block that is told is one -/
theorem blk_good {rs : List Rl} {F : List Str} {Ok : Place → Prop} {z : Str} {Bk : List NK} (O : OkR rs Ok) (B : Blk rs F Ok z Bk) (row : ∀ q ∈ Bk, RowOk rs.length q) : blkB rs F z (.list (Bk.map rowD)) = true := by
  have un : (Bk.map rowD).map unRow = Bk := by
    rw [List.map_map]
    exact (List.map_congr_left fun q _ => unRow_row q).trans (List.map_id _)
  show ((Bk.map rowD).all (rowB rs.length) && goodB rs F z ((Bk.map rowD).map unRow)) = true
  rw [un, Bool.and_eq_true, List.all_eq_true]
  refine ⟨fun d m => ?_, ?_⟩
  · obtain ⟨q, mq, rfl⟩ := List.mem_map.mp m
    exact row_is (row q mq)
  · unfold goodB
    rw [decide_eq_true B.nd, decide_eq_true B.st, Bool.true_and, Bool.true_and, List.all_eq_true]
    intro q mq
    have g := B.all q mq
    have nf : q.1 ∉ F := fun h => by
      have e := g.no
      rw [way_in h] at e
      cases e
    rw [decide_eq_true nf, Bool.true_and]
    unfold holdsB
    rw [List.all_eq_true]
    intro c mc
    unfold holdsR
    rw [List.any_eq_true]
    obtain ⟨s, es, ms, _⟩ := gone_miss O g mc
    refine ⟨s, ms, decide_eq_true (B.cl q mq _ ?_)⟩
    unfold behind
    refine List.mem_map.mpr ⟨c, mc, ?_⟩
    rw [es]
    rfl
theorem wf_bl (b : Bool) : Wf (.bool b) := by
  refine ⟨rfl, rfl, ?_, ?_, .inl rfl⟩
  · cases b <;> decide
  · exact Nat.zero_le _
def theThings (z : Str) : List PyData := [.none, .list [], .tuple [], .dict [], .str "", .list [.none], .list [.tuple [.str z, .tuple []]], .tuple [.tuple [.str z, .tuple []]], .list [.tuple [.str z, .list []], .int 0], .list [.tuple [.str z, .tuple [.int 0]]], .list [.str z]]
theorem thg_ob {d : PyData} (h : Ob 4 40000 d) (n : ∀ es, d ≠ .list es) : Thg d := .inr ⟨h, fun es e => absurd e (n es)⟩
theorem thg_lst {es : List PyData} (h : ∀ e ∈ es, Ob 3 60 e) (l : es.length ≤ 650) (no : potLike es = false) : Thg (.list es) := .inr ⟨ob_list h (many_bulk h l) no, fun es' e => by
  cases e
  exact ⟨l, h⟩⟩
theorem one {P : PyData → Prop} {a : PyData} (h : P a) : ∀ d ∈ [a], P d := fun d m => by
  rw [List.mem_singleton.mp m]
  exact h
theorem the_thg {z : Str} (h : PyData.strOk z = true) (l : z.length ≤ 42) : ∀ d ∈ theThings z, Thg d := by
  have Z : Ob 1 42 (.str z) := (ob_str h l).le (by decide) (Nat.le_refl _)
  have E0 : Ob 1 0 (.tuple []) := ob_tup (k := 0) (i := 0) (ds := []) (fun _ m => nomatch m) (Nat.le_refl _)
  have L0 : Ob 1 0 (.list []) := ob_list (k := 0) (i := 0) (ds := []) (fun _ m => nomatch m) (Nat.le_refl _) rfl
  have R0 : Ob 3 60 (.tuple [.str z, .tuple []]) := (ob_t2 Z E0).le (by decide) (by decide)
  intro d m
  simp only [theThings, List.mem_cons, List.mem_nil_iff, or_false] at m
  rcases m with rfl | rfl | rfl | rfl | rfl | rfl | rfl | rfl | rfl | rfl | rfl
  · exact thg_ob (ob_non.le (by decide) (by decide)) fun _ e => nomatch e
  · exact thg_lst (fun _ m => nomatch m) (by decide) rfl
  · exact thg_ob (E0.le (by decide) (by decide)) fun _ e => nomatch e
  · exact .inl rfl
  · exact thg_ob ((ob_str (x := "") (b := 0) (by decide +kernel) (by decide +kernel)).le (by decide) (by decide)) fun _ e => nomatch e
  · exact thg_lst (one (ob_non.le (by decide) (by decide))) (by show 1 ≤ 650; decide) rfl
  · exact thg_lst (one R0) (by show 1 ≤ 650; decide) rfl
  · exact thg_ob ((ob_t1 R0).le (Nat.le_refl _) (by decide)) fun _ e => nomatch e
  · exact thg_lst (two ((ob_t2 Z L0).le (by decide) (by decide)) (i0.le (by decide) (by decide))) (by show 2 ≤ 650; decide) pot2
  · exact thg_lst (one ((ob_t2 Z (ob_t1 i0)).le (by decide) (by decide))) (by show 1 ≤ 650; decide) rfl
  · exact thg_lst (one (Z.le (by decide) (by decide))) (by show 1 ≤ 650; decide) rfl
section
variable {P : Program} {w : World} {K : PySem.W.Frag} {mg : Str → Option Value} {base : Heap}
theorem sc_law : FnScope ["script", "pot", "turn", "many", "most", "book", "name", "files", "found", "due", "things", "thing", "before", "lap"] ["script"] (defScope s_law) := ⟨rfl, rfl, rfl, by decide +kernel, rfl, by decide +kernel, by decide +kernel⟩
structure Cs22 (P : Program) (w : World) (K : PySem.W.Frag) (mg : Str → Option Value) (base : Heap) : Prop where
  pot : Cal P w K mg base 1 "_law_pot_of" (spPotOf K)
  pick : Cal P w K mg base 3 "_law_pick" (spPick K)
  name : Cal P w K mg base 4 "_law_some_name" spName
  book : Cal P w K mg base 6 "_law_some_book" (spBook K)
  lkin : Cal P w K mg base 2 "_law_kin" (spLKin K)
  files : Cal P w K mg base 3 "_law_some_files" (spFiles K)
  lway : Cal P w K mg base 8 "_law_way" (spLWay K 7)
  lblk : Cal P w K mg base 3 "_law_is_block" (spLBlk K)
  bent : Cal P w K mg base 4 "_law_bent" (spBent2 K)
  block : Cal P w K mg base 26 "block" (spBlock K)
  can : Cal P w K mg base 25 "can" (spCan K)
  shows : Cal P w K mg base 9 "shows_block" (spShowsB K)
structure Gl22 (mg : Str → Option Value) : Prop where
  repr : mg "repr" = none
theorem ne_tupP {H : Hp} {p c t : Addr} {xs : List V} (hP : PotAt p c H) (h : H t = some (.tup xs)) : t ≠ p := by
  obtain ⟨_, ⟨i, a, b, hp⟩, _⟩ := hP
  rintro rfl
  rw [hp] at h
  cases h
theorem nx_asg {te : TE} {g : TG} {r : TS} {D : Ends} {rt : VK} {bk ct : L2.St → Hp → Prop} {σ : L2.St} {H : Hp} (h : te σ H fun x H1 => g x σ H1 (r D)) : Ends.nx { nx := tSeq (tAsg te g) r D, rt := rt, bk := bk, ct := ct } σ H := h
theorem nex_if {x : V} {i : Nat} {t : TT} {ts r : TS} {D : Ends} {σ : L2.St} {H : Hp} (h : tSeq (tIfS t ts tNext) r D (σ.set i (some x)) H) : gName i x σ H (tSeq (tIfS t ts tNext) r D) := h
theorem nex_ifJ {x : V} {i : Nat} {t : TT} {ts r : TS} {D : Ends} {σ : L2.St} {H : Hp} (Pj : L2.St → Hp → Prop) (tail : ∀ σ H, Pj σ H → r D σ H) (h : ∀ Rn : L2.St → Hp → Prop, (∀ σ H, Pj σ H → Rn σ H) → tIfS t ts tNext { D with nx := Rn } (σ.set i (some x)) H) : gName i x σ H (tSeq (tIfS t ts tNext) r D) := h (r D) tail
theorem nxS_set {te : TE} {i : Nat} {r : TS} {D : Ends} {rt : VK} {bk ct : L2.St → Hp → Prop} {σ : L2.St} {H : Hp} (h : te σ H fun x H1 => gName i x σ H1 (r D)) : tNext { nx := tSeq (tAsg te (gName i)) r D, rt := rt, bk := bk, ct := ct } σ H := h
theorem nx1A {te : TE} {i : Nat} {D : Ends} {rt : VK} {bk ct : L2.St → Hp → Prop} {σ : L2.St} {H : Hp} (h : te σ H fun x H1 => gName i x σ H1 D.nx) : Ends.nx { nx := tAsg te (gName i) D, rt := rt, bk := bk, ct := ct } σ H := h
theorem nexS_if {t : TT} {ts : TS} {D : Ends} {rt : VK} {bk ct : L2.St → Hp → Prop} {σ : L2.St} {H : Hp} (h : tIfS t ts tNext D σ H) : tNext { nx := tIfS t ts tNext D, rt := rt, bk := bk, ct := ct } σ H := h
theorem rows_at {H : Hp} : ∀ {L : List (Addr × NK)}, (∀ c ∈ L, KeyAt H c.1 c.2) → ThAll K H (L.map fun c => V.ref c.1) ((L.map (·.2)).map rowD)
  | [], _ => .nil
  | c :: L, h => by
    obtain ⟨t, h1, h2⟩ := h c List.mem_cons_self
    refine .cons (.tup (SqT.of h1) (.cons (.str _) (.cons (.tup (SqT.of h2) ?_) .nil))) (rows_at fun d m => h d (List.mem_cons_of_mem _ m))
    generalize c.2.2 = ns
    induction ns with
    | nil => exact .nil
    | cons n ns ih => exact .cons (.int _) ih
set_option maxHeartbeats 0
theorem fn_law {f : Addr} {fd : FuncData} (F : L2.Fun K "law" "law" s_law f fd) (C : Cs22 P w K mg base) (G : Glb mg) (R : Gl22 mg) : FnG P w K mg base CX0 28 f fd ["script"] (spLaw K) := by
  refine mkFnG0 F sc_law (fun vs H Q E h => ?_) (fun cdv A outer s H vs Q E hr hg h => ?_)
  · obtain ⟨a, ns, rfl, _⟩ := h
    rfl
  · obtain ⟨a, ns, rfl, hS, hlen, k⟩ := h
    refine ⟨_, (pss_cons (ps_set (i := 1) sc_law.nd rfl (.inr rfl) (pe_cal C.pot hr (by decide) (pa_cons (pv 0) pa_nil)))
    (pss_cons (ps_for PassesOwn.never rfl (pi_range1 (by rfl) G.range (pa_cons pe_int pa_nil)) (pg_name (i := 2) sc_law.nd rfl (.inl rfl))
    (pss_cons (ps_asg (pe_cal C.pick hr (by decide) (pa_cons (pv 1) (pa_cons (pe_lst (pa_cons (pe_tup (pa_cons pe_int (pa_cons pe_int pa_nil))) (pa_cons (pe_tup (pa_cons pe_int (pa_cons pe_int pa_nil))) pa_nil))) pa_nil))) (pg_tup rfl (pgs_cons (pg_name (i := 3) sc_law.nd rfl (.inl rfl)) (pgs_cons (pg_name (i := 4) sc_law.nd rfl (.inl rfl)) pgs_nil))))
    (pss_cons (ps_par (i := 5) (j := 6) (by rfl) sc_law.nd rfl rfl (by decide) rfl rfl (pa_cons (pe_cal C.book hr (by decide) (pa_cons (pv 1) (pa_cons (pv 3) (pa_cons (pv 4) pa_nil)))) (pa_cons (pe_cal C.name hr (by decide) (pa_cons (pv 1) pa_nil)) pa_nil)) (by rfl))
    (pss_cons (ps_set (i := 7) sc_law.nd rfl (.inl rfl) (pe_cal C.files hr (by decide) (pa_cons (pv 1) (pa_cons (pe_cal C.files hr (by decide) (pa_cons (pv 1) (pa_cons (pe_cal C.lkin hr (by decide) (pa_cons (pv 5) (pa_cons (pv 6) pa_nil))) pa_nil))) pa_nil))))
    (pss_cons (ps_asg (pe_tup (pa_cons (pe_cal C.block hr (by decide) (pa_cons (pv 5) (pa_cons (pv 7) (pa_cons (pv 6) pa_nil)))) (pa_cons (pe_cal C.lway hr (by decide) (pa_cons (pv 5) (pa_cons (pv 7) (pa_cons (pv 6) (pa_cons (pe_tup pa_nil) pa_nil))))) pa_nil))) (pg_tup rfl (pgs_cons (pg_name (i := 8) sc_law.nd rfl (.inr rfl)) (pgs_cons (pg_name (i := 9) sc_law.nd rfl (.inl rfl)) pgs_nil))))
    (pss_cons (ps_if (PW.pt (pw_or (pt_cmpR op_ne (pe_cmpR op_isN (pv 8) pe_non (nomark _)) (pe_cmpR op_notN (pv 9) pe_non (nomark _)) (nomark _)) (pw_or1 (pt_cmpR op_ne (pe_cal C.can hr (by decide) (pa_cons (pv 5) (pa_cons (pv 7) (pa_cons (pv 6) pa_nil)))) (pe_cmpR op_isN (pv 8) pe_non (nomark _)) (nomark _))))) (pss_one (ps_ret pe_bl)) pss_nil)
    (pss_cons (ps_set (i := 10) sc_law.nd rfl (.inl rfl) (pe_lst (pa_cons pe_non (pa_cons (pe_lst pa_nil) (pa_cons (pe_tup pa_nil) (pa_cons pe_dnewK (pa_cons pe_str (pa_cons (pe_lst (pa_cons pe_non pa_nil)) (pa_cons (pe_lst (pa_cons (pe_tup (pa_cons (pv 6) (pa_cons (pe_tup pa_nil) pa_nil))) pa_nil)) (pa_cons (pe_tup (pa_cons (pe_tup (pa_cons (pv 6) (pa_cons (pe_tup pa_nil) pa_nil))) pa_nil)) (pa_cons (pe_lst (pa_cons (pe_tup (pa_cons (pv 6) (pa_cons (pe_lst pa_nil) pa_nil))) (pa_cons pe_int pa_nil))) (pa_cons (pe_lst (pa_cons (pe_tup (pa_cons (pv 6) (pa_cons (pe_tup (pa_cons pe_int pa_nil)) pa_nil))) pa_nil)) (pa_cons (pe_lst (pa_cons (pv 6) pa_nil)) pa_nil)))))))))))))
    (pss_cons (ps_if (pt_cmpR op_notN (pv 8) pe_non (nomark _)) (pss_cons (ps_if (pt_not (pt_val (pe_cal C.lblk hr (by decide) (pa_cons (pv 5) (pa_cons (pv 7) (pa_cons (pv 6) (pa_cons (pv 8) pa_nil))))))) (pss_one (ps_ret pe_bl)) pss_nil)
    (pss_cons (ps_expr (pe_bm0 PySem.F.plainAttrs_list PySem.F.slot_list_clear PySem.F.type_list_clear mt_clear (pe_cal C.block hr (by decide) (pa_cons (pv 5) (pa_cons (pv 7) (pa_cons (pv 6) pa_nil))))))
    (pss_one (ps_set (i := 10) sc_law.nd rfl (.inl rfl) (pe_op op_cat (pe_op op_cat (pv 10) (pe_lst (pa_cons (pv 8) pa_nil))) (pe_lc (own := [("lap", 13)]) (g := gName 13) (tt := tYes) (by rfl) sc_law.nd (pi_range1 (by rfl) G.range (pa_cons pe_int pa_nil)) (blkOk_by (own := [("lap", 13)]) (N := ["script", "pot", "turn", "many", "most", "book", "name", "files", "found", "due", "things", "thing", "before", "lap"]) (sc := defScope s_law) (by decide +kernel)) (fun _ _ _ _ _ => pg_name (i := 13) sc_law.nd rfl (Or.inl rfl)) (fun _ _ _ _ _ => pts_nil) (fun _ _ _ _ _ => (pe_cal C.bent hr (by decide) (pa_cons (pv 1) (pa_cons (pv 8) pa_nil)))))))))) pss_nil)
    (pss_one (ps_for PassesOwn.never rfl (pi_list (pv 10)) (pg_name (i := 11) sc_law.nd rfl (.inl rfl))
    (pss_cons (ps_set (i := 12) sc_law.nd rfl (.inl rfl) (pe_callB (call_repr hg hr.units) (by rfl) R.repr bootS_repr (pa_cons (pv 11) pa_nil)))
    (pss_cons (ps_if (pt_cmpR op_ne (pe_callB (call_repr hg hr.units) (by rfl) R.repr bootS_repr (pa_cons (pe_cal C.shows hr (by decide) (pa_cons (pv 5) (pa_cons (pv 7) (pa_cons (pv 6) (pa_cons (pv 11) pa_nil))))) pa_nil)) (pe_callB (call_repr hg hr.units) (by rfl) R.repr bootS_repr (pa_cons (pe_cal C.lblk hr (by decide) (pa_cons (pv 5) (pa_cons (pv 7) (pa_cons (pv 6) (pa_cons (pv 11) pa_nil))))) pa_nil)) (nomark _)) (pss_one (ps_ret pe_bl)) pss_nil)
    (pss_one (ps_if (pt_cmpR op_ne (pe_callB (call_repr hg hr.units) (by rfl) R.repr bootS_repr (pa_cons (pv 11) pa_nil)) (pv 12) (nomark _)) (pss_one (ps_ret pe_bl)) pss_nil))))))))))))))
    (pss_one (ps_ret pe_bl)))), ?_⟩
    refine ⟨_, rfl, a, ns, rfl, hS, hlen, fun p c H1 s1 np hP => ?_⟩
    refine ⟨10, rfl, by decide, by decide, for_range (n := 10) (fun i σ H' => ∃ v2 v3 v4 v5 v6 v7 v8 v9 v10 v11 v12 : Option V, σ = [some (.ref a), some (.ref p), v2, v3, v4, v5, v6, v7, v8, v9, v10, v11, v12, none] ∧ PotAt p c H')
      ⟨none, none, none, none, none, none, none, none, none, none, none, rfl, hP⟩ ?_ ?_⟩
    · rintro j0 σ H2 hi ⟨v2, v3, v4, v5, v6, v7, v8, v9, v10, v11, v12, rfl, hP2⟩
      refine next_read ?_
      refine pick_new (K := K) (p := p) (c := c) (i := 1) (mk_cons (mk_tup (mk_cons mk_int (mk_cons mk_int mk_nil)) (by show 2 ≤ 1000; decide)) (mk_cons (mk_tup (mk_cons mk_int (mk_cons mk_int mk_nil)) (by show 2 ≤ 1000; decide)) mk_nil)) rfl (by show 0 < 2; decide) (by show 2 ≤ 1000; decide) hP2 rfl fun v d H3 hd th e3 => ?_
      obtain ⟨n, m, hn, hn3, rfl⟩ : ∃ n m : Nat, ((n ≤ 4 ∧ m = 2) ∨ (n ≤ 3 ∧ m = 3)) ∧ n ≤ 3 ∧ d = .tuple [.int (n : Int), .int (m : Int)] := by
        simp only [List.mem_cons, List.mem_nil_iff, or_false] at hd
        rcases hd with rfl | rfl
        · exact ⟨3, 2, .inl ⟨by decide, rfl⟩, by decide, rfl⟩
        · exact ⟨2, 3, .inr ⟨by decide, rfl⟩, by decide, rfl⟩
      obtain ⟨q0, rfl, hq0⟩ := th_ints2 th
      refine ⟨q0, _, rfl, hq0, rfl, _, _, rfl, _, _, rfl, rfl, ?_⟩
      refine ⟨_, rfl, _, rfl, _, rfl, p, c, n, m, rfl, by omega, by omega, e3.pot, fun qb vb rs H4 hrs lrs e4 hqb tb => ⟨_, rfl, p, c, rfl, e4.pot, fun z hu tl H5 nm e5 => ?_⟩⟩
      have okz0 : dName (.str z) = true := nm_isName nm
      have lz : z.length ≤ 6 := nm.len
      have okz := name_ok okz0
      have DB := drb_of hn hrs lrs
      have P6 := e5.pot
      have tB6 : Th K H5 (.ref qb) (.tuple (rs.map Rl.d)) := th_ext e4.pot e5 (.tup (SqT.of hqb) tb) book_flat
      generalize H5 = H6 at P6 tB6 ⊢
      obtain ⟨qb', xb, eqb, hq6, hx6⟩ := th_of_tup tB6
      cases eqb
      -- files
      refine ⟨_, _, rfl, nx_asg ?_⟩
      refine ⟨_, rfl, _, rfl, _, rfl, _, rfl, qb, xb, rs, z, m, rfl, hq6, hx6, DB.bk, DB.len, DB.m3, DB.wg, fun ks y ch => ?_, fun cs fs pr H7 s7 hpr asc mem => ?_⟩
      · obtain ⟨g1, g2⟩ := DB.chain okz ch
        exact ⟨g1, by omega⟩
      have fewC : cs.length ≤ 640 := kin_few DB asc.nd fun y my => (mem y).mp ((asc.mem y).mp my)
      have okC : ∀ y ∈ cs, dName (.str y) = true ∧ y.length ≤ 1000 := fun y my => by
        obtain ⟨ks, ch⟩ := (mem y).mp ((asc.mem y).mp my)
        have g := (DB.chain okz ch).2
        exact ⟨chain_name DB.bk okz0 ch, by omega⟩
      have P7 := P6.same s7
      have tB7 := th_same s7 tB6
      refine ⟨p, c, pr, cs, rfl, P7, SqT.of hpr, ne_tupP P7 hpr, by omega, okC, fun ft0 Fs0 H8 e8 hft0 fl0 sub0 => ?_⟩
      have P8 := e8.pot
      have tB8 := th_ext P7 e8 tB7 book_flat
      refine ⟨p, c, ft0, Fs0, rfl, P8, SqT.of hft0, ne_tupP P8 hft0, Nat.le_trans fl0.few (by decide), fun y my => okC y (sub0 y my), fun ft Fs H9 e9 hft fl _ => ?_⟩
      have P9 := e9.pot
      have tB9 := th_ext P8 e9 tB8 book_flat
      have O : OkR rs (OkW rs [z]) := okw DB (fun x mx => by rw [List.mem_singleton.mp mx]; exact ⟨okz, by omega⟩) (by show 1 ≤ 100; decide)
      have stW : OkW rs [z] (z, []) := okw_start (List.mem_singleton.mpr rfl)
      have stS : OkW rs [z] (z, srt []) := by rw [srt_nil]; exact stW
      have stx : ∀ y ns c, PyData.strOk y = true → c ∈ fitD rs y ns → ∀ s ∈ c.2, PyData.strOk s = true := fun y ns c hy mc s ms => by
        obtain ⟨r, hr2, _, _, e⟩ := fit_row mc
        rw [e] at ms
        exact (DB.chain hy (Chain.step .start hr2 (fun m => nomatch m) ms)).1
      have thF : ∀ {H : Hp}, H ft = some (.tup (Fs.map V.str)) → Th K H (.ref ft) (.tuple (Fs.map PyData.str)) := fun h => .tup (SqT.of h) (th_strs2 Fs)
      have rs3 : rs.length ≤ 3 := by omega
      obtain ⟨qb2, xb9, eqb2, hq9, hx9⟩ := th_of_tup tB9
      cases eqb2
      have As : ∀ {H' : Hp}, Same H9 H' → Asks K H' qb ft rs Fs z (OkW rs [z]) := fun s => ⟨⟨xb9, Same.seqT s hq9, thAll_same s hx9⟩, SqT.of (s _ _ hft), fl, okz0, O, stW⟩
      have rowS : ∀ q, Gone rs Fs (OkW rs [z]) q → RowS q ∧ RowOk rs.length q := fun q g => by
        obtain ⟨x, mx, ks, ch, e⟩ := g.ok
        rw [List.mem_singleton.mp mx] at ch
        have g1 := DB.chain okz ch
        have g2 := chain_lt ch
        have g3 := chain_few ch
        have few3 : q.2.length ≤ 3 := by
          rw [e, (srt_perm ks).length_eq]
          have y := nodup_len (l := ks) (m := List.range rs.length) g2.2 fun k m => List.mem_range.mpr (g2.1 k m)
          rw [List.length_range] at y
          omega
        have lt : ∀ n ∈ q.2, n < rs.length := fun n mn => by
          rw [e] at mn
          exact g2.1 n (mem_srt.mp mn)
        refine ⟨⟨g1.1, by omega, few3, fun n mn => by have := lt n mn; omega⟩, chain_name DB.bk okz0 ch, lt, ?_⟩
        rw [e]
        exact srt_asc g2.2
      -- found, due
      refine nxb_set ?_
      refine ⟨_, rfl, _, rfl, _, rfl, qb, ft, rs, Fs, z, OkW rs [z], rfl, As (Same.refl _), fun vf H10 s10 kS kN => ?_⟩
      refine ⟨_, rfl, _, rfl, _, rfl, (by show 0 ≤ sizeLine; decide), fun e0 ne0 => ?_⟩
      have s11 := same_upd (o := .tup []) ne0
      have he0 : upd H10 e0 (.tup []) e0 = some (.tup (([] : List Nat).map fun n : Nat => V.int (n : Int))) := upd_same
      generalize upd H10 e0 (.tup []) = H11 at s11 he0
      have s911 := s10.trans s11
      refine ⟨qb, ft, e0, rs, Fs, z, [], OkW rs [z], rfl, (As s911).bk, (As s911).fl, O, he0, stS, by show rs.length + 1 ≤ 0 + 7; omega, fun vd H12 s12 rw12 => ?_⟩
      have s912 := s911.trans s12
      refine ⟨(by show 2 ≤ sizeLine; decide), fun u nu => ?_⟩
      have s13 := same_upd (o := .tup [vf, vd]) nu
      have hu : upd H12 u (.tup [vf, vd]) u = some (.tup [vf, vd]) := upd_same
      refine ⟨u, _, rfl, SqT.of hu, rfl, _, _, rfl, _, _, rfl, rfl, ?_⟩
      generalize upd H12 u (.tup [vf, vd]) = H13 at s13 hu ⊢
      have s913 := s912.trans s13
      have P13 := P9.same s913
      -- what is due
      have dec : decide (vd = .non) = (way rs Fs z []).isNone := rw_non O stW rw12
      have decF : decide (vf = .non) = (way rs Fs z []).isSome := by
        cases hw : way rs Fs z [] with
        | none =>
          obtain ⟨l, L, rfl, _⟩ := kN hw
          exact decide_eq_false fun e => nomatch e
        | some d => exact decide_eq_true (kS ⟨d, hw⟩)
      have eqFD : decide (vf = .non) = !decide (vd = .non) := by
        rw [dec, decF]
        cases way rs Fs z [] <;> rfl
      refine ⟨_, rfl, rfl, _, rfl, rfl, rfl, _, rfl, ?_⟩
      refine iteF' (by rw [eqFD]; simp) ?_
      refine ⟨_, rfl, _, rfl, _, rfl, qb, ft, rs, Fs, z, OkW rs [z], rfl, As s913, fun H14 s14 => ⟨_, rfl, rfl, rfl, _, rfl, iteF' (by rw [decF]; simp) ?_⟩⟩
      have s914 := s913.trans s14
      have P14 := P9.same s914
      refine nxS_set ?_
      refine (mk_lstL (K := K) (ds := theThings z) (mk_cons mk_non (mk_cons (mk_lst mk_nil (by show 0 ≤ 1000; decide)) (mk_cons (mk_tup mk_nil (by show 0 ≤ 1000; decide)) (mk_cons mk_dict0 (mk_cons mk_str (mk_cons (mk_lst (mk_cons mk_non mk_nil) (by show 1 ≤ 1000; decide))
        (mk_cons (mk_lst (mk_cons (mk_tup (mk_cons (mk_var rfl (.str z)) (mk_cons (mk_tup mk_nil (by show 0 ≤ 1000; decide)) mk_nil)) (by show 2 ≤ 1000; decide)) mk_nil) (by show 1 ≤ 1000; decide)) (mk_cons (mk_tup (mk_cons (mk_tup (mk_cons (mk_var rfl (.str z)) (mk_cons (mk_tup mk_nil (by show 0 ≤ 1000; decide)) mk_nil)) (by show 2 ≤ 1000; decide)) mk_nil) (by show 1 ≤ 1000; decide))
        (mk_cons (mk_lst (mk_cons (mk_tup (mk_cons (mk_var rfl (.str z)) (mk_cons (mk_lst mk_nil (by show 0 ≤ 1000; decide)) mk_nil)) (by show 2 ≤ 1000; decide)) (mk_cons mk_int mk_nil)) (by show 2 ≤ 1000; decide)) (mk_cons (mk_lst (mk_cons (mk_tup (mk_cons (mk_var rfl (.str z)) (mk_cons (mk_tup (mk_cons mk_int mk_nil) (by show 1 ≤ 1000; decide)) mk_nil)) (by show 2 ≤ 1000; decide)) mk_nil) (by show 1 ≤ 1000; decide))
        (mk_cons (mk_lst (mk_cons (mk_var rfl (.str z)) mk_nil) (by show 1 ≤ 1000; decide)) mk_nil))))))))))) (by show 11 ≤ 1000; decide)) H14 (Same.refl _) _ fun lt xs H15 s15 hlt tlt => ?_
      have s915 := s914.trans s15
      have P15 := P9.same s915
      have lxs := thAll_len tlt
      refine nex_ifJ (fun σ H' => ∃ (lt : Addr) (xs : List V) (ds : List PyData), σ = [some (.ref a), some (.ref p), some (.int (0 + (j0 : Int))), some (.int (n : Int)), some (.int (m : Int)), some (.ref qb), some (.str z), some (.ref ft), some vf, some vd, some (.ref lt), v11, v12, none] ∧ Ext p c H15 H' ∧ H' lt = some (.lst xs) ∧ ThAll K H' xs ds ∧ ∀ d ∈ ds, Thg d) ?_ (fun Rn next => ?_)
      · rintro σ H16 ⟨lt, xs, ds, rfl, e16, hlt, ta, tgs⟩
        have P16 := e16.pot
        have tB16 := th_ext P15 e16 (th_same s915 tB9) book_flat
        have hft16 := e16.get (s915 _ _ hft) (ne_tupP P15 (s915 _ _ hft))
        obtain ⟨qb3, xb16, eqb3, hq16, hx16⟩ := th_of_tup tB16
        cases eqb3
        refine ⟨_, rfl, lt, rfl, ⟨_, SqL.of hlt⟩, ?_⟩
        refine for_list (K := K) (a := lt) (xs := xs) (fun i σ H' => ∃ w11 w12 : Option V, σ = [some (.ref a), some (.ref p), some (.int (0 + (j0 : Int))), some (.int (n : Int)), some (.int (m : Int)), some (.ref qb), some (.str z), some (.ref ft), some vf, some vd, some (.ref lt), w11, w12, none] ∧ Same H16 H')
          ⟨_, _, rfl, Same.refl _⟩ (fun i σ H' _ ⟨_, _, _, s⟩ => s.seq (SqL.of hlt)) ?_ ?_
        · rintro j x σ H21 hx ⟨w11, w12, rfl, s21⟩
          obtain ⟨d, hd, thx⟩ := th_at ta hx
          obtain ⟨sm, okB, bkB, wf, _⟩ := (tgs d (List.mem_of_getElem? hd)).small
          have th21 := th_same s21 thx
          refine nxb_set ?_
          refine ⟨_, rfl, x, d, rfl, th21, wf, ?_⟩
          refine nex_if ?_
          refine ⟨_, rfl, _, rfl, _, rfl, _, rfl, qb, ft, xb16, rs, Fs, z, x, d, rfl, Same.seqT s21 hq16, thAll_same s21 hx16, DB.bk, SqT.of (s21 _ _ hft16), fl, by omega, okz0, th21, Nat.le_trans bkB (by decide), sm, fun H22 s22 => ?_⟩
          refine ⟨_, _, rfl, .bl _, wf_bl _, ?_⟩
          have s2122 := s21.trans s22
          refine ⟨_, rfl, _, rfl, _, rfl, _, rfl, qb, ft, xb16, rs, Fs, z, x, d, rfl, Same.seqT s2122 hq16, thAll_same s2122 hx16, DB.bk, SqT.of (s2122 _ _ hft16), okz, th_same s22 th21, bkB, sm, okB, stx, fun H23 s23 => ?_⟩
          refine ⟨_, _, rfl, .bl _, wf_bl _, rfl, _, rfl, iteF' (by rw [decide_eq_true rfl]; rfl) ?_⟩
          refine nexS_if ?_
          refine ⟨_, rfl, x, d, rfl, th_same (s22.trans s23) th21, wf, _, rfl, rfl, _, rfl, iteF' (by rw [decide_eq_true rfl]; rfl) ?_⟩
          exact ⟨_, _, rfl, s2122.trans s23⟩
        · rintro σ H21 ⟨w11, w12, rfl, s21⟩
          exact ⟨_, _, _, _, _, _, _, _, _, _, _, rfl, P16.same s21⟩
      · refine ⟨_, rfl, rfl, _, rfl, ?_⟩
        cases hw : way rs Fs z [] with
        | some d =>
          have e : vf = .non := kS ⟨d, hw⟩
          refine iteF' (by rw [e]; rfl) (next _ _ ⟨lt, xs, theThings z, rfl, P15.ref, hlt, tlt, the_thg okz (by omega)⟩)
        | none =>
          obtain ⟨l, L, rfl, nl, hl, keys, B⟩ := kN hw
          have s1015 := (((s11.trans s12).trans s13).trans s14).trans s15
          have hl15 := s1015 _ _ hl
          have lp : l ≠ p := P9.nep nl
          have rows : ∀ q ∈ L.map (·.2), RowS q ∧ RowOk rs.length q := fun q mq => rowS q (B.all q mq)
          have few : (L.map (·.2)).length ≤ 640 := by
            obtain ⟨L0, l0, sub0⟩ := okw_fin DB [z]
            have y := nodup_len B.nd fun q mq => sub0 q (B.all q mq).ok
            have e1 : [z].length * 640 = 640 := rfl
            omega
          have pos : 0 < (L.map (·.2)).length := List.length_pos_of_mem B.st
          have tL15 : ThAll K H15 (L.map fun c => V.ref c.1) ((L.map (·.2)).map rowD) := thAll_same s1015 (rows_at keys)
          have els : ∀ e ∈ (L.map (·.2)).map rowD, El e := fun e me => by
            obtain ⟨q, mq, rfl⟩ := List.mem_map.mp me
            exact row_el (rows q mq).1
          have tgF : Thg (.list ((L.map (·.2)).map rowD)) := thg_list els (by rw [List.length_map]; omega)
          obtain ⟨smF, okF, bkF, _, npF⟩ := tgF.small
          refine iteT' (by rw [decide_eq_false (fun e => nomatch e)]; rfl) ?_
          refine ⟨_, rfl, _, rfl, _, rfl, _, rfl, qb, ft, xb9, rs, Fs, z, .ref l, _, rfl, Same.seqT s915 hq9, thAll_same s915 hx9, DB.bk, SqT.of (s915 _ _ hft), okz, .lst (SqL.of hl15) tL15, bkF, smF, okF, stx, fun H16 s16 => ⟨_, rfl, iteF' (by rw [blk_good O B fun q mq => (rows q mq).2]; rfl) ?_⟩⟩
          refine ⟨_, rfl, _, rfl, _, rfl, qb, ft, rs, Fs, z, OkW rs [z], rfl, As (s915.trans s16), fun vf2 H17 s17 _ kN2 => ?_⟩
          obtain ⟨l2, L2, rfl, nl2, hl2, _⟩ := kN2 hw
          refine ⟨.inl ⟨rfl, _, SqL.of hl2⟩, l2, _, rfl, rfl, hl2, ?_⟩
          have s18 : Same H16 (upd H17 l2 (.lst [])) := same_mut s17 nl2
          generalize upd H17 l2 (.lst []) = H18 at s18 ⊢
          have s1518 := s16.trans s18
          refine nx1A ?_
          refine ⟨_, rfl, _, rfl, (by show 1 ≤ sizeLine; decide), fun u1 nu1 => ?_⟩
          have s19 := same_upd (o := .lst [.ref l]) nu1
          have hu1 : upd H18 u1 (.lst [.ref l]) u1 = some (.lst [.ref l]) := upd_same
          generalize upd H18 u1 (.lst [.ref l]) = H19 at s19 hu1
          have s1519 := s1518.trans s19
          have lth : xs.length ≤ 11 := by rw [lxs]; show 11 ≤ 11; decide
          refine ⟨_, _, _, _, rfl, rfl, s1519 _ _ hlt, hu1, by rw [sizeLine_eq]; show _ + 1 ≤ _; omega, fun l3 nl3 => ?_⟩
          have s20 := same_upd (o := .lst (xs ++ [.ref l])) nl3
          have hl3 : upd H19 l3 (.lst (xs ++ [.ref l])) l3 = some (.lst (xs ++ [.ref l])) := upd_same
          generalize upd H19 l3 (.lst (xs ++ [.ref l])) = H20 at s20 hl3
          have s1520 := s1519.trans s20
          have P20 := P15.same s1520
          have l3p : l3 ≠ p := (P15.same s1519).nep nl3
          have ta20 : ThAll K H20 (xs ++ [.ref l]) (theThings z ++ [.list ((L.map (·.2)).map rowD)]) := thAll_app (thAll_same s1520 tlt) (.cons (th_same s1520 (.lst (SqL.of hl15) tL15)) .nil)
          have tg20 : ∀ d ∈ theThings z ++ [.list ((L.map (·.2)).map rowD)], Thg d := fun d m => (List.mem_append.mp m).elim (the_thg okz (by omega) d) fun m => by
            rw [List.mem_singleton.mp m]
            exact tgF
          have pots : ∀ {ds : List PyData}, (∀ d ∈ ds, Thg d) → noPotAll ds = true := fun h => np_all.mpr fun d m => (h d m).small.2.2.2.2
          refine ⟨6, rfl, by decide, by decide, fun D nD => ?_⟩
          have nDp := P20.nep nD
          have nDc := P20.nec nD
          have nDl : D ≠ l := fun e => by
            rw [e, s1520 _ _ hl15] at nD
            cases nD
          refine lc_range (lo := 0) (n := 6) (fun i H' => Ext p c H20 H' ∧ ∃ (vs : List V) (ds : List PyData), H' D = some (.lst vs) ∧ (∀ o, ThAll K (upd H' D o) vs ds) ∧ (∀ d ∈ ds, Thg d) ∧ ds.length = i) ⟨Ext.mut P20 P20.ref nD, [], [], upd_same, (fun _ => .nil), (fun _ m => nomatch m), rfl⟩ ?_ ?_
          · rintro j H21 hj ⟨e21, vs, ds, hD, ta, tgs, lds⟩
            have hl21 := e21.get (s1520 _ _ hl15) lp
            have tL21 := thAll_ext P20 e21 (thAll_same s1520 tL15) (els_pot els)
            refine ⟨rfl, _, rfl, _, rfl, p, c, l, _, L.map (·.2), D, vs, rfl, e21.pot, hl21, lp, tL21, fun q mq => (rows q mq).1, pos, few, hD, nDl, nDp, nDc, fun v d H22 e22 mutD tg => ?_⟩
            have lvs := thAll_len (ta (.own 0))
            refine ⟨vs, e22.get hD nDp, by rw [sizeLine_eq]; omega, Ext.mut P20 (e21.trans e22) nD, vs ++ [v], ds ++ [d], upd_same, fun o => ?_, fun d' m => ?_, by rw [List.length_append, lds]; rfl⟩
            · rw [upd_upd]
              obtain ⟨x1, x2⟩ := ext_upd (o := o) e21.pot e22 nDp nDc
              exact thAll_app (thAll_ext x1 x2 (ta o) (pots tgs)) (.cons (mutD o) .nil)
            · rcases List.mem_append.mp m with m | m
              · exact tgs d' m
              · rw [List.mem_singleton.mp m]
                exact tg
          · rintro H21 ⟨e21, vs6, ds6, hD, ta, tgs, lds⟩
            have ta6 := ta (.lst vs6)
            rw [upd_self hD] at ta6
            have lv6 := thAll_len ta6
            refine ⟨_, _, _, _, rfl, rfl, e21.get hl3 l3p, hD, by rw [List.length_append, sizeLine_eq]; show _ + 1 + _ ≤ _; omega, fun l4 nl4 => ?_⟩
            refine next _ _ ⟨l4, _, _, rfl, (Ext.pre s1520 e21).same (same_upd nl4), upd_same, thAll_same (same_upd nl4) (thAll_app (thAll_ext P20 e21 ta20 (pots tg20)) ta6), fun d m => ?_⟩
            exact (List.mem_append.mp m).elim (tg20 d) (tgs d)
    · rintro σ H2 ⟨v2, v3, v4, v5, v6, v7, v8, v9, v10, v11, v12, rfl, hP2⟩
      exact k H2
end
end Lk

/-! K22z -/
set_option Elab.async false
set_option linter.all false
set_option maxRecDepth 100000
set_option maxHeartbeats 4000000
namespace Lk
open PySem PySem.Spec PyProof.Rows L2
theorem all_mk {l : PySem.W.OpenLaw} {w : World} {K : PySem.W.Frag} {h : Heap} {mg : Str → Option Value} {fa : Addr} (X : K.In h) (G : h.Ns mainGlobals mg) (hfa : mg "law" = some (.ref fa))
    {f0 : Addr} {od0 an0 : Option Addr} {sl0 : Array (Option Value)} {oc0 kV0 dc0 pm0 cd0 ct0 : Value}
    (a0 : PySem.W.nsIn K mainGlobals "_wall" = some (some (.ref f0))) (l0 : K.lookup f0 = some ⟨oc0, od0, .func (PySem.W.fnOf "_wall" "_wall" (defArgs s_p__wall) (defBody s_p__wall) (defScope s_p__wall) .none kV0 dc0 pm0 an0 cd0 ct0), sl0⟩) (c0 : PySem.W.codeIn K cd0 "_wall" = true) (k0 : PySem.W.keepIn K (.ref f0) = true)
    {f1 : Addr} {od1 an1 : Option Addr} {sl1 : Array (Option Value)} {oc1 kV1 dc1 pm1 cd1 ct1 : Value}
    (a1 : PySem.W.nsIn K mainGlobals "is_name" = some (some (.ref f1))) (l1 : K.lookup f1 = some ⟨oc1, od1, .func (PySem.W.fnOf "is_name" "is_name" (defArgs s_p_is_name) (defBody s_p_is_name) (defScope s_p_is_name) .none kV1 dc1 pm1 an1 cd1 ct1), sl1⟩) (c1 : PySem.W.codeIn K cd1 "is_name" = true) (k1 : PySem.W.keepIn K (.ref f1) = true)
    {f2 : Addr} {od2 an2 : Option Addr} {sl2 : Array (Option Value)} {oc2 kV2 dc2 pm2 cd2 ct2 : Value}
    (a2 : PySem.W.nsIn K mainGlobals "is_pattern" = some (some (.ref f2))) (l2 : K.lookup f2 = some ⟨oc2, od2, .func (PySem.W.fnOf "is_pattern" "is_pattern" (defArgs s_p_is_pattern) (defBody s_p_is_pattern) (defScope s_p_is_pattern) .none kV2 dc2 pm2 an2 cd2 ct2), sl2⟩) (c2 : PySem.W.codeIn K cd2 "is_pattern" = true) (k2 : PySem.W.keepIn K (.ref f2) = true)
    {f3 : Addr} {od3 an3 : Option Addr} {sl3 : Array (Option Value)} {oc3 kV3 dc3 pm3 cd3 ct3 : Value}
    (a3 : PySem.W.nsIn K mainGlobals "is_end" = some (some (.ref f3))) (l3 : K.lookup f3 = some ⟨oc3, od3, .func (PySem.W.fnOf "is_end" "is_end" (defArgs s_p_is_end) (defBody s_p_is_end) (defScope s_p_is_end) .none kV3 dc3 pm3 an3 cd3 ct3), sl3⟩) (c3 : PySem.W.codeIn K cd3 "is_end" = true) (k3 : PySem.W.keepIn K (.ref f3) = true)
    {f4 : Addr} {od4 an4 : Option Addr} {sl4 : Array (Option Value)} {oc4 kV4 dc4 pm4 cd4 ct4 : Value}
    (a4 : PySem.W.nsIn K mainGlobals "need_name" = some (some (.ref f4))) (l4 : K.lookup f4 = some ⟨oc4, od4, .func (PySem.W.fnOf "need_name" "need_name" (defArgs s_p_need_name) (defBody s_p_need_name) (defScope s_p_need_name) .none kV4 dc4 pm4 an4 cd4 ct4), sl4⟩) (c4 : PySem.W.codeIn K cd4 "need_name" = true) (k4 : PySem.W.keepIn K (.ref f4) = true)
    {f5 : Addr} {od5 an5 : Option Addr} {sl5 : Array (Option Value)} {oc5 kV5 dc5 pm5 cd5 ct5 : Value}
    (a5 : PySem.W.nsIn K mainGlobals "stem_within" = some (some (.ref f5))) (l5 : K.lookup f5 = some ⟨oc5, od5, .func (PySem.W.fnOf "stem_within" "stem_within" (defArgs s_p_stem_within) (defBody s_p_stem_within) (defScope s_p_stem_within) .none kV5 dc5 pm5 an5 cd5 ct5), sl5⟩) (c5 : PySem.W.codeIn K cd5 "stem_within" = true) (k5 : PySem.W.keepIn K (.ref f5) = true)
    {f6 : Addr} {od6 an6 : Option Addr} {sl6 : Array (Option Value)} {oc6 kV6 dc6 pm6 cd6 ct6 : Value}
    (a6 : PySem.W.nsIn K mainGlobals "filled" = some (some (.ref f6))) (l6 : K.lookup f6 = some ⟨oc6, od6, .func (PySem.W.fnOf "filled" "filled" (defArgs s_p_filled) (defBody s_p_filled) (defScope s_p_filled) .none kV6 dc6 pm6 an6 cd6 ct6), sl6⟩) (c6 : PySem.W.codeIn K cd6 "filled" = true) (k6 : PySem.W.keepIn K (.ref f6) = true)
    {f7 : Addr} {od7 an7 : Option Addr} {sl7 : Array (Option Value)} {oc7 kV7 dc7 pm7 cd7 ct7 : Value}
    (a7 : PySem.W.nsIn K mainGlobals "ascending" = some (some (.ref f7))) (l7 : K.lookup f7 = some ⟨oc7, od7, .func (PySem.W.fnOf "ascending" "ascending" (defArgs s_p_ascending) (defBody s_p_ascending) (defScope s_p_ascending) .none kV7 dc7 pm7 an7 cd7 ct7), sl7⟩) (c7 : PySem.W.codeIn K cd7 "ascending" = true) (k7 : PySem.W.keepIn K (.ref f7) = true)
    {f8 : Addr} {od8 an8 : Option Addr} {sl8 : Array (Option Value)} {oc8 kV8 dc8 pm8 cd8 ct8 : Value}
    (a8 : PySem.W.nsIn K mainGlobals "is_rule" = some (some (.ref f8))) (l8 : K.lookup f8 = some ⟨oc8, od8, .func (PySem.W.fnOf "is_rule" "is_rule" (defArgs s_p_is_rule) (defBody s_p_is_rule) (defScope s_p_is_rule) .none kV8 dc8 pm8 an8 cd8 ct8), sl8⟩) (c8 : PySem.W.codeIn K cd8 "is_rule" = true) (k8 : PySem.W.keepIn K (.ref f8) = true)
    {f9 : Addr} {od9 an9 : Option Addr} {sl9 : Array (Option Value)} {oc9 kV9 dc9 pm9 cd9 ct9 : Value}
    (a9 : PySem.W.nsIn K mainGlobals "is_label" = some (some (.ref f9))) (l9 : K.lookup f9 = some ⟨oc9, od9, .func (PySem.W.fnOf "is_label" "is_label" (defArgs s_p_is_label) (defBody s_p_is_label) (defScope s_p_is_label) .none kV9 dc9 pm9 an9 cd9 ct9), sl9⟩) (c9 : PySem.W.codeIn K cd9 "is_label" = true) (k9 : PySem.W.keepIn K (.ref f9) = true)
    {f10 : Addr} {od10 an10 : Option Addr} {sl10 : Array (Option Value)} {oc10 kV10 dc10 pm10 cd10 ct10 : Value}
    (a10 : PySem.W.nsIn K mainGlobals "are_sources" = some (some (.ref f10))) (l10 : K.lookup f10 = some ⟨oc10, od10, .func (PySem.W.fnOf "are_sources" "are_sources" (defArgs s_p_are_sources) (defBody s_p_are_sources) (defScope s_p_are_sources) .none kV10 dc10 pm10 an10 cd10 ct10), sl10⟩) (c10 : PySem.W.codeIn K cd10 "are_sources" = true) (k10 : PySem.W.keepIn K (.ref f10) = true)
    {f11 : Addr} {od11 an11 : Option Addr} {sl11 : Array (Option Value)} {oc11 kV11 dc11 pm11 cd11 ct11 : Value}
    (a11 : PySem.W.nsIn K mainGlobals "is_rule_source" = some (some (.ref f11))) (l11 : K.lookup f11 = some ⟨oc11, od11, .func (PySem.W.fnOf "is_rule_source" "is_rule_source" (defArgs s_p_is_rule_source) (defBody s_p_is_rule_source) (defScope s_p_is_rule_source) .none kV11 dc11 pm11 an11 cd11 ct11), sl11⟩) (c11 : PySem.W.codeIn K cd11 "is_rule_source" = true) (k11 : PySem.W.keepIn K (.ref f11) = true)
    {f12 : Addr} {od12 an12 : Option Addr} {sl12 : Array (Option Value)} {oc12 kV12 dc12 pm12 cd12 ct12 : Value}
    (a12 : PySem.W.nsIn K mainGlobals "is_book" = some (some (.ref f12))) (l12 : K.lookup f12 = some ⟨oc12, od12, .func (PySem.W.fnOf "is_book" "is_book" (defArgs s_p_is_book) (defBody s_p_is_book) (defScope s_p_is_book) .none kV12 dc12 pm12 an12 cd12 ct12), sl12⟩) (c12 : PySem.W.codeIn K cd12 "is_book" = true) (k12 : PySem.W.keepIn K (.ref f12) = true)
    {f13 : Addr} {od13 an13 : Option Addr} {sl13 : Array (Option Value)} {oc13 kV13 dc13 pm13 cd13 ct13 : Value}
    (a13 : PySem.W.nsIn K mainGlobals "are_files" = some (some (.ref f13))) (l13 : K.lookup f13 = some ⟨oc13, od13, .func (PySem.W.fnOf "are_files" "are_files" (defArgs s_p_are_files) (defBody s_p_are_files) (defScope s_p_are_files) .none kV13 dc13 pm13 an13 cd13 ct13), sl13⟩) (c13 : PySem.W.codeIn K cd13 "are_files" = true) (k13 : PySem.W.keepIn K (.ref f13) = true)
    {f14 : Addr} {od14 an14 : Option Addr} {sl14 : Array (Option Value)} {oc14 kV14 dc14 pm14 cd14 ct14 : Value}
    (a14 : PySem.W.nsIn K mainGlobals "fitted" = some (some (.ref f14))) (l14 : K.lookup f14 = some ⟨oc14, od14, .func (PySem.W.fnOf "fitted" "fitted" (defArgs s_p_fitted) (defBody s_p_fitted) (defScope s_p_fitted) .none kV14 dc14 pm14 an14 cd14 ct14), sl14⟩) (c14 : PySem.W.codeIn K cd14 "fitted" = true) (k14 : PySem.W.keepIn K (.ref f14) = true)
    {f15 : Addr} {od15 an15 : Option Addr} {sl15 : Array (Option Value)} {oc15 kV15 dc15 pm15 cd15 ct15 : Value}
    (a15 : PySem.W.nsIn K mainGlobals "need_book" = some (some (.ref f15))) (l15 : K.lookup f15 = some ⟨oc15, od15, .func (PySem.W.fnOf "need_book" "need_book" (defArgs s_p_need_book) (defBody s_p_need_book) (defScope s_p_need_book) .none kV15 dc15 pm15 an15 cd15 ct15), sl15⟩) (c15 : PySem.W.codeIn K cd15 "need_book" = true) (k15 : PySem.W.keepIn K (.ref f15) = true)
    {f16 : Addr} {od16 an16 : Option Addr} {sl16 : Array (Option Value)} {oc16 kV16 dc16 pm16 cd16 ct16 : Value}
    (a16 : PySem.W.nsIn K mainGlobals "need_files" = some (some (.ref f16))) (l16 : K.lookup f16 = some ⟨oc16, od16, .func (PySem.W.fnOf "need_files" "need_files" (defArgs s_p_need_files) (defBody s_p_need_files) (defScope s_p_need_files) .none kV16 dc16 pm16 an16 cd16 ct16), sl16⟩) (c16 : PySem.W.codeIn K cd16 "need_files" = true) (k16 : PySem.W.keepIn K (.ref f16) = true)
    {f17 : Addr} {od17 an17 : Option Addr} {sl17 : Array (Option Value)} {oc17 kV17 dc17 pm17 cd17 ct17 : Value}
    (a17 : PySem.W.nsIn K mainGlobals "need_things" = some (some (.ref f17))) (l17 : K.lookup f17 = some ⟨oc17, od17, .func (PySem.W.fnOf "need_things" "need_things" (defArgs s_p_need_things) (defBody s_p_need_things) (defScope s_p_need_things) .none kV17 dc17 pm17 an17 cd17 ct17), sl17⟩) (c17 : PySem.W.codeIn K cd17 "need_things" = true) (k17 : PySem.W.keepIn K (.ref f17) = true)
    {f18 : Addr} {od18 an18 : Option Addr} {sl18 : Array (Option Value)} {oc18 kV18 dc18 pm18 cd18 ct18 : Value}
    (a18 : PySem.W.nsIn K mainGlobals "is_number_in" = some (some (.ref f18))) (l18 : K.lookup f18 = some ⟨oc18, od18, .func (PySem.W.fnOf "is_number_in" "is_number_in" (defArgs s_p_is_number_in) (defBody s_p_is_number_in) (defScope s_p_is_number_in) .none kV18 dc18 pm18 an18 cd18 ct18), sl18⟩) (c18 : PySem.W.codeIn K cd18 "is_number_in" = true) (k18 : PySem.W.keepIn K (.ref f18) = true)
    {f19 : Addr} {od19 an19 : Option Addr} {sl19 : Array (Option Value)} {oc19 kV19 dc19 pm19 cd19 ct19 : Value}
    (a19 : PySem.W.nsIn K mainGlobals "way" = some (some (.ref f19))) (l19 : K.lookup f19 = some ⟨oc19, od19, .func (PySem.W.fnOf "way" "way" (defArgs s_p_way) (defBody s_p_way) (defScope s_p_way) .none kV19 dc19 pm19 an19 cd19 ct19), sl19⟩) (c19 : PySem.W.codeIn K cd19 "way" = true) (k19 : PySem.W.keepIn K (.ref f19) = true)
    {f20 : Addr} {od20 an20 : Option Addr} {sl20 : Array (Option Value)} {oc20 kV20 dc20 pm20 cd20 ct20 : Value}
    (a20 : PySem.W.nsIn K mainGlobals "can" = some (some (.ref f20))) (l20 : K.lookup f20 = some ⟨oc20, od20, .func (PySem.W.fnOf "can" "can" (defArgs s_p_can) (defBody s_p_can) (defScope s_p_can) .none kV20 dc20 pm20 an20 cd20 ct20), sl20⟩) (c20 : PySem.W.codeIn K cd20 "can" = true) (k20 : PySem.W.keepIn K (.ref f20) = true)
    {f21 : Addr} {od21 an21 : Option Addr} {sl21 : Array (Option Value)} {oc21 kV21 dc21 pm21 cd21 ct21 : Value}
    (a21 : PySem.W.nsIn K mainGlobals "block" = some (some (.ref f21))) (l21 : K.lookup f21 = some ⟨oc21, od21, .func (PySem.W.fnOf "block" "block" (defArgs s_p_block) (defBody s_p_block) (defScope s_p_block) .none kV21 dc21 pm21 an21 cd21 ct21), sl21⟩) (c21 : PySem.W.codeIn K cd21 "block" = true) (k21 : PySem.W.keepIn K (.ref f21) = true)
    {f22 : Addr} {od22 an22 : Option Addr} {sl22 : Array (Option Value)} {oc22 kV22 dc22 pm22 cd22 ct22 : Value}
    (a22 : PySem.W.nsIn K mainGlobals "shows_block" = some (some (.ref f22))) (l22 : K.lookup f22 = some ⟨oc22, od22, .func (PySem.W.fnOf "shows_block" "shows_block" (defArgs s_p_shows_block) (defBody s_p_shows_block) (defScope s_p_shows_block) .none kV22 dc22 pm22 an22 cd22 ct22), sl22⟩) (c22 : PySem.W.codeIn K cd22 "shows_block" = true) (k22 : PySem.W.keepIn K (.ref f22) = true)
    {f23 : Addr} {od23 an23 : Option Addr} {sl23 : Array (Option Value)} {oc23 kV23 dc23 pm23 cd23 ct23 : Value}
    (a23 : PySem.W.nsIn K mainGlobals "with_one_more" = some (some (.ref f23))) (l23 : K.lookup f23 = some ⟨oc23, od23, .func (PySem.W.fnOf "with_one_more" "with_one_more" (defArgs s_p_with_one_more) (defBody s_p_with_one_more) (defScope s_p_with_one_more) .none kV23 dc23 pm23 an23 cd23 ct23), sl23⟩) (c23 : PySem.W.codeIn K cd23 "with_one_more" = true) (k23 : PySem.W.keepIn K (.ref f23) = true)
    {f24 : Addr} {od24 an24 : Option Addr} {sl24 : Array (Option Value)} {oc24 kV24 dc24 pm24 cd24 ct24 : Value}
    (a24 : PySem.W.nsIn K mainGlobals "rows_behind" = some (some (.ref f24))) (l24 : K.lookup f24 = some ⟨oc24, od24, .func (PySem.W.fnOf "rows_behind" "rows_behind" (defArgs s_p_rows_behind) (defBody s_p_rows_behind) (defScope s_p_rows_behind) .none kV24 dc24 pm24 an24 cd24 ct24), sl24⟩) (c24 : PySem.W.codeIn K cd24 "rows_behind" = true) (k24 : PySem.W.keepIn K (.ref f24) = true)
    {f25 : Addr} {od25 an25 : Option Addr} {sl25 : Array (Option Value)} {oc25 kV25 dc25 pm25 cd25 ct25 : Value}
    (a25 : PySem.W.nsIn K mainGlobals "is_row" = some (some (.ref f25))) (l25 : K.lookup f25 = some ⟨oc25, od25, .func (PySem.W.fnOf "is_row" "is_row" (defArgs s_p_is_row) (defBody s_p_is_row) (defScope s_p_is_row) .none kV25 dc25 pm25 an25 cd25 ct25), sl25⟩) (c25 : PySem.W.codeIn K cd25 "is_row" = true) (k25 : PySem.W.keepIn K (.ref f25) = true)
    {f26 : Addr} {od26 an26 : Option Addr} {sl26 : Array (Option Value)} {oc26 kV26 dc26 pm26 cd26 ct26 : Value}
    (a26 : PySem.W.nsIn K mainGlobals "holds_out" = some (some (.ref f26))) (l26 : K.lookup f26 = some ⟨oc26, od26, .func (PySem.W.fnOf "holds_out" "holds_out" (defArgs s_p_holds_out) (defBody s_p_holds_out) (defScope s_p_holds_out) .none kV26 dc26 pm26 an26 cd26 ct26), sl26⟩) (c26 : PySem.W.codeIn K cd26 "holds_out" = true) (k26 : PySem.W.keepIn K (.ref f26) = true)
    {f27 : Addr} {od27 an27 : Option Addr} {sl27 : Array (Option Value)} {oc27 kV27 dc27 pm27 cd27 ct27 : Value}
    (a27 : PySem.W.nsIn K mainGlobals "_law_kneaded" = some (some (.ref f27))) (l27 : K.lookup f27 = some ⟨oc27, od27, .func (PySem.W.fnOf "_law_kneaded" "_law_kneaded" (defArgs s_kneaded) (defBody s_kneaded) (defScope s_kneaded) .none kV27 dc27 pm27 an27 cd27 ct27), sl27⟩) (c27 : PySem.W.codeIn K cd27 "_law_kneaded" = true) (k27 : PySem.W.keepIn K (.ref f27) = true)
    {f28 : Addr} {od28 an28 : Option Addr} {sl28 : Array (Option Value)} {oc28 kV28 dc28 pm28 cd28 ct28 : Value}
    (a28 : PySem.W.nsIn K mainGlobals "_law_pot_of" = some (some (.ref f28))) (l28 : K.lookup f28 = some ⟨oc28, od28, .func (PySem.W.fnOf "_law_pot_of" "_law_pot_of" (defArgs s_pot_of) (defBody s_pot_of) (defScope s_pot_of) .none kV28 dc28 pm28 an28 cd28 ct28), sl28⟩) (c28 : PySem.W.codeIn K cd28 "_law_pot_of" = true) (k28 : PySem.W.keepIn K (.ref f28) = true)
    {f29 : Addr} {od29 an29 : Option Addr} {sl29 : Array (Option Value)} {oc29 kV29 dc29 pm29 cd29 ct29 : Value}
    (a29 : PySem.W.nsIn K mainGlobals "_law_below" = some (some (.ref f29))) (l29 : K.lookup f29 = some ⟨oc29, od29, .func (PySem.W.fnOf "_law_below" "_law_below" (defArgs s_below) (defBody s_below) (defScope s_below) .none kV29 dc29 pm29 an29 cd29 ct29), sl29⟩) (c29 : PySem.W.codeIn K cd29 "_law_below" = true) (k29 : PySem.W.keepIn K (.ref f29) = true)
    {f30 : Addr} {od30 an30 : Option Addr} {sl30 : Array (Option Value)} {oc30 kV30 dc30 pm30 cd30 ct30 : Value}
    (a30 : PySem.W.nsIn K mainGlobals "_law_pick" = some (some (.ref f30))) (l30 : K.lookup f30 = some ⟨oc30, od30, .func (PySem.W.fnOf "_law_pick" "_law_pick" (defArgs s_pick) (defBody s_pick) (defScope s_pick) .none kV30 dc30 pm30 an30 cd30 ct30), sl30⟩) (c30 : PySem.W.codeIn K cd30 "_law_pick" = true) (k30 : PySem.W.keepIn K (.ref f30) = true)
    {f31 : Addr} {od31 an31 : Option Addr} {sl31 : Array (Option Value)} {oc31 kV31 dc31 pm31 cd31 ct31 : Value}
    (a31 : PySem.W.nsIn K mainGlobals "_law_some_name" = some (some (.ref f31))) (l31 : K.lookup f31 = some ⟨oc31, od31, .func (PySem.W.fnOf "_law_some_name" "_law_some_name" (defArgs s_some_name) (defBody s_some_name) (defScope s_some_name) .none kV31 dc31 pm31 an31 cd31 ct31), sl31⟩) (c31 : PySem.W.codeIn K cd31 "_law_some_name" = true) (k31 : PySem.W.keepIn K (.ref f31) = true)
    {f32 : Addr} {od32 an32 : Option Addr} {sl32 : Array (Option Value)} {oc32 kV32 dc32 pm32 cd32 ct32 : Value}
    (a32 : PySem.W.nsIn K mainGlobals "_law_split" = some (some (.ref f32))) (l32 : K.lookup f32 = some ⟨oc32, od32, .func (PySem.W.fnOf "_law_split" "_law_split" (defArgs s_split) (defBody s_split) (defScope s_split) .none kV32 dc32 pm32 an32 cd32 ct32), sl32⟩) (c32 : PySem.W.codeIn K cd32 "_law_split" = true) (k32 : PySem.W.keepIn K (.ref f32) = true)
    {f33 : Addr} {od33 an33 : Option Addr} {sl33 : Array (Option Value)} {oc33 kV33 dc33 pm33 cd33 ct33 : Value}
    (a33 : PySem.W.nsIn K mainGlobals "_law_is_name" = some (some (.ref f33))) (l33 : K.lookup f33 = some ⟨oc33, od33, .func (PySem.W.fnOf "_law_is_name" "_law_is_name" (defArgs s_is_name) (defBody s_is_name) (defScope s_is_name) .none kV33 dc33 pm33 an33 cd33 ct33), sl33⟩) (c33 : PySem.W.codeIn K cd33 "_law_is_name" = true) (k33 : PySem.W.keepIn K (.ref f33) = true)
    {f34 : Addr} {od34 an34 : Option Addr} {sl34 : Array (Option Value)} {oc34 kV34 dc34 pm34 cd34 ct34 : Value}
    (a34 : PySem.W.nsIn K mainGlobals "_law_stem" = some (some (.ref f34))) (l34 : K.lookup f34 = some ⟨oc34, od34, .func (PySem.W.fnOf "_law_stem" "_law_stem" (defArgs s_stem) (defBody s_stem) (defScope s_stem) .none kV34 dc34 pm34 an34 cd34 ct34), sl34⟩) (c34 : PySem.W.codeIn K cd34 "_law_stem" = true) (k34 : PySem.W.keepIn K (.ref f34) = true)
    {f35 : Addr} {od35 an35 : Option Addr} {sl35 : Array (Option Value)} {oc35 kV35 dc35 pm35 cd35 ct35 : Value}
    (a35 : PySem.W.nsIn K mainGlobals "_law_put" = some (some (.ref f35))) (l35 : K.lookup f35 = some ⟨oc35, od35, .func (PySem.W.fnOf "_law_put" "_law_put" (defArgs s_put) (defBody s_put) (defScope s_put) .none kV35 dc35 pm35 an35 cd35 ct35), sl35⟩) (c35 : PySem.W.codeIn K cd35 "_law_put" = true) (k35 : PySem.W.keepIn K (.ref f35) = true)
    {f36 : Addr} {od36 an36 : Option Addr} {sl36 : Array (Option Value)} {oc36 kV36 dc36 pm36 cd36 ct36 : Value}
    (a36 : PySem.W.nsIn K mainGlobals "_law_ordered" = some (some (.ref f36))) (l36 : K.lookup f36 = some ⟨oc36, od36, .func (PySem.W.fnOf "_law_ordered" "_law_ordered" (defArgs s_ordered) (defBody s_ordered) (defScope s_ordered) .none kV36 dc36 pm36 an36 cd36 ct36), sl36⟩) (c36 : PySem.W.codeIn K cd36 "_law_ordered" = true) (k36 : PySem.W.keepIn K (.ref f36) = true)
    {f37 : Addr} {od37 an37 : Option Addr} {sl37 : Array (Option Value)} {oc37 kV37 dc37 pm37 cd37 ct37 : Value}
    (a37 : PySem.W.nsIn K mainGlobals "_law_whole" = some (some (.ref f37))) (l37 : K.lookup f37 = some ⟨oc37, od37, .func (PySem.W.fnOf "_law_whole" "_law_whole" (defArgs s_whole) (defBody s_whole) (defScope s_whole) .none kV37 dc37 pm37 an37 cd37 ct37), sl37⟩) (c37 : PySem.W.codeIn K cd37 "_law_whole" = true) (k37 : PySem.W.keepIn K (.ref f37) = true)
    {f38 : Addr} {od38 an38 : Option Addr} {sl38 : Array (Option Value)} {oc38 kV38 dc38 pm38 cd38 ct38 : Value}
    (a38 : PySem.W.nsIn K mainGlobals "_law_some_source" = some (some (.ref f38))) (l38 : K.lookup f38 = some ⟨oc38, od38, .func (PySem.W.fnOf "_law_some_source" "_law_some_source" (defArgs s_some_source) (defBody s_some_source) (defScope s_some_source) .none kV38 dc38 pm38 an38 cd38 ct38), sl38⟩) (c38 : PySem.W.codeIn K cd38 "_law_some_source" = true) (k38 : PySem.W.keepIn K (.ref f38) = true)
    {f39 : Addr} {od39 an39 : Option Addr} {sl39 : Array (Option Value)} {oc39 kV39 dc39 pm39 cd39 ct39 : Value}
    (a39 : PySem.W.nsIn K mainGlobals "_law_some_rule" = some (some (.ref f39))) (l39 : K.lookup f39 = some ⟨oc39, od39, .func (PySem.W.fnOf "_law_some_rule" "_law_some_rule" (defArgs s_some_rule) (defBody s_some_rule) (defScope s_some_rule) .none kV39 dc39 pm39 an39 cd39 ct39), sl39⟩) (c39 : PySem.W.codeIn K cd39 "_law_some_rule" = true) (k39 : PySem.W.keepIn K (.ref f39) = true)
    {f40 : Addr} {od40 an40 : Option Addr} {sl40 : Array (Option Value)} {oc40 kV40 dc40 pm40 cd40 ct40 : Value}
    (a40 : PySem.W.nsIn K mainGlobals "_law_some_book" = some (some (.ref f40))) (l40 : K.lookup f40 = some ⟨oc40, od40, .func (PySem.W.fnOf "_law_some_book" "_law_some_book" (defArgs s_some_book) (defBody s_some_book) (defScope s_some_book) .none kV40 dc40 pm40 an40 cd40 ct40), sl40⟩) (c40 : PySem.W.codeIn K cd40 "_law_some_book" = true) (k40 : PySem.W.keepIn K (.ref f40) = true)
    {f41 : Addr} {od41 an41 : Option Addr} {sl41 : Array (Option Value)} {oc41 kV41 dc41 pm41 cd41 ct41 : Value}
    (a41 : PySem.W.nsIn K mainGlobals "_law_kin" = some (some (.ref f41))) (l41 : K.lookup f41 = some ⟨oc41, od41, .func (PySem.W.fnOf "_law_kin" "_law_kin" (defArgs s_kin) (defBody s_kin) (defScope s_kin) .none kV41 dc41 pm41 an41 cd41 ct41), sl41⟩) (c41 : PySem.W.codeIn K cd41 "_law_kin" = true) (k41 : PySem.W.keepIn K (.ref f41) = true)
    {f42 : Addr} {od42 an42 : Option Addr} {sl42 : Array (Option Value)} {oc42 kV42 dc42 pm42 cd42 ct42 : Value}
    (a42 : PySem.W.nsIn K mainGlobals "_law_way" = some (some (.ref f42))) (l42 : K.lookup f42 = some ⟨oc42, od42, .func (PySem.W.fnOf "_law_way" "_law_way" (defArgs s_way) (defBody s_way) (defScope s_way) .none kV42 dc42 pm42 an42 cd42 ct42), sl42⟩) (c42 : PySem.W.codeIn K cd42 "_law_way" = true) (k42 : PySem.W.keepIn K (.ref f42) = true)
    {f43 : Addr} {od43 an43 : Option Addr} {sl43 : Array (Option Value)} {oc43 kV43 dc43 pm43 cd43 ct43 : Value}
    (a43 : PySem.W.nsIn K mainGlobals "_law_some_files" = some (some (.ref f43))) (l43 : K.lookup f43 = some ⟨oc43, od43, .func (PySem.W.fnOf "_law_some_files" "_law_some_files" (defArgs s_some_files) (defBody s_some_files) (defScope s_some_files) .none kV43 dc43 pm43 an43 cd43 ct43), sl43⟩) (c43 : PySem.W.codeIn K cd43 "_law_some_files" = true) (k43 : PySem.W.keepIn K (.ref f43) = true)
    {f44 : Addr} {od44 an44 : Option Addr} {sl44 : Array (Option Value)} {oc44 kV44 dc44 pm44 cd44 ct44 : Value}
    (a44 : PySem.W.nsIn K mainGlobals "_law_is_block" = some (some (.ref f44))) (l44 : K.lookup f44 = some ⟨oc44, od44, .func (PySem.W.fnOf "_law_is_block" "_law_is_block" (defArgs s_is_block) (defBody s_is_block) (defScope s_is_block) .none kV44 dc44 pm44 an44 cd44 ct44), sl44⟩) (c44 : PySem.W.codeIn K cd44 "_law_is_block" = true) (k44 : PySem.W.keepIn K (.ref f44) = true)
    {f45 : Addr} {od45 an45 : Option Addr} {sl45 : Array (Option Value)} {oc45 kV45 dc45 pm45 cd45 ct45 : Value}
    (a45 : PySem.W.nsIn K mainGlobals "_law_bent" = some (some (.ref f45))) (l45 : K.lookup f45 = some ⟨oc45, od45, .func (PySem.W.fnOf "_law_bent" "_law_bent" (defArgs s_bent) (defBody s_bent) (defScope s_bent) .none kV45 dc45 pm45 an45 cd45 ct45), sl45⟩) (c45 : PySem.W.codeIn K cd45 "_law_bent" = true) (k45 : PySem.W.keepIn K (.ref f45) = true)
    {f46 : Addr} {od46 an46 : Option Addr} {sl46 : Array (Option Value)} {oc46 kV46 dc46 pm46 cd46 ct46 : Value}
    (a46 : PySem.W.nsIn K mainGlobals "law" = some (some (.ref f46))) (l46 : K.lookup f46 = some ⟨oc46, od46, .func (PySem.W.fnOf "law" "law" (defArgs s_law) (defBody s_law) (defScope s_law) .none kV46 dc46 pm46 an46 cd46 ct46), sl46⟩) (c46 : PySem.W.codeIn K cd46 "law" = true) (k46 : PySem.W.keepIn K (.ref f46) = true)
    (z0 : PySem.W.nsIn K mainGlobals "int" = some none)
    (z1 : PySem.W.nsIn K mainGlobals "abs" = some none)
    (z2 : PySem.W.nsIn K mainGlobals "range" = some none)
    (z3 : PySem.W.nsIn K mainGlobals "enumerate" = some none)
    (z4 : PySem.W.nsIn K mainGlobals "len" = some none)
    (z5 : PySem.W.nsIn K mainGlobals "isinstance" = some none)
    (z6 : PySem.W.nsIn K mainGlobals "str" = some none)
    (z7 : PySem.W.nsIn K mainGlobals "tuple" = some none)
    (z8 : PySem.W.nsIn K mainGlobals "repr" = some none)
    (z9 : PySem.W.nsIn K mainGlobals "list" = some none)
    (z10 : PySem.W.nsIn K mainGlobals "sorted" = some none)
    (z11 : PySem.W.nsIn K mainGlobals "set" = some none)
    (z12 : PySem.W.nsIn K mainGlobals "all" = some none)
    (z13 : PySem.W.nsIn K mainGlobals "zip" = some none)
    (z14 : PySem.W.nsIn K mainGlobals "any" = some none)
    (z15 : PySem.W.nsIn K mainGlobals "bool" = some none)
    {tk0 : Tok} (q0 : PySem.W.nsIn K mainGlobals "CAPITALS" = some (some (.str "ABCDEFGHIJKLMNOPQRSTUVWXYZ" tk0)))
    {tk1 : Tok} (q1 : PySem.W.nsIn K mainGlobals "SMALLS" = some (some (.str "abcdefghijklmnopqrstuvwxyz" tk1)))
    {tk2 : Tok} (q2 : PySem.W.nsIn K mainGlobals "MOST_END_LETTERS" = some (some (.int 3 tk2)))
    {tk3 : Tok} (q3 : PySem.W.nsIn K mainGlobals "MOST_LABEL_LETTERS" = some (some (.int 8 tk3)))
    {tk4 : Tok} (q4 : PySem.W.nsIn K mainGlobals "MOST_NAME_LETTERS" = some (some (.int 6 tk4)))
    {tk5 : Tok} (q5 : PySem.W.nsIn K mainGlobals "MOST_SOURCES" = some (some (.int 3 tk5)))
    {tk6 : Tok} (q6 : PySem.W.nsIn K mainGlobals "MOST_RULES" = some (some (.int 6 tk6)))
    {tk7 : Tok} (q7 : PySem.W.nsIn K mainGlobals "MOST_FILES" = some (some (.int 60 tk7)))
    {B0 : Addr} (ba0 : PySem.W.nsIn K mainGlobals "Search" = some (some (.ref B0)))
    (bp0 : PySem.W.plainGet K B0 Str.empty = true) (bh0 : PySem.W.hasDictIn K B0 = true) (bo0 : PySem.W.plainOver K B0 = true) (bs0 : PySem.W.findIn K (.ref B0) "__setattr__" = some (some (.builtin "object.__setattr__"))) (bm0 : PySem.W.makesIn K B0 = true) (bk0 : PySem.W.keepIn K (.ref B0) = true)
    (bf0_0 : PySem.W.findIn K (.ref B0) "book" = some none)
    (bf0_1 : PySem.W.findIn K (.ref B0) "there" = some none)
    (bf0_2 : PySem.W.findIn K (.ref B0) "known" = some none)
    {g0_0 : Addr} {god0_0 gan0_0 : Option Addr} {gsl0_0 : Array (Option Value)} {goc0_0 gkV0_0 gdc0_0 gpm0_0 gcd0_0 gct0_0 : Value}
    (ga0_0 : PySem.W.findIn K (.ref B0) "__init__" = some (some (.ref g0_0))) (gi0_0 : PySem.W.isFn K (.ref g0_0) = true) (gl0_0 : K.lookup g0_0 = some ⟨goc0_0, god0_0, .func (PySem.W.fnOf "__init__" "Search.__init__" (defArgs s_Search_init) (defBody s_Search_init) (defScope s_Search_init) .none gkV0_0 gdc0_0 gpm0_0 gan0_0 gcd0_0 gct0_0), gsl0_0⟩) (gc0_0 : PySem.W.codeIn K gcd0_0 "Search.__init__" = true) (gk0_0 : PySem.W.keepIn K (.ref g0_0) = true)
    {g0_1 : Addr} {god0_1 gan0_1 : Option Addr} {gsl0_1 : Array (Option Value)} {goc0_1 gkV0_1 gdc0_1 gpm0_1 gcd0_1 gct0_1 : Value}
    (ga0_1 : PySem.W.findIn K (.ref B0) "told" = some (some (.ref g0_1))) (gi0_1 : PySem.W.isFn K (.ref g0_1) = true) (gl0_1 : K.lookup g0_1 = some ⟨goc0_1, god0_1, .func (PySem.W.fnOf "told" "Search.told" (defArgs s_Search_told) (defBody s_Search_told) (defScope s_Search_told) .none gkV0_1 gdc0_1 gpm0_1 gan0_1 gcd0_1 gct0_1), gsl0_1⟩) (gc0_1 : PySem.W.codeIn K gcd0_1 "Search.told" = true) (gk0_1 : PySem.W.keepIn K (.ref g0_1) = true)
    {g0_2 : Addr} {god0_2 gan0_2 : Option Addr} {gsl0_2 : Array (Option Value)} {goc0_2 gkV0_2 gdc0_2 gpm0_2 gcd0_2 gct0_2 : Value}
    (ga0_2 : PySem.W.findIn K (.ref B0) "forget" = some (some (.ref g0_2))) (gi0_2 : PySem.W.isFn K (.ref g0_2) = true) (gl0_2 : K.lookup g0_2 = some ⟨goc0_2, god0_2, .func (PySem.W.fnOf "forget" "Search.forget" (defArgs s_Search_forget) (defBody s_Search_forget) (defScope s_Search_forget) .none gkV0_2 gdc0_2 gpm0_2 gan0_2 gcd0_2 gct0_2), gsl0_2⟩) (gc0_2 : PySem.W.codeIn K gcd0_2 "Search.forget" = true) (gk0_2 : PySem.W.keepIn K (.ref g0_2) = true)
    {g0_3 : Addr} {god0_3 gan0_3 : Option Addr} {gsl0_3 : Array (Option Value)} {goc0_3 gkV0_3 gdc0_3 gpm0_3 gcd0_3 gct0_3 : Value}
    (ga0_3 : PySem.W.findIn K (.ref B0) "first_right" = some (some (.ref g0_3))) (gi0_3 : PySem.W.isFn K (.ref g0_3) = true) (gl0_3 : K.lookup g0_3 = some ⟨goc0_3, god0_3, .func (PySem.W.fnOf "first_right" "Search.first_right" (defArgs s_Search_first_right) (defBody s_Search_first_right) (defScope s_Search_first_right) .none gkV0_3 gdc0_3 gpm0_3 gan0_3 gcd0_3 gct0_3), gsl0_3⟩) (gc0_3 : PySem.W.codeIn K gcd0_3 "Search.first_right" = true) (gk0_3 : PySem.W.keepIn K (.ref g0_3) = true)
    {g0_4 : Addr} {god0_4 gan0_4 : Option Addr} {gsl0_4 : Array (Option Value)} {goc0_4 gkV0_4 gdc0_4 gpm0_4 gcd0_4 gct0_4 : Value}
    (ga0_4 : PySem.W.findIn K (.ref B0) "missing" = some (some (.ref g0_4))) (gi0_4 : PySem.W.isFn K (.ref g0_4) = true) (gl0_4 : K.lookup g0_4 = some ⟨goc0_4, god0_4, .func (PySem.W.fnOf "missing" "Search.missing" (defArgs s_Search_missing) (defBody s_Search_missing) (defScope s_Search_missing) .none gkV0_4 gdc0_4 gpm0_4 gan0_4 gcd0_4 gct0_4), gsl0_4⟩) (gc0_4 : PySem.W.codeIn K gcd0_4 "Search.missing" = true) (gk0_4 : PySem.W.keepIn K (.ref g0_4) = true)
    : ∃ fd : FuncData, (∀ (s : Shared) (v : Value), BindsTo s fd ⟨[v], []⟩ [("script", v)]) ∧ ∀ base : Heap, K.In base → base.Ns mainGlobals mg → FnG l.prog w K mg base CX0 28 fa fd ["script"] (spLaw K) := by
  have e := hfa.symm.trans (PySem.W.mg_of X G a46)
  cases e
  refine ⟨PySem.W.fnOf "law" "law" (defArgs s_law) (defBody s_law) (defScope s_law) .none kV46 dc46 pm46 an46 cd46 ct46, fun s v => .of_eq rfl, fun base _ _ => ?_⟩
  have d_p__wall : Def1 K mg "_wall" s_p__wall := ⟨_, _, fun_mk l0 c0 k0, PySem.W.mg_of X G a0⟩
  have d_p_is_name : Def1 K mg "is_name" s_p_is_name := ⟨_, _, fun_mk l1 c1 k1, PySem.W.mg_of X G a1⟩
  have d_p_is_pattern : Def1 K mg "is_pattern" s_p_is_pattern := ⟨_, _, fun_mk l2 c2 k2, PySem.W.mg_of X G a2⟩
  have d_p_is_end : Def1 K mg "is_end" s_p_is_end := ⟨_, _, fun_mk l3 c3 k3, PySem.W.mg_of X G a3⟩
  have d_p_need_name : Def1 K mg "need_name" s_p_need_name := ⟨_, _, fun_mk l4 c4 k4, PySem.W.mg_of X G a4⟩
  have d_p_stem_within : Def1 K mg "stem_within" s_p_stem_within := ⟨_, _, fun_mk l5 c5 k5, PySem.W.mg_of X G a5⟩
  have d_p_filled : Def1 K mg "filled" s_p_filled := ⟨_, _, fun_mk l6 c6 k6, PySem.W.mg_of X G a6⟩
  have d_p_ascending : Def1 K mg "ascending" s_p_ascending := ⟨_, _, fun_mk l7 c7 k7, PySem.W.mg_of X G a7⟩
  have d_p_is_rule : Def1 K mg "is_rule" s_p_is_rule := ⟨_, _, fun_mk l8 c8 k8, PySem.W.mg_of X G a8⟩
  have d_p_is_label : Def1 K mg "is_label" s_p_is_label := ⟨_, _, fun_mk l9 c9 k9, PySem.W.mg_of X G a9⟩
  have d_p_are_sources : Def1 K mg "are_sources" s_p_are_sources := ⟨_, _, fun_mk l10 c10 k10, PySem.W.mg_of X G a10⟩
  have d_p_is_rule_source : Def1 K mg "is_rule_source" s_p_is_rule_source := ⟨_, _, fun_mk l11 c11 k11, PySem.W.mg_of X G a11⟩
  have d_p_is_book : Def1 K mg "is_book" s_p_is_book := ⟨_, _, fun_mk l12 c12 k12, PySem.W.mg_of X G a12⟩
  have d_p_are_files : Def1 K mg "are_files" s_p_are_files := ⟨_, _, fun_mk l13 c13 k13, PySem.W.mg_of X G a13⟩
  have d_p_fitted : Def1 K mg "fitted" s_p_fitted := ⟨_, _, fun_mk l14 c14 k14, PySem.W.mg_of X G a14⟩
  have d_p_need_book : Def1 K mg "need_book" s_p_need_book := ⟨_, _, fun_mk l15 c15 k15, PySem.W.mg_of X G a15⟩
  have d_p_need_files : Def1 K mg "need_files" s_p_need_files := ⟨_, _, fun_mk l16 c16 k16, PySem.W.mg_of X G a16⟩
  have d_p_need_things : Def1 K mg "need_things" s_p_need_things := ⟨_, _, fun_mk l17 c17 k17, PySem.W.mg_of X G a17⟩
  have d_p_is_number_in : Def1 K mg "is_number_in" s_p_is_number_in := ⟨_, _, fun_mk l18 c18 k18, PySem.W.mg_of X G a18⟩
  have d_p_way : Def1 K mg "way" s_p_way := ⟨_, _, fun_mk l19 c19 k19, PySem.W.mg_of X G a19⟩
  have d_p_can : Def1 K mg "can" s_p_can := ⟨_, _, fun_mk l20 c20 k20, PySem.W.mg_of X G a20⟩
  have d_p_block : Def1 K mg "block" s_p_block := ⟨_, _, fun_mk l21 c21 k21, PySem.W.mg_of X G a21⟩
  have d_p_shows_block : Def1 K mg "shows_block" s_p_shows_block := ⟨_, _, fun_mk l22 c22 k22, PySem.W.mg_of X G a22⟩
  have d_p_with_one_more : Def1 K mg "with_one_more" s_p_with_one_more := ⟨_, _, fun_mk l23 c23 k23, PySem.W.mg_of X G a23⟩
  have d_p_rows_behind : Def1 K mg "rows_behind" s_p_rows_behind := ⟨_, _, fun_mk l24 c24 k24, PySem.W.mg_of X G a24⟩
  have d_p_is_row : Def1 K mg "is_row" s_p_is_row := ⟨_, _, fun_mk l25 c25 k25, PySem.W.mg_of X G a25⟩
  have d_p_holds_out : Def1 K mg "holds_out" s_p_holds_out := ⟨_, _, fun_mk l26 c26 k26, PySem.W.mg_of X G a26⟩
  have d_kneaded : Def1 K mg "_law_kneaded" s_kneaded := ⟨_, _, fun_mk l27 c27 k27, PySem.W.mg_of X G a27⟩
  have d_pot_of : Def1 K mg "_law_pot_of" s_pot_of := ⟨_, _, fun_mk l28 c28 k28, PySem.W.mg_of X G a28⟩
  have d_below : Def1 K mg "_law_below" s_below := ⟨_, _, fun_mk l29 c29 k29, PySem.W.mg_of X G a29⟩
  have d_pick : Def1 K mg "_law_pick" s_pick := ⟨_, _, fun_mk l30 c30 k30, PySem.W.mg_of X G a30⟩
  have d_some_name : Def1 K mg "_law_some_name" s_some_name := ⟨_, _, fun_mk l31 c31 k31, PySem.W.mg_of X G a31⟩
  have d_split : Def1 K mg "_law_split" s_split := ⟨_, _, fun_mk l32 c32 k32, PySem.W.mg_of X G a32⟩
  have d_is_name : Def1 K mg "_law_is_name" s_is_name := ⟨_, _, fun_mk l33 c33 k33, PySem.W.mg_of X G a33⟩
  have d_stem : Def1 K mg "_law_stem" s_stem := ⟨_, _, fun_mk l34 c34 k34, PySem.W.mg_of X G a34⟩
  have d_put : Def1 K mg "_law_put" s_put := ⟨_, _, fun_mk l35 c35 k35, PySem.W.mg_of X G a35⟩
  have d_ordered : Def1 K mg "_law_ordered" s_ordered := ⟨_, _, fun_mk l36 c36 k36, PySem.W.mg_of X G a36⟩
  have d_whole : Def1 K mg "_law_whole" s_whole := ⟨_, _, fun_mk l37 c37 k37, PySem.W.mg_of X G a37⟩
  have d_some_source : Def1 K mg "_law_some_source" s_some_source := ⟨_, _, fun_mk l38 c38 k38, PySem.W.mg_of X G a38⟩
  have d_some_rule : Def1 K mg "_law_some_rule" s_some_rule := ⟨_, _, fun_mk l39 c39 k39, PySem.W.mg_of X G a39⟩
  have d_some_book : Def1 K mg "_law_some_book" s_some_book := ⟨_, _, fun_mk l40 c40 k40, PySem.W.mg_of X G a40⟩
  have d_kin : Def1 K mg "_law_kin" s_kin := ⟨_, _, fun_mk l41 c41 k41, PySem.W.mg_of X G a41⟩
  have d_way : Def1 K mg "_law_way" s_way := ⟨_, _, fun_mk l42 c42 k42, PySem.W.mg_of X G a42⟩
  have d_some_files : Def1 K mg "_law_some_files" s_some_files := ⟨_, _, fun_mk l43 c43 k43, PySem.W.mg_of X G a43⟩
  have d_is_block : Def1 K mg "_law_is_block" s_is_block := ⟨_, _, fun_mk l44 c44 k44, PySem.W.mg_of X G a44⟩
  have d_bent : Def1 K mg "_law_bent" s_bent := ⟨_, _, fun_mk l45 c45 k45, PySem.W.mg_of X G a45⟩
  have z_int : mg "int" = none := PySem.W.mg_none_of X G z0
  have z_abs : mg "abs" = none := PySem.W.mg_none_of X G z1
  have z_range : mg "range" = none := PySem.W.mg_none_of X G z2
  have z_enumerate : mg "enumerate" = none := PySem.W.mg_none_of X G z3
  have z_len : mg "len" = none := PySem.W.mg_none_of X G z4
  have z_isinstance : mg "isinstance" = none := PySem.W.mg_none_of X G z5
  have z_str : mg "str" = none := PySem.W.mg_none_of X G z6
  have z_tuple : mg "tuple" = none := PySem.W.mg_none_of X G z7
  have z_repr : mg "repr" = none := PySem.W.mg_none_of X G z8
  have z_list : mg "list" = none := PySem.W.mg_none_of X G z9
  have z_sorted : mg "sorted" = none := PySem.W.mg_none_of X G z10
  have z_set : mg "set" = none := PySem.W.mg_none_of X G z11
  have z_all : mg "all" = none := PySem.W.mg_none_of X G z12
  have z_zip : mg "zip" = none := PySem.W.mg_none_of X G z13
  have z_any : mg "any" = none := PySem.W.mg_none_of X G z14
  have z_bool : mg "bool" = none := PySem.W.mg_none_of X G z15
  have k_CAPITALS : Con1 mg "CAPITALS" (.str capS) := ⟨_, PySem.W.mg_of X G q0, ⟨_, rfl⟩⟩
  have k_SMALLS : Con1 mg "SMALLS" (.str smaS) := ⟨_, PySem.W.mg_of X G q1, ⟨_, rfl⟩⟩
  have k_MOST_END_LETTERS : Con1 mg "MOST_END_LETTERS" (.int 3) := ⟨_, PySem.W.mg_of X G q2, ⟨_, rfl⟩⟩
  have k_MOST_LABEL_LETTERS : Con1 mg "MOST_LABEL_LETTERS" (.int 8) := ⟨_, PySem.W.mg_of X G q3, ⟨_, rfl⟩⟩
  have k_MOST_NAME_LETTERS : Con1 mg "MOST_NAME_LETTERS" (.int 6) := ⟨_, PySem.W.mg_of X G q4, ⟨_, rfl⟩⟩
  have k_MOST_SOURCES : Con1 mg "MOST_SOURCES" (.int 3) := ⟨_, PySem.W.mg_of X G q5, ⟨_, rfl⟩⟩
  have k_MOST_RULES : Con1 mg "MOST_RULES" (.int 6) := ⟨_, PySem.W.mg_of X G q6, ⟨_, rfl⟩⟩
  have k_MOST_FILES : Con1 mg "MOST_FILES" (.int 60) := ⟨_, PySem.W.mg_of X G q7, ⟨_, rfl⟩⟩
  have Z_Search : Kls K mg "Search" B0 := ⟨⟨bp0, bh0, bo0, bs0⟩, bm0, bk0, PySem.W.mg_of X G ba0⟩
  have n_Search_book : NoAttr K B0 "book" := bf0_0
  have n_Search_there : NoAttr K B0 "there" := bf0_1
  have n_Search_known : NoAttr K B0 "known" := bf0_2
  have m_Search_init : DefM K B0 "__init__" "Search.__init__" s_Search_init := ⟨_, _, fun_mk gl0_0 gc0_0 gk0_0, ⟨ga0_0, gi0_0, gk0_0⟩⟩
  have m_Search_told : DefM K B0 "told" "Search.told" s_Search_told := ⟨_, _, fun_mk gl0_1 gc0_1 gk0_1, ⟨ga0_1, gi0_1, gk0_1⟩⟩
  have m_Search_forget : DefM K B0 "forget" "Search.forget" s_Search_forget := ⟨_, _, fun_mk gl0_2 gc0_2 gk0_2, ⟨ga0_2, gi0_2, gk0_2⟩⟩
  have m_Search_first_right : DefM K B0 "first_right" "Search.first_right" s_Search_first_right := ⟨_, _, fun_mk gl0_3 gc0_3 gk0_3, ⟨ga0_3, gi0_3, gk0_3⟩⟩
  have m_Search_missing : DefM K B0 "missing" "Search.missing" s_Search_missing := ⟨_, _, fun_mk gl0_4 gc0_4 gk0_4, ⟨ga0_4, gi0_4, gk0_4⟩⟩
  have GB : Glb mg := ⟨z_int, z_abs, z_range, z_enumerate, z_len⟩
  have GC : Glc mg := ⟨z_isinstance, z_str, z_tuple, k_CAPITALS, k_SMALLS, k_MOST_END_LETTERS⟩
  have GA : Gla mg := ⟨z_tuple, z_sorted, z_set, z_len⟩
  have GK : Glk mg := ⟨z_all, k_MOST_LABEL_LETTERS, k_MOST_NAME_LETTERS, k_MOST_SOURCES, k_MOST_RULES⟩
  have c1 := cal_kneaded (P := l.prog) (w := w) (base := base) d_kneaded GB
  have c2 := cal_pot_of (P := l.prog) (w := w) (base := base) d_pot_of GB
  have c3 := cal_below d_below GB c1
  have c4 := cal_pick d_pick GB c3
  have c5 := cal_some_name d_some_name GB c3 c4
  have l1 := cal_stem (P := l.prog) (w := w) (base := base) d_stem GB
  have l2 := cal_put (P := l.prog) (w := w) (base := base) d_put GC
  have l3 := cal_ordered (P := l.prog) (w := w) (base := base) d_ordered z_tuple z_sorted z_set z_len
  have p1 := cal_p_is_name (P := l.prog) (w := w) (base := base) d_p_is_name GC
  have p2 := cal_p_is_end (P := l.prog) (w := w) (base := base) d_p_is_end GC GB
  have p3 := cal_p_is_pattern d_p_is_pattern GC GB p2
  have b1 := cal_p_is_label (P := l.prog) (w := w) (base := base) d_p_is_label GC GB GK
  have b2 := cal_p_is_rule_source d_p_is_rule_source GB GK p1 p3
  have b3 := cal_p_are_sources d_p_are_sources GC GB GK b2
  have b4 := cal_p_is_rule d_p_is_rule GC GB b1 p3 b3
  have b5 := cal_p_is_book d_p_is_book GC GB GK b4
  have b6 := cal_p_need_book d_p_need_book b5
  have s1 := cal_p_stem_within (P := l.prog) (w := w) (base := base) d_p_stem_within GB
  have s2 := cal_p_filled (P := l.prog) (w := w) (base := base) d_p_filled GC
  have n1 := cal_need d_p_need_name p1
  have a1 := cal_p_ascending (P := l.prog) (w := w) (base := base) d_p_ascending GA
  have e1 := cal_p_are_files d_p_are_files GC GB GK k_MOST_FILES p1 a1
  have e2 := cal_p_need_files d_p_need_files e1
  have f1 := cal_p_fitted d_p_fitted GB s1 s2
  have f2 := cal_onemore (P := l.prog) (w := w) (base := base) d_p_with_one_more GC z_sorted
  have cl : SCls K B0 := ⟨Z_Search.cl, n_Search_book, n_Search_there, n_Search_known⟩
  have t1 := told_all m_Search_told m_Search_first_right m_Search_missing cl z_all f1 f2
  have t2 := cal_init (P := l.prog) (w := w) (base := base) (mg := mg) m_Search_init cl
  have w1 := cal_whole (P := l.prog) (w := w) (base := base) d_whole
  have w2 := cal_some_source d_some_source c3 c4 w1
  have w3 := cal_some_rule d_some_rule GB z_tuple c3 c4 w1 w2
  have w4 := cal_some_book d_some_book GB z_tuple c3 w3
  have x4 := cal_p_things d_p_need_things b6 e2 n1
  have cm := cal_missing m_Search_missing cl (t1 7)
  have q1 := cal_p_behind d_p_rows_behind cl f1 f2 cm
  have q2 := cal_p_block d_p_block z_list Z_Search cl x4 t2 (t1 7) q1
  have g1 := cal_p_way d_p_way Z_Search cl x4 t2 (t1 7)
  have g2 := cal_p_can d_p_can g1
  have r1 := calx_number (P := l.prog) (w := w) (base := base) d_p_is_number_in GC GB z_bool
  have r2 := cal_is_row d_p_is_row GC GB z_zip z_all p1 r1
  have r3 := cal_holds d_p_holds_out z_any f1 f2
  have r4 := cal_shows_block d_p_shows_block GC GB z_list z_all x4 r2 r3
  have y1 := cal_kin d_kin GB GC z_sorted l1 l2 l3
  have y2 := cal_lway d_way GB GC l1 l2 7
  have y5 := cal_some_files d_some_files c3 l3
  have y3 := cal_split (P := l.prog) (w := w) (base := base) d_split GB
  have y4 := cal_is_name d_is_name GC y3
  have y6 := cal_lblk d_is_block GC GB z_list z_bool z_sorted z_set y4 l1 l2
  have y7 := cal_bent d_bent GC GB z_list c3 c4
  exact fn_law (fun_mk l46 c46 k46) ⟨c2, c4, c5, w4, y1, y5, y2, y6, y7, q2, g2, r4⟩ GB ⟨z_repr⟩
end Lk
open PySem PySem.W PyProof.Rows in
set_option maxRecDepth 100000 in
set_option maxHeartbeats 0 in
theorem PySem.Challenge.cw_stemrules_k22_whole_ways_or_blocks_holds : PySem.Challenge.rw_stemrules_k22_whole_ways_or_blocks.Holds := by
  w_on; o_law; k_head; (case hw => w_witness2)
  k_fill
  refine Lk.walkG (l := PySem.Challenge.rw_stemrules_k22_whole_ways_or_blocks) (k := 28) (x := "script") (CX := fun w => L2.CX0) (sp := fun w => Lk.spLaw _) rfl rfl ⟨rfl, by decide, by decide⟩ (fun w h Y => PySem.W.kIn_of Y) ?F (fun _ _ a ns hl _ hS => ⟨a, ns, rfl, hS, hl, fun _ => rfl⟩) (fun _ _ _ _ _ z => z)
  case F =>
    intro w mg fa h KX G hmg
    refine' Lk.all_mk KX G hmg ?a0 ?l0 ?c0 ?k0 ?a1 ?l1 ?c1 ?k1 ?a2 ?l2 ?c2 ?k2 ?a3 ?l3 ?c3 ?k3 ?a4 ?l4 ?c4 ?k4 ?a5 ?l5 ?c5 ?k5 ?a6 ?l6 ?c6 ?k6 ?a7 ?l7 ?c7 ?k7 ?a8 ?l8 ?c8 ?k8 ?a9 ?l9 ?c9 ?k9 ?a10 ?l10 ?c10 ?k10 ?a11 ?l11 ?c11 ?k11 ?a12 ?l12 ?c12 ?k12 ?a13 ?l13 ?c13 ?k13 ?a14 ?l14 ?c14 ?k14 ?a15 ?l15 ?c15 ?k15 ?a16 ?l16 ?c16 ?k16 ?a17 ?l17 ?c17 ?k17 ?a18 ?l18 ?c18 ?k18 ?a19 ?l19 ?c19 ?k19 ?a20 ?l20 ?c20 ?k20 ?a21 ?l21 ?c21 ?k21 ?a22 ?l22 ?c22 ?k22 ?a23 ?l23 ?c23 ?k23 ?a24 ?l24 ?c24 ?k24 ?a25 ?l25 ?c25 ?k25 ?a26 ?l26 ?c26 ?k26 ?a27 ?l27 ?c27 ?k27 ?a28 ?l28 ?c28 ?k28 ?a29 ?l29 ?c29 ?k29 ?a30 ?l30 ?c30 ?k30 ?a31 ?l31 ?c31 ?k31 ?a32 ?l32 ?c32 ?k32 ?a33 ?l33 ?c33 ?k33 ?a34 ?l34 ?c34 ?k34 ?a35 ?l35 ?c35 ?k35 ?a36 ?l36 ?c36 ?k36 ?a37 ?l37 ?c37 ?k37 ?a38 ?l38 ?c38 ?k38 ?a39 ?l39 ?c39 ?k39 ?a40 ?l40 ?c40 ?k40 ?a41 ?l41 ?c41 ?k41 ?a42 ?l42 ?c42 ?k42 ?a43 ?l43 ?c43 ?k43 ?a44 ?l44 ?c44 ?k44 ?a45 ?l45 ?c45 ?k45 ?a46 ?l46 ?c46 ?k46 ?z0 ?z1 ?z2 ?z3 ?z4 ?z5 ?z6 ?z7 ?z8 ?z9 ?z10 ?z11 ?z12 ?z13 ?z14 ?z15 ?q0 ?q1 ?q2 ?q3 ?q4 ?q5 ?q6 ?q7 ?ba0 ?bp0 ?bh0 ?bo0 ?bs0 ?bm0 ?bk0 ?bf0_0 ?bf0_1 ?bf0_2 ?ga0_0 ?gi0_0 ?gl0_0 ?gc0_0 ?gk0_0 ?ga0_1 ?gi0_1 ?gl0_1 ?gc0_1 ?gk0_1 ?ga0_2 ?gi0_2 ?gl0_2 ?gc0_2 ?gk0_2 ?ga0_3 ?gi0_3 ?gl0_3 ?gc0_3 ?gk0_3 ?ga0_4 ?gi0_4 ?gl0_4 ?gc0_4 ?gk0_4
    (case a0 => k_is)
    (case l0 => k_is)
    (case c0 => k_is)
    (case k0 => k_is)
    (case a1 => k_is)
    (case l1 => k_is)
    (case c1 => k_is)
    (case k1 => k_is)
    (case a2 => k_is)
    (case l2 => k_is)
    (case c2 => k_is)
    (case k2 => k_is)
    (case a3 => k_is)
    (case l3 => k_is)
    (case c3 => k_is)
    (case k3 => k_is)
    (case a4 => k_is)
    (case l4 => k_is)
    (case c4 => k_is)
    (case k4 => k_is)
    (case a5 => k_is)
    (case l5 => k_is)
    (case c5 => k_is)
    (case k5 => k_is)
    (case a6 => k_is)
    (case l6 => k_is)
    (case c6 => k_is)
    (case k6 => k_is)
    (case a7 => k_is)
    (case l7 => k_is)
    (case c7 => k_is)
    (case k7 => k_is)
    (case a8 => k_is)
    (case l8 => k_is)
    (case c8 => k_is)
    (case k8 => k_is)
    (case a9 => k_is)
    (case l9 => k_is)
    (case c9 => k_is)
    (case k9 => k_is)
    (case a10 => k_is)
    (case l10 => k_is)
    (case c10 => k_is)
    (case k10 => k_is)
    (case a11 => k_is)
    (case l11 => k_is)
    (case c11 => k_is)
    (case k11 => k_is)
    (case a12 => k_is)
    (case l12 => k_is)
    (case c12 => k_is)
    (case k12 => k_is)
    (case a13 => k_is)
    (case l13 => k_is)
    (case c13 => k_is)
    (case k13 => k_is)
    (case a14 => k_is)
    (case l14 => k_is)
    (case c14 => k_is)
    (case k14 => k_is)
    (case a15 => k_is)
    (case l15 => k_is)
    (case c15 => k_is)
    (case k15 => k_is)
    (case a16 => k_is)
    (case l16 => k_is)
    (case c16 => k_is)
    (case k16 => k_is)
    (case a17 => k_is)
    (case l17 => k_is)
    (case c17 => k_is)
    (case k17 => k_is)
    (case a18 => k_is)
    (case l18 => k_is)
    (case c18 => k_is)
    (case k18 => k_is)
    (case a19 => k_is)
    (case l19 => k_is)
    (case c19 => k_is)
    (case k19 => k_is)
    (case a20 => k_is)
    (case l20 => k_is)
    (case c20 => k_is)
    (case k20 => k_is)
    (case a21 => k_is)
    (case l21 => k_is)
    (case c21 => k_is)
    (case k21 => k_is)
    (case a22 => k_is)
    (case l22 => k_is)
    (case c22 => k_is)
    (case k22 => k_is)
    (case a23 => k_is)
    (case l23 => k_is)
    (case c23 => k_is)
    (case k23 => k_is)
    (case a24 => k_is)
    (case l24 => k_is)
    (case c24 => k_is)
    (case k24 => k_is)
    (case a25 => k_is)
    (case l25 => k_is)
    (case c25 => k_is)
    (case k25 => k_is)
    (case a26 => k_is)
    (case l26 => k_is)
    (case c26 => k_is)
    (case k26 => k_is)
    (case a27 => k_is)
    (case l27 => k_is)
    (case c27 => k_is)
    (case k27 => k_is)
    (case a28 => k_is)
    (case l28 => k_is)
    (case c28 => k_is)
    (case k28 => k_is)
    (case a29 => k_is)
    (case l29 => k_is)
    (case c29 => k_is)
    (case k29 => k_is)
    (case a30 => k_is)
    (case l30 => k_is)
    (case c30 => k_is)
    (case k30 => k_is)
    (case a31 => k_is)
    (case l31 => k_is)
    (case c31 => k_is)
    (case k31 => k_is)
    (case a32 => k_is)
    (case l32 => k_is)
    (case c32 => k_is)
    (case k32 => k_is)
    (case a33 => k_is)
    (case l33 => k_is)
    (case c33 => k_is)
    (case k33 => k_is)
    (case a34 => k_is)
    (case l34 => k_is)
    (case c34 => k_is)
    (case k34 => k_is)
    (case a35 => k_is)
    (case l35 => k_is)
    (case c35 => k_is)
    (case k35 => k_is)
    (case a36 => k_is)
    (case l36 => k_is)
    (case c36 => k_is)
    (case k36 => k_is)
    (case a37 => k_is)
    (case l37 => k_is)
    (case c37 => k_is)
    (case k37 => k_is)
    (case a38 => k_is)
    (case l38 => k_is)
    (case c38 => k_is)
    (case k38 => k_is)
    (case a39 => k_is)
    (case l39 => k_is)
    (case c39 => k_is)
    (case k39 => k_is)
    (case a40 => k_is)
    (case l40 => k_is)
    (case c40 => k_is)
    (case k40 => k_is)
    (case a41 => k_is)
    (case l41 => k_is)
    (case c41 => k_is)
    (case k41 => k_is)
    (case a42 => k_is)
    (case l42 => k_is)
    (case c42 => k_is)
    (case k42 => k_is)
    (case a43 => k_is)
    (case l43 => k_is)
    (case c43 => k_is)
    (case k43 => k_is)
    (case a44 => k_is)
    (case l44 => k_is)
    (case c44 => k_is)
    (case k44 => k_is)
    (case a45 => k_is)
    (case l45 => k_is)
    (case c45 => k_is)
    (case k45 => k_is)
    (case a46 => k_is)
    (case l46 => k_is)
    (case c46 => k_is)
    (case k46 => k_is)
    (case z0 => k_is)
    (case z1 => k_is)
    (case z2 => k_is)
    (case z3 => k_is)
    (case z4 => k_is)
    (case z5 => k_is)
    (case z6 => k_is)
    (case z7 => k_is)
    (case z8 => k_is)
    (case z9 => k_is)
    (case z10 => k_is)
    (case z11 => k_is)
    (case z12 => k_is)
    (case z13 => k_is)
    (case z14 => k_is)
    (case z15 => k_is)
    (case q0 => k_is)
    (case q1 => k_is)
    (case q2 => k_is)
    (case q3 => k_is)
    (case q4 => k_is)
    (case q5 => k_is)
    (case q6 => k_is)
    (case q7 => k_is)
    (case ba0 => k_is)
    (case bp0 => k_is)
    (case bh0 => k_is)
    (case bo0 => k_is)
    (case bs0 => k_is)
    (case bm0 => k_is)
    (case bk0 => k_is)
    (case bf0_0 => k_is)
    (case bf0_1 => k_is)
    (case bf0_2 => k_is)
    (case ga0_0 => k_is)
    (case gi0_0 => k_is)
    (case gl0_0 => k_is)
    (case gc0_0 => k_is)
    (case gk0_0 => k_is)
    (case ga0_1 => k_is)
    (case gi0_1 => k_is)
    (case gl0_1 => k_is)
    (case gc0_1 => k_is)
    (case gk0_1 => k_is)
    (case ga0_2 => k_is)
    (case gi0_2 => k_is)
    (case gl0_2 => k_is)
    (case gc0_2 => k_is)
    (case gk0_2 => k_is)
    (case ga0_3 => k_is)
    (case gi0_3 => k_is)
    (case gl0_3 => k_is)
    (case gc0_3 => k_is)
    (case gk0_3 => k_is)
    (case ga0_4 => k_is)
    (case gi0_4 => k_is)
    (case gl0_4 => k_is)
    (case gc0_4 => k_is)
    (case gk0_4 => k_is)

