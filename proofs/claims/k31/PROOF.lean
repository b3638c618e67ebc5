import PyProof.Rows.All
import Wide.All
import OpenK.AllK
import Wide.FinOn
import HandS.Base
import HandS.Call
import HandS.List
import HandS.Comp
import HandS.Ends
import HandS.Dict
import HandS.Iter
import HandS.Text
import HandS.Words
import HandS.WordsList
import PyProof.ReprRoads
import PyProof.ReprBulk
import PyProof.Rows.StrBoot
import HandS.IsInst
import HandS.StrMore
import HandS.Style
import PyProof.StrOps2
import HandS.Exc
import HandS.ExcOwn
import HandS.WordsExc
import PyProof.NeKinds
import HandS.Set
import HandS.Strs
import KE.SortData
import HandS.SetFor
import KE.SortKeyHeap
import HandS.SortKw
import PyProof.StrLaws
import HandS.Walk
import KE.GoesEnum
import HandS.More
import PyProof.DictUpdate
import HandS.TupSets
import KE.KDictKeyed
import HandS.TupAny
import HandS.TupMul
import HandS.ListEq
import KE.KeyNested
import PyProof.Rows.TupTab
import HandS.CallRecv
import HandS.Star
import HandS.DictComp
import HandS.WideBits
import KE.OsArith
import HandS.Flow
import PyProof.EqKinds
import HandS.Deep
import PySem.Challenge.RW_stemrules_k31_barriers_judged
/-! Pot0 -/
set_option Elab.async false
set_option maxRecDepth 100000
set_option maxHeartbeats 4000000
namespace Lk
open PySem PySem.Spec PyProof.Rows L2

/-- a def of the module, as it stands behind the top -/
structure Def1 (K : PySem.W.Frag) (mg : Str → Option Value) (x : String) (st : Stmt) : Prop where
  ex : ∃ (f : Addr) (fd : FuncData), L2.Fun K x x st f fd ∧ mg x = some (.ref f)
/-- a def that may be called by its name, with its promise -/
structure Cal (P : Program) (w : World) (K : PySem.W.Frag) (mg : Str → Option Value) (base : Heap) (k : Nat) (x : String) (sp : Sp) : Prop where
  ex : ∃ (f : Addr) (fd : FuncData) (ps : List Str), FnOk P w K mg base CX0 k f fd ps sp ∧ mg x = some (.ref f) ∧ PySem.W.keepIn K (.ref f) = true ∧ Binds K fd ps []
section
variable {P : Program} {w : World} {K : PySem.W.Frag} {mg : Str → Option Value} {base : Heap}
theorem mkCal {x : String} {st : Stmt} {N ps : List Str} {k : Nat} {sp : Sp} (D : Def1 K mg x st) (S : FnScope N ps (defScope st))
    (hb : ∀ (kV doc pm : Value) (an : Option Addr) (cdv ct : Value) (us : List Value), us.length = ps.length → bindArgs (PySem.W.fnOf x x (defArgs st) (defBody st) (defScope st) .none kV doc pm an cdv ct) ⟨us, []⟩ = pure (ps.zip us))
    (len : ∀ vs H Q E, sp vs H Q E → vs.length = ps.length)
    (hbody : ∀ (f : Addr) (cdv : Value) (A : Around) (outer : List Env) (s : Shared) (H : Hp) (vs : List V) (Q : VK) (E : XK), Room k (A.deeper (envOfC x (defScope st) s.heap.objs.size f cdv)) → sp vs H Q E →
      ∃ t, PSs (cxOf CX0 P w K mg base N x (defScope st) f cdv A outer s H E).nox (defBody st) t ∧ t { nx := fun _ H' => Q .non H', rt := Q } (start N vs) H) : Cal P w K mg base (k + 1) x sp := by
  obtain ⟨f, fd, F, m⟩ := D.ex
  exact ⟨f, fd, ps, F.ok S len fun cdv A outer s H vs Q E hr h => hbody f cdv A outer s H vs Q E hr h, m, F.kp, F.binds hb⟩
theorem Cal.imp {x : String} {k : Nat} {sp sp' : Sp} (c : Cal P w K mg base k x sp) (h : ∀ vs H Q E, sp' vs H Q E → sp vs H Q E) : Cal P w K mg base k x sp' := by
  obtain ⟨f, fd, ps, F, a, b, d⟩ := c.ex
  exact ⟨f, fd, ps, F.imp h, a, b, d⟩
end
section
variable {X : Cx} {k j : Nat} {x : String} {sp : Sp} {p pos : Pos} {e : Expr} {es : List Expr} {t : TA}
theorem pe_cal (c : Cal X.prog X.w X.K X.mg X.base k x sp) (hr : Room j X.A) (hk : k ≤ j) (ha : PA X (e :: es) t) (hg : Gl X x := by rfl)
    (hdb : ((x : Str) == ("__debug__" : Str)) = false := by decide) (he : starEach (e :: es) X.env = (false, eval e X.env) :: starEach es X.env := by rfl) (hpl : (backTo pos (starEach es X.env)).any (·.1) = false := by rfl) :
    PE X (.Call (.Name x p) (e :: es) [] pos) (tCall sp [] E0 t) := by
  obtain ⟨f, fd, ps, F, m, kp, b⟩ := c.ex
  exact pe_call F (hr.mono hk) hg m kp b .nil pass0 ha hdb he hpl
end

/-! ### heaps -/
theorem same_upd {H : Hp} {p : Addr} {o : HO} (h : H p = none) : Same H (upd H p o) := fun b x e => by
  rw [upd_ne (ne_of_none e h)]
  exact e
theorem same_mut {H0 H : Hp} {p : Addr} {o : HO} (s : Same H0 H) (h : H0 p = none) : Same H0 (upd H p o) := fun b x e => by
  rw [upd_ne (ne_of_none e h)]
  exact s b x e
theorem Same.seqT {K : PySem.W.Frag} {H H' : Hp} {a : Addr} {xs : List V} (e : Same H H') (h : SqT K H a xs) : SqT K H' a xs := by
  rcases h with (h | ⟨o, h⟩) | h
  · exact .inl (.inl (e _ _ h))
  · exact .inl (.inr ⟨o, e _ _ h⟩)
  · exact .inr h
/-- all but p stands as it was -/
def But (p : Addr) (H H' : Hp) : Prop := ∀ q o, H q = some o → q ≠ p → H' q = some o
/-- a pot: [cells, place, amount, room] -/
def PotAt (p c : Addr) (H : Hp) : Prop := p ≠ c ∧ (∃ i a b : Int, H p = some (.lst [.ref c, .int i, .int a, .int b])) ∧ ∃ ns : List Int, H c = some (.lst (ns.map V.int)) ∧ ns.length ≤ 17
structure Ext (p c : Addr) (H H' : Hp) : Prop where
  keep : But p H H'
  pot : PotAt p c H'
theorem PotAt.same {p c : Addr} {H H' : Hp} (h : PotAt p c H) (s : Same H H') : PotAt p c H' := by
  obtain ⟨n, ⟨i, a, b, e⟩, ns, e2, l⟩ := h
  exact ⟨n, ⟨i, a, b, s _ _ e⟩, ns, s _ _ e2, l⟩
theorem PotAt.ref {p c : Addr} {H : Hp} (h : PotAt p c H) : Ext p c H H := ⟨fun _ _ e _ => e, h⟩
theorem Ext.trans {p c : Addr} {H H1 H2 : Hp} (a : Ext p c H H1) (b : Ext p c H1 H2) : Ext p c H H2 := ⟨fun q o e n => b.keep q o (a.keep q o e n) n, b.pot⟩
theorem Ext.same {p c : Addr} {H H1 H2 : Hp} (a : Ext p c H H1) (b : Same H1 H2) : Ext p c H H2 := ⟨fun q o e n => b q o (a.keep q o e n), a.pot.same b⟩
theorem Ext.pre {p c : Addr} {H H1 H2 : Hp} (a : Same H H1) (b : Ext p c H1 H2) : Ext p c H H2 := ⟨fun q o e n => b.keep q o (a q o e) n, b.pot⟩
theorem PotAt.nep {p c q : Addr} {H : Hp} (h : PotAt p c H) (e : H q = none) : q ≠ p := by
  obtain ⟨n, ⟨i, a, b, e1⟩, _⟩ := h
  exact fun z => by
    rw [z, e1] at e
    cases e
theorem PotAt.nec {p c q : Addr} {H : Hp} (h : PotAt p c H) (e : H q = none) : q ≠ c := by
  obtain ⟨n, _, ns, e1, _⟩ := h
  exact fun z => by
    rw [z, e1] at e
    cases e
theorem Ext.new {p c q : Addr} {H H1 : Hp} {o : HO} (a : Ext p c H H1) (h : H1 q = none) : Ext p c H (upd H1 q o) := a.same (same_upd h)
/-- an object that H does not know may change -/
theorem Ext.mut {p c q : Addr} {H H1 : Hp} {o : HO} (h0 : PotAt p c H) (a : Ext p c H H1) (h : H q = none) : Ext p c H (upd H1 q o) := by
  have n1 := h0.nep h
  have n2 := h0.nec h
  obtain ⟨n, ⟨i, x, b, e⟩, ns, e2, l⟩ := a.pot
  exact ⟨fun r u er nr => by
    rw [upd_ne (ne_of_none er h)]
    exact a.keep r u er nr, n, ⟨i, x, b, by rw [upd_ne n1.symm]; exact e⟩, ns, by rw [upd_ne n2.symm]; exact e2, l⟩
theorem Ext.get {p c q : Addr} {H H1 : Hp} {o : HO} (a : Ext p c H H1) (h : H q = some o) (n : q ≠ p) : H1 q = some o := a.keep q o h n
theorem Ext.free {p c q : Addr} {H H1 : Hp} (a : Ext p c H H1) (h : H1 q = none) : H q = none := by
  cases e : H q with
  | none => rfl
  | some o =>
    by_cases n : q = p
    · obtain ⟨_, ⟨i, x, b, e1⟩, _⟩ := a.pot
      rw [n, e1] at h
      cases h
    · rw [a.keep q o e n] at h
      cases h
theorem Ext.seq {K : PySem.W.Frag} {p c l : Addr} {H H1 : Hp} {xs : List V} (a : Ext p c H H1) (n : l ≠ p) (h : SqL K H l xs) : SqL K H1 l xs := by
  rcases h with (h | ⟨o, h⟩) | h
  · exact .inl (.inl (a.keep _ _ h n))
  · exact .inl (.inr ⟨o, a.keep _ _ h n⟩)
  · exact .inr h
theorem Ext.seqT {K : PySem.W.Frag} {p c l : Addr} {H H1 : Hp} {xs : List V} (a : Ext p c H H1) (n : l ≠ p) (h : SqT K H l xs) : SqT K H1 l xs := by
  rcases h with (h | ⟨o, h⟩) | h
  · exact .inl (.inl (a.keep _ _ h n))
  · exact .inl (.inr ⟨o, a.keep _ _ h n⟩)
  · exact .inr h
/-- what of the built-ins' names the module leaves alone -/
structure Glb (mg : Str → Option Value) : Prop where
  int : mg "int" = none
  abs : mg "abs" = none
  range : mg "range" = none
  enumerate : mg "enumerate" = none
  len : mg "len" = none

/-! ### mathematics of the slices -/
theorem sIx_some {n d : Nat} {i : Int} (h : 0 ≤ i) : HT.sIx n d (some i) = min i.toNat n := by
  show (if i < 0 then (i + (n : Int)).toNat else min i.toNat n) = _
  rw [if_neg (by omega)]
theorem cut_to {xs : List V} {i : Int} (h : 0 ≤ i) : cutV xs none (some i) = xs.take i.toNat := by
  unfold cutV
  rw [HT.sIx_none, sIx_some h, List.drop_zero, Nat.sub_zero, Nat.min_comm]
  exact List.take_eq_take_iff.mpr (by omega)
theorem cut_from_to {xs : List V} {i j : Int} (h : 0 ≤ i) (h2 : i ≤ j) : cutV xs (some i) (some j) = (xs.drop i.toNat).take (j.toNat - i.toNat) := by
  unfold cutV
  rw [sIx_some h, sIx_some (by omega)]
  by_cases hi : i.toNat ≤ xs.length
  · rw [Nat.min_eq_left hi]
    refine List.take_eq_take_iff.mpr ?_
    rw [List.length_drop]
    omega
  · have e1 : xs.drop (min i.toNat xs.length) = [] := List.drop_eq_nil_of_le (by omega)
    have e2 : xs.drop i.toNat = [] := List.drop_eq_nil_of_le (by omega)
    rw [e1, e2, List.take_nil, List.take_nil]
/-! ### texts by their signs -/
theorem joinL_nil : ∀ l : List (List Nat), TL.joinL [] l = l.flatten
  | [] => rfl
  | [p] => by simp [TL.joinL]
  | p :: q :: r => by
    show p ++ ([] ++ TL.joinL [] (q :: r)) = _
    rw [joinL_nil (q :: r)]
    simp
theorem tl_join0 {x : Str} (hx : TL.tl x = []) (ys : List Str) : TL.tl (Txt.join x ys) = (ys.map TL.tl).flatten := by
  rw [TL.join_eq, TL.tl_join, hx, joinL_nil]
theorem sum_len_le {k : Nat} : ∀ {ys : List Str}, (∀ y ∈ ys, y.length ≤ k) → (ys.map (·.length)).sum ≤ ys.length * k
  | [], _ => Nat.zero_le _
  | y :: r, h => by
    rw [List.map_cons, List.sum_cons, List.length_cons, Nat.succ_mul]
    have h1 := h y List.mem_cons_self
    have h2 := sum_len_le (ys := r) fun z hz => h z (List.mem_cons_of_mem _ hz)
    omega
theorem flat_all {P : Nat → Prop} {ys : List Str} (h : ∀ y ∈ ys, ∀ c ∈ TL.tl y, P c) : ∀ c ∈ (ys.map TL.tl).flatten, P c := by
  intro c hc
  obtain ⟨l, hl, hc⟩ := List.mem_flatten.mp hc
  obtain ⟨y, hy, rfl⟩ := List.mem_map.mp hl
  exact h y hy c hc
theorem flat_len {k : Nat} {ys : List Str} (h : ∀ y ∈ ys, (TL.tl y).length ≤ k) : ((ys.map TL.tl).flatten).length ≤ ys.length * k := by
  induction ys with
  | nil => exact Nat.zero_le _
  | cons y r ih =>
    rw [List.map_cons, List.flatten_cons, List.length_append, List.length_cons, Nat.succ_mul]
    have h1 := h y List.mem_cons_self
    have h2 := ih fun z hz => h z (List.mem_cons_of_mem _ hz)
    omega
def Up (c : Nat) : Prop := 65 ≤ c ∧ c ≤ 90
def Lo (c : Nat) : Prop := 97 ≤ c ∧ c ≤ 122
instance (c : Nat) : Decidable (Up c) := by unfold Up; exact inferInstance
instance (c : Nat) : Decidable (Lo c) := by unfold Lo; exact inferInstance
/-- a drawn name: its head, its tail -/
structure Nm (z : Str) (h t : List Nat) : Prop where
  e : TL.tl z = h ++ t
  up : ∀ c ∈ h, Up c
  lo : ∀ c ∈ t, Lo c
  ne : h ++ t ≠ []
  lh : h.length ≤ 3
  lt : t.length ≤ 3

/-- the reading of a store, in one step -/
theorem set_read {te : TE} {g : TG} {t : TS} {D : Ends} {σ : L2.St} {H : Hp} (h : te σ H fun x H1 => g x σ H1 (t D)) : tSeq (tAsg te g) t D σ H := h

/-! ### places, loops over pairs -/
theorem ixN_lt {n : Nat} {k : Int} (h0 : 0 ≤ k) (h1 : k < n) : ixN n k = some k.toNat := by
  unfold ixN
  rw [if_pos h0, if_pos h1]
theorem atI_lt {α : Type} {xs : List α} {k : Int} (h0 : 0 ≤ k) (h1 : k < xs.length) : ∃ v, atI xs k = some v ∧ xs[k.toNat]? = some v := by
  have hk : k.toNat < xs.length := by omega
  refine ⟨xs[k.toNat], ?_, List.getElem?_eq_getElem hk⟩
  unfold atI
  rw [ixN_lt h0 h1]
  exact List.getElem?_eq_getElem hk
theorem atI_ints {ns : List Int} {k : Int} (h0 : 0 ≤ k) (h1 : k < ns.length) : ∃ z : Int, atI (ns.map V.int) k = some (.int z) := by
  obtain ⟨v, e, g⟩ := atI_lt (xs := ns.map V.int) h0 (by rw [List.length_map]; exact h1)
  rw [List.getElem?_map] at g
  cases q : ns[k.toNat]? with
  | none =>
    rw [q] at g
    cases g
  | some z =>
    rw [q] at g
    cases g
    exact ⟨z, e⟩
theorem map_item {ns : List Int} {i : Nat} {x : V} (h : (ns.map V.int)[i]? = some x) : ∃ z, x = .int z ∧ ns[i]? = some z := by
  rw [List.getElem?_map] at h
  cases q : ns[i]? with
  | none =>
    rw [q] at h
    cases h
  | some z =>
    rw [q] at h
    cases h
    exact ⟨z, rfl, rfl⟩
/-- for i, x in enumerate(xs), xs a list that the body leaves as it is -/
theorem for_enum {K : PySem.W.Frag} {a : Addr} {xs : List V} {g : TG} {tb : TS} {D : Ends} {σ : L2.St} {H : Hp} (Pv : Nat → L2.St → Hp → Prop) (h0 : Pv 0 σ H) (hl : ∀ i σ H, Pv i σ H → SqL K H a xs)
    (hs : ∀ (i : Nat) (x : V) (σ : L2.St) (H : Hp) (T : Addr), xs[i]? = some x → H T = none → Pv i σ H → g (.ref T) σ (upd H T (.tup [.int (i : Int), x])) fun σ2 H2 => tb { D with nx := Pv (i + 1), ct := Pv (i + 1), bk := D.nx } σ2 H2)
    (hd : ∀ σ H, Pv xs.length σ H → D.nx σ H) :
    ∃ W : Nat → Nat → L2.St → Hp → Prop, (∃ m, W 0 m σ H) ∧ ∀ i m σ H, W i m σ H →
      ((Ite K a).stop i H ∧ D.nx σ H) ∨ ((Ite K a).go i H ∧ ∃ N : L2.St → Hp → Prop, (∀ σ' H', N σ' H' → ∃ m', m' < m ∧ W (i + 1) m' σ' H') ∧ ∀ x H', (Ite K a).yld i H x H' → g x σ H' fun σ2 H2 => tb { D with nx := N, ct := N, bk := D.nx } σ2 H2) := by
  refine ⟨fun i m σ H => i + m = xs.length ∧ Pv i σ H, ⟨xs.length, Nat.zero_add _, h0⟩, ?_⟩
  rintro i m σ H ⟨em, p⟩
  have q := hl i σ H p
  cases m with
  | zero =>
    have e : i = xs.length := em
    subst e
    exact .inl ⟨⟨xs, q, Nat.le_refl _⟩, hd σ H p⟩
  | succ m =>
    have hi : i < xs.length := by omega
    refine .inr ⟨⟨xs, xs[i], q, List.getElem?_eq_getElem hi⟩, Pv (i + 1), fun σ' H' p' => ⟨m, Nat.lt_succ_self m, by omega, p'⟩, fun v H' y => ?_⟩
    obtain ⟨T, x, rfl, nT, rfl, f⟩ := y
    exact hs i x σ H T (f xs q) nT p

/-! ### the promises of the law's own helpers -/
def spKneaded : Sp := fun vs H Q _ => ∃ s l : Int, vs = [.int s, .int l] ∧ ∀ r : Int, Q (.int r) H
def spPotOf (K : PySem.W.Frag) : Sp := fun vs H Q _ => ∃ (a : Addr) (ns : List Int), vs = [.ref a] ∧ SqL K H a (ns.map V.int) ∧ ns.length ≤ 63 ∧ ∀ (p c : Addr) (H' : Hp), Same H H' → H p = none → PotAt p c H' → Q (.ref p) H'
def spBelow : Sp := fun vs H Q _ => ∃ (p c : Addr) (n : Int), vs = [.ref p, .int n] ∧ PotAt p c H ∧ 0 < n ∧ n < 1073741824 ∧ ∀ (r : Int) (H' : Hp), 0 ≤ r → r < n → Ext p c H H' → Q (.int r) H'
def spPick (K : PySem.W.Frag) : Sp := fun vs H Q _ => ∃ (p c l : Addr) (xs : List V), vs = [.ref p, .ref l] ∧ PotAt p c H ∧ SqL K H l xs ∧ l ≠ p ∧ 0 < xs.length ∧ xs.length ≤ 1000 ∧ ∀ (v : V) (H' : Hp), v ∈ xs → Ext p c H H' → Q v H'
def spName : Sp := fun vs H Q _ => ∃ (p c : Addr), vs = [.ref p] ∧ PotAt p c H ∧ ∀ (z : Str) (h t : List Nat) (H' : Hp), Nm z h t → Ext p c H H' → Q (.str z) H'
theorem pot_put {p c : Addr} {H H1 : Hp} {i a b : Int} (_h0 : PotAt p c H) (e : Ext p c H H1) : Ext p c H (upd H1 p (.lst [.ref c, .int i, .int a, .int b])) := by
  obtain ⟨n, _, ns, e2, l⟩ := e.pot
  exact ⟨fun q o eq nq => by
    rw [upd_ne nq]
    exact e.keep q o eq nq, n, ⟨i, a, b, upd_same⟩, ns, by rw [upd_ne n.symm]; exact e2, l⟩
theorem eqv_ints_nil (ns : List Int) : PyData.eqv (.list (ns.map PyData.int)) (.list []) = decide (ns = []) := by
  cases ns with
  | nil => rfl
  | cons x r =>
    rw [decide_eq_false (by simp)]
    rfl
theorem dp_ints {K : PySem.W.Frag} {H : Hp} : ∀ ns : List Int, DpAll K H (ns.map V.int) (ns.map PyData.int)
  | [] => .nil
  | x :: r => .cons (.int x) (dp_ints r)
theorem shaped_ints (ns : List Int) : SeqAt.shaped (.list (ns.map PyData.int)) = true := by
  have h1 : ∀ l : List Int, PyData.canLayAll0 (l.map PyData.int) = true := fun l => by
    induction l with
    | nil => rfl
    | cons x r ih => simpa [PyData.canLayAll0, PyData.canLay0] using ih
  have h2 : ∀ l : List Int, PyData.depthAll (l.map PyData.int) = 0 := fun l => by
    induction l with
    | nil => rfl
    | cons x r ih => simpa [PyData.depthAll, PyData.depth] using ih
  unfold SeqAt.shaped
  simp [PyData.canLay0, PyData.depth, h1, h2]

/-- ''.join([pick(pot, letters) for lap in range(below(pot, n))]) -/
theorem word_read {K : PySem.W.Frag} {p c : Addr} {σ : L2.St} {H : Hp} {n : Int} {iv : Nat} {letters : List Str} {tl : TA} {Q : VK} (hL : ∀ (σ : L2.St) (H : Hp) (Q : List V → Hp → Prop), Q (letters.map V.str) H → tl σ H Q) (hne : 0 < letters.length) (hle : letters.length ≤ 1000)
    (h1 : ∀ y ∈ letters, (TL.tl y).length ≤ 1) (hσ : σ[0]? = some (some (.ref p))) (hσ2 : ∀ v : Option V, ((wipe σ [iv]).set iv v)[0]? = some (some (.ref p))) (hw : ∀ v : Option V, wipe ((wipe σ [iv]).set iv v) [iv] = wipe σ [iv])
    (hP : PotAt p c H) (hn : 0 < n) (hn2 : n ≤ 1000) (k : ∀ (ys : List Str) (H' : Hp), (∀ y ∈ ys, y ∈ letters) → (ys.length : Int) < n → Ext p c H H' → Q (.str (Txt.join "" ys)) H') :
    tM1 (fun x xs H Q => ∃ a p, ∃ ys : List Str, x = .str a ∧ xs = [.ref p] ∧ (SqL K H p (ys.map V.str) ∨ SqT K H p (ys.map V.str)) ∧ (ys.map (·.length)).sum + ys.length * a.length ≤ 16777216 ∧ Q (.str (Txt.join a ys)) H)
      (tC (.str "")) (tLc (iRng1 (tCons (tCall spBelow [] E0 (tCons (tVar 0) (tCons (tC (.int n)) tNil))) tNil)) (gName iv) tYes (tCall (spPick K) [] E0 (tCons (tVar 0) (tCons (tLst tl) tNil))) [iv]) σ H Q := by
  refine ⟨⟨_, rfl⟩, _, hσ, p, c, n, rfl, hP, hn, by omega, fun r H1 r0 r1 e1 => ⟨r, rfl, by omega, by omega, fun D nD => ?_⟩⟩
  have nD0 := e1.free nD
  have nDp : D ≠ p := hP.nep nD0
  refine lc_range (lo := 0) (n := r.toNat) (fun i H' => Ext p c H H' ∧ ∃ ys : List Str, H' D = some (.lst (ys.map V.str)) ∧ ys.length = i ∧ ∀ y ∈ ys, y ∈ letters) ⟨e1.mut hP nD0, [], upd_same, rfl, fun y h => nomatch h⟩ ?_ ?_
  · rintro i H2 hi ⟨e2, ys, hD, hl, hy⟩
    refine ⟨hw _, _, hσ2 _, hL _ _ _ ⟨by rw [List.length_map]; exact Nat.le_of_lt (small1000 hle), fun l nl => ?_⟩⟩
    refine ⟨p, c, l, letters.map V.str, rfl, e2.pot.same (same_upd nl), SqL.of upd_same, e2.pot.nep nl, by rw [List.length_map]; exact hne, by rw [List.length_map]; exact hle, fun v H3 hv e3 => ?_⟩
    obtain ⟨y, my, rfl⟩ := List.mem_map.mp hv
    have e4 := e2.trans (Ext.pre (same_upd nl) e3)
    have hD3 : H3 D = some (.lst (ys.map V.str)) := e3.get (by rw [upd_ne (ne_of_none hD nl)]; exact hD) nDp
    refine ⟨_, hD3, by rw [List.length_map, hl]; exact small1000 (by omega), e4.mut hP nD0, ys ++ [y], by rw [upd_same, List.map_append]; rfl, by rw [List.length_append, hl]; rfl, fun z hz => ?_⟩
    rcases List.mem_append.mp hz with hz | hz
    · exact hy z hz
    · rw [List.mem_singleton.mp hz]
      exact my
  · rintro H2 ⟨e2, ys, hD, hl, hy⟩
    have hs : (ys.map (·.length)).sum ≤ ys.length * 1 := sum_len_le fun y h => by
      rw [TL.len_tl]
      exact h1 y (hy y h)
    exact ⟨"", D, ys, rfl, rfl, .inl (SqL.of hD), by
      show (ys.map (·.length)).sum + ys.length * 0 ≤ 16777216
      omega, k ys H2 hy (by omega) e2⟩
end Lk

/-! Repr0 -/
set_option Elab.async false
set_option maxRecDepth 100000
set_option maxHeartbeats 4000000
namespace Lk
open PySem PySem.Spec PyProof.Rows L2

/-! ### data of any form, dicts too -/
def keyD : Key → PyData
  | .inl i => .int i
  | .inr x => .str x
mutual
inductive Th (K : PySem.W.Frag) (H : Hp) : V → PyData → Prop
  | non : Th K H .non .none
  | bl (b : Bool) : Th K H (.bl b) (.bool b)
  | int (i : Int) : Th K H (.int i) (.int i)
  | str (x : Str) : Th K H (.str x) (.str x)
  | lst {a : Addr} {xs : List V} {ds : List PyData} : SqL K H a xs → ThAll K H xs ds → Th K H (.ref a) (.list ds)
  | tup {a : Addr} {xs : List V} {ds : List PyData} : SqT K H a xs → ThAll K H xs ds → Th K H (.ref a) (.tuple ds)
  | dct {a : Addr} {kvs : List (Key × V)} {ds : List (PyData × PyData)} : H a = some (.dK kvs) → ThAll K H (kvs.map (·.2)) (ds.map (·.2)) → ds.map (·.1) = kvs.map (fun p => keyD p.1) → Th K H (.ref a) (.dict ds)
inductive ThAll (K : PySem.W.Frag) (H : Hp) : List V → List PyData → Prop
  | nil : ThAll K H [] []
  | cons {v : V} {vs : List V} {d : PyData} {ds : List PyData} : Th K H v d → ThAll K H vs ds → ThAll K H (v :: vs) (d :: ds)
end
mutual
def noLst : PyData → Bool
  | .none | .bool _ | .int _ | .str _ => true
  | .list _ => false
  | .tuple xs => noLstAll xs
  | .dict kvs => noLstKv kvs
def noLstAll : List PyData → Bool
  | [] => true
  | x :: xs => noLst x && noLstAll xs
def noLstKv : List (PyData × PyData) → Bool
  | [] => true
  | (_, v) :: r => noLst v && noLstKv r
end
theorem noLstKv_map : ∀ ds : List (PyData × PyData), noLstAll (ds.map (·.2)) = noLstKv ds
  | [] => rfl
  | (k, v) :: r => by
    show (noLst v && noLstAll (r.map (·.2))) = (noLst v && noLstKv r)
    rw [noLstKv_map r]
/-- what may be shown -/
structure Wf (d : PyData) : Prop where
  sh : d.showable = true
  lv : d.leavesShort 13 = true
  bk : d.bulk ≤ 1000000
  dp : d.depth ≤ 60
  sy : d.hasDict = false ∨ noLst d = true
section
variable {X : Cx} {pins : List (Addr × Obj)} {σ : L2.St} {H : Hp} {s : Shared}
theorem keys_read {prog : Program} {w : World} {h : Heap} : ∀ {es : List DictEntry} {kvs : List (Key × V)} {vs : List (Key × Value)}, KV kvs vs → Pairs (mixKind prog w) es vs →
    ReadsAll h (es.map (·.key)) (kvs.map fun p => keyD p.1) [] ∧ Vals (kvs.map (·.2)) (es.map (·.val))
  | _, _, _, .nil, .nil => ⟨.nil, .nil⟩
  | _, _, _, .cons (a := a) q t, .cons (e := e) h1 h2 p => by
    obtain ⟨ih1, ih2⟩ := keys_read (h := h) t p
    obtain ⟨q1, q2⟩ := q
    rw [← q1] at h1
    refine ⟨?_, .cons (by show L2.RelV a.2 e.val; rw [h2]; exact q2) ih2⟩
    obtain ⟨k, v⟩ := a
    have h1' : keyIs k e.key = true := h1
    rcases keyIs_shape h1' with ⟨i, t, rfl, e1⟩ | ⟨x, t, rfl, e1⟩
    · have r : Reads h e.key (.int i) [] := by rw [e1]; exact Reads.int i t
      exact ReadsAll.cons r ih1
    · have r : Reads h e.key (.str x) [] := by rw [e1]; exact Reads.str x t
      exact ReadsAll.cons r ih1
theorem th_reads (I : Inv X pins σ H s) {v : V} {d : PyData} (h : Th X.K H v d) : ∀ u, RelV v u → ∃ as, Reads s.heap u d as ∧ (noLst d = true → sysModules ∉ as) := by
  refine Th.rec (motive_1 := fun v d _ => ∀ u, RelV v u → ∃ as, Reads s.heap u d as ∧ (noLst d = true → sysModules ∉ as)) (motive_2 := fun vs ds _ => ∀ us, Vals vs us → ∃ as, ReadsAll s.heap us ds as ∧ (noLstAll ds = true → sysModules ∉ as))
    ?_ ?_ ?_ ?_ ?_ ?_ ?_ ?_ ?_ h
  · intro u r
    cases r
    exact ⟨_, Reads.none, fun _ h => nomatch h⟩
  · intro b u r
    cases r
    exact ⟨_, Reads.bool b, fun _ h => nomatch h⟩
  · intro i u r
    obtain ⟨t, rfl⟩ := r
    exact ⟨_, Reads.int i t, fun _ h => nomatch h⟩
  · intro x u r
    obtain ⟨t, rfl⟩ := r
    exact ⟨_, Reads.str x t, fun _ h => nomatch h⟩
  · intro a xs ds hs _ ih u r
    cases r
    obtain ⟨its, rv, ⟨o, n, ho, hc, _, hd⟩, _⟩ := I.list hs
    obtain ⟨as, hr, _⟩ := ih its rv
    exact ⟨_, Reads.list ho hc hd hr, fun z => by simp [noLst] at z⟩
  · intro a xs ds hs _ ih u r
    cases r
    obtain ⟨its, rv, ⟨o, ho, hc, n, hd⟩, _⟩ := I.tuple hs
    obtain ⟨as, hr, hn⟩ := ih its rv
    exact ⟨_, Reads.tuple ho hc hd hr, fun z => hn (by simpa [noLst] using z)⟩
  · intro a kvs ds hs _ ek ih u r
    cases r
    obtain ⟨_, hsys, vs, kv, o, es, ep, ho, ex, hd, _, hp, _⟩ := (show ObjOk X.prog X.w H s.heap a (.dK kvs) from I.hok a _ hs)
    obtain ⟨rk, rv⟩ := keys_read (h := s.heap) kv hp
    obtain ⟨bs, hr, hn⟩ := ih _ rv
    refine ⟨_, Reads.dict ho ex.1 hd (by rw [ek]; exact rk) hr, fun z hm => ?_⟩
    rcases List.mem_append.mp hm with hm | hm
    · rw [List.mem_singleton.mp hm] at hsys
      exact absurd hsys (by simp)
    · refine hn ?_ hm
      rw [noLstKv_map]
      simpa [noLst] using z
  · intro us r
    cases r
    exact ⟨_, ReadsAll.nil, fun _ h => nomatch h⟩
  · intro v vs d ds _ _ ih1 ih2 us r
    cases r with
    | cons r1 r2 =>
      obtain ⟨as, q1, n1⟩ := ih1 _ r1
      obtain ⟨bs, q2, n2⟩ := ih2 _ r2
      refine ⟨_, ReadsAll.cons q1 q2, fun z hm => ?_⟩
      have z2 : noLst d = true ∧ noLstAll ds = true := by simpa [noLstAll] using z
      rcases List.mem_append.mp hm with hm | hm
      · exact n1 z2.1 hm
      · exact n2 z2.2 hm
theorem Wf.fits {d : PyData} (h : Wf d) : d.shown.length ≤ sizeLine := PyData.shown_fits_bulk (B := 13) (by decide) (by decide) h.lv (Nat.le_trans h.bk (by decide))
/-- repr(x), x data of any form -/
def rRepr (K : PySem.W.Frag) : List V → Hp → VK → Prop := fun xs H Q => ∃ v d, xs = [v] ∧ Th K H v d ∧ Wf d ∧ Q (.str d.shown) H
theorem call_repr (hg : X.A.guards = some []) (hu : X.A.units + 64 < cLine) : CallR X (.builtin "repr") (rRepr X.K) := by
  intro pins s σ H xs us Q I r h
  obtain ⟨v, d, rfl, ht, hw, q⟩ := h
  cases r with
  | cons r1 rr =>
    cases rr
    obtain ⟨as, hr, hn⟩ := th_reads I ht _ r1
    have hz := hw.fits
    have hsm : d.hasDict = true → sysModules ∉ as := fun z => by
      rcases hw.sy with e | e
      · rw [e] at z
        cases z
      · exact hn e
    have fin : ∀ (h' : Heap) (u tk : Nat), (∀ b o, s.heap.get? b = some o → h'.get? b = some o) → EP X pins σ Q (.str d.shown u) { s with heap := h', toks := tk } := fun h' u tk k => ⟨.str d.shown, H, I.kept (t' := tk) k, ⟨u, rfl⟩, q⟩
    have hd := hw.dp
    cases hr with
    | none => exact PySem.P.repr_of_none (fin s.heap _ _ fun _ _ e => e)
    | bool b => exact PySem.P.repr_of_bool (fin s.heap _ _ fun _ _ e => e)
    | int i t => exact PySem.P.repr_of_int (by simpa [PyData.showable] using hw.sh) (fin s.heap _ _ fun _ _ e => e)
    | str x t => exact PySem.P.repr_of_str (fin s.heap _ _ fun _ _ e => e) hz
    | list h1 h2 h3 h4 => exact repr_of_reads' (.list h1 h2 h3 h4) hw.sh hsm hg (by omega) (fun _ _ e => e) (fun h' u tk k => fin h' u tk k) hz
    | tuple h1 h2 h3 h4 => exact repr_of_reads' (.tuple h1 h2 h3 h4) hw.sh hsm hg (by omega) (fun _ _ e => e) (fun h' u tk k => fin h' u tk k) hz
    | dict h1 h2 h3 h4 h5 => exact repr_of_reads' (.dict h1 h2 h3 h4 h5) hw.sh hsm hg (by omega) (fun _ _ e => e) (fun h' u tk k => fin h' u tk k) hz
end
end Lk

/-! Grd0 -/
set_option Elab.async false
set_option maxRecDepth 100000
set_option maxHeartbeats 4000000
namespace Lk
open PySem PySem.Spec PyProof.Rows L2

/-! ### defs that are called where no guard is on the stack: they may show data -/
structure FnG (P : Program) (w : World) (K : PySem.W.Frag) (mg : Str → Option Value) (base : Heap) (CX : CXT) (k : Nat) (f : Addr) (fd : FuncData) (ps : List Str) (sp : Sp) : Prop where
  len : ∀ vs H Q E, sp vs H Q E → vs.length = ps.length
  go : ∀ (A : Around) (above : List Env) (s : Shared) (H : Hp) (args : Args) (us : List Value) (vs : List V) (Q : VK) (E : XK), Room k A → A.guards = some [] →
    Env0 P w K mg base A above s H → BindsTo s fd args (ps.zip us) → Vals vs us → sp vs H Q E → codeAny (model P w) A (.call (.ref f) args) (CR CX above P w H s Q E) s
section
variable {P : Program} {w : World} {K : PySem.W.Frag} {mg : Str → Option Value} {base : Heap} {CX : CXT}
theorem fnG_of {k : Nat} {f : Addr} {nm qn : Str} {pr : Arguments} {bd : List Stmt} {sc : Scope} {d1 d2 d3 d4 cv ct oc : Value} {an od : Option Addr} {sl : Array (Option Value)} {N ps : List Str} {sp : Sp}
    (at_ : K.lookup f = some ⟨oc, od, .func (PySem.W.fnOf nm qn pr bd sc d1 d2 d3 d4 an cv ct), sl⟩) (hc : PySem.W.codeIn K cv qn = true) (S : FnScope N ps sc) (len : ∀ vs H Q E, sp vs H Q E → vs.length = ps.length)
    (hb : ∀ (A : Around) (above : List Env) (s : Shared) (H : Hp) (vs : List V) (Q : VK) (E : XK), Room k (A.deeper (envOfC qn sc s.heap.objs.size f cv)) → (A.deeper (envOfC qn sc s.heap.objs.size f cv)).guards = some [] → sp vs H Q E →
      ∃ t, PSs (cxOf CX P w K mg base N qn sc f cv A above s H E) bd t ∧ t { nx := fun _ H' => Q .non H', rt := Q } (start N vs) H) :
    FnG P w K mg base CX (k + 1) f (PySem.W.fnOf nm qn pr bd sc d1 d2 d3 d4 an cv ct) ps sp := by
  constructor
  · exact len
  · intro A above s H args us vs Q E room gd env bind rel want
    have old : ∀ b o, base.get? b = some o → s.heap.get? b = some o := fun b o e => (env.bs b o e).1
    have kin := env.mod.kin.keeps old
    have mine : ∀ y ∈ ps.zip us, sc.names.lookup y.1 = some .local ∨ (sc.names.lookup y.1 = some .cell ∧ ((cellsFrom (s.heap.objs.size + 1) sc.names []).lookup y.1).isSome = true) := by
      rintro ⟨n, v⟩ hy
      have := S.par n (List.of_mem_zip hy).1
      exact this.imp id fun c => ⟨c, PySem.W.cellsFrom_some _ _ _ (.inl c)⟩
    apply codeAny_call_function room.depth (kin _ _ at_) rfl S.co S.gen rfl (PySem.W.codeRec_of kin hc)
    apply bind
    apply wpAny_newFunctionEnv_cells S.kind mine
    intro env1 he s1 inside
    subst he
    refine ⟨(env.mod.nolimit.keeps old).keeps inside.toInCall.keep, codeAny_func ?_⟩
    obtain ⟨t, walk, read⟩ := hb A above s H vs Q E (room.deeper _) gd want
    have I0 := inv_start (CX := CX) (P := P) (w := w) (E := E) S room.hd env (len _ _ _ _ want) rel inside
    apply wpAny_mono (walk.run [] s1 (start N vs) H _ I0 read)
    · intro fl s2 out
      match fl, out with
      | .ret u, ⟨v, σ', H', J, rv, q⟩ => exact ⟨v, H', J.os, J.bare, J.base, J.hok, rv, q⟩
      | .next, ⟨σ', H', J, q⟩ => exact ⟨V.non, H', J.os, J.bare, J.base, J.hok, rfl, q⟩
      | .brk, ⟨_, _, _, q⟩ => exact False.elim q
      | .cont, ⟨_, _, _, q⟩ => exact False.elim q
    · intro e s2 out
      exact out
structure CalG (P : Program) (w : World) (K : PySem.W.Frag) (mg : Str → Option Value) (base : Heap) (CX : CXT) (k : Nat) (x : String) (sp : Sp) : Prop where
  ex : ∃ (f : Addr) (fd : FuncData) (ps : List Str), FnG P w K mg base CX k f fd ps sp ∧ mg x = some (.ref f) ∧ PySem.W.keepIn K (.ref f) = true ∧ Binds K fd ps []
theorem mkCalG {x : String} {st : Stmt} {N ps : List Str} {k : Nat} {sp : Sp} (D : Def1 K mg x st) (S : FnScope N ps (defScope st))
    (hb : ∀ (kV doc pm : Value) (an : Option Addr) (cdv ct : Value) (us : List Value), us.length = ps.length → bindArgs (PySem.W.fnOf x x (defArgs st) (defBody st) (defScope st) .none kV doc pm an cdv ct) ⟨us, []⟩ = pure (ps.zip us))
    (len : ∀ vs H Q E, sp vs H Q E → vs.length = ps.length)
    (body : ∀ (f : Addr) (cdv : Value) (A : Around) (above : List Env) (s : Shared) (H : Hp) (vs : List V) (Q : VK) (E : XK), Room k (A.deeper (envOfC x (defScope st) s.heap.objs.size f cdv)) →
      (A.deeper (envOfC x (defScope st) s.heap.objs.size f cdv)).guards = some [] → sp vs H Q E →
      ∃ t, PSs (cxOf CX P w K mg base N x (defScope st) f cdv A above s H E) (defBody st) t ∧ t { nx := fun _ H' => Q .non H', rt := Q } (start N vs) H) : CalG P w K mg base CX (k + 1) x sp := by
  obtain ⟨f, fd, F, m⟩ := D.ex
  have b := F.binds hb
  have kp := F.kp
  obtain ⟨oc, od, kV, doc, pm, an, cdv, ct, sl, rfl, lk, hcd⟩ := F.ex
  exact ⟨f, _, ps, fnG_of lk hcd S len fun A above s H vs Q E hr hg h => body f cdv A above s H vs Q E hr hg h, m, kp, b⟩
/-- the whole law, from its promise -/
theorem lawG {mb : Str → Option Value} {k : Nat} {fa a : Addr} {fd : FuncData} {x : Str} {sp : Sp} {s : Shared} {vs : List Value} {ns : List Int}
    (KX : K.In s.heap) (gl : s.heap.Ns mainGlobals mg) (bl : s.heap.Ns builtinsNs mb) (bb : ∀ x : Str, x ≠ "__name__" → mb x = bootBuiltins x) (nl : s.heap.NoLimit) (gens : s.gens = #[])
    (ha : s.heap.get? a = some { cls := .type "list", data := .seq vs.toArray }) (hin : IntsAre vs ns) (short : ns.length ≤ sizeLine) (room : Room k callerA)
    (F : ∀ base : Heap, K.In base → base.Ns mainGlobals mg → FnG P w K mg base CX k fa fd [x] sp) (bind : ∀ (s : Shared) (u : Value), BindsTo s fd ⟨[u], []⟩ [(x, u)])
    (prom : ∀ H : Hp, Only H → SqL K H a (ns.map V.int) → sp [.ref a] H (fun v _ => v = .bl true) fun _ _ _ => False)
    (noX : ∀ H e s', CX [] H s (fun _ _ _ => False) e s' → False) :
    codeAny (model P w) callerA (.call (.ref fa) ⟨[.ref a], []⟩) (fun r s' => r = .ok (.ret (.bool true)) ∧ OldK s.heap s'.heap ∧ s'.os = s.os ∧ AllBare s'.gens) s := by
  have vals := vals_ints hin
  have run : ∀ H : Hp, Only H → SqL K H a (ns.map V.int) → HOk P w H s.heap → (∀ b, H b ≠ none → b = a ∧ K.lookup a = none) →
      codeAny (model P w) callerA (.call (.ref fa) ⟨[.ref a], []⟩) (fun r s' => r = .ok (.ret (.bool true)) ∧ OldK s.heap s'.heap ∧ s'.os = s.os ∧ AllBare s'.gens) s := by
    intro H only seq ok here
    have dicts : ∀ {b : Addr} {m : Str → Option Value}, s.heap.Ns b m → (hidT s.heap H).Ns b m := by
      rintro b m ⟨o, es, ep, e, d, r⟩
      refine ⟨o, es, ep, hidT_get e ?_, d, r⟩
      apply Classical.byContradiction
      intro z
      obtain ⟨rfl, _⟩ := here b z
      rw [ha] at e
      cases e
      cases d
    have kb : K.In (hidT s.heap H) := by
      intro b o e
      refine hidT_get (KX b o e) ?_
      apply Classical.byContradiction
      intro z
      obtain ⟨rfl, q⟩ := here b z
      rw [q] at e
      cases e
    have md : Mod K mg (hidT s.heap H) := ⟨kb, dicts gl, ⟨mb, dicts bl, bb⟩, by
      obtain ⟨mc, h1, h2⟩ := nl
      exact ⟨mc, dicts h1, h2⟩⟩
    have nof : ∀ b ∈ frs ([] : List Env), H b = none := by
      intro b i
      have i2 : b ∈ ([] : List Addr) := i
      cases i2
    have env : Env0 P w K mg (hidT s.heap H) callerA [] s H := ⟨rfl, md, fun b o e => of_hidT e, Nat.le_of_eq (hidT_size _ _), trivial, nof, ok, .of_eq gens⟩
    apply codeAny_mono ((F _ kb (dicts gl)).go callerA [] s H ⟨[.ref a], []⟩ [.ref a] [.ref a] _ _ room rfl env (bind s (.ref a)) (.cons rfl .nil) (prom H only seq))
    intro r s' out
    match r, out with
    | .error e, out => exact (noX H e s' out).elim
    | .ok .next, out => exact False.elim out
    | .ok .brk, out => exact False.elim out
    | .ok .cont, out => exact False.elim out
    | .ok (.ret u), ⟨v, H', os, bare, un, ok', rel, q⟩ =>
      have e1 : v = .bl true := q
      rw [e1] at rel
      have e2 : u = Value.bool true := rel
      rw [e2]
      refine ⟨rfl, OldK.of_keep ?_, os, bare⟩
      intro b o e
      rcases only b with z | ⟨ob, xs, z⟩
      · exact un.keep b o e z (by
          intro i
          have i2 : b ∈ ([] : List Addr) := i
          cases i2) (by
          intro i
          cases i)
      · have after := (ok' b _ (un.frzs b ob _ z)).1
        rw [(ok b _ z).1] at e
        cases e
        exact after
  match q : K.lookup a with
  | some o =>
    have same := KX a o q
    rw [ha] at same
    cases same
    exact run (fun _ => none) (fun _ => .inl rfl) (.inr ⟨_, vs.toArray, _, q, rfl, rfl, rfl, by rw [List.size_toArray, hin.length]; exact short, by simpa using vals⟩) (fun b u z => nomatch z) fun b z => absurd rfl z
  | none =>
    have mine : ∀ {b : Addr} {u : HO}, (fun b => if b = a then some (HO.frz { cls := .type "list", data := .seq vs.toArray } (.lst (ns.map V.int))) else none) b = some u → b = a ∧ u = HO.frz { cls := .type "list", data := .seq vs.toArray } (.lst (ns.map V.int)) := by
      intro b u z
      by_cases h : b = a
      · exact ⟨h, (Option.some.inj ((if_pos h).symm.trans z)).symm⟩
      · exact absurd ((if_neg h).symm.trans z) (by simp)
    refine run (fun b => if b = a then some (.frz { cls := .type "list", data := .seq vs.toArray } (.lst (ns.map V.int))) else none) (fun b => ?_) (.inl (.inr ⟨{ cls := .type "list", data := .seq vs.toArray }, if_pos rfl⟩)) (fun b u z => ?_) fun b z => ⟨?_, q⟩
    · by_cases h : b = a
      · exact .inr ⟨_, _, if_pos h⟩
      · exact .inl (if_neg h)
    · obtain ⟨rfl, rfl⟩ := mine z
      exact ⟨ha, by rw [List.length_map]; exact short, vs, _, vals, ha⟩
    · apply Classical.byContradiction
      intro h
      exact z (if_neg h)
end
/-- the goal that the law's head leaves, from the law's promise -/
theorem walkG {l : PySem.W.OpenLaw} {k : Nat} {q : Program} {loose : List Str} {XP : (Str → Option Value) → Heap → Prop} {YP : World → Heap → Prop} {d : DefRec} {K : Params → PySem.W.Frag} {CX : World → CXT} {sp : World → Sp} {x : Str}
    (most : l.most = some 63) (noD : d.params.defaults = []) (room : Room k callerA) (hY : ∀ (w : World) (h : Heap), YP w h → (K w.params).In h)
    (F : ∀ (w : World) (mg : Str → Option Value) (fa : Addr) (h : Heap), (K w.params).In h → h.Ns mainGlobals mg → mg d.name = some (.ref fa) →
      ∃ fd : FuncData, (∀ (s : Shared) (u : Value), BindsTo s fd ⟨[u], []⟩ [(x, u)]) ∧ ∀ base : Heap, (K w.params).In base → base.Ns mainGlobals mg → FnG l.prog w (K w.params) mg base (CX w) k fa fd [x] (sp w))
    (prom : ∀ (w : World) (H : Hp) (a : Addr) (ns : List Int), ns.length ≤ 63 → Only H → SqL (K w.params) H a (ns.map V.int) → sp w [.ref a] H (fun v _ => v = .bl true) fun _ _ _ => False)
    (noX : ∀ (w : World) (H : Hp) (s : Shared) (e : Value) (s' : Shared), CX w [] H s (fun _ _ _ => False) e s' → False) :
    PySem.W.WalkO q loose XP YP l.row.toRowW d [] (fun f vs => PySem.call f vs) := by
  apply Att.attach_call most noD
  intro w s0 s1 mg mb fa o pm cd doc a vs ns G Y ho hd hcd hmg hobj hints hlen hg
  obtain ⟨fd, hb, hF⟩ := F w mg fa _ (hY w _ Y) G.T.g hmg
  exact lawG (hY w _ Y) G.T.g G.T.b G.T.builtins G.T.nolimit hg hobj hints (Nat.le_trans hlen (by decide)) room hF hb (fun H only seq => prom w H a ns hlen only seq) fun H e s' => noX w H s1 e s'
end Lk

/-! Nam0 -/
set_option Elab.async false
set_option maxRecDepth 100000
set_option maxHeartbeats 4000000
namespace Lk
open PySem PySem.Spec PyProof.Rows L2

def upB (c : Nat) : Bool := decide (65 ≤ c) && decide (c ≤ 90)
def loB (c : Nat) : Bool := decide (97 ≤ c) && decide (c ≤ 122)
def capS : Str := "ABCDEFGHIJKLMNOPQRSTUVWXYZ"
def smaS : Str := "abcdefghijklmnopqrstuvwxyz"
theorem range_has {n k c : Nat} : (List.range' n k).contains c = (decide (n ≤ c) && decide (c < n + k)) := by
  rw [Bool.eq_iff_iff]
  simp [List.mem_range'_1]
theorem cap_has (c : Nat) : capS.cps.contains c = upB c := by
  have e : capS.cps.toList = List.range' 65 26 := by decide +kernel
  rw [← Array.contains_toList, e, range_has, Bool.eq_iff_iff]
  simp [upB]
  omega
theorem sma_has (c : Nat) : smaS.cps.contains c = loB c := by
  have e : smaS.cps.toList = List.range' 97 26 := by decide +kernel
  rw [← Array.contains_toList, e, range_has, Bool.eq_iff_iff]
  simp [loB]
  omega
/-! ### strip -/
theorem drop_tw (p : Nat → Bool) : ∀ l : List Nat, l.drop (l.takeWhile p).length = l.dropWhile p
  | [] => rfl
  | c :: r => by
    rw [List.takeWhile_cons, List.dropWhile_cons]
    by_cases h : p c = true
    · rw [if_pos h, if_pos h]
      exact drop_tw p r
    · rw [if_neg h, if_neg h]
      rfl
theorem tw_len (p : Nat → Bool) : ∀ l : List Nat, (l.takeWhile p).length ≤ l.length
  | [] => Nat.le_refl _
  | c :: r => by
    rw [List.takeWhile_cons]
    split
    · exact Nat.succ_le_succ (tw_len p r)
    · exact Nat.zero_le _
theorem tl_lstrip (p : Nat → Bool) (x : Str) : TL.tl (Txt.stripBy p true false x) = (TL.tl x).dropWhile p := by
  have hlo : stripLo p true x = ((TL.tl x).takeWhile p).length := if_pos rfl
  have hhi : stripHi p false x (stripLo p true x) = x.length := if_neg Bool.false_ne_true
  unfold Txt.stripBy
  by_cases h : stripSame p true false x = true
  · rw [if_pos h]
    have h0 : stripLo p true x = 0 := by
      unfold stripSame at h
      rw [Bool.and_eq_true] at h
      exact beq_iff_eq.mp h.1
    rw [← drop_tw, ← hlo, h0]
    rfl
  · rw [if_neg h]
    unfold stripped
    rw [hhi, TL.tl_strSub_end, hlo, drop_tw]
theorem dw_all {p : Nat → Bool} : ∀ l : List Nat, (l.dropWhile p = [] ↔ l.all p = true)
  | [] => by simp
  | c :: r => by
    rw [List.dropWhile_cons, List.all_cons]
    by_cases h : p c = true
    · rw [if_pos h, h, Bool.true_and]
      exact dw_all r
    · rw [if_neg h]
      simp [h]
theorem tl_strip (p : Nat → Bool) (x : Str) : TL.tl (Txt.stripBy p true true x) = [] ↔ (TL.tl x).all p = true := by
  have hl : x.length = (TL.tl x).length := TL.len_tl x
  have hlo : stripLo p true x = ((TL.tl x).takeWhile p).length := if_pos rfl
  have hhi : ∀ k, stripHi p true x k = x.length - (((TL.tl x).drop k).reverse.takeWhile p).length := fun k => if_pos rfl
  have key : TL.tl (Txt.stripBy p true true x) = ((TL.tl x).drop (stripLo p true x)).take (stripHi p true x (stripLo p true x) - stripLo p true x) := by
    unfold Txt.stripBy
    by_cases h : stripSame p true true x = true
    · rw [if_pos h]
      unfold stripSame at h
      rw [Bool.and_eq_true] at h
      have h0 := beq_iff_eq.mp h.1
      have h1 := beq_iff_eq.mp h.2
      rw [h1, h0, List.drop_zero, Nat.sub_zero, hl, List.take_length]
    · rw [if_neg h]
      unfold stripped
      rw [TL.tl_strSub]
  rw [key, hlo, drop_tw, hhi, drop_tw]
  cases e : (TL.tl x).dropWhile p with
  | nil =>
    rw [List.take_nil]
    exact ⟨fun _ => (dw_all _).mp e, fun _ => rfl⟩
  | cons c r =>
    have hc : p c = false := by
      have := List.head?_dropWhile_not p (TL.tl x)
      rw [e] at this
      simpa using this
    constructor
    · intro h
      exfalso
      have hlen : (c :: r).length + ((TL.tl x).takeWhile p).length = (TL.tl x).length := by
        rw [← e, ← drop_tw, List.length_drop]
        have := tw_len p (TL.tl x)
        omega
      have hrev : (((c :: r).reverse).takeWhile p).length ≤ r.length := by
        rw [List.reverse_cons]
        by_cases ha : r.reverse.all p = true
        · rw [List.takeWhile_append_of_pos (by simpa using ha), List.takeWhile_cons, if_neg (by rw [hc]; decide)]
          simp
        · have := tw_len p (r.reverse ++ [c])
          have h2 : ((r.reverse ++ [c]).takeWhile p).length ≠ (r.reverse ++ [c]).length := fun z => by
            have e2 : (r.reverse ++ [c]).takeWhile p = r.reverse ++ [c] := (List.takeWhile_sublist p).eq_of_length z
            have := List.all_takeWhile (p := p) (l := r.reverse ++ [c])
            rw [e2, List.all_append, Bool.and_eq_true] at this
            exact ha this.1
          rw [List.length_append, List.length_reverse, List.length_singleton] at this h2
          omega
      rw [List.length_cons] at hlen
      have : (List.take (x.length - (((c :: r).reverse).takeWhile p).length - ((TL.tl x).takeWhile p).length) (c :: r)).length = 0 := by rw [h]; rfl
      rw [List.length_take, List.length_cons] at this
      omega
    · intro h
      have := (dw_all _).mpr h
      rw [e] at this
      cases this

/-! ### what a name, an end, a pattern is -/
def nmB (l : List Nat) : Bool := !l.isEmpty && (l.dropWhile upB).all loB
def dName : PyData → Bool
  | .str x => nmB (TL.tl x)
  | _ => false
def dEnd (p : Nat → Bool) : PyData → Bool
  | .str x => decide (x.length ≤ 3) && (TL.tl x).all p
  | _ => false
def isE : PyData → Bool
  | .str x => decide (x = "")
  | _ => false
def dPat : PyData → Bool
  | .tuple [b, e] => dEnd upB b && (dEnd loB e && !(isE b && isE e))
  | _ => false
/-! ### types of data -/
def tyN : PyData → String
  | .none => "NoneType" | .bool _ => "bool" | .int _ => "int" | .str _ => "str" | .list _ => "list" | .tuple _ => "tuple" | .dict _ => "dict"
def isStr : PyData → Bool
  | .str _ => true
  | _ => false
def isTup : PyData → Bool
  | .tuple _ => true
  | _ => false
def isDct : PyData → Bool
  | .dict _ => true
  | _ => false
def isLst : PyData → Bool
  | .list _ => true
  | _ => false
theorem th_ty {K : PySem.W.Frag} {H : Hp} {v : V} {d : PyData} (h : Th K H v d) : TyX K H v (.type (tyN d)) := by
  cases h with
  | non => exact .base .non
  | bl b => exact .base (.bl b)
  | int i => exact .base (.int i)
  | str x => exact .base (.str x)
  | lst h _ =>
    rcases h with (h | ⟨o, h⟩) | ⟨o, its, n, h, hc, _⟩
    · exact .base (.lst h)
    · exact .base (.frz h)
    · exact .kList h hc
  | tup h _ =>
    rcases h with (h | ⟨o, h⟩) | ⟨o, its, n, h, hc, _⟩
    · exact .base (.tup h)
    · exact .fTuple h
    · exact .kTuple h hc
  | dct h _ _ => exact .base (.dK h)
theorem kit_str {K : PySem.W.Frag} : ∀ d : PyData, PySem.W.kitOne K (.type (tyN d)) (.type "str") = some (isStr d)
  | .none => kit_ty (show kitB "NoneType" "str" = some false by decide +kernel)
  | .bool _ => kit_ty (show kitB "bool" "str" = some false by decide +kernel)
  | .int _ => kit_ty (show kitB "int" "str" = some false by decide +kernel)
  | .str _ => kit_ty (show kitB "str" "str" = some true by decide +kernel)
  | .list _ => kit_ty (show kitB "list" "str" = some false by decide +kernel)
  | .tuple _ => kit_ty (show kitB "tuple" "str" = some false by decide +kernel)
  | .dict _ => kit_ty (show kitB "dict" "str" = some false by decide +kernel)
theorem kit_tup {K : PySem.W.Frag} : ∀ d : PyData, PySem.W.kitOne K (.type (tyN d)) (.type "tuple") = some (isTup d)
  | .none => kit_ty (show kitB "NoneType" "tuple" = some false by decide +kernel)
  | .bool _ => kit_ty (show kitB "bool" "tuple" = some false by decide +kernel)
  | .int _ => kit_ty (show kitB "int" "tuple" = some false by decide +kernel)
  | .str _ => kit_ty (show kitB "str" "tuple" = some false by decide +kernel)
  | .list _ => kit_ty (show kitB "list" "tuple" = some false by decide +kernel)
  | .tuple _ => kit_ty (show kitB "tuple" "tuple" = some true by decide +kernel)
  | .dict _ => kit_ty (show kitB "dict" "tuple" = some false by decide +kernel)
theorem kit_lst {K : PySem.W.Frag} : ∀ d : PyData, PySem.W.kitOne K (.type (tyN d)) (.type "list") = some (isLst d)
  | .none => kit_ty (show kitB "NoneType" "list" = some false by decide +kernel)
  | .bool _ => kit_ty (show kitB "bool" "list" = some false by decide +kernel)
  | .int _ => kit_ty (show kitB "int" "list" = some false by decide +kernel)
  | .str _ => kit_ty (show kitB "str" "list" = some false by decide +kernel)
  | .list _ => kit_ty (show kitB "list" "list" = some true by decide +kernel)
  | .tuple _ => kit_ty (show kitB "tuple" "list" = some false by decide +kernel)
  | .dict _ => kit_ty (show kitB "dict" "list" = some false by decide +kernel)
/-- a module's constant -/
def Con1 (mg : Str → Option Value) (x : String) (v : V) : Prop := ∃ u, mg x = some u ∧ RelV v u
section
variable {X : Cx} {x : String} {v : V} {pos : Pos}
theorem pe_con1 (h : Con1 X.mg x v) (hg : Gl X x := by rfl) (hd : ((x : Str) == ("__debug__" : Str)) = false := by decide) : PE X (.Name x pos) (tC v) := by
  obtain ⟨u, e, r⟩ := h
  exact pe_glob hg e r hd
/-- isinstance(e, T), T one built-in class -/
theorem pe_isi {T : String} {e : Expr} {te : TE} {p q pos : Pos} (he : PE X e te) (hm : X.mg "isinstance" = none) (hT : X.mg T = none) (hb : bootBuiltins T = some (.type T)) (hg : Gl X "isinstance" := by rfl) (hgT : Gl X T := by rfl)
    (hn : (T : Str) ≠ "__name__" := by decide) (hd : ((T : Str) == ("__debug__" : Str)) = false := by decide) (h1 : starEach [e, .Name T q] X.env = (false, eval e X.env) :: starEach [.Name T q] X.env := by rfl) (h2 : starEach [.Name T q] X.env = (false, eval (.Name T q) X.env) :: starEach [] X.env := by rfl)
    (h3 : (backTo pos (starEach [.Name T q] X.env)).any (·.1) = false := by rfl) :
    PE X (.Call (.Name "isinstance" p) [e, .Name T q] [] pos) (tCB (rIsi X.K) (tCons te (tCons (tC (.ty T)) tNil))) :=
  pe_callB call_isi hg hm (by decide +kernel) (pa_cons he (pa_cons (pe_bltn (v := .ty T) hgT hT hb rfl hn hd) pa_nil h2) h1) (he := h1) (hpl := h3)
end
/-! ### promises of the program's first functions -/
structure Glc (mg : Str → Option Value) : Prop where
  isinst : mg "isinstance" = none
  str : mg "str" = none
  tuple : mg "tuple" = none
  caps : Con1 mg "CAPITALS" (.str capS)
  smalls : Con1 mg "SMALLS" (.str smaS)
  ends : Con1 mg "MOST_END_LETTERS" (.int 3)
def spIsName (K : PySem.W.Frag) : Sp := fun vs H Q _ => ∃ v d, vs = [v] ∧ Th K H v d ∧ d.bulk ≤ 1000000 ∧ Q (.bl (dName d)) H
def spIsEnd (K : PySem.W.Frag) : Sp := fun vs H Q _ => ∃ v d L p, vs = [v, .str L] ∧ Th K H v d ∧ d.bulk ≤ 1000000 ∧ (∀ c, L.cps.contains c = p c) ∧ Q (.bl (dEnd p d)) H
def spIsPat (K : PySem.W.Frag) : Sp := fun vs H Q _ => ∃ v d, vs = [v] ∧ Th K H v d ∧ d.bulk ≤ 1000000 ∧ Q (.bl (dPat d)) H
def spIsSrc (K : PySem.W.Frag) : Sp := fun vs H Q _ => ∃ v d, vs = [v] ∧ Th K H v d ∧ d.bulk ≤ 1000000 ∧ Q (.bl (dPat d || dName d)) H
theorem not_str {d : PyData} (h : isStr d = false) : dName d = false ∧ (∀ p, dEnd p d = false) ∧ isE d = false := by
  cases d with
  | str x => cases h
  | _ => exact ⟨rfl, fun _ => rfl, rfl⟩
theorem th_str {K : PySem.W.Frag} {H : Hp} {v : V} {d : PyData} (h : Th K H v d) (e : isStr d = true) : ∃ x, v = .str x ∧ d = .str x := by
  cases h with
  | str x => exact ⟨x, rfl, rfl⟩
  | _ => cases e
theorem th_tup {K : PySem.W.Frag} {H : Hp} {v : V} {d : PyData} (h : Th K H v d) (e : isTup d = true) : ∃ a xs ds, v = .ref a ∧ d = .tuple ds ∧ SqT K H a xs ∧ ThAll K H xs ds := by
  cases h with
  | tup hs ha => exact ⟨_, _, _, rfl, rfl, hs, ha⟩
  | _ => cases e
theorem thAll_len {K : PySem.W.Frag} {H : Hp} : ∀ {xs : List V} {ds : List PyData}, ThAll K H xs ds → xs.length = ds.length
  | _, _, .nil => rfl
  | _, _, .cons _ t => congrArg (· + 1) (thAll_len t)
theorem tl_nil_iff {x : Str} : TL.tl x = [] ↔ x = "" := ⟨fun h => TL.ext_tl (by rw [h]; decide +kernel), fun h => by rw [h]; decide +kernel⟩
theorem not_pat {d : PyData} (h : isTup d = false) : dPat d = false := by
  cases d with
  | tuple xs => cases h
  | _ => rfl
theorem not_pat2 : ∀ {ds : List PyData}, ds.length ≠ 2 → dPat (.tuple ds) = false
  | [], _ => rfl
  | [_], _ => rfl
  | [_, _], h => absurd rfl h
  | _ :: _ :: _ :: _, _ => rfl
theorem th_two {K : PySem.W.Frag} {H : Hp} : ∀ {xs : List V} {ds : List PyData}, ThAll K H xs ds → xs.length = 2 → ∃ b c db dc, xs = [b, c] ∧ ds = [db, dc] ∧ Th K H b db ∧ Th K H c dc
  | _, _, .nil, h => nomatch h
  | _, _, .cons _ .nil, h => nomatch h
  | _, _, .cons h1 (.cons h2 .nil), _ => ⟨_, _, _, _, rfl, rfl, h1, h2⟩
  | _, _, .cons _ (.cons _ (.cons _ _)), h => by simp at h
theorem th_three {K : PySem.W.Frag} {H : Hp} : ∀ {xs : List V} {ds : List PyData}, ThAll K H xs ds → xs.length = 3 → ∃ a b c da db dc, xs = [a, b, c] ∧ ds = [da, db, dc] ∧ Th K H a da ∧ Th K H b db ∧ Th K H c dc
  | _, _, .nil, h => nomatch h
  | _, _, .cons _ .nil, h => nomatch h
  | _, _, .cons _ (.cons _ .nil), h => nomatch h
  | _, _, .cons h1 (.cons h2 (.cons h3 .nil)), _ => ⟨_, _, _, _, _, _, rfl, rfl, h1, h2, h3⟩
  | _, _, .cons _ (.cons _ (.cons _ (.cons _ _))), h => by simp at h
theorem end_str {p : Nat → Bool} {d : PyData} (h : dEnd p d = true) : isStr d = true := by
  cases d with
  | str x => rfl
  | _ => cases h
end Lk

/-! Nam1 -/
set_option Elab.async false
set_option maxRecDepth 100000
set_option maxHeartbeats 4000000
namespace Lk
open PySem PySem.Spec PyProof.Rows L2

theorem lt1 {c d : Nat} : decide (([c] : List Nat) < [d]) = decide (c < d) := by
  rw [Bool.eq_iff_iff, decide_eq_true_iff, decide_eq_true_iff, List.cons_lt_cons_iff]
  constructor
  · rintro (h | ⟨_, h⟩)
    · exact h
    · exact absurd h (List.lt_irrefl _)
  · exact fun h => .inl h
/-- a sign as a text -/
abbrev sg (c : Nat) : Str := ⟨#[c]⟩
theorem tl_sg (c : Nat) : TL.tl (sg c) = [c] := rfl
theorem le_sg {x : Str} {a c : Nat} (h : TL.tl x = [a]) : (!decide ((sg c).cps.toList < x.cps.toList)) = decide (a ≤ c) := by
  rw [show x.cps.toList = [a] from h]
  show (!decide (([c] : List Nat) < [a])) = _
  rw [lt1, Bool.eq_iff_iff]
  simp
theorem sg_le {x : Str} {a c : Nat} (h : TL.tl x = [a]) : (!decide (x.cps.toList < (sg c).cps.toList)) = decide (c ≤ a) := by
  rw [show x.cps.toList = [a] from h]
  show (!decide (([a] : List Nat) < [c])) = _
  rw [lt1, Bool.eq_iff_iff]
  simp
theorem tl_cut_to {z : Str} {k : Nat} (h : k ≤ z.length) : TL.tl (cutS z none (some (k : Int))) = (TL.tl z).take k := by
  show ((z.cps.toList.drop (HT.sIx z.length 0 none)).take (HT.sIx z.length z.length (some (k : Int)) - HT.sIx z.length 0 none)) = _
  rw [HT.sIx_none, HT.sIx_nat, Nat.min_eq_left h, List.drop_zero, Nat.sub_zero]
theorem tl_cut_from {z : Str} {k : Nat} (h : k ≤ z.length) : TL.tl (cutS z (some (k : Int)) none) = (TL.tl z).drop k := by
  show ((z.cps.toList.drop (HT.sIx z.length 0 (some (k : Int)))).take (HT.sIx z.length z.length none - HT.sIx z.length 0 (some (k : Int)))) = _
  rw [HT.sIx_none, HT.sIx_nat, Nat.min_eq_left h]
  refine List.take_of_length_le ?_
  have := TL.len_tl z
  rw [List.length_drop]
  show (TL.tl z).length - k ≤ _
  omega
/-- a comprehension over a text's signs: Pv by the signs taken -/
theorem lc_str {x : Str} {g : TG} {tt : TT} {te : TE} {vs : List Nat} {σ : L2.St} {H1 : Hp} {D : Addr} {Qd : Hp → Prop} (Pv : List Nat → Hp → Prop) (h0 : Pv [] (upd H1 D (.lst [])))
    (hs : ∀ pre c post H, TL.tl x = pre ++ c :: post → Pv pre H → g (.str (sg c)) (wipe σ vs) H fun σ2 H2 => wipe σ2 vs = wipe σ vs ∧ tt σ2 H2 fun b H3 =>
      if b = true then te σ2 H3 fun y H4 => ∃ acc, H4 D = some (.lst acc) ∧ acc.length < sizeLine ∧ Pv (pre ++ [c]) (upd H4 D (.lst (acc ++ [y]))) else Pv (pre ++ [c]) H3) (hd : ∀ H, Pv (TL.tl x) H → Qd H) :
    ∃ W : Nat → Nat → Hp → Prop, (∃ m, W 0 m (upd H1 D (.lst []))) ∧ ∀ i m H, W i m H →
      ((Its x).stop i H ∧ Qd H) ∨ ((Its x).go i H ∧ ∃ Nx : Hp → Prop, (∀ H', Nx H' → ∃ m', m' < m ∧ W (i + 1) m' H') ∧ ∀ y H', (Its x).yld i H y H' → g y (wipe σ vs) H' fun σ2 H2 => wipe σ2 vs = wipe σ vs ∧ tt σ2 H2 fun b H3 =>
        if b = true then te σ2 H3 fun y H4 => ∃ acc, H4 D = some (.lst acc) ∧ acc.length < sizeLine ∧ Nx (upd H4 D (.lst (acc ++ [y]))) else Nx H3) := by
  have hl : x.cps.size = (TL.tl x).length := TL.len_tl x
  refine ⟨fun i m H => i + m = (TL.tl x).length ∧ Pv ((TL.tl x).take i) H, ⟨_, Nat.zero_add _, h0⟩, ?_⟩
  rintro i m H ⟨em, p⟩
  cases m with
  | zero =>
    refine .inl ⟨by show x.cps.size ≤ i; omega, hd H ?_⟩
    rw [List.take_of_length_le (by omega)] at p
    exact p
  | succ m =>
    have hi : i < (TL.tl x).length := by omega
    have split : TL.tl x = (TL.tl x).take i ++ (TL.tl x)[i] :: (TL.tl x).drop (i + 1) := by
      rw [← List.drop_eq_getElem_cons hi, List.take_append_drop]
    have more : (TL.tl x).take (i + 1) = (TL.tl x).take i ++ [(TL.tl x)[i]] := List.take_succ_eq_append_getElem hi
    refine .inr ⟨by show i < x.cps.size; omega, Pv ((TL.tl x).take (i + 1)), fun H' p' => ⟨m, Nat.lt_succ_self m, by omega, p'⟩, ?_⟩
    rintro y H' ⟨rfl, c, hc, rfl⟩
    have ec : c = (TL.tl x)[i] := by
      have : (TL.tl x)[i]? = some c := by
        show x.cps.toList[i]? = some c
        rw [Array.getElem?_toList]
        exact hc
      rw [List.getElem?_eq_getElem hi] at this
      exact (Option.some.inj this).symm
    subst ec
    rw [more]
    exact hs _ _ _ _ split p
/-- for c in x, x a text -/
theorem for_str {x : Str} {g : TG} {tb : TS} {D : Ends} {σ : L2.St} {H : Hp} (Pv : List Nat → L2.St → Hp → Prop) (h0 : Pv [] σ H)
    (hs : ∀ pre c post σ H, TL.tl x = pre ++ c :: post → Pv pre σ H → g (.str (sg c)) σ H fun σ2 H2 => tb { D with nx := Pv (pre ++ [c]), ct := Pv (pre ++ [c]), bk := D.nx } σ2 H2)
    (hd : ∀ σ H, Pv (TL.tl x) σ H → D.nx σ H) :
    ∃ W : Nat → Nat → L2.St → Hp → Prop, (∃ m, W 0 m σ H) ∧ ∀ i m σ H, W i m σ H →
      ((Its x).stop i H ∧ D.nx σ H) ∨ ((Its x).go i H ∧ ∃ N : L2.St → Hp → Prop, (∀ σ' H', N σ' H' → ∃ m', m' < m ∧ W (i + 1) m' σ' H') ∧ ∀ y H', (Its x).yld i H y H' → g y σ H' fun σ2 H2 => tb { D with nx := N, ct := N, bk := D.nx } σ2 H2) := by
  have hl : x.cps.size = (TL.tl x).length := TL.len_tl x
  refine ⟨fun i m σ H => i + m = (TL.tl x).length ∧ Pv ((TL.tl x).take i) σ H, ⟨_, Nat.zero_add _, h0⟩, ?_⟩
  rintro i m σ H ⟨em, p⟩
  cases m with
  | zero =>
    refine .inl ⟨by show x.cps.size ≤ i; omega, hd σ H ?_⟩
    rw [List.take_of_length_le (by omega)] at p
    exact p
  | succ m =>
    have hi : i < (TL.tl x).length := by omega
    have split : TL.tl x = (TL.tl x).take i ++ (TL.tl x)[i] :: (TL.tl x).drop (i + 1) := by
      rw [← List.drop_eq_getElem_cons hi, List.take_append_drop]
    have more : (TL.tl x).take (i + 1) = (TL.tl x).take i ++ [(TL.tl x)[i]] := List.take_succ_eq_append_getElem hi
    refine .inr ⟨by show i < x.cps.size; omega, Pv ((TL.tl x).take (i + 1)), fun σ' H' p' => ⟨m, Nat.lt_succ_self m, by omega, p'⟩, ?_⟩
    rintro y H' ⟨rfl, c, hc, rfl⟩
    have ec : c = (TL.tl x)[i] := by
      have : (TL.tl x)[i]? = some c := by
        show x.cps.toList[i]? = some c
        rw [Array.getElem?_toList]
        exact hc
      rw [List.getElem?_eq_getElem hi] at this
      exact (Option.some.inj this).symm
    subst ec
    rw [more]
    exact hs _ _ _ _ _ split p
theorem take_tw {p : Nat → Bool} {l : List Nat} {k : Nat} (h : ∀ c ∈ l.take k, p c = true) (e : ∀ c, l[k]? = some c → p c = false) (hk : k ≤ l.length) : l.takeWhile p = l.take k ∧ l.dropWhile p = l.drop k := by
  induction l generalizing k with
  | nil => simp
  | cons a r ih =>
    cases k with
    | zero =>
      have := e a rfl
      simp [this]
    | succ k =>
      have ha := h a (by simp)
      obtain ⟨h1, h2⟩ := ih (k := k) (fun c hc => h c (by simp [hc])) (fun c hc => e c (by simpa using hc)) (by simpa using hk)
      simp [ha, h1, h2]
/-! ### lists of texts, compared with the empty one -/
theorem dp_strs {K : PySem.W.Frag} {H : Hp} : ∀ ys : List Str, DpAll K H (ys.map V.str) (ys.map PyData.str)
  | [] => .nil
  | x :: r => .cons (.str x) (dp_strs r)
theorem shaped_strs {ys : List Str} (h : ∀ y ∈ ys, PyData.strOk y = true) : SeqAt.shaped (.list (ys.map PyData.str)) = true := by
  have h1 : ∀ l : List Str, (∀ y ∈ l, PyData.strOk y = true) → PyData.canLayAll0 (l.map PyData.str) = true := fun l => by
    induction l with
    | nil => exact fun _ => rfl
    | cons x r ih =>
      intro h
      rw [List.map_cons, PyData.canLayAll0, PyData.canLay0, h x List.mem_cons_self, Bool.true_and]
      exact ih fun y hy => h y (List.mem_cons_of_mem _ hy)
  have h2 : ∀ l : List Str, PyData.depthAll (l.map PyData.str) = 0 := fun l => by
    induction l with
    | nil => rfl
    | cons x r ih => simpa [PyData.depthAll, PyData.depth] using ih
  unfold SeqAt.shaped
  simp [PyData.canLay0, PyData.depth, h1 ys h, h2]
/-- a text of code points, if it is a text -/
def okS : PyData → Bool
  | .str x => PyData.strOk x
  | _ => true
theorem ok_sg {x : Str} {c : Nat} (h : PyData.strOk x = true) (hc : c ∈ TL.tl x) : PyData.strOk (sg c) = true := by
  unfold PyData.strOk at h ⊢
  rw [Array.all_eq_true'] at h
  have := h c (by simpa using hc)
  simpa using this
theorem eqv_strs_nil (ys : List Str) : PyData.eqv (.list (ys.map PyData.str)) (.list []) = decide (ys = []) := by
  cases ys with
  | nil => rfl
  | cons x r =>
    rw [decide_eq_false (by simp)]
    rfl
/-- the law's own helpers' promises -/
def spSplit : Sp := fun vs H Q _ => ∃ x : Str, vs = [.str x] ∧ x.length ≤ 100000 ∧ ∀ (p : Addr) (hs ts : Str), H p = none → TL.tl hs = (TL.tl x).takeWhile upB → TL.tl ts = (TL.tl x).dropWhile upB → Q (.ref p) (upd H p (.tup [.str hs, .str ts]))
def spLName (K : PySem.W.Frag) : Sp := fun vs H Q _ => ∃ v d, vs = [v] ∧ Th K H v d ∧ d.bulk ≤ 100000 ∧ okS d = true ∧ ∀ H', Same H H' → Q (.bl (dName d)) H'
def spLEnd (K : PySem.W.Frag) : Sp := fun vs H Q _ => ∃ v d x y a b, vs = [v, .str x, .str y] ∧ TL.tl x = [a] ∧ TL.tl y = [b] ∧ Th K H v d ∧ d.bulk ≤ 100000 ∧ okS d = true ∧ ∀ H', Same H H' → Q (.bl (dEnd (fun c => decide (a ≤ c) && decide (c ≤ b)) d)) H'
def spLPat (K : PySem.W.Frag) : Sp := fun vs H Q _ => ∃ v d, vs = [v] ∧ Th K H v d ∧ d.bulk ≤ 100000 ∧ (isTup d = true → SeqAt.shaped d = true) ∧ ∀ H', Same H H' → Q (.bl (dPat d)) H'
theorem th_same {K : PySem.W.Frag} {H H' : Hp} (s : Same H H') {v : V} {d : PyData} (h : Th K H v d) : Th K H' v d := by
  refine Th.rec (motive_1 := fun v d _ => Th K H' v d) (motive_2 := fun vs ds _ => ThAll K H' vs ds) ?_ ?_ ?_ ?_ ?_ ?_ ?_ ?_ ?_ h
  · exact .non
  · exact .bl
  · exact .int
  · exact .str
  · exact fun hs _ ih => .lst (s.seq hs) ih
  · exact fun hs _ ih => .tup (Same.seqT s hs) ih
  · exact fun hs _ ek ih => .dct (s _ _ hs) ih ek
  · exact .nil
  · exact fun _ _ i1 i2 => .cons i1 i2
theorem th_dp {K : PySem.W.Frag} {H : Hp} {v : V} {d : PyData} (h : Th K H v d) : d.canLay0 = true → Dp K H v d := by
  refine Th.rec (motive_1 := fun v d _ => d.canLay0 = true → Dp K H v d) (motive_2 := fun vs ds _ => PyData.canLayAll0 ds = true → DpAll K H vs ds) ?_ ?_ ?_ ?_ ?_ ?_ ?_ ?_ ?_ h
  · exact fun _ => .non
  · exact fun b _ => .bl b
  · exact fun i _ => .int i
  · exact fun x _ => .str x
  · exact fun hs _ ih c => .lst hs (ih (by simpa only [PyData.canLay0] using c))
  · exact fun hs _ ih c => .tup hs (ih (by simpa only [PyData.canLay0] using c))
  · exact fun _ _ _ _ c => by simp [PyData.canLay0] at c
  · exact fun _ => .nil
  · intro v vs d ds _ _ i1 i2 c
    have c2 : d.canLay0 = true ∧ PyData.canLayAll0 ds = true := by simpa only [PyData.canLayAll0, Bool.and_eq_true] using c
    exact .cons (i1 c2.1) (i2 c2.2)
theorem ok_of_lay {d : PyData} (h : d.canLay0 = true) : okS d = true := by
  cases d with
  | str x => exact h
  | _ => rfl
theorem eqv_empty (d : PyData) : PyData.eqv d (.str "") = isE d := by
  cases d with
  | str x =>
    show (x == ("" : Str)) = decide (x = "")
    rw [Bool.eq_iff_iff, beq_iff_eq, decide_eq_true_iff]
  | _ => rfl
/-- ''.join([pick(pot, letters) for lap in range(below(pot, n))]), the letters a list that stands -/
theorem word_readT {K : PySem.W.Frag} {p c : Addr} {σ : L2.St} {H : Hp} {n : Int} {iv : Nat} {letters : List Str} {te : TE} {Q : VK}
    (hte : ∀ (H' : Hp) (v : Option V) (Q : VK), Ext p c H H' → (∀ (l : Addr), SqL K H' l (letters.map V.str) → l ≠ p → Q (.ref l) H') → te ((wipe σ [iv]).set iv v) H' Q) (hne : 0 < letters.length) (hle : letters.length ≤ 1000)
    (h1 : ∀ y ∈ letters, (TL.tl y).length ≤ 1) (hσ : σ[0]? = some (some (.ref p))) (hσ2 : ∀ v : Option V, ((wipe σ [iv]).set iv v)[0]? = some (some (.ref p))) (hw : ∀ v : Option V, wipe ((wipe σ [iv]).set iv v) [iv] = wipe σ [iv])
    (hP : PotAt p c H) (hn : 0 < n) (hn2 : n ≤ 1000) (k : ∀ (ys : List Str) (H' : Hp), (∀ y ∈ ys, y ∈ letters) → (ys.length : Int) < n → Ext p c H H' → Q (.str (Txt.join "" ys)) H') :
    tM1 (fun x xs H Q => ∃ a p, ∃ ys : List Str, x = .str a ∧ xs = [.ref p] ∧ (SqL K H p (ys.map V.str) ∨ SqT K H p (ys.map V.str)) ∧ (ys.map (·.length)).sum + ys.length * a.length ≤ 16777216 ∧ Q (.str (Txt.join a ys)) H)
      (tC (.str "")) (tLc (iRng1 (tCons (tCall spBelow [] E0 (tCons (tVar 0) (tCons (tC (.int n)) tNil))) tNil)) (gName iv) tYes (tCall (spPick K) [] E0 (tCons (tVar 0) (tCons te tNil))) [iv]) σ H Q := by
  refine ⟨⟨_, rfl⟩, _, hσ, p, c, n, rfl, hP, hn, by omega, fun r H1 r0 r1 e1 => ⟨r, rfl, by omega, by omega, fun D nD => ?_⟩⟩
  have nD0 := e1.free nD
  have nDp : D ≠ p := hP.nep nD0
  refine lc_range (lo := 0) (n := r.toNat) (fun i H' => Ext p c H H' ∧ ∃ ys : List Str, H' D = some (.lst (ys.map V.str)) ∧ ys.length = i ∧ ∀ y ∈ ys, y ∈ letters) ⟨e1.mut hP nD0, [], upd_same, rfl, fun y h => nomatch h⟩ ?_ ?_
  · rintro i H2 hi ⟨e2, ys, hD, hl, hy⟩
    refine ⟨hw _, _, hσ2 _, hte _ _ _ e2 fun l hS nl => ?_⟩
    refine ⟨p, c, l, letters.map V.str, rfl, e2.pot, hS, nl, by rw [List.length_map]; exact hne, by rw [List.length_map]; exact hle, fun v H3 hv e3 => ?_⟩
    obtain ⟨y, my, rfl⟩ := List.mem_map.mp hv
    have e4 := e2.trans e3
    have hD3 : H3 D = some (.lst (ys.map V.str)) := e3.get hD nDp
    refine ⟨_, hD3, by rw [List.length_map, hl]; exact small1000 (by omega), e4.mut hP nD0, ys ++ [y], by rw [upd_same, List.map_append]; rfl, by rw [List.length_append, hl]; rfl, fun z hz => ?_⟩
    rcases List.mem_append.mp hz with hz | hz
    · exact hy z hz
    · rw [List.mem_singleton.mp hz]
      exact my
  · rintro H2 ⟨e2, ys, hD, hl, hy⟩
    have hs : (ys.map (·.length)).sum ≤ ys.length * 1 := sum_len_le fun y h => by
      rw [TL.len_tl]
      exact h1 y (hy y h)
    exact ⟨"", D, ys, rfl, rfl, .inl (SqL.of hD), by
      show (ys.map (·.length)).sum + ys.length * 0 ≤ 16777216
      omega, k ys H2 hy (by omega) e2⟩
def spSome : Sp := fun vs H Q _ => ∃ (p c : Addr), vs = [.ref p] ∧ PotAt p c H ∧ ∀ (z : Str) (H' : Hp), z.length ≤ 6 → PyData.strOk z = true → Ext p c H H' → Q (.str z) H'
theorem ok_of_all {z : Str} (h : ∀ c ∈ TL.tl z, c < 1114112) : PyData.strOk z = true := by
  unfold PyData.strOk
  rw [Array.all_eq_true']
  intro c hc
  exact decide_eq_true (h c (by simpa using hc))
theorem Nm.ok {z : Str} {h t : List Nat} (n : Nm z h t) : PyData.strOk z = true := ok_of_all fun c hc => by
  rw [n.e] at hc
  rcases List.mem_append.mp hc with hc | hc
  · have := (n.up c hc).2
    omega
  · have := (n.lo c hc).2
    omega
theorem Nm.len {z : Str} {h t : List Nat} (n : Nm z h t) : z.length ≤ 6 := by
  rw [TL.len_tl, n.e, List.length_append]
  have := n.lh
  have := n.lt
  omega
end Lk

/-! Mak0 -/
set_option Elab.async false
set_option maxRecDepth 100000
set_option linter.all false
set_option maxHeartbeats 4000000
namespace Lk
open PySem PySem.Spec PyProof.Rows L2

/-! ### text * int -/
theorem rep_fold (a : Array Nat) : ∀ (k : Nat) (acc : Array Nat), ((List.replicate k a).foldl (· ++ ·) acc).toList = acc.toList ++ (List.replicate k a.toList).flatten
  | 0, acc => by simp
  | k + 1, acc => by
    rw [List.replicate_succ, List.foldl_cons, rep_fold a k, List.replicate_succ, List.flatten_cons, Array.toList_append, List.append_assoc]
def rStrRep : R2 := fun x y H Q => ∃ (a : Str) (k : Nat), x = .str a ∧ y = .int (k : Int) ∧ 2 ≤ k ∧ k ≤ 5000 ∧ a.length ≤ 1000 ∧ ∀ z : Str, TL.tl z = (List.replicate k (TL.tl a)).flatten → Q (.str z) H
theorem op_strRep {X : Cx} : OpR X (binaryOp .Mult) rStrRep := by
  intro pins s σ H x y v u Q I rx ry h
  obtain ⟨a, k, rfl, rfl, k1, k2, ha, q⟩ := h
  obtain ⟨t, rfl⟩ := rx
  obtain ⟨t', rfl⟩ := ry
  have hm : a.length * k ≤ 5000000 := by
    have := Nat.mul_le_mul ha k2
    omega
  have hl := TL.len_tl a
  have long : Builtin.Str.tooLong (a.length * k) = false := by
    unfold Builtin.Str.tooLong
    refine decide_eq_false (Nat.not_lt.mpr (Nat.le_trans hm ?_))
    decide
  refine PySem.P.mul_str (by rw [decide_eq_false (by omega), decide_eq_false (by omega)]; rfl) (fun _ _ => ?_) (fun _ _ => by rw [Int.toNat_natCast]; exact long) ?_
  · refine Int.not_lt.mpr (Int.le_ediv_of_mul_le (by omega) ?_)
    have : ((a.length * k : Nat) : Int) = (a.length : Int) * (k : Int) := Int.natCast_mul _ _
    omega
  · rw [if_neg (by omega), Int.toNat_natCast]
    have big : ((k : Int) == 1) = false := beq_eq_false_iff_ne.mpr (by omega)
    rw [big, Bool.false_or]
    by_cases h0 : a.length = 0
    · rw [if_pos (beq_iff_eq.mpr h0)]
      have e0 : TL.tl a = [] := List.length_eq_zero_iff.mp (by omega)
      exact ⟨.str a, H, I, ⟨_, rfl⟩, q a (by rw [e0]; simp)⟩
    · rw [if_neg (by rw [beq_iff_eq]; exact h0)]
      have e : TL.tl ⟨(List.replicate k a.cps).foldl (· ++ ·) #[]⟩ = (List.replicate k (TL.tl a)).flatten := by
        show ((List.replicate k a.cps).foldl (· ++ ·) #[]).toList = _
        rw [rep_fold, List.nil_append]
      refine ⟨?_, .str _, H, I.tok _, ⟨_, rfl⟩, q _ e⟩
      rw [TL.len_tl, e, List.length_flatten, List.map_replicate, List.sum_replicate_nat, ← hl, Nat.mul_comm]
      exact Nat.le_trans hm (by decide)

/-! ### made data: an expression's reading gives data, and only adds to the heap -/
def Mk1 (K : PySem.W.Frag) (te : TE) (σ : L2.St) (H0 : Hp) (d : PyData) : Prop := ∀ H, Same H0 H → ∀ Q : VK, (∀ v H', Same H H' → Th K H' v d → Q v H') → te σ H Q
def MkA (K : PySem.W.Frag) (ta : TA) (σ : L2.St) (H0 : Hp) (ds : List PyData) : Prop := ∀ H, Same H0 H → ∀ Q : List V → Hp → Prop, (∀ vs H', Same H H' → ThAll K H' vs ds → Q vs H') → ta σ H Q
/-- .. gives a list that stands by itself -/
def MkL (K : PySem.W.Frag) (te : TE) (σ : L2.St) (H0 : Hp) (ds : List PyData) : Prop := ∀ H, Same H0 H → ∀ Q : VK, (∀ p xs H', Same H H' → H' p = some (.lst xs) → ThAll K H' xs ds → Q (.ref p) H') → te σ H Q
section
variable {K : PySem.W.Frag} {σ : L2.St} {H0 : Hp} {te tf : TE} {ta : TA} {d e : PyData} {ds es : List PyData}
theorem thAll_same {H H' : Hp} (s : Same H H') : ∀ {vs : List V} {ds : List PyData}, ThAll K H vs ds → ThAll K H' vs ds
  | _, _, .nil => .nil
  | _, _, .cons h t => .cons (th_same s h) (thAll_same s t)
theorem thAll_app {H : Hp} : ∀ {vs ws : List V} {ds es : List PyData}, ThAll K H vs ds → ThAll K H ws es → ThAll K H (vs ++ ws) (ds ++ es)
  | _, _, _, _, .nil, h => h
  | _, _, _, _, .cons h t, g => .cons h (thAll_app t g)
theorem mk_var {i : Nat} {v : V} (h : σ[i]? = some (some v)) (t : Th K H0 v d) : Mk1 K (tVar i) σ H0 d := fun H s Q q => ⟨v, h, q v H (Same.refl H) (th_same s t)⟩
theorem mk_non : Mk1 K (tC .non) σ H0 .none := fun H _ Q q => q _ H (Same.refl H) .non
theorem mk_int {i : Int} : Mk1 K (tC (.int i)) σ H0 (.int i) := fun H _ Q q => q _ H (Same.refl H) (.int i)
theorem mk_bl {b : Bool} : Mk1 K (tC (.bl b)) σ H0 (.bool b) := fun H _ Q q => q _ H (Same.refl H) (.bl b)
theorem mk_str {x : Str} : Mk1 K (tC (.str x)) σ H0 (.str x) := fun H _ Q q => q _ H (Same.refl H) (.str x)
theorem mk_nil : MkA K tNil σ H0 [] := fun H _ Q q => q _ H (Same.refl H) .nil
theorem mk_cons (h : Mk1 K te σ H0 d) (t : MkA K ta σ H0 ds) : MkA K (tCons te ta) σ H0 (d :: ds) := fun H s Q q =>
  h H s _ fun v H1 s1 h1 => t H1 (s.trans s1) _ fun vs H2 s2 h2 => q _ H2 (s1.trans s2) (.cons (th_same s2 h1) h2)
theorem mk_tup (h : MkA K ta σ H0 ds) (hl : ds.length ≤ 1000) : Mk1 K (tTup ta) σ H0 (.tuple ds) := fun H s Q q =>
  h H s _ fun vs H1 s1 h1 => ⟨by rw [thAll_len h1]; exact Nat.le_of_lt (small1000 hl), fun p np => q _ _ (s1.trans (same_upd np)) (.tup (.inl (.inl upd_same)) (thAll_same (same_upd np) h1))⟩
theorem mk_lstL (h : MkA K ta σ H0 ds) (hl : ds.length ≤ 1000) : MkL K (tLst ta) σ H0 ds := fun H s Q q =>
  h H s _ fun vs H1 s1 h1 => ⟨by rw [thAll_len h1]; exact Nat.le_of_lt (small1000 hl), fun p np => q _ _ _ (s1.trans (same_upd np)) upd_same (thAll_same (same_upd np) h1)⟩
theorem MkL.mk (h : MkL K te σ H0 ds) : Mk1 K te σ H0 (.list ds) := fun H s Q q => h H s _ fun p xs H1 s1 e h1 => q _ H1 s1 (.lst (SqL.of e) h1)
theorem mk_lst (h : MkA K ta σ H0 ds) (hl : ds.length ≤ 1000) : Mk1 K (tLst ta) σ H0 (.list ds) := (mk_lstL h hl).mk
theorem mk_varL {i : Nat} {p : Addr} {xs : List V} (h : σ[i]? = some (some (.ref p))) (e : H0 p = some (.lst xs)) (t : ThAll K H0 xs ds) : MkL K (tVar i) σ H0 ds := fun H s Q q => ⟨_, h, q p xs H (Same.refl H) (s _ _ e) (thAll_same s t)⟩
theorem mk_cat (h : MkL K te σ H0 ds) (g : MkL K tf σ H0 es) (hl : ds.length + es.length ≤ 1000) : MkL K (tOp rCat te tf) σ H0 (ds ++ es) := fun H s Q q =>
  h H s _ fun p xs H1 s1 e1 h1 => g H1 (s.trans s1) _ fun r ys H2 s2 e2 h2 => ⟨p, r, xs, ys, rfl, rfl, s2 _ _ e1, e2, by rw [thAll_len h1, thAll_len h2]; exact Nat.le_of_lt (small1000 hl), fun l nl =>
    q l _ _ ((s1.trans s2).trans (same_upd nl)) upd_same (thAll_same (same_upd nl) (thAll_app (thAll_same s2 h1) h2))⟩
theorem mk_dict0 : Mk1 K tDNewK σ H0 (.dict []) := fun H _ Q q p np => q _ _ (same_upd np) (.dct upd_same .nil rfl)
theorem mk_dict1 {x y : Str} {i j : Nat} (hi : σ[i]? = some (some (.str x))) (hj : σ[j]? = some (some (.str y))) : Mk1 K (tDisp [(tVar i, tVar j)]) σ H0 (.dict [(.str x, .str y)]) := fun H _ Q q p np =>
  ⟨_, hi, _, hj, upd_same, [(Sum.inr x, .str y)], rfl, (by show 1 ≤ 15; decide), q _ _ (by rw [upd_upd]; exact same_upd np) (.dct upd_same (.cons (.str y) .nil) rfl)⟩
theorem mk_addstr {i j : Nat} {x y : Str} (hi : σ[i]? = some (some (.str x))) (hj : σ[j]? = some (some (.str y))) (hl : x.length + y.length ≤ 1000) :
    Mk1 K (tOp (fun x y H Q => ∃ i j, x = .str i ∧ y = .str j ∧ i.length + j.length ≤ sizeLine ∧ Q (.str (i ++ j)) H) (tVar i) (tVar j)) σ H0 (.str (x ++ y)) := fun H _ Q q =>
  ⟨_, hi, _, hj, x, y, rfl, rfl, Nat.le_of_lt (small1000 hl), q _ H (Same.refl H) (.str _)⟩
end
end Lk

/-! Siz0 -/
set_option Elab.async false
set_option maxRecDepth 100000
set_option linter.all false
set_option maxHeartbeats 4000000
namespace Lk
open PySem PySem.Spec PyProof.Rows L2
/-- data without dicts: how large, how deep -/
structure Sz (n k : Nat) (d : PyData) : Prop where
  sh : d.showable = true
  lv : d.leavesShort 13 = true
  bk : d.bulk ≤ n
  dp : d.depth ≤ k
  cl : d.canLay0 = true
theorem Sz.mono {n k m j : Nat} {d : PyData} (h : Sz n k d) (h1 : n ≤ m) (h2 : k ≤ j) : Sz m j d := ⟨h.sh, h.lv, Nat.le_trans h.bk h1, Nat.le_trans h.dp h2, h.cl⟩
theorem Sz.str {n : Nat} {x : Str} (hl : x.length ≤ n) (ho : PyData.strOk x = true) : Sz n 0 (.str x) := by
  refine ⟨rfl, ?_, hl, Nat.le_refl _, ho⟩
  unfold PyData.strOk at ho
  rw [Array.all_eq_true'] at ho
  show (x.cps.toList.all fun c => decide (c < 16 ^ 8)) = true
  rw [List.all_eq_true]
  intro c hc
  have := of_decide_eq_true (ho c (by simpa using hc))
  exact decide_eq_true (Nat.lt_trans this (by decide))
theorem Sz.none {n k : Nat} : Sz n k .none := ⟨rfl, rfl, Nat.zero_le _, Nat.zero_le _, rfl⟩
theorem Sz.bool {n k : Nat} (b : Bool) : Sz n k (.bool b) := ⟨rfl, rfl, Nat.zero_le _, Nat.zero_le _, rfl⟩
theorem Sz.zero {n k : Nat} : Sz n k (.int 0) := ⟨rfl, by decide +kernel, Nat.zero_le _, Nat.zero_le _, rfl⟩
theorem sz_all {n k : Nat} : ∀ {ds : List PyData}, (∀ d ∈ ds, Sz n k d) → PyData.showableAll ds = true ∧ PyData.leavesShortAll 13 ds = true ∧ PyData.bulkAll ds ≤ ds.length * (n + 1) ∧ PyData.depthAll ds ≤ k ∧ PyData.canLayAll0 ds = true
  | [], _ => ⟨rfl, rfl, Nat.zero_le _, Nat.zero_le _, rfl⟩
  | d :: r, h => by
    obtain ⟨h1, h2, h3, h4, h5⟩ := sz_all (ds := r) fun e he => h e (List.mem_cons_of_mem _ he)
    have hd := h d List.mem_cons_self
    refine ⟨?_, ?_, ?_, ?_, ?_⟩
    · rw [PyData.showableAll, hd.sh, h1]; rfl
    · rw [PyData.leavesShortAll, hd.lv, h2]; rfl
    · have := hd.bk
      rw [PyData.bulkAll, List.length_cons, Nat.succ_mul]
      omega
    · rw [PyData.depthAll]
      exact Nat.max_le.mpr ⟨hd.dp, h4⟩
    · rw [PyData.canLayAll0, hd.cl, h5]; rfl
theorem Sz.tuple {n k m : Nat} {ds : List PyData} (h : ∀ d ∈ ds, Sz n k d) (hm : ds.length * (n + 1) ≤ m) : Sz m (k + 1) (.tuple ds) := by
  obtain ⟨h1, h2, h3, h4, h5⟩ := sz_all h
  exact ⟨by simpa only [PyData.showable] using h1, by simpa only [PyData.leavesShort] using h2, by simpa only [PyData.bulk] using Nat.le_trans h3 hm, by simp only [PyData.depth]; omega, by simpa only [PyData.canLay0] using h5⟩
theorem Sz.list {n k m : Nat} {ds : List PyData} (h : ∀ d ∈ ds, Sz n k d) (hm : ds.length * (n + 1) ≤ m) : Sz m (k + 1) (.list ds) := by
  obtain ⟨h1, h2, h3, h4, h5⟩ := sz_all h
  exact ⟨by simpa only [PyData.showable] using h1, by simpa only [PyData.leavesShort] using h2, by simpa only [PyData.bulk] using Nat.le_trans h3 hm, by simp only [PyData.depth]; omega, by simpa only [PyData.canLay0] using h5⟩
/-- what the law's functions ask of a thing -/
structure Okd (d : PyData) : Prop where
  wf : Wf d
  bk : d.bulk ≤ 100000
  os : okS d = true
  sh : isTup d = true → SeqAt.shaped d = true
theorem Sz.okd {n k : Nat} {d : PyData} (h : Sz n k d) (hn : n ≤ 100000) (hk : k ≤ 60) : Okd d := by
  have hb : d.bulk ≤ 100000 := Nat.le_trans h.bk hn
  have hd : d.depth ≤ 60 := Nat.le_trans h.dp hk
  refine ⟨⟨h.sh, h.lv, by omega, hd, .inl (PyData.hasDict_of_canLay d h.cl)⟩, hb, ok_of_lay h.cl, fun _ => ?_⟩
  unfold SeqAt.shaped
  rw [h.cl, decide_eq_true (by omega)]
  rfl
theorem okd_dict0 : Okd (.dict []) := ⟨⟨by decide +kernel, by decide +kernel, by decide +kernel, by decide +kernel, .inr (by decide +kernel)⟩, by decide +kernel, rfl, fun h => nomatch h⟩
theorem okd_dict1 {x y : Str} (hx : Sz 1000 0 (.str x)) (hy : Sz 1000 0 (.str y)) : Okd (.dict [(.str x, .str y)]) := by
  have e1 := hx.lv
  have e2 := hy.lv
  have b1 := hx.bk
  have b2 := hy.bk
  refine ⟨⟨rfl, ?_, ?_, (by show 1 + max (max 0 0) 0 ≤ 60; decide), .inr rfl⟩, ?_, rfl, fun h => nomatch h⟩
  · simp [PyData.leavesShort, PyData.leavesShortKv] at e1 e2 ⊢
    exact ⟨e1, e2⟩
  · simp only [PyData.bulk, PyData.bulkKv] at b1 b2 ⊢
    omega
  · simp only [PyData.bulk, PyData.bulkKv] at b1 b2 ⊢
    omega
theorem wf_b3 (a b c : Bool) : Wf (.tuple [.bool a, .bool b, .bool c]) := by
  have h : Sz 1000 1 (.tuple [.bool a, .bool b, .bool c]) := Sz.tuple (n := 0) (k := 0) (fun d hd => by
    simp only [List.mem_cons, List.mem_nil_iff, or_false] at hd
    rcases hd with rfl | rfl | rfl <;> exact Sz.bool _) (by show 3 * 1 ≤ 1000; decide)
  exact (h.okd (by decide) (by decide)).wf
def spLaw (K : PySem.W.Frag) : Sp := fun vs H Q _ => ∃ (a : Addr) (ns : List Int), vs = [.ref a] ∧ SqL K H a (ns.map V.int) ∧ ns.length ≤ 63 ∧ ∀ H', Q (.bl true) H'
/-- a law's def, nothing raised -/
theorem mkCalG0 {P : Program} {w : World} {K : PySem.W.Frag} {mg : Str → Option Value} {base : Heap} {x : String} {st : Stmt} {N ps : List Str} {k : Nat} {sp : Sp} (D : Def1 K mg x st) (S : FnScope N ps (defScope st))
    (hb : ∀ (kV doc pm : Value) (an : Option Addr) (cdv ct : Value) (us : List Value), us.length = ps.length → bindArgs (PySem.W.fnOf x x (defArgs st) (defBody st) (defScope st) .none kV doc pm an cdv ct) ⟨us, []⟩ = pure (ps.zip us))
    (len : ∀ vs H Q E, sp vs H Q E → vs.length = ps.length)
    (body : ∀ (f : Addr) (cdv : Value) (A : Around) (above : List Env) (s : Shared) (H : Hp) (vs : List V) (Q : VK) (E : XK), Room k (A.deeper (envOfC x (defScope st) s.heap.objs.size f cdv)) →
      (A.deeper (envOfC x (defScope st) s.heap.objs.size f cdv)).guards = some [] → sp vs H Q E →
      ∃ t, PSs (cxOf CX0 P w K mg base N x (defScope st) f cdv A above s H E).nox (defBody st) t ∧ t { nx := fun _ H' => Q .non H', rt := Q } (start N vs) H) : CalG P w K mg base CX0 (k + 1) x sp :=
  mkCalG D S hb len fun f cdv A above s H vs Q E hr hg h => by
    obtain ⟨t, ht, q⟩ := body f cdv A above s H vs Q E hr hg h
    exact ⟨t, ht.nox, q⟩
theorem iteF' {b : Bool} {A B : Prop} (hb : b = false) (h : B) : if b = true then A else B := by
  rw [hb]
  exact iteF h
theorem iteT' {b : Bool} {A B : Prop} (hb : b = true) (h : A) : if b = true then A else B := by
  rw [hb]
  exact iteT h
/-! ### stores and loops over made data -/
section
variable {K : PySem.W.Frag} {σ : L2.St} {H : Hp} {te : TE} {g : TG} {t : TS} {D : Ends} {ds : List PyData}
theorem set_mkL (h : MkL K te σ H ds) (q : ∀ p xs H', Same H H' → H' p = some (.lst xs) → ThAll K H' xs ds → g (.ref p) σ H' (t D)) : tSeq (tAsg te g) t D σ H := h H (Same.refl H) _ q
theorem thAll_get : ∀ {xs : List V} {ds : List PyData} {i : Nat} {x : V}, ThAll K H xs ds → xs[i]? = some x → ∃ d, d ∈ ds ∧ Th K H x d
  | _, _, _, _, .nil, h => by simp at h
  | _, _, 0, _, .cons h _, e => by
    simp at e
    subst e
    exact ⟨_, List.mem_cons_self, h⟩
  | _, _, i + 1, x, .cons _ tl, e => by
    obtain ⟨d, m, h⟩ := thAll_get (i := i) (x := x) tl (by simpa using e)
    exact ⟨d, List.mem_cons_of_mem _ m, h⟩
def zrep (k : Nat) (x : Str) : Str := ⟨((List.replicate k (TL.tl x)).flatten).toArray⟩
theorem tl_zrep (k : Nat) (x : Str) : TL.tl (zrep k x) = (List.replicate k (TL.tl x)).flatten := rfl
theorem mk_rep {i k : Nat} {x : Str} (h : σ[i]? = some (some (.str x))) (k1 : 2 ≤ k) (k2 : k ≤ 5000) (hx : x.length ≤ 1000) : Mk1 K (tOp rStrRep (tVar i) (tC (.int (k : Int)))) σ H (.str (zrep k x)) := fun H1 _ Q q =>
  ⟨_, h, x, k, rfl, rfl, k1, k2, hx, fun z e => by
    have : z = zrep k x := TL.ext_tl e
    subst this
    exact q _ H1 (Same.refl H1) (.str _)⟩
theorem ok_cut {z : Str} {lo hi : Option Int} (h : PyData.strOk z = true) : PyData.strOk (cutS z lo hi) = true := by
  refine ok_of_all fun c hc => ?_
  have hc2 : c ∈ TL.tl z := (List.drop_sublist _ _).subset ((List.take_sublist _ _).subset hc)
  unfold PyData.strOk at h
  rw [Array.all_eq_true'] at h
  exact of_decide_eq_true (h c (by simpa using hc2))
theorem ok_sub {z y : Str} (h : PyData.strOk z = true) (hs : ∀ c ∈ TL.tl y, c ∈ TL.tl z) : PyData.strOk y = true := by
  refine ok_of_all fun c hc => ?_
  unfold PyData.strOk at h
  rw [Array.all_eq_true'] at h
  exact of_decide_eq_true (h c (by simpa using hs c hc))
theorem ok_rep {k : Nat} {x : Str} (h : PyData.strOk x = true) : PyData.strOk (zrep k x) = true := ok_sub h fun c hc => by
  rw [tl_zrep] at hc
  obtain ⟨l, hl, hc⟩ := List.mem_flatten.mp hc
  rw [(List.mem_replicate.mp hl).2] at hc
  exact hc
theorem ok_add {x y : Str} (h : PyData.strOk x = true) (g : PyData.strOk y = true) : PyData.strOk (x ++ y) = true := by
  refine ok_of_all fun c hc => ?_
  unfold PyData.strOk at h g
  rw [Array.all_eq_true'] at h g
  rw [TL.tl_append] at hc
  rcases List.mem_append.mp hc with hc | hc
  · exact of_decide_eq_true (h c (by simpa using hc))
  · exact of_decide_eq_true (g c (by simpa using hc))
theorem len_add (x y : Str) : (x ++ y).length = x.length + y.length := strLen_append x y
theorem len_rep (k : Nat) (x : Str) : (zrep k x).length = k * x.length := by
  rw [TL.len_tl, tl_zrep, List.length_flatten, List.map_replicate, List.sum_replicate_nat, TL.len_tl x]
end
theorem nmB_app {u l : List Nat} (hu : u.all upB = true) (hl : l.all loB = true) (ne : u ++ l ≠ []) : nmB (u ++ l) = true := by
  have e : (u ++ l).dropWhile upB = l := by
    have e1 : ∀ u : List Nat, u.all upB = true → (u ++ l).dropWhile upB = l.dropWhile upB := fun u => by
      induction u with
      | nil => exact fun _ => rfl
      | cons c r ih =>
        intro h
        rw [List.all_cons, Bool.and_eq_true] at h
        rw [List.cons_append, List.dropWhile_cons, if_pos h.1]
        exact ih h.2
    rw [e1 u hu]
    cases l with
    | nil => rfl
    | cons c r =>
      rw [List.all_cons, Bool.and_eq_true] at hl
      have : upB c = false := by
        have h1 := hl.1
        simp only [loB, Bool.and_eq_true, decide_eq_true_eq] at h1
        simp only [upB, Bool.and_eq_false_iff, decide_eq_false_iff_not]
        omega
      rw [List.dropWhile_cons, if_neg (by rw [this]; exact Bool.false_ne_true)]
  unfold nmB
  rw [e, hl, Bool.and_true]
  cases q : u ++ l with
  | nil => exact absurd q ne
  | cons c r => rfl
theorem nmB_bad {u : List Nat} {c : Nat} (hu : u.all upB = true) (h1 : upB c = false) (h2 : loB c = false) : nmB (u ++ [c]) = false := by
  have e : (u ++ [c]).dropWhile upB = [c] := by
    induction u with
    | nil => rw [List.nil_append, List.dropWhile_cons, if_neg (by rw [h1]; exact Bool.false_ne_true)]
    | cons d r ih =>
      rw [List.all_cons, Bool.and_eq_true] at hu
      rw [List.cons_append, List.dropWhile_cons, if_pos hu.1]
      exact ih hu.2
  unfold nmB
  rw [e, List.all_cons, h2, Bool.false_and, Bool.and_false]
theorem all_rep {k c : Nat} {x : Str} (p : Nat → Bool) (hx : TL.tl x = [c]) (hc : p c = true) : (TL.tl (zrep k x)).all p = true := by
  rw [tl_zrep, hx, List.all_eq_true]
  intro d hd
  obtain ⟨l, hl, hd⟩ := List.mem_flatten.mp hd
  rw [(List.mem_replicate.mp hl).2] at hd
  rw [List.mem_singleton.mp hd]
  exact hc
/-- for x in e, e a list of made data -/
theorem for_mkL {K K' : PySem.W.Frag} {σ : L2.St} {H : Hp} {te : TE} {g : TG} {tb : TS} {D : Ends} {ds : List PyData} (h : MkL K te σ H ds)
    (q : ∀ (L : Addr) (xs : List V) (H' : Hp), Same H H' → H' L = some (.lst xs) → ThAll K H' xs ds → ∃ Pv : Nat → L2.St → Hp → Prop, Pv 0 σ H' ∧ (∀ i σ H2, Pv i σ H2 → H2 L = some (.lst xs)) ∧
      (∀ (i : Nat) (x : V) (d : PyData) (σ : L2.St) (H2 : Hp), d ∈ ds → Th K H' x d → Pv i σ H2 → g x σ H2 fun σ2 H3 => tb { D with nx := Pv (i + 1), ct := Pv (i + 1), bk := D.nx } σ2 H3) ∧ ∀ σ H2, Pv xs.length σ H2 → D.nx σ H2) :
    tFor (iList K' te) g tb D σ H := h H (Same.refl H) _ fun L xs H' s e t => by
  obtain ⟨Pv, p0, pl, ps, pd⟩ := q L xs H' s e t
  exact ⟨L, rfl, ⟨_, SqL.of e⟩, for_list (K := K') (a := L) (xs := xs) Pv p0 (fun i σ H2 _ p => SqL.of (pl i σ H2 p)) (fun i x σ H2 hx p => by
    obtain ⟨d, hd, ht⟩ := thAll_get t hx
    exact ps i x d σ H2 hd ht p) pd⟩
theorem or_pat {K : PySem.W.Frag} {σ : L2.St} {H : Hp} {i : Nat} {v : V} {d : PyData} {Q : VK} (hv : σ[i]? = some (some v)) (th : Th K H v d) (ok : Okd d) (h : ∀ H', Same H H' → Q (.bl (dName d || dPat d)) H') :
    if dName d = true then Q (.bl true) H else tCall (spLPat K) [] E0 (tCons (tVar i) tNil) σ H Q := by
  cases e : dName d with
  | true =>
    rw [e, Bool.true_or] at h
    exact iteT (h H (Same.refl H))
  | false =>
    rw [e, Bool.false_or] at h
    exact iteF ⟨v, hv, v, d, rfl, th, ok.bk, ok.sh, h⟩
theorem mkFnG {P : Program} {w : World} {K : PySem.W.Frag} {mg : Str → Option Value} {base : Heap} {CX : CXT} {x : String} {st : Stmt} {f : Addr} {fd : FuncData} {N ps : List Str} {k : Nat} {sp : Sp} (F : L2.Fun K x x st f fd) (S : FnScope N ps (defScope st))
    (len : ∀ vs H Q E, sp vs H Q E → vs.length = ps.length)
    (body : ∀ (cdv : Value) (A : Around) (above : List Env) (s : Shared) (H : Hp) (vs : List V) (Q : VK) (E : XK), Room k (A.deeper (envOfC x (defScope st) s.heap.objs.size f cdv)) →
      (A.deeper (envOfC x (defScope st) s.heap.objs.size f cdv)).guards = some [] → sp vs H Q E →
      ∃ t, PSs (cxOf CX P w K mg base N x (defScope st) f cdv A above s H E) (defBody st) t ∧ t { nx := fun _ H' => Q .non H', rt := Q } (start N vs) H) : FnG P w K mg base CX (k + 1) f fd ps sp := by
  obtain ⟨oc, od, kV, doc, pm, an, cdv, ct, sl, rfl, lk, hcd⟩ := F.ex
  exact fnG_of lk hcd S len fun A above s H vs Q E hr hg h => body cdv A above s H vs Q E hr hg h
theorem mkFnG0 {P : Program} {w : World} {K : PySem.W.Frag} {mg : Str → Option Value} {base : Heap} {x : String} {st : Stmt} {f : Addr} {fd : FuncData} {N ps : List Str} {k : Nat} {sp : Sp} (F : L2.Fun K x x st f fd) (S : FnScope N ps (defScope st))
    (len : ∀ vs H Q E, sp vs H Q E → vs.length = ps.length)
    (body : ∀ (cdv : Value) (A : Around) (above : List Env) (s : Shared) (H : Hp) (vs : List V) (Q : VK) (E : XK), Room k (A.deeper (envOfC x (defScope st) s.heap.objs.size f cdv)) →
      (A.deeper (envOfC x (defScope st) s.heap.objs.size f cdv)).guards = some [] → sp vs H Q E →
      ∃ t, PSs (cxOf CX0 P w K mg base N x (defScope st) f cdv A above s H E).nox (defBody st) t ∧ t { nx := fun _ H' => Q .non H', rt := Q } (start N vs) H) : FnG P w K mg base CX0 (k + 1) f fd ps sp :=
  mkFnG F S len fun cdv A above s H vs Q E hr hg h => by
    obtain ⟨t, ht, q⟩ := body cdv A above s H vs Q E hr hg h
    exact ⟨t, ht.nox, q⟩
end Lk

/-! Try0 -/
set_option Elab.async false
set_option maxRecDepth 100000
set_option linter.all false
set_option maxHeartbeats 4000000
namespace Lk
open PySem PySem.Spec PyProof.Rows L2

abbrev Suite := Addr → Value → Option Addr → TS
/-- the ends of a suite «as n»: behind it n's slot is empty -/
def endsAs (i : Nat) (D : Ends) : Ends := { nx := fun σ H => D.nx (σ.set i none) H, rt := D.rt, bk := fun σ H => D.bk (σ.set i none) H, ct := fun σ H => D.ct (σ.set i none) H }
/-- several clauses «except C as n», the same n: one of them takes what the body raises -/
def wAsL (K : PySem.W.Frag) (i : Nat) (D : Ends) : List (Value × Suite) → WX
  | [] => fun _ _ _ _ => False
  | (c, ts) :: more => fun cls d σ H => ∃ b, PySem.W.exmOne K cls c = some b ∧ (b = true → ∀ a, H a = none → ts a cls d (endsAs i D) (σ.set i (some (.ref a))) H) ∧ (b = false → wAsL K i D more cls d σ H)
inductive HdAs (X : Cx) (n : Str) : List ExceptHandler → List (Value × Suite) → Prop
  | none : HdAs X n [] []
  | more {x : Str} {c : Value} {ts : Suite} {st : Stmt} {sts : List Stmt} {p1 p2 : Pos} {hds : List ExceptHandler} {l : List (Value × Suite)} (names : Names X x c)
      (run : ∀ (a : Addr) (oe : Obj) (cls : Value) (d : Option Addr) (pn : List (Addr × Obj)), Zc cls d oe → (∃ vs, oe.data = .fields vs) → PSs (X.suite a ((a, oe) :: pn)) (st :: sts) (ts a cls d)) (rest : HdAs X n hds l) :
      HdAs X n (.ExceptHandler (some (.Name x p1)) (some n) (st :: sts) p2 :: hds) ((c, ts) :: l)
section
variable {X : Cx} {n : Str} {i : Nat} {body : List Stmt} {hd : ExceptHandler} {hds : List ExceptHandler} {l : List (Value × Suite)} {pos : Pos} {tb : WX → TS}
theorem ps_try_asL (top : X.stack = X.env :: X.outer) (fr : X.env.frame = some X.env.locals) (nd : X.N.Nodup) (slot : X.N[i]? = some n) (loc : X.env.kindOf n = some .local)
    (bodyOk : ∀ (W : WX) (pn : List (Addr × Obj)) (xe : Value → Shared → Prop), Takes (X.tr pn xe) W → PassesOwn (model X.prog X.w) X.A X.env xe → PSs (X.tr pn xe) body (tb W)) (clauses : HdAs X n (hd :: hds) l) :
    PS X (.Try body (hd :: hds) [] [] pos) (fun D σ H => tb (wAsL X.K i D l) D σ H) := by
  constructor
  intro pins s σ H D I rd
  have xok := I.ok
  have frames : X.A.frames = some (X.env :: X.outer) := xok.frames.trans (congrArg some top)
  apply wpAny_Try_except
  let caught : Value → Shared → Prop := fun e s₁ => wpAny (model X.prog X.w) X.A (noteFrame e X.env) (fun _ s₂ => wpAny (model X.prog X.w) X.A (setFlight e none) (fun _ s₃ => wpAny (model X.prog X.w) X.A (handleBy e X.env (hd :: hds)) (SP X pins D) X.xe s₃) X.xe s₂) X.xe s₁
  have takes : Takes (X.tr (X.pn ++ pins) caught) (wAsL X.K i D l) := by
    rintro u s1 ⟨a, B, sI, pins1, σ1, H1, cls, d, rfl, J0, nb, up, sky, fresh, os, ag, want⟩
    have J : Inv X pins σ1 H1 sI := J0.ofTry xok
    rw [show (X.tr (X.pn ++ pins) caught).stack = X.stack from rfl, top] at sky
    show wpAny (model X.prog X.w) X.A (noteFrame (.ref a) X.env) _ _ _
    apply Sky.land Zc.steady frames fr sky
    intro h2 fly up2
    have J2 : Inv X pins σ1 H1 { s1 with heap := h2 } := J.landed nb fly.1 (up.trans up2) os ag
    obtain ⟨o2, vs2, at2, z2, dat2⟩ := fly.there
    have apart : a ∉ frs (X.env :: X.outer) := by
      intro hm
      obtain ⟨_, o', e', hnf⟩ := fly.2.2.1.mem hm
      rw [at2] at e'
      cases e'
      exact hnf _ dat2
    have nL : a ≠ X.env.locals := by
      rintro rfl
      exact apart (List.mem_filterMap.mpr ⟨X.env, List.mem_cons_self, fr⟩)
    have nF : a ∉ X.fs := by
      intro hm
      obtain ⟨e, he, q⟩ := List.mem_filterMap.mp hm
      exact apart (List.mem_filterMap.mpr ⟨e, List.mem_cons_of_mem _ he, q⟩)
    have S2 := J2.suite at2 dat2 fresh nL nF
    have each : ∀ {hs : List ExceptHandler} {ls : List (Value × Suite)}, HdAs X n hs ls → wAsL X.K i D ls cls d σ1 H1 → wpAny (model X.prog X.w) X.A (handleBy (.ref a) X.env hs) (SP X pins D) X.xe { s1 with heap := h2 } := by
      intro hs ls hk
      induction hk with
      | none => exact fun w => w.elim
      | @more x c ts st sts p1 p2 hds2 l2 names run rest ih =>
        rintro ⟨b, matches_, yes, no⟩
        apply wpAny_handleBy_cons (codeAny_handlers_test ?_) (by intro q; cases q)
        have looksT : PySem.W.Looks (model X.prog X.w) h2 (typeOf (.ref a)) cls := fun A Q E s k q => wpAny_typeOf_ref (k _ _ at2) (by rw [z2.1]; exact q)
        have looksM := PySem.W.exm_one (M := model X.prog X.w) J2.kIn looksT matches_
        have named : ∀ {Q : Value → Shared → Prop} {E : Value → Shared → Prop}, Q c { s1 with heap := h2 } → wpAny (model X.prog X.w) (X.A.mark (some (.ref a))) (eval (.Name x p1) X.env) Q E { s1 with heap := h2 } := by
          intro Q E q
          rcases names with ⟨hg, hdbg, hm | ⟨hm, hv, hnn⟩⟩
          · exact ld_glob (X := X.suite a ((a, o2) :: (X.pn ++ pins))) S2 hg hm q hdbg
          · exact ld_blt (X := X.suite a ((a, o2) :: (X.pn ++ pins))) S2 hg hm hv q hnn hdbg
        apply named
        apply looksM.here
        match b, yes, no with
        | false, _, no => exact ih (no rfl)
        | true, yes, _ =>
          apply codeAny_handlers_suite_as
          apply HandSPX.lands_againZ fly
          intro h3 fly3 up3
          have J3 : Inv X pins σ1 H1 { s1 with heap := h3 } := J.landed nb fly3.1 ((up.trans up2).trans up3) os ag
          obtain ⟨o3, vs3, at3, z3, dat3⟩ := fly3.there
          have S3 := J3.suite at3 dat3 fresh nL nF
          apply store_ok (X := X.suite a ((a, o3) :: (X.pn ++ pins))) (v := .ref a) S3 nd slot (.inl loc) rfl (fun s4 S4 => ?_) (.inr loc)
          apply wpAny_mono ((run a o3 cls d (X.pn ++ pins) z3 ⟨_, dat3⟩).run [] s4 _ H1 _ S4 (yes rfl a fresh)) ?_ (fun _ _ z => False.elim z)
          intro fl s5 out
          have close : ∀ {σ6 : L2.St} {H6 : Hp} {Q : Shared → Prop}, Inv (X.suite a ((a, o3) :: (X.pn ++ pins))) [] σ6 H6 s5 → (∀ s7, Inv X pins (σ6.set i Option.none) H6 s7 → Q s7) →
              wpAny (model X.prog X.w) X.A (do bindName X.env n .none; unbindBehindTheSuite X.env n p2) (fun _ s7 => Q s7) X.xe s5 := fun S6 hq => gone_ok (S6.unsuite xok) nd slot loc hq
          match fl, out with
          | .next, ⟨_, _, S6, q6⟩ => exact close S6 fun _ J7 => ⟨_, _, J7, q6⟩
          | .brk, ⟨_, _, S6, q6⟩ => exact close S6 fun _ J7 => ⟨_, _, J7, q6⟩
          | .cont, ⟨_, _, S6, q6⟩ => exact close S6 fun _ J7 => ⟨_, _, J7, q6⟩
          | .ret _, ⟨_, _, _, S6, r6, q6⟩ => exact close S6 fun _ J7 => ⟨_, _, _, J7, r6, q6⟩
    exact each clauses want
  apply wpAny_mono ((bodyOk _ _ caught takes PassesOwn.looking).run [] s σ H D (I.toTry _) rd) ?_ (fun _ _ he => he)
  intro fl s1 out
  match fl, out with
  | .next, ⟨_, _, J, q⟩ => exact wpAny_execs_nil ⟨_, _, J.ofTry xok, q⟩
  | .brk, ⟨_, _, J, q⟩ => exact ⟨_, _, J.ofTry xok, q⟩
  | .cont, ⟨_, _, J, q⟩ => exact ⟨_, _, J.ofTry xok, q⟩
  | .ret _, ⟨_, _, _, J, r, q⟩ => exact ⟨_, _, _, J.ofTry xok, r, q⟩
end
end Lk

/-! Ne0 -/
set_option Elab.async false
set_option maxRecDepth 100000
set_option linter.all false
set_option maxHeartbeats 4000000
namespace PySem
open PySem.SeqAt
section
variable {prog : Program} {w : World} {A : Around} {E : Value → Shared → Prop} {s : Shared}
theorem lk_dict_ne_str (l : Addr) (es : Array DictEntry) (n : Nat) (dd : Option Addr) (sl : Array (Option Value)) (b : Str) (u : Tok) :
    Meets (Builtin.«dict.__ne__» ⟨[.ref l, .str b u], []⟩) (fun _ R s => s.heap.get? l = some { cls := .type "dict", dict := dd, data := .dict es n, slots := sl } ∧ R (.ok (.ret .notImplemented)) s) := by
  refine .of_wp ?_
  rintro prog w A R ⟨hp, g, d, tk, os⟩ ⟨there, h⟩
  have noSub := F.sub_str_dict
  wp_walk using wpAny_loadPart' there, wpAny_load there
  exact ⟨_, rfl, h⟩
theorem lk_str_ne_dict (l : Addr) (es : Array DictEntry) (n : Nat) (dd : Option Addr) (sl : Array (Option Value)) (b : Str) (u : Tok) :
    Meets (Builtin.«str.__ne__» ⟨[.str b u, .ref l], []⟩) (fun _ R s => s.heap.get? l = some { cls := .type "dict", dict := dd, data := .dict es n, slots := sl } ∧ R (.ok (.ret .notImplemented)) s) := by
  refine .of_wp ?_
  rintro prog w A R ⟨hp, g, d, tk, os⟩ ⟨there, h⟩
  wp_walk using wpAny_loadPart' there, wpAny_load there
  exact ⟨_, rfl, h⟩
theorem lk_rc_dict_str {l : Addr} {o : Obj} {es : Array DictEntry} {n : Nat} (b : Str) (u : Tok) (ho : s.heap.get? l = some o) (hc : o.cls = .type "dict") (hd : o.data = .dict es n) (hu : A.units < cLine) {Q : Value → Shared → Prop} (h : Q (.bool true) s) :
    wpAny (model prog w) A (richCompare .NotEq (.ref l) (.str b u)) Q E s := by
  obtain ⟨cls, dd, data, sl⟩ := o
  simp only at hc hd
  subst hc hd
  refine rc_ne_decline_or (a := .ref l) (b := .str b u) (s := s) (k := false) (show s.TypeIs (.ref l) "dict" from ⟨_, ho, rfl⟩) (typeIs_str s b u) (by decide) F.sub_str_dict F.slot_dict_ne F.slot_str_ne_refl ?_ ?_ ?_ ?_ ?_
  · exact fun _ hq => call_meets F.slot_dict_ne ⟨_, ho, rfl⟩ F.entry_dict_ne (F.args_dict_ne_2 _ _) (lk_dict_ne_str l es n dd sl b u) ⟨ho, hq⟩
  · exact fun _ hq => call_meets F.slot_str_ne_refl (typeIs_str s b u) F.entry_str_ne (F.args_str_ne_2 _ _) (lk_str_ne_dict l es n dd sl b u) ⟨ho, hq⟩
  · exact fun _ hq => wpAny_of_eq (rfl : isSame (.ref l) (.str b u) = pure false) hq
  · exact .inr hu
  · exact h
end
end PySem
namespace Lk
open PySem PySem.Spec PyProof.Rows L2
/-- thing != '', thing of any form -/
def rNeE (K : PySem.W.Frag) : R2 := fun x y H Q => ∃ d, y = .str "" ∧ Th K H x d ∧ (d.hasDict = true → isDct d = true) ∧ (d.hasDict = false → SeqAt.shaped d = true) ∧ Q (.bl (!isE d)) H
theorem op_neE {X : Cx} (hu : X.A.units + 64 < cLine) : OpR X (compareOp .NotEq) (rNeE X.K) := by
  intro pins s σ H x y v u Q I rx ry h
  obtain ⟨d, rfl, ht, hd, hs, q⟩ := h
  cases e : d.hasDict with
  | false =>
    have sh := hs e
    refine op_neD hu pins s σ H x (.str "") v u Q I rx ry ⟨d, .str "", th_dp ht (SeqAt.canLay_of_shaped sh), .str _, sh, by decide +kernel, ?_⟩
    rw [eqv_empty]
    exact q
  | true =>
    have hh := hd e
    cases ht with
    | dct ha _ _ =>
      obtain ⟨t, rfl⟩ := ry
      cases rx
      obtain ⟨_, _, vs, kv, o, es, ep, ho, ex, hda, _⟩ := (show ObjOk X.prog X.w H s.heap _ (.dK _) from I.hok _ _ ha)
      exact PySem.lk_rc_dict_str _ _ ho ex.1 hda (by omega) ⟨.bl true, H, I, rfl, q⟩
    | _ => cases hh
end Lk

/-! Xr0 -/
set_option Elab.async false
set_option maxRecDepth 100000
set_option linter.all false
set_option maxHeartbeats 4000000
namespace Lk
open PySem PySem.Spec PyProof.Rows L2
/-- an own class of errors, under ValueError -/
structure Err (K : PySem.W.Frag) (mg : Str → Option Value) (x : String) (C : Addr) : Prop where
  gC : mg x = some (.ref C)
  xC : PySem.W.excIn K C [.type "ValueError", .type "Exception", .type "BaseException", .type "object"] "ValueError.__new__" = true
  kC : PySem.W.keepIn K (.ref C) = true
  bC : PySem.W.subIn K (.ref C) (.type "BaseException") = some true
  tC : PySem.W.typeIn K (.ref C) = some (.type "type")
/-- an error of the class at S, a clause that names the class at T -/
theorem exm_of {K : PySem.W.Frag} {S T : Addr} {b : Bool} (h1 : PySem.W.subIn K (.ref T) (.type "BaseException") = some true) (h2 : PySem.W.isClsIn K T = true) (h3 : PySem.W.typeIn K (.ref T) = some (.type "type")) (h4 : PySem.W.subIn K (.ref S) (.ref T) = some b) :
    PySem.W.exmOne K (.ref S) (.ref T) = some b := by
  have e1 : (PySem.W.subIn K (.ref T) (.type "BaseException") == some true) = true := by rw [h1] <;> rfl
  have e2 : ((PySem.W.clsIn K T).isSome && PySem.W.typeIn K (.ref T) == some (.type "type")) = true := by
    have h2' : (PySem.W.clsIn K T).isSome = true := h2
    rw [h2', h3] <;> rfl
  show (if (PySem.W.subIn K (.ref T) (.type "BaseException") == some true) = true then (if ((PySem.W.clsIn K T).isSome && PySem.W.typeIn K (.ref T) == some (.type "type")) = true then PySem.W.subIn K (.ref S) (.ref T) else none) else none) = some b
  rw [if_pos e1, if_pos e2]
  exact h4
section
variable {X : Cx} {C : Addr} {W : WX} {x : String}
/-- raise C('m') -/
theorem ps_err (R : Err X.K X.mg x C) (calm : X.calm = true) (tk : Takes X W) {m : Str} {j : Nat} {p p2 p3 pos : Pos} (hg : Gl X x := by rfl) (hdb : ((x : Str) == ("__debug__" : Str)) = false := by decide) :
    PS X (.Raise (some (.Call (.Name x p) [.Constant (.str m) j p2] [] p3)) none pos) (fun _ σ H => W (.ref C) none σ H) :=
  ps_raise calm tk (pmk_own PySem.F.excBase_ValueError R.xC R.gC R.kC (raises_own R.bC R.tC) hg hdb)
end
/-- a def that may raise, called by its name -/
structure CalX (P : Program) (w : World) (K : PySem.W.Frag) (mg : Str → Option Value) (base : Heap) (k : Nat) (x : String) (sp : Sp) : Prop where
  ex : ∃ (f : Addr) (fd : FuncData) (ps : List Str), FnOk P w K mg base (L2.CX P w) k f fd ps sp ∧ mg x = some (.ref f) ∧ PySem.W.keepIn K (.ref f) = true ∧ Binds K fd ps []
section
variable {P : Program} {w : World} {K : PySem.W.Frag} {mg : Str → Option Value} {base : Heap}
theorem mkCalX {x : String} {st : Stmt} {N ps : List Str} {k : Nat} {sp : Sp} (D : Def1 K mg x st) (S : FnScope N ps (defScope st))
    (hb : ∀ (kV doc pm : Value) (an : Option Addr) (cdv ct : Value) (us : List Value), us.length = ps.length → bindArgs (PySem.W.fnOf x x (defArgs st) (defBody st) (defScope st) .none kV doc pm an cdv ct) ⟨us, []⟩ = pure (ps.zip us))
    (len : ∀ vs H Q E, sp vs H Q E → vs.length = ps.length)
    (hbody : ∀ (f : Addr) (cdv : Value) (A : Around) (outer : List Env) (s : Shared) (H : Hp) (vs : List V) (Q : VK) (E : XK), Room k (A.deeper (envOfC x (defScope st) s.heap.objs.size f cdv)) → sp vs H Q E →
      ∃ t, PSs (cxOf (L2.CX P w) P w K mg base N x (defScope st) f cdv A outer s H E) (defBody st) t ∧ t { nx := fun _ H' => Q .non H', rt := Q } (start N vs) H) : CalX P w K mg base (k + 1) x sp := by
  obtain ⟨f, fd, F, m⟩ := D.ex
  exact ⟨f, fd, ps, F.okX S len fun cdv A outer s H vs Q E hr h => hbody f cdv A outer s H vs Q E hr h, m, F.kp, F.binds hb⟩
end
section
variable {X : Cx} {k j : Nat} {x : String} {sp : Sp} {p pos : Pos} {e : Expr} {es : List Expr} {t : TA}
/-- called in a def that lets its errors out -/
theorem pe_calX {E : XK} (c : CalX X.prog X.w X.K X.mg X.base k x sp) (hr : Room j X.A) (hk : k ≤ j) (tk : Takes X (fun cls d _ H => E cls d H)) (ha : PA X (e :: es) t) (hg : Gl X x := by rfl)
    (hdb : ((x : Str) == ("__debug__" : Str)) = false := by decide) (he : starEach (e :: es) X.env = (false, eval e X.env) :: starEach es X.env := by rfl) (hpl : (backTo pos (starEach es X.env)).any (·.1) = false := by rfl) :
    PE X (.Call (.Name x p) (e :: es) [] pos) (tCall sp [] E t) := by
  obtain ⟨f, fd, ps, F, m, kp, b⟩ := c.ex
  exact pe_call F (hr.mono hk) hg m kp b .nil (passes_call tk fun _ _ _ _ h => h) ha hdb he hpl
/-- called in a try's body -/
theorem pe_calT {W : WX} (c : CalX X.prog X.w X.K X.mg X.base k x sp) (hr : Room j X.A) (hk : k ≤ j) (tk : Takes X W) (ha : PA X (e :: es) t) (hg : Gl X x := by rfl)
    (hdb : ((x : Str) == ("__debug__" : Str)) = false := by decide) (he : starEach (e :: es) X.env = (false, eval e X.env) :: starEach es X.env := by rfl) (hpl : (backTo pos (starEach es X.env)).any (·.1) = false := by rfl) :
    PE X (.Call (.Name x p) (e :: es) [] pos) (tCallS sp (WE W) t) := by
  obtain ⟨f, fd, ps, F, m, kp, b⟩ := c.ex
  exact pe_callS F (hr.mono hk) hg m kp b (fun σ => passAt tk σ) ha hdb he hpl
/-- a def that asks for no guard on the stack -/
theorem pe_calG (c : CalG X.prog X.w X.K X.mg X.base CX0 k x sp) (hr : Room j X.A) (hk : k ≤ j) (gd : X.A.guards = some []) (ha : PA X (e :: es) t) (hg : Gl X x := by rfl)
    (hdb : ((x : Str) == ("__debug__" : Str)) = false := by decide) (he : starEach (e :: es) X.env = (false, eval e X.env) :: starEach es X.env := by rfl) (hpl : (backTo pos (starEach es X.env)).any (·.1) = false := by rfl) :
    PE X (.Call (.Name x p) (e :: es) [] pos) (tCall sp [] E0 t) := by
  obtain ⟨f, fd, ps, F, m, kp, b⟩ := c.ex
  refine ⟨fun pins s σ H Q I h => ?_⟩
  refine wpAny_Call_Name_kw (ld_glob I hg m ?_ hdb)
  refine PySem.W.callWith_K (h₀ := X.base) I.ok.mod.kin kp (thn (ha.run pos pins s σ H _ I h) fun us s1 ⟨vs, H1, I1, r, q⟩ => ⟨I1.kIn, ?_⟩) he hpl
  replace q : sp (vs ++ []) H1 Q E0 := q
  rw [List.append_nil] at q
  have hl : us.length = ps.length := by rw [← r.length]; exact F.len _ _ _ _ q
  have b2 := b s1 us I1.kIn (by rw [List.append_nil]; exact hl)
  rw [List.append_nil] at b2
  refine wpAny_call (codeAny_mono (F.go X.A X.stack s1 H1 ⟨us, []⟩ us vs Q E0 (hr.mono hk) gd I1.env0 b2 r q) fun r' s' hq => ?_)
  cases r' with
  | error e' => exact pass0 pins σ H1 s1 e' s' I1 hq
  | ok fl =>
    cases fl with
    | ret u => exact I1.after hq
    | next => exact False.elim hq
    | brk => exact False.elim hq
    | cont => exact False.elim hq
end
/-! ### data stands when the pot changes -/
def potLike : List PyData → Bool
  | [_, .int _, .int _, .int _] => true
  | _ => false
mutual
def noPot : PyData → Bool
  | .none | .bool _ | .int _ | .str _ => true
  | .list xs => !potLike xs && noPotAll xs
  | .tuple xs => noPotAll xs
  | .dict kvs => noPotKv kvs
def noPotAll : List PyData → Bool
  | [] => true
  | x :: xs => noPot x && noPotAll xs
def noPotKv : List (PyData × PyData) → Bool
  | [] => true
  | (_, v) :: r => noPot v && noPotKv r
end
theorem noPotKv_map : ∀ ds : List (PyData × PyData), noPotAll (ds.map (·.2)) = noPotKv ds
  | [] => rfl
  | (k, v) :: r => by
    show (noPot v && noPotAll (r.map (·.2))) = (noPot v && noPotKv r)
    rw [noPotKv_map r]
theorem potLike_of {K : PySem.W.Frag} {H : Hp} {x : V} {i a b : Int} : ∀ {ds : List PyData}, ThAll K H [x, .int i, .int a, .int b] ds → potLike ds = true
  | _, .cons _ (.cons (.int _) (.cons (.int _) (.cons (.int _) .nil))) => rfl
theorem th_ext {K : PySem.W.Frag} {p c : Addr} {H H' : Hp} (hP : PotAt p c H) (e : Ext p c H H') {v : V} {d : PyData} (h : Th K H v d) : noPot d = true → Th K H' v d := by
  obtain ⟨_, ⟨i, a, b, hp⟩, _⟩ := hP
  refine Th.rec (motive_1 := fun v d _ => noPot d = true → Th K H' v d) (motive_2 := fun vs ds _ => noPotAll ds = true → ThAll K H' vs ds) ?_ ?_ ?_ ?_ ?_ ?_ ?_ ?_ ?_ h
  · exact fun _ => .non
  · exact fun b _ => .bl b
  · exact fun i _ => .int i
  · exact fun x _ => .str x
  · intro q xs ds hs ha ih n
    have n2 : potLike ds = false ∧ noPotAll ds = true := by simpa only [noPot, Bool.and_eq_true, Bool.not_eq_true'] using n
    by_cases z : q = p
    · rcases hs with (hs | ⟨o, hs⟩) | hs
      · rw [z, hp] at hs
        cases hs
        rw [potLike_of ha] at n2
        cases n2.1
      · rw [z, hp] at hs
        cases hs
      · exact .lst (.inr hs) (ih n2.2)
    · exact .lst (e.seq z hs) (ih n2.2)
  · intro q xs ds hs ha ih n
    have n2 : noPotAll ds = true := by simpa only [noPot] using n
    by_cases z : q = p
    · rcases hs with (hs | ⟨o, hs⟩) | hs
      · rw [z, hp] at hs
        cases hs
      · rw [z, hp] at hs
        cases hs
      · exact .tup (.inr hs) (ih n2)
    · exact .tup (e.seqT z hs) (ih n2)
  · intro q kvs ds hs _ ek ih n
    have n2 : noPotAll (ds.map (·.2)) = true := by
      rw [noPotKv_map]
      simpa only [noPot] using n
    by_cases z : q = p
    · rw [z, hp] at hs
      cases hs
    · exact .dct (e.get hs z) (ih n2) ek
  · exact fun _ => .nil
  · intro v vs d ds _ _ i1 i2 n
    have n2 : noPot d = true ∧ noPotAll ds = true := by simpa only [noPotAll, Bool.and_eq_true] using n
    exact .cons (i1 n2.1) (i2 n2.2)
theorem thAll_ext {K : PySem.W.Frag} {p c : Addr} {H H' : Hp} (hP : PotAt p c H) (e : Ext p c H H') : ∀ {vs : List V} {ds : List PyData}, ThAll K H vs ds → noPotAll ds = true → ThAll K H' vs ds
  | _, _, .nil, _ => .nil
  | _ :: _, d :: ds, .cons h t, n => by
    have n2 : noPot d = true ∧ noPotAll ds = true := by simpa only [noPotAll, Bool.and_eq_true] using n
    exact .cons (th_ext hP e h n2.1) (thAll_ext hP e t n2.2)
end Lk

/-! Clr0 -/
set_option Elab.async false
set_option maxRecDepth 100000
set_option linter.all false
set_option maxHeartbeats 4000000
namespace Lk
open PySem PySem.Spec PyProof.Rows L2
structure Wf0 (d : PyData) : Prop where
  sh : d.showable = true
  lv : d.leavesShort 13 = true
  bk : d.bulk ≤ 1000000
  dp : d.depth ≤ 60
theorem Wf.wf0 {d : PyData} (h : Wf d) : Wf0 d := ⟨h.sh, h.lv, h.bk, h.dp⟩
/-- its lists are not the table of modules -/
inductive Clr (K : PySem.W.Frag) (H : Hp) : V → PyData → Prop
  | flat {v : V} {d : PyData} : Th K H v d → noLst d = true → Clr K H v d
  | lst {p : Addr} {xs : List V} {ds : List PyData} : SqL K H p xs → (p == sysModules) = false → ThAll K H xs ds → noLstAll ds = true → Clr K H (.ref p) (.list ds)
  | two {q : Addr} {v1 v2 : V} {d1 d2 : PyData} : SqT K H q [v1, v2] → Clr K H v1 d1 → Clr K H v2 d2 → Clr K H (.ref q) (.tuple [d1, d2])
section
variable {X : Cx} {pins : List (Addr × Obj)} {σ : L2.St} {H : Hp} {s : Shared}
theorem all_reads (I : Inv X pins σ H s) : ∀ {vs : List V} {ds : List PyData}, ThAll X.K H vs ds → noLstAll ds = true → ∀ us, Vals vs us → ∃ as, ReadsAll s.heap us ds as ∧ sysModules ∉ as
  | _, _, .nil, _, us, r => by
    cases r
    exact ⟨_, ReadsAll.nil, fun h => nomatch h⟩
  | _ :: _, d :: ds, .cons h t, n, us, r => by
    have n2 : noLst d = true ∧ noLstAll ds = true := by simpa [noLstAll] using n
    cases r with
    | cons r1 r2 =>
      obtain ⟨as, q1, m1⟩ := th_reads I h _ r1
      obtain ⟨bs, q2, m2⟩ := all_reads I t n2.2 _ r2
      refine ⟨_, ReadsAll.cons q1 q2, fun hm => ?_⟩
      rcases List.mem_append.mp hm with hm | hm
      · exact m1 n2.1 hm
      · exact m2 hm
theorem clr_reads (I : Inv X pins σ H s) {v : V} {d : PyData} (h : Clr X.K H v d) : ∀ u, RelV v u → ∃ as, Reads s.heap u d as ∧ sysModules ∉ as := by
  induction h with
  | flat h n =>
    intro u r
    obtain ⟨as, q, m⟩ := th_reads I h u r
    exact ⟨as, q, m n⟩
  | lst hs hp ha n =>
    intro u r
    cases r
    obtain ⟨its, rv, ⟨o, k, ho, hc, _, hd⟩, _⟩ := I.list hs
    obtain ⟨as, hr, m⟩ := all_reads I ha n its rv
    refine ⟨_, Reads.list ho hc hd hr, fun hm => ?_⟩
    rcases List.mem_cons.mp hm with hm | hm
    · rw [hm] at hp
      exact absurd hp (by simp)
    · exact m hm
  | two hs _ _ ih1 ih2 =>
    intro u r
    cases r
    obtain ⟨its, rv, ⟨o, ho, hc, n, hd⟩, _⟩ := I.tuple hs
    cases rv with
    | cons r1 rr =>
      cases rr with
      | cons r2 rz =>
        cases rz
        obtain ⟨as, q1, m1⟩ := ih1 _ r1
        obtain ⟨bs, q2, m2⟩ := ih2 _ r2
        refine ⟨_, Reads.tuple ho hc hd (ReadsAll.cons q1 (ReadsAll.cons q2 ReadsAll.nil)), fun hm => ?_⟩
        rcases List.mem_append.mp hm with hm | hm
        · exact m1 hm
        · rcases List.mem_append.mp hm with hm | hm
          · exact m2 hm
          · exact nomatch hm
def rReprC (K : PySem.W.Frag) : List V → Hp → VK → Prop := fun xs H Q => ∃ v d, xs = [v] ∧ Th K H v d ∧ Wf0 d ∧ (d.hasDict = true → Clr K H v d) ∧ Q (.str d.shown) H
theorem call_reprC (hg : X.A.guards = some []) (hu : X.A.units + 64 < cLine) : CallR X (.builtin "repr") (rReprC X.K) := by
  intro pins s σ H xs us Q I r h
  obtain ⟨v, d, rfl, ht, hw, hc, q⟩ := h
  cases r with
  | cons r1 rr =>
    cases rr
    obtain ⟨as, hr, hsm⟩ : ∃ as, Reads s.heap _ d as ∧ (d.hasDict = true → sysModules ∉ as) := by
      cases e : d.hasDict with
      | true =>
        obtain ⟨as, a, b⟩ := clr_reads I (hc e) _ r1
        exact ⟨as, a, fun _ => b⟩
      | false =>
        obtain ⟨as, a, b⟩ := th_reads I ht _ r1
        exact ⟨as, a, fun z => nomatch z⟩
    have hz : d.shown.length ≤ sizeLine := PyData.shown_fits_bulk (B := 13) (by decide) (by decide) hw.lv (Nat.le_trans hw.bk (by decide))
    have fin : ∀ (h' : Heap) (u tk : Nat), (∀ b o, s.heap.get? b = some o → h'.get? b = some o) → EP X pins σ Q (.str d.shown u) { s with heap := h', toks := tk } := fun h' u tk k => ⟨.str d.shown, H, I.kept (t' := tk) k, ⟨u, rfl⟩, q⟩
    have hd := hw.dp
    cases hr with
    | none => exact PySem.P.repr_of_none (fin s.heap _ _ fun _ _ e => e)
    | bool b => exact PySem.P.repr_of_bool (fin s.heap _ _ fun _ _ e => e)
    | int i t => exact PySem.P.repr_of_int (by simpa [PyData.showable] using hw.sh) (fin s.heap _ _ fun _ _ e => e)
    | str x t => exact PySem.P.repr_of_str (fin s.heap _ _ fun _ _ e => e) hz
    | list h1 h2 h3 h4 => exact repr_of_reads' (.list h1 h2 h3 h4) hw.sh hsm hg (by omega) (fun _ _ e => e) (fun h' u tk k => fin h' u tk k) hz
    | tuple h1 h2 h3 h4 => exact repr_of_reads' (.tuple h1 h2 h3 h4) hw.sh hsm hg (by omega) (fun _ _ e => e) (fun h' u tk k => fin h' u tk k) hz
    | dict h1 h2 h3 h4 h5 => exact repr_of_reads' (.dict h1 h2 h3 h4 h5) hw.sh hsm hg (by omega) (fun _ _ e => e) (fun h' u tk k => fin h' u tk k) hz
/-- a list display; the new list is not the table of modules -/
def tLstS (t : TA) : TE := fun σ H Q => t σ H fun xs H1 => xs.length ≤ sizeLine ∧ ∀ p, H1 p = none → (p == sysModules) = false → Q (.ref p) (upd H1 p (.lst xs))
theorem pe_lstS {es : List Expr} {t : TA} {pos : Pos} (h : PA X es t) : PE X (.List es pos) (tLstS t) := by
  refine ⟨fun pins s σ H Q I hq => ?_⟩
  refine wpAny_List_spliced (thn (h.run pos pins s σ H _ I hq) fun us s1 ⟨xs, H1, I1, r, z, q⟩ => ⟨by rw [← r.length]; exact z, ?_⟩)
  have hf : H1 s1.heap.objs.size = none := I1.hok.fresh (Nat.le_refl _)
  have hm : (s1.heap.objs.size == sysModules) = false := beq_eq_false_iff_ne.mpr (Nat.ne_of_gt I1.big)
  refine ⟨.ref s1.heap.objs.size, upd H1 s1.heap.objs.size (.lst xs), I1.laid (t' := s1.toks) (fun b u e => Heap.get?_push_of_some _ e) (Nat.le_refl _) ?_, rfl, q _ hf hm⟩
  exact ⟨z, us, 0, r, Heap.get?_push_size _ rfl⟩
end
theorem Clr.same {K : PySem.W.Frag} {H H' : Hp} (s : Same H H') {v : V} {d : PyData} (h : Clr K H v d) : Clr K H' v d := by
  induction h with
  | flat h n => exact .flat (th_same s h) n
  | lst hs hp ha n => exact .lst (s.seq hs) hp (thAll_same s ha) n
  | two hs _ _ i1 i2 => exact .two (Same.seqT s hs) i1 i2
end Lk

/-! SetG0 -/
set_option Elab.async false
set_option maxRecDepth 100000
set_option linter.all false
set_option maxHeartbeats 4000000
namespace Lk
open PySem PySem.Spec PyProof.Rows L2
/-! ### a set whose members are told by keys, with a table that can be walked -/
section
variable {P : Program} {w : World} {κ : Type} [DecidableEq κ] {knd : KeyKind P w κ}
/-- the entries l bear the keys ks, none twice -/
def Keyed (knd : KeyKind P w κ) (l : List (Int × Value)) (ks : List κ) : Prop :=
  ∃ f : Int × Value → κ, (∀ e ∈ l, (knd.is (f e) e.2 = true ∧ e.1 = knd.hash (f e)) ∧ e.2.scannable = true) ∧ (l.map f).Perm ks ∧ ks.Nodup
theorem Keyed.elems {l : List (Int × Value)} {ks : List κ} (h : Keyed knd l ks) : ElemsOf knd l := by
  obtain ⟨f, g, _⟩ := h
  exact fun e he => ⟨⟨f e, (g e he).1⟩, (g e he).2⟩
theorem Keyed.mem {l : List (Int × Value)} {ks : List κ} (h : Keyed knd l ks) (k : κ) : k ∈ ks ↔ ∃ e ∈ l, knd.is k e.2 = true := by
  obtain ⟨f, g, pm, _⟩ := h
  rw [← pm.mem_iff, List.mem_map]
  constructor
  · rintro ⟨e, he, rfl⟩
    exact ⟨e, he, (g e he).1.1⟩
  · rintro ⟨e, he, q⟩
    rw [KeyKind.is_eq_decide (g e he).1.1 k, decide_eq_true_eq] at q
    exact ⟨e, he, q.symm⟩
theorem Keyed.perm {l l' : List (Int × Value)} {ks : List κ} (h : Keyed knd l ks) (p : l'.Perm l) : Keyed knd l' ks := by
  obtain ⟨f, g, pm, nd⟩ := h
  exact ⟨f, fun e he => g e (p.mem_iff.mp he), (p.map f).trans pm, nd⟩
theorem Keyed.len {l : List (Int × Value)} {ks : List κ} (h : Keyed knd l ks) : l.length = ks.length := by
  obtain ⟨f, _, pm, _⟩ := h
  rw [← pm.length_eq, List.length_map]
theorem Keyed.more {l : List (Int × Value)} {ks : List κ} {k : κ} {x : Value} (h : Keyed knd l ks) (hx : knd.is k x = true) (sx : x.scannable = true) (n : k ∉ ks) : Keyed knd ((knd.hash k, x) :: l) (k :: ks) := by
  have no : ∀ e ∈ l, knd.is k e.2 = false := fun e he => by
    cases q : knd.is k e.2 with
    | false => rfl
    | true => exact absurd ((h.mem k).2 ⟨e, he, q⟩) n
  obtain ⟨f, g, pm, nd⟩ := h
  obtain ⟨F, F0, F1⟩ : ∃ F : Int × Value → κ, F (knd.hash k, x) = k ∧ ∀ e ∈ l, F e = f e := ⟨fun e => if knd.is k e.2 = true then k else f e, if_pos hx, fun e he => if_neg (by rw [no e he]; exact Bool.false_ne_true)⟩
  refine ⟨F, fun e he => ?_, ?_, List.nodup_cons.mpr ⟨n, nd⟩⟩
  · rcases List.mem_cons.mp he with rfl | he
    · rw [F0]
      exact ⟨⟨hx, rfl⟩, sx⟩
    · rw [F1 e he]
      exact g e he
  · rw [List.map_cons, F0, List.map_congr_left F1]
    exact pm.cons k
def GSet (knd : KeyKind P w κ) (h : Heap) (a : Addr) (ks : List κ) : Prop :=
  ∃ o es ep t, h.get? a = some o ∧ o.ExactSet ∧ o.data = .set es ep t ∧ Keyed knd es.toList ks ∧ es.size < scanBound ∧ t.fits es.size = true ∧ Ris t.place.toList ∧ (w.params.followText "set-order" = true ∨ t.led = true)
theorem GSet.at {h h' : Heap} {a : Addr} {ks : List κ} (R : GSet knd h a ks) (k : ∀ o, h.get? a = some o → h'.get? a = some o) : GSet knd h' a ks := by
  obtain ⟨o, es, ep, t, ho, r⟩ := R
  exact ⟨o, es, ep, t, k o ho, r⟩
end
section
variable {P : Program} {w : World} {κ : Type} [DecidableEq κ] {knd : KeyKind P w κ} {A : Around} {E : Value → Shared → Prop} {s : Shared} {a : Addr} {ks : List κ}
/-- the store behind an add, and the wider table where it is too full -/
theorem gset_tail {g : Bool → Sem Unit} (quiet : ∀ (b : Bool) (s₁ : Shared) (Q' : Unit → Shared → Prop), Q' () s₁ → wpAny (model P w) A (g b) Q' E s₁) {o : Obj} {es es1 : Array (Int × Value)} {ep : Nat} {t t1 : SetTable} {ls : List κ}
    (there : s.heap.get? a = some o) (ex : o.ExactSet) (dat : o.data = .set es ep t) (ky : Keyed knd es1.toList ls) (few : es1.size < scanBound) (fit : t1.fits es1.size = true) (ris : Ris t1.place.toList) (led : w.params.followText "set-order" = true ∨ t1.led = true) {dummy : Bool} {R : Option Bool → Shared → Prop}
    (done : ∀ h', Heap.SameBut a s.heap h' → GSet knd h' a ls → R (some true) { s with heap := h' }) :
    wpAny (model P w) A (do
        storeSet a es1 t1
        if (!dummy && t1.tooFull) = true then do
            g (relayAll t1 es1 (SetTable.grown es1.size)).2.2
            storeSet a (relayAll t1 es1 (SetTable.grown es1.size)).1 (relayAll t1 es1 (SetTable.grown es1.size)).2.1
            pure (some true)
          else pure (some true)) R E s := by
  have at1 := store_at (es' := es1) (t' := t1) there dat
  have but1 := Heap.SameBut.update s.heap a (Obj.putSet es1 t1)
  refine wpAny_bind (wpAny_storeSet_of there dat ?_ (fits_of_scanBound few))
  split
  · obtain ⟨pm, ft, rs, ld⟩ := (⟨relayAll_perm t1 es1 (SetTable.grown es1.size), relayAll_fits t1 es1 (SetTable.grown es1.size), relayAll_ris t1 es1 (SetTable.grown es1.size), relayAll_led t1 es1 (SetTable.grown es1.size)⟩ :
      (relayAll t1 es1 (SetTable.grown es1.size)).1.toList.Perm es1.toList ∧ (relayAll t1 es1 (SetTable.grown es1.size)).2.1.fits (relayAll t1 es1 (SetTable.grown es1.size)).1.size = true ∧ Ris (relayAll t1 es1 (SetTable.grown es1.size)).2.1.place.toList ∧ (relayAll t1 es1 (SetTable.grown es1.size)).2.1.led = t1.led)
    revert pm ft rs ld
    generalize relayAll t1 es1 (SetTable.grown es1.size) = Z
    intro pm ft rs ld
    have few2 : Z.1.size < scanBound := by rw [← Array.length_toList, pm.length_eq, Array.length_toList]; exact few
    refine wpAny_bind (quiet _ _ _ (wpAny_bind (wpAny_storeSet_of at1 rfl ?_ (fits_of_scanBound few2))))
    exact wpAny_pure (done _ (but1.trans (Heap.SameBut.update _ a _)) ⟨_, _, _, _, store_at (es' := Z.1) (t' := Z.2.1) at1 rfl, ex, rfl, ky.perm pm, few2, ft, rs, led.imp id fun z => by rw [ld]; exact z⟩)
  · exact wpAny_pure (done _ but1 ⟨_, _, _, _, at1, ex, rfl, ky, few, fit, ris, led⟩)
/-- one more into the set -/
theorem gset_add {k : κ} {x : Value} {Q : Bool → Shared → Prop} (R : GSet knd s.heap a ks) (hx : knd.is k x = true) (sx : x.scannable = true) (room : ks.length + 1 < scanBound)
    (old : k ∈ ks → Q false s) (new : k ∉ ks → ∀ h', Heap.SameBut a s.heap h' → GSet knd h' a (k :: ks) → Q true { s with heap := h' }) : wpAny (model P w) A (setAddHashed a x (knd.hash k)) Q E s := by
  obtain ⟨o, es, ep, t, there, ex, dat, ky, few, fit, ris, led⟩ := R
  have el := ky.elems
  unfold setAddHashed setAddHashedIn
  refine wpAny_holding (wpAny_bind (wpAny_setState_of there dat fit ?_))
  dsimp only
  rw [byScan_of sx few el]
  simp only [↓reduceIte]
  unfold setAddByScan
  refine wpAny_bind (wpAny_bind (wpAny_rule (wpAny_bind (wpAny_setScan_of hx there dat fit el ?_))))
  cases found : List.findIdx? (fun e => knd.is k e.2) es.toList with
  | some j =>
    obtain ⟨hj, pj, _⟩ := List.findIdx?_eq_some_iff_getElem.mp found
    exact wpAny_pure (wpAny_pure (old ((ky.mem k).2 ⟨_, List.getElem_mem hj, pj⟩)))
  | none =>
    have nk : k ∉ ks := fun z => by
      obtain ⟨e, he, q⟩ := (ky.mem k).1 z
      have c := List.findIdx?_eq_none_iff.mp found e he
      rw [q] at c
      cases c
    dsimp only
    have gaveWay : ∀ (b : Bool) {s₁ : Shared} {Q' : Unit → Shared → Prop}, Q' () s₁ → wpAny (model P w) A (match b with | true => rule "set.scan.the-table-gave-way" | false => pure ()) Q' E s₁ := fun b s₁ Q' q => by
      cases b
      · exact wpAny_pure q
      · exact wpAny_rule q
    have pm := layNew_perm t es (knd.hash k) x
    have ft := layNew_fits t es (knd.hash k) x
    have rs := layNew_ris t es (knd.hash k) x ris
    have ld := layNew_led t es (knd.hash k) x
    generalize layNew t es (knd.hash k) x = Z at pm ft rs ld ⊢
    obtain ⟨es1, t1, dummy, gave⟩ := Z
    dsimp only at pm ft rs ld ⊢
    rw [Array.toList_push] at pm
    have pc : es1.toList.Perm ((knd.hash k, x) :: es.toList) := pm.trans (List.perm_append_singleton _ _)
    have ky1 : Keyed knd es1.toList (k :: ks) := (ky.more hx sx nk).perm pc
    have few1 : es1.size < scanBound := by
      rw [← Array.length_toList, ky1.len, List.length_cons]
      exact room
    have led1 : w.params.followText "set-order" = true ∨ t1.led = true := led.imp id fun z => by rw [ld]; exact z
    refine wpAny_bind (gaveWay _ ?_)
    split
    · refine wpAny_bind ?_
      rw [hashByValue_scannable 8 sx]
      refine wpAny_pure ?_
      refine gset_tail (knd := knd) (ls := k :: ks) (fun b s₁ Q' q => gaveWay b q) there ex dat ky1 few1 ?_ ?_ ?_ fun h' sb r => by dsimp only; exact wpAny_pure (new nk h' sb r)
      · first | exact ft | (split <;> first | exact ft | exact SetTable.fits_plain_off ft)
      · first | exact rs | (split <;> exact rs)
      · first | exact led1 | (split <;> exact led1)
    · refine wpAny_bind (wpAny_pure ?_)
      simp only [↓reduceIte]
      exact gset_tail (knd := knd) (ls := k :: ks) (fun b s₁ Q' q => gaveWay b q) there ex dat ky1 few1 ft rs led1 fun h' sb r => by dsimp only; exact wpAny_pure (new nk h' sb r)
end
end Lk

/-! SetG1 -/
set_option Elab.async false
set_option maxRecDepth 100000
set_option linter.all false
set_option maxHeartbeats 4000000
namespace Lk
open PySem PySem.Spec PyProof.Rows L2
section
variable {P : Program} {w : World} {κ : Type} [DecidableEq κ] {knd : KeyKind P w κ} {A : Around} {E : Value → Shared → Prop} {s : Shared}
/-- s.update(..), turn by turn: the keys so far -/
theorem gset_loop {I S : Addr} {fp wr : List Addr} {G : Array GenState → Array GenState → Prop} {n : Nat} {Pv : Nat → Value → Prop} {St : Nat → Shared → Prop} {R : Result → Shared → Prop} (W : WalksS P w A.in1 I fp wr G n Pv St) (apart : S ∉ fp) {ks : List κ}
    (len : n = ks.length) (room : ks.length + 1 < scanBound) (item : ∀ i v, Pv i v → ∃ k, ks[i]? = some k ∧ knd.is k v = true ∧ v.scannable = true)
    (done : ∀ s' us, Moved (S :: wr) G s s' → GSet knd s'.heap S us → (∀ k, k ∈ us ↔ k ∈ ks) → R (.ok (.ret .none)) s') :
    ∀ (m i : Nat) (s1 : Shared) (us : List κ), n - i = m → i ≤ n → St i s1 → Moved (S :: wr) G s s1 → GSet knd s1.heap S us → (∀ k, k ∈ us ↔ k ∈ ks.take i) → us.length ≤ i →
      codeAny (model P w) A (.builtin "set.update.loop" ⟨[.ref S, .ref I], []⟩) R s1 := by
  have aw : S ∉ wr := fun z => apart (W.sub _ z)
  have up : ∀ b ∈ wr, b ∈ S :: wr := fun b hb => List.mem_cons_of_mem _ hb
  intro m
  induction m with
  | zero =>
    intro i s1 us em hi st mv R1 mem _
    have ei : i = n := by omega
    rw [ei] at st mem
    refine codeAny_builtin F.entry_set_update_loop ?_
    rw [Around.under_plainId F.plain_set_update_loop _]
    show wpAny _ A.in1 (pyNext (.ref I) >>= _) _ _ s1
    refine wpAny_bind (W.done s1 _ _ st fun s2 mv2 => ?_)
    show wpAny _ A.in1 (ret Value.none) _ _ s2
    rw [List.take_of_length_le (Nat.le_of_eq len.symm)] at mem
    exact wpAny_pure (done s2 us (Moved.trans W.gtrans mv (mv2.mono up)) (R1.at fun o e => mv2.heap S o aw e) mem)
  | succ m ih =>
    intro i s1 us em hi st mv R1 mem few
    have lt : i < n := by omega
    refine codeAny_builtin F.entry_set_update_loop ?_
    rw [Around.under_plainId F.plain_set_update_loop _]
    show wpAny _ A.in1 (pyNext (.ref I) >>= _) _ _ s1
    refine wpAny_bind (W.item i s1 _ _ lt st fun v s2 pv st2 mv2 => ?_)
    obtain ⟨k, hk, iv, sv⟩ := item i v pv
    have R2 := R1.at (h' := s2.heap) fun o e => mv2.heap S o aw e
    have next : ∀ j, j ∈ ks.take (i + 1) ↔ j ∈ ks.take i ∨ j = k := fun j => by
      rw [List.take_add_one, hk]
      simp [List.mem_append]
    show wpAny _ A.in1 (holding [v] (setAdd S v) >>= _) _ _ s2
    refine wpAny_bind (wpAny_holding ?_)
    unfold setAdd
    refine wpAny_holding (wpAny_bind (knd.pyHash iv ?_))
    have mv12 := Moved.trans W.gtrans mv (mv2.mono up)
    refine gset_add (s := { s2 with toks := s2.toks + 1 }) R2 iv sv (by omega) (fun old => ?_) fun nk h3 sb R3 => ?_
    · refine wpAny_pure ⟨plainId_quiet F.plain_set_update_loop _, ih (i + 1) _ us (by omega) lt (W.frame _ s2 _ _ st2 (Nat.le_succ _) fun b hb o e => e) (mv12.then_heap (Nat.le_succ _) fun b o hb e => e) R2 (fun j => ?_) (by omega)⟩
      rw [next j, mem j]
      exact ⟨.inl, fun z => z.elim id fun e => e ▸ (mem k).1 old⟩
    · refine wpAny_pure ⟨plainId_quiet F.plain_set_update_loop _, ih (i + 1) _ (k :: us) (by omega) lt (W.frame _ s2 _ _ st2 (Nat.le_succ _) fun b hb o e => ?_) (mv12.then_heap (Nat.le_succ _) fun b o hb e => ?_) R3 (fun j => ?_) (by rw [List.length_cons]; omega)⟩
      · rw [sb.2 b (fun z : b = S => apart (by rw [← z]; exact hb))]
        exact e
      · rw [sb.2 b (fun z : b = S => hb (by rw [z]; exact List.mem_cons_self))]
        exact e
      · rw [next j, List.mem_cons, mem j]
        exact Or.comm
theorem gset_loop0 {I S : Addr} {fp wr : List Addr} {G : Array GenState → Array GenState → Prop} {n : Nat} {Pv : Nat → Value → Prop} {St : Nat → Shared → Prop} {R : Result → Shared → Prop} (W : WalksS P w A.in1 I fp wr G n Pv St) (apart : S ∉ fp) {ks : List κ}
    (len : n = ks.length) (room : ks.length + 1 < scanBound) (item : ∀ i v, Pv i v → ∃ k, ks[i]? = some k ∧ knd.is k v = true ∧ v.scannable = true) (st : St 0 s) (R0 : GSet knd s.heap S [])
    (done : ∀ s' us, Moved (S :: wr) G s s' → GSet knd s'.heap S us → (∀ k, k ∈ us ↔ k ∈ ks) → R (.ok (.ret .none)) s') : codeAny (model P w) A (.builtin "set.update.loop" ⟨[.ref S, .ref I], []⟩) R s :=
  gset_loop W apart len room item done (n - 0) 0 s [] rfl (Nat.zero_le _) st (Moved.refl W.grefl) R0 (fun k => by simp) (Nat.le_refl 0)
theorem gset_new {h : Heap} {a : Addr} (ho : h.get? a = some { cls := .type "set", dict := none, data := .set #[] 0 (.fresh 0 0 (!w.params.followText "set-order")) }) (f : Int × Value → κ) : GSet knd h a [] :=
  ⟨_, #[], 0, _, ho, ⟨rfl, rfl, rfl⟩, rfl, ⟨f, fun e he => by simp at he, List.Perm.nil, List.nodup_nil⟩, by decide, by rfl, List.Pairwise.nil, by
    show _ ∨ (!w.params.followText "set-order") = true
    cases w.params.followText "set-order"
    · exact .inr rfl
    · exact .inl rfl⟩
end
end Lk

/-! SetG2 -/
set_option Elab.async false
set_option maxRecDepth 100000
set_option linter.all false
set_option maxHeartbeats 4000000
namespace Lk
open PySem PySem.Spec PyProof.Rows L2
section
variable {P : Program} {w : World} {κ : Type} [DecidableEq κ] {knd : KeyKind P w κ} {A : Around} {E : Value → Shared → Prop} {s : Shared}
set_option maxRecDepth 100000 in
theorem call_set_L {l : Addr} {items : Array Value} {ks : List κ} {Q : Value → Shared → Prop} (hh : A.handled = none) (hl : s.heap.IsList l items) (f : Int × Value → κ) (len : items.size = ks.length) (room : ks.length + 1 < scanBound)
    (item : ∀ (i : Nat) (v : Value), items[i]? = some v → ∃ k, ks[i]? = some k ∧ knd.is k v = true ∧ v.scannable = true)
    (h : ∀ (h' : Heap) (tk : Nat) (us : List κ), GSet knd h' s.heap.objs.size us → (∀ k, k ∈ us ↔ k ∈ ks) → (∀ b o, s.heap.get? b = some o → h'.get? b = some o) → Q (.ref s.heap.objs.size) { s with heap := h', toks := tk }) :
    wpAny (model P w) A (call (.type "set") [.ref l]) Q E s := by
  obtain ⟨c, tl, hmro⟩ := F.called_set.mro
  have hmade := F.called_set.made
  have hsub := F.called_set.sub
  refine wpAny_call (codeAny_of_tree ?_)
  show wpAny _ _ (callAny (.type "set") _) _ _ _
  refine wpAny_pure ⟨Code.quiet_builtin _ (by decide +kernel), codeAny_builtin F.entry_type_call ?_⟩
  rw [Around.under_plain (weight_type_call_type "set" [.ref l] []) rfl]
  have h1 := F.called_set.notType
  have h2 := F.called_set.canCreate
  have hct := F.typeCall_set_1 (.ref l)
  repeat (any_goals (first | assumption | wp_step))
  refine codeAny_mono (code_set_led1 (.ref l) (E := E) (Q₁ := fun obj s₁ => obj = .ref s.heap.objs.size ∧ s₁ = { s with heap := s.heap.push { cls := .type "set", dict := none, data := .set #[] 0 (.fresh 0 0 (!w.params.followText "set-order")) } }) ⟨rfl, rfl⟩) fun r s₁ hr => ?_
  match r, hr with
  | .error e, hr => exact hr
  | .ok .next, hr => exact hr.elim
  | .ok .brk, hr => exact hr.elim
  | .ok .cont, hr => exact hr.elim
  | .ok (.ret obj), ⟨eo, es⟩ =>
    subst eo es
    have hS : (s.heap.push { cls := .type "set", dict := none, data := .set #[] 0 (.fresh 0 0 (!w.params.followText "set-order")) }).get? s.heap.objs.size = some { cls := .type "set", dict := none, data := .set #[] 0 (.fresh 0 0 (!w.params.followText "set-order")) } := Heap.get?_push_size _ rfl
    have hT : Shared.TypeIs { s with heap := s.heap.push { cls := .type "set", dict := none, data := .set #[] 0 (.fresh 0 0 (!w.params.followText "set-order")) } } (.ref s.heap.objs.size) "set" := ⟨_, hS, rfl⟩
    have hli := F.called_set.init.lookup
    have hbi := F.called_set.init.bind (.ref s.heap.objs.size)
    repeat (any_goals (first | assumption | wp_step))
    refine codeAny_mono (codeAny_call_builtin (R := wants (fun r s₂ => r = .none ∧ ∃ h' tk us, s₂ = { s with heap := h', toks := tk } ∧ GSet knd h' s.heap.objs.size us ∧ (∀ k, k ∈ us ↔ k ∈ ks) ∧
        (∀ b o, s.heap.get? b = some o → h'.get? b = some o)) E) F.called_set.init.plain F.entry_set_init (check_set_init_1 hT ?_)) fun r₂ s₂ hr₂ => ?_
    · obtain ⟨⟨ocls, odict, odata, oslots⟩, hol, hcl, nl, hdl⟩ := hl
      simp only at hcl hdl
      subst hcl hdl
      have hol' : (s.heap.push { cls := .type "set", dict := none, data := .set #[] 0 (.fresh 0 0 (!w.params.followText "set-order")) }).get? l = some { cls := .type "list", dict := odict, data := .seq items nl, slots := oslots } := Heap.get?_push_of_some _ hol
      have hsls := F.sub_list_set
      have hslf := F.sub_list_frozenset
      have hne : (Value.type "list" == Value.type "dict") = false := by decide
      have hl1 : (s.heap.push { cls := .type "set", dict := none, data := .set #[] 0 (.fresh 0 0 (!w.params.followText "set-order")) }).IsList l items := ⟨_, hol', rfl, nl, rfl⟩
      unfold Builtin.«set.__init__» noKeywords Builtin.Frozenset.updateFrom
      generalize hPI : pyIter = PI
      wp_walk
      subst hPI
      refine wpAny_pyIter_list hl1 ?_
      refine wpAny_bind (wpAny_runValue ?_)
      have lt : l < s.heap.objs.size := Heap.lt_size hol
      have sz : (s.heap.push { cls := .type "set", dict := none, data := .set #[] 0 (.fresh 0 0 (!w.params.followText "set-order")) }).objs.size = s.heap.objs.size + 1 := Heap.size_push ..
      have quiet : A.in1.in1.in1.handled = none := by simp [hh]
      have n1 : l ≠ (s.heap.push { cls := .type "set", dict := none, data := .set #[] 0 (.fresh 0 0 (!w.params.followText "set-order")) }).objs.size := by
        rw [Heap.size_push]
        exact Nat.ne_of_lt (Nat.lt_succ_of_lt lt)
      have n2 : s.heap.objs.size ∉ [(s.heap.push { cls := .type "set", dict := none, data := .set #[] 0 (.fresh 0 0 (!w.params.followText "set-order")) }).objs.size, l] := by
        rw [Heap.size_push]
        simp only [List.mem_cons, List.not_mem_nil, or_false, not_or]
        exact ⟨Nat.ne_of_lt (Nat.lt_succ_self _), Nat.ne_of_gt lt⟩
      refine gset_loop0 (knd := knd) (ks := ks) ((Walks.list quiet _ l n1 items).toS) n2 len room item ⟨⟨_, Heap.get?_push_size _ rfl, rfl, rfl⟩, (hl1.push _)⟩ ?hS0 ?hR
      case hS0 => exact gset_new (Heap.get?_push_of_some _ hS) f
      case hR =>
        rintro ⟨h', g2, d', tk', os'⟩ us mv R2 mem
        have eg := mv.gens
        have ed := mv.drawn
        have eo := mv.os
        dsimp only at eg ed eo
        subst eg ed eo
        show wpAny _ _ _ _ _ _
        refine wpAny_pure ?_
        show wpAny _ _ (ret Value.none) _ _ _
        refine wpAny_pure ⟨rfl, h', tk', us, rfl, R2, mem, fun b o e => ?_⟩
        have lb := Heap.lt_size e
        refine mv.heap b o ?_ (Heap.get?_push_of_some _ (Heap.get?_push_of_some _ e))
        rw [Heap.size_push]
        simp only [List.mem_cons, List.not_mem_nil, or_false, not_or]
        exact ⟨Nat.ne_of_lt lb, Nat.ne_of_lt (Nat.lt_succ_of_lt lb)⟩
    · match r₂, hr₂ with
      | .error e, hr₂ => exact hr₂
      | .ok .next, hr₂ => exact hr₂.elim
      | .ok .brk, hr₂ => exact hr₂.elim
      | .ok .cont, hr₂ => exact hr₂.elim
      | .ok (.ret r), ⟨er, h', tk, us, es, R2, mem, kp⟩ =>
        subst er es
        repeat (any_goals (first | assumption | wp_step))
        exact h _ _ _ R2 mem kp
end
end Lk

/-! SetG3 -/
set_option Elab.async false
set_option maxRecDepth 100000
set_option linter.all false
set_option maxHeartbeats 4000000
namespace Lk
open PySem PySem.Spec PyProof.Rows L2
section
variable {P : Program} {w : World} {κ : Type} [DecidableEq κ] {knd : KeyKind P w κ} {A : Around} {E : Value → Shared → Prop} {s : Shared}
set_option maxRecDepth 100000 in
theorem call_set_T {l : Addr} {items : Array Value} {ks : List κ} {Q : Value → Shared → Prop} (hh : A.handled = none) (hl : s.heap.IsTuple l items) (f : Int × Value → κ) (len : items.size = ks.length) (room : ks.length + 1 < scanBound)
    (item : ∀ (i : Nat) (v : Value), items[i]? = some v → ∃ k, ks[i]? = some k ∧ knd.is k v = true ∧ v.scannable = true)
    (h : ∀ (h' : Heap) (tk : Nat) (us : List κ), GSet knd h' s.heap.objs.size us → (∀ k, k ∈ us ↔ k ∈ ks) → (∀ b o, s.heap.get? b = some o → h'.get? b = some o) → Q (.ref s.heap.objs.size) { s with heap := h', toks := tk }) :
    wpAny (model P w) A (call (.type "set") [.ref l]) Q E s := by
  obtain ⟨c, tl, hmro⟩ := F.called_set.mro
  have hmade := F.called_set.made
  have hsub := F.called_set.sub
  refine wpAny_call (codeAny_of_tree ?_)
  show wpAny _ _ (callAny (.type "set") _) _ _ _
  refine wpAny_pure ⟨Code.quiet_builtin _ (by decide +kernel), codeAny_builtin F.entry_type_call ?_⟩
  rw [Around.under_plain (weight_type_call_type "set" [.ref l] []) rfl]
  have h1 := F.called_set.notType
  have h2 := F.called_set.canCreate
  have hct := F.typeCall_set_1 (.ref l)
  repeat (any_goals (first | assumption | wp_step))
  refine codeAny_mono (code_set_led1 (.ref l) (E := E) (Q₁ := fun obj s₁ => obj = .ref s.heap.objs.size ∧ s₁ = { s with heap := s.heap.push { cls := .type "set", dict := none, data := .set #[] 0 (.fresh 0 0 (!w.params.followText "set-order")) } }) ⟨rfl, rfl⟩) fun r s₁ hr => ?_
  match r, hr with
  | .error e, hr => exact hr
  | .ok .next, hr => exact hr.elim
  | .ok .brk, hr => exact hr.elim
  | .ok .cont, hr => exact hr.elim
  | .ok (.ret obj), ⟨eo, es⟩ =>
    subst eo es
    have hS : (s.heap.push { cls := .type "set", dict := none, data := .set #[] 0 (.fresh 0 0 (!w.params.followText "set-order")) }).get? s.heap.objs.size = some { cls := .type "set", dict := none, data := .set #[] 0 (.fresh 0 0 (!w.params.followText "set-order")) } := Heap.get?_push_size _ rfl
    have hT : Shared.TypeIs { s with heap := s.heap.push { cls := .type "set", dict := none, data := .set #[] 0 (.fresh 0 0 (!w.params.followText "set-order")) } } (.ref s.heap.objs.size) "set" := ⟨_, hS, rfl⟩
    have hli := F.called_set.init.lookup
    have hbi := F.called_set.init.bind (.ref s.heap.objs.size)
    repeat (any_goals (first | assumption | wp_step))
    refine codeAny_mono (codeAny_call_builtin (R := wants (fun r s₂ => r = .none ∧ ∃ h' tk us, s₂ = { s with heap := h', toks := tk } ∧ GSet knd h' s.heap.objs.size us ∧ (∀ k, k ∈ us ↔ k ∈ ks) ∧
        (∀ b o, s.heap.get? b = some o → h'.get? b = some o)) E) F.called_set.init.plain F.entry_set_init (check_set_init_1 hT ?_)) fun r₂ s₂ hr₂ => ?_
    · obtain ⟨⟨ocls, odict, odata, oslots⟩, hol, hcl, nl, hdl⟩ := hl
      simp only at hcl hdl
      subst hcl hdl
      have hol' : (s.heap.push { cls := .type "set", dict := none, data := .set #[] 0 (.fresh 0 0 (!w.params.followText "set-order")) }).get? l = some { cls := .type "tuple", dict := odict, data := .seq items nl, slots := oslots } := Heap.get?_push_of_some _ hol
      have hsls := F.sub_tuple_set
      have hslf := F.sub_tuple_frozenset
      have hne : (Value.type "tuple" == Value.type "dict") = false := by decide
      have hl1 : (s.heap.push { cls := .type "set", dict := none, data := .set #[] 0 (.fresh 0 0 (!w.params.followText "set-order")) }).IsTuple l items := ⟨_, hol', rfl, nl, rfl⟩
      unfold Builtin.«set.__init__» noKeywords Builtin.Frozenset.updateFrom
      generalize hPI : pyIter = PI
      wp_walk
      subst hPI
      refine wpAny_pyIter_tuple hl1 ?_
      refine wpAny_bind (wpAny_runValue ?_)
      have lt : l < s.heap.objs.size := Heap.lt_size hol
      have sz : (s.heap.push { cls := .type "set", dict := none, data := .set #[] 0 (.fresh 0 0 (!w.params.followText "set-order")) }).objs.size = s.heap.objs.size + 1 := Heap.size_push ..
      have quiet : A.in1.in1.in1.handled = none := by simp [hh]
      have n1 : l ≠ (s.heap.push { cls := .type "set", dict := none, data := .set #[] 0 (.fresh 0 0 (!w.params.followText "set-order")) }).objs.size := by
        rw [Heap.size_push]
        exact Nat.ne_of_lt (Nat.lt_succ_of_lt lt)
      have n2 : s.heap.objs.size ∉ [(s.heap.push { cls := .type "set", dict := none, data := .set #[] 0 (.fresh 0 0 (!w.params.followText "set-order")) }).objs.size, l] := by
        rw [Heap.size_push]
        simp only [List.mem_cons, List.not_mem_nil, or_false, not_or]
        exact ⟨Nat.ne_of_lt (Nat.lt_succ_self _), Nat.ne_of_gt lt⟩
      refine gset_loop0 (knd := knd) (ks := ks) ((Walks.tuple quiet _ l n1 items).toS) n2 len room item ⟨⟨_, Heap.get?_push_size _ rfl, rfl, rfl⟩, (hl1.push _)⟩ ?hS0 ?hR
      case hS0 => exact gset_new (Heap.get?_push_of_some _ hS) f
      case hR =>
        rintro ⟨h', g2, d', tk', os'⟩ us mv R2 mem
        have eg := mv.gens
        have ed := mv.drawn
        have eo := mv.os
        dsimp only at eg ed eo
        subst eg ed eo
        show wpAny _ _ _ _ _ _
        refine wpAny_pure ?_
        show wpAny _ _ (ret Value.none) _ _ _
        refine wpAny_pure ⟨rfl, h', tk', us, rfl, R2, mem, fun b o e => ?_⟩
        have lb := Heap.lt_size e
        refine mv.heap b o ?_ (Heap.get?_push_of_some _ (Heap.get?_push_of_some _ e))
        rw [Heap.size_push]
        simp only [List.mem_cons, List.not_mem_nil, or_false, not_or]
        exact ⟨Nat.ne_of_lt lb, Nat.ne_of_lt (Nat.lt_succ_of_lt lb)⟩
    · match r₂, hr₂ with
      | .error e, hr₂ => exact hr₂
      | .ok .next, hr₂ => exact hr₂.elim
      | .ok .brk, hr₂ => exact hr₂.elim
      | .ok .cont, hr₂ => exact hr₂.elim
      | .ok (.ret r), ⟨er, h', tk, us, es, R2, mem, kp⟩ =>
        subst er es
        repeat (any_goals (first | assumption | wp_step))
        exact h _ _ _ R2 mem kp
end
end Lk

/-! SetS0 -/
set_option Elab.async false
set_option maxRecDepth 100000
set_option linter.all false
set_option maxHeartbeats 4000000
namespace Lk
open PySem PySem.Spec PyProof.Rows L2
/-! ### sorted(s), s a set of texts -/
def strOf : Value → Str
  | .str x _ => x
  | _ => Str.empty
def leT (x y : Str) : Bool := decide (x.cps.toList ≤ y.cps.toList)
theorem leT_data : PySem.W.dataLe false PyData.str = leT := PySem.W.dataLe_str (β := Str) (fun x => x)
theorem leT_trans (x y z : Str) (h : leT x y = true) (g : leT y z = true) : leT x z = true := decide_eq_true (List.le_trans (of_decide_eq_true h) (of_decide_eq_true g))
theorem leT_total (x y : Str) : (leT x y || leT y x) = true := by
  rw [Bool.or_eq_true]
  exact (List.le_total x.cps.toList y.cps.toList).imp (fun h => decide_eq_true h) fun h => decide_eq_true h
theorem leT_anti (x y : Str) (h : leT x y = true) (g : leT y x = true) : x = y := TL.ext_tl (List.le_antisymm (of_decide_eq_true h) (of_decide_eq_true g))
section
variable {P : Program} {w : World} {A : Around} {E : Value → Shared → Prop} {s : Shared} {a : Addr} {us : List Str}
theorem is_strOf {k : Str} {v : Value} (h : (strKind P w).is k v = true) : ∃ t, v = .str k t := by
  cases v with
  | str x t =>
    have e : x = k := by
      have h2 : Value.isStrOf k (.str x t) = true := h
      simpa [Value.isStrOf] using h2
    exact ⟨t, by rw [e]⟩
  | _ => exact Bool.noConfusion (show false = true from h)
theorem sorted_gset {Q : Value → Shared → Prop} (R : GSet (strKind P w) s.heap a us) (hh : A.handled = none) (hu : A.units + 64 < cLine)
    (hQ : ∀ s' p (out : List Value) (c : Nat) (cs : List Str), (∀ b o, s.heap.get? b = some o → s'.heap.get? b = some o) → s'.gens = s.gens → s'.os = s.os → s.heap.objs.size ≤ p →
      s'.heap.get? p = some (seqObj "list" out.toArray c) → PySem.W.EachIs (fun v x => ∃ t, v = Value.str x t) out cs → cs.Perm us → cs.Pairwise (fun x y => leT x y = true) → Q (.ref p) s') :
    wpAny (model P w) A (call (.builtin "sorted") [.ref a]) Q E s := by
  obtain ⟨o, es, ep, t, ho, hex, hd, ky, few, fit, ris, led⟩ := R
  refine Calls.call_function_entry kind_sorted plain_sorted entry_sorted (args_sorted1 _) ?_
  unfold Builtin.«sorted»
  refine wpAny_bind (m := checkCount "sorted" 1 1 _) (wpAny_pure ?_)
  refine wpAny_bind (collect_set (A := A.in1) hh ⟨o, ho, hex.1, hd⟩ fit few ris led fun s1 vs k1 hz g1 o1 pm => ?_)
  obtain ⟨f, hf, pf, nd⟩ := ky
  have each : ∀ v ∈ vs, ∃ t, v = Value.str (strOf v) t := fun v hv => by
    obtain ⟨e, he, rfl⟩ := List.mem_map.mp (pm.mem_iff.mp hv)
    obtain ⟨t, z⟩ := is_strOf (hf e he).1.1
    rw [z]
    exact ⟨t, rfl⟩
  have pu : (vs.map strOf).Perm us := by
    refine (pm.map strOf).trans ?_
    rw [List.map_map]
    refine List.Perm.trans (List.Perm.of_eq (List.map_congr_left fun e he => ?_)) pf
    obtain ⟨t, z⟩ := is_strOf (hf e he).1.1
    show strOf e.2 = f e
    rw [z]
    rfl
  have hvl : vs.length ≤ sizeLine := by
    rw [pm.length_eq, List.length_map, Array.length_toList]
    exact fits_of_scanBound few
  refine wpAny_bind (wpAny_newList ?_ hvl)
  have hoL : (s1.heap.push (seqObj "list" vs.toArray 0)).get? s1.heap.objs.size = some (seqObj "list" vs.toArray 0) := Heap.get?_push_size _ rfl
  have ev : ∀ {l : List Value}, (∀ v ∈ l, ∃ t, v = Value.str (strOf v) t) → PySem.W.EachIs (fun v x => ∃ t, v = Value.str x t) l (l.map strOf) := by
    intro l
    induction l with
    | nil => exact fun _ => .nil
    | cons v r ih => exact fun h => .cons (h v List.mem_cons_self) (ih fun u hu => h u (List.mem_cons_of_mem _ hu))
  have er : ∀ {l : List Value} {h : Heap}, (∀ v ∈ l, ∃ t, v = Value.str (strOf v) t) → PySem.W.EachIs (fun v x => ∃ as, Reads h v (.str x) as ∧ s1.heap.objs.size ∉ as) l (l.map strOf) := by
    intro l h
    induction l with
    | nil => exact fun _ => .nil
    | cons v r ih =>
      refine fun hv => .cons ?_ (ih fun u hu => hv u (List.mem_cons_of_mem _ hu))
      obtain ⟨t, z⟩ := hv v List.mem_cons_self
      rw [z]
      exact ⟨[], Reads.str _ t, fun h => nomatch h⟩
  refine wpAny_bind (wpAny_holding (PySem.W.list_sort_data (enc := PyData.str) (s := { s1 with heap := s1.heap.push (seqObj "list" vs.toArray 0) }) hoL (ev each) (er each) (PySem.W.AllAlike.of fun _ _ => rfl) (PySem.W.Sortable.others fun _ => ⟨(fun z => nomatch z), (fun _ z => nomatch z)⟩) (by rw [List.length_map]; exact hvl) (fun _ _ => by show A.in1.units + 1 + 0 < cLine; simp; omega) fun out len eo => ?_))
  rw [leT_data] at eo
  obtain ⟨c, hc⟩ := sortedHeap_at (vs := vs) (out := out.toArray) hoL
  refine wpAny_pure ⟨_, rfl, hQ _ s1.heap.objs.size out c _ (fun b u e => ?_) g1 o1 hz hc eo ((List.mergeSort_perm _ _).trans pu) ?_⟩
  · have q := k1 b u e
    have hlt := Heap.lt_size q
    show (sortedHeap (s1.heap.push (seqObj "list" vs.toArray 0)) s1.heap.objs.size vs out.toArray).get? b = some u
    rw [sortedHeap_old (Nat.ne_of_lt hlt) (by rw [size_push']; exact Nat.lt_succ_of_lt hlt)]
    exact Heap.get?_push_of_some _ q
  · exact List.pairwise_mergeSort leT_trans leT_total _
end
end Lk

/-! SetS1 -/
set_option Elab.async false
set_option maxRecDepth 100000
set_option linter.all false
set_option maxHeartbeats 4000000
namespace Lk
open PySem PySem.Spec PyProof.Rows L2
/-! ### sets of texts over the layer -/
def SetTx (P : Program) (w : World) (a : Addr) (us : List Str) : HO := .ext fun h => GSet (strKind P w) h a us
section
variable {X : Cx}
theorem setTx_ok {H : Hp} {h : Heap} {a : Addr} {us : List Str} (R : GSet (strKind X.prog X.w) h a us) : ObjOk X.prog X.w H h a (SetTx X.prog X.w a us) :=
  ⟨R, (by
    obtain ⟨o, _, _, _, ho, _⟩ := R
    exact ⟨o, ho⟩), fun _ _ z k => z.at k⟩
theorem strs_item {us : List Value} {ss : List Str} (r : StrsAre us ss) : ∀ (i : Nat) (v : Value), us.toArray[i]? = some v → ∃ k, ss[i]? = some k ∧ (strKind X.prog X.w).is k v = true ∧ v.scannable = true := fun i v h => by
  have h2 : us[i]? = some v := by simpa using h
  obtain ⟨t, e⟩ := SS.strs_at r i v h2
  have lt : i < ss.length := by
    rw [← StrsAre.length r]
    exact (List.getElem?_eq_some_iff.mp h2).1
  refine ⟨ss[i], List.getElem?_eq_getElem lt, ?_, by rw [e]; rfl⟩
  rw [e, List.getD_eq_getElem?_getD, List.getElem?_eq_getElem lt]
  exact strKind_is _ _ _ _
def rSetS (K : PySem.W.Frag) (P : Program) (w : World) : List V → Hp → VK → Prop := fun xs H Q => ∃ (l : Addr) (ss : List Str), xs = [.ref l] ∧ (SqL K H l (ss.map V.str) ∨ SqT K H l (ss.map V.str)) ∧ ss.length + 1 < scanBound ∧
  ∀ (p : Addr) (us : List Str), H p = none → us.Nodup → (∀ x, x ∈ us ↔ x ∈ ss) → Q (.ref p) (upd H p (SetTx P w p us))
theorem call_setS (calm : X.calm = true) : CallR X (.type "set") (rSetS X.K X.prog X.w) := by
  intro pins s σ H xs us Q I r h
  obtain ⟨l, ss, rfl, hl, room, q⟩ := h
  rw [Vals.ref1 r]
  have hn : H s.heap.objs.size = none := I.hok.fresh (Nat.le_refl _)
  have fin : ∀ (h' : Heap) (tk : Nat) (us : List Str), GSet (strKind X.prog X.w) h' s.heap.objs.size us → (∀ k, k ∈ us ↔ k ∈ ss) → (∀ b o, s.heap.get? b = some o → h'.get? b = some o) → EP X pins σ Q (.ref s.heap.objs.size) { s with heap := h', toks := tk } := fun h' tk us R m k =>
    ⟨.ref s.heap.objs.size, upd H s.heap.objs.size (SetTx X.prog X.w s.heap.objs.size us), I.laid (t' := tk) k (Nat.le_refl _) (setTx_ok R), rfl, q _ us hn (by
      obtain ⟨_, _, _, _, _, _, _, ⟨_, _, _, nd⟩, _⟩ := R
      exact nd) m⟩
  rcases hl with hl | hl
  · obtain ⟨its, rv, pl, hz⟩ := I.list hl
    have rs := strs_of_vals rv
    exact call_set_L (knd := strKind X.prog X.w) (ks := ss) (I.ok.hd calm) pl.isList (fun e => strOf e.2) (by rw [List.size_toArray]; exact StrsAre.length rs) room (strs_item rs) fin
  · obtain ⟨its, rv, pl, hz⟩ := I.tuple hl
    have rs := strs_of_vals rv
    exact call_set_T (knd := strKind X.prog X.w) (ks := ss) (I.ok.hd calm) (by
      obtain ⟨o, ho, hc, n, hd⟩ := pl
      exact ⟨o, ho, hc, n, hd⟩) (fun e => strOf e.2) (by rw [List.size_toArray]; exact StrsAre.length rs) room (strs_item rs) fin
theorem vals_each : ∀ {out : List Value} {cs : List Str}, PySem.W.EachIs (fun v x => ∃ t, v = Value.str x t) out cs → Vals (cs.map V.str) out
  | _, _, .nil => .nil
  | _, _, .cons h t => .cons h (vals_each t)
/-- sorted(s), s a set of texts -/
def rSortedS (P : Program) (w : World) : List V → Hp → VK → Prop := fun xs H Q => ∃ (a : Addr) (us : List Str), xs = [.ref a] ∧ H a = some (SetTx P w a us) ∧
  ∀ (p : Addr) (cs : List Str), H p = none → cs.Perm us → cs.Pairwise (fun x y => leT x y = true) → Q (.ref p) (upd H p (.lst (cs.map V.str)))
theorem call_sortedS (calm : X.calm = true) (hu : X.A.units + 64 < cLine) : CallR X (.builtin "sorted") (rSortedS X.prog X.w) := by
  intro pins s σ H xs us Q I r h
  obtain ⟨a, ks, rfl, ha, q⟩ := h
  have R : GSet (strKind X.prog X.w) s.heap a ks := (I.hok a _ ha).1
  rw [Vals.ref1 r]
  refine sorted_gset R (I.ok.hd calm) hu fun s' p out c cs k g o hp hg ev pm pw => ?_
  have hn : H p = none := I.hok.fresh hp
  have few : ks.length < scanBound := by
    obtain ⟨_, es, _, _, _, _, _, ky, few, _⟩ := R
    rw [← ky.len, Array.length_toList]
    exact few
  have hlen : (cs.map V.str).length ≤ sizeLine := by
    rw [List.length_map, pm.length_eq]
    exact fits_of_scanBound few
  have J : Inv X pins σ (upd H p (.lst (cs.map V.str))) { s with heap := s'.heap, gens := s'.gens, drawn := s'.drawn, toks := s'.toks } :=
    I.call (ch := []) (Un.laid k hp hn) (I.hok.laid k hp ⟨hlen, out, c, vals_each ev, hg⟩) (by rw [g]; exact I.bare) (fun _ z => nomatch z)
  have e : s' = { s with heap := s'.heap, gens := s'.gens, drawn := s'.drawn, toks := s'.toks } := by
    cases s'
    cases s
    cases o
    rfl
  rw [e]
  exact ⟨.ref p, _, J, rfl, q p cs hn pm pw⟩
end
end Lk

/-! SetS2 -/
set_option Elab.async false
set_option maxRecDepth 100000
set_option linter.all false
set_option maxHeartbeats 4000000
namespace Lk
open PySem PySem.Spec PyProof.Rows L2
/-! ### sorted(xs, key=len), xs a list of texts -/
def leL (x y : Str) : Bool := decide ((x.length : Int) ≤ (y.length : Int))
theorem leL_data : PySem.W.dataLe false (fun x : Str => PyData.int x.length) = leL := PySem.W.dataLe_int (β := Str) (fun x => (x.length : Int))
theorem each_vals : ∀ {us : List Value} {ss : List Str}, StrsAre us ss → PySem.W.EachIs (fun v x => ∃ t, v = Value.str x t) us ss
  | _, _, .nil => .nil
  | _, _, .cons x t h => .cons ⟨t, rfl⟩ (each_vals h)
section
variable {X : Cx}
def tSortLen (K : PySem.W.Frag) (te : TE) : TE := fun σ H Q => te σ H fun x H1 => ∃ (l : Addr) (ss : List Str), x = .ref l ∧ SqL K H1 l (ss.map V.str) ∧ (∀ y ∈ ss, y.length ≤ sizeLine) ∧ ∀ p, H1 p = none → Q (.ref p) (upd H1 p (.lst ((ss.mergeSort leL).map V.str)))
theorem pe_sortLen {e : Expr} {te : TE} {p p2 kp pos : Pos} (he : PE X e te) (hm : X.mg "sorted" = none) (hl : X.mg "len" = none) (hu : X.A.units + 64 < cLine) (hg : Gl X "sorted" := by rfl) (hgl : Gl X "len" := by rfl)
    (h1 : backTo pos (starEach [e] X.env) = (false, eval e X.env) :: backTo pos (starEach [] X.env) := by rfl) (h2 : (backTo pos (starEach [e] X.env)).any (·.1) = false := by rfl)
    (hs : starEach [e] X.env = (false, eval e X.env) :: starEach [] X.env := by rfl) :
    PE X (.Call (.Name "sorted" p) [e] [⟨some "key", .Name "len" p2, kp⟩] pos) (tSortLen X.K te) := by
  refine ⟨fun pins s σ H Q I h => ?_⟩
  refine wpAny_Call_Name_kw (ld_blt I hg hm (show bootBuiltins "sorted" = some (.builtin "sorted") by decide +kernel) ?_ (by decide) (by decide))
  let Q' : List V → Hp → Prop := fun vs H1 => match vs with
    | [x] => ∃ (l : Addr) (ss : List Str), x = .ref l ∧ SqL X.K H1 l (ss.map V.str) ∧ (∀ y ∈ ss, y.length ≤ sizeLine) ∧ ∀ p, H1 p = none → Q (.ref p) (upd H1 p (.lst ((ss.mergeSort leL).map V.str)))
    | _ => False
  refine PyProof.Rows.callWith_kw (thn ((pa_cons he pa_nil hs).run pos pins s σ H Q' I h) fun us s1 ⟨vs, H1, I1, r1, q1⟩ => ?_) h1 h2 (by rfl) (by rfl)
  match vs, r1, q1 with
  | [x], r1, ⟨l, ss, ex, hl2, hz, q⟩ =>
    subst ex
    have eu := Vals.ref1 r1
    subst eu
    show wpAny _ _ (evalAll ((do let v ← eval (.Name "len" p2) X.env; standAt pos; pure v) :: [])) _ _ s1
    refine wpAny_evalAll_cons (wpAny_bind (ld_blt I1 hgl hl (show bootBuiltins "len" = some (.builtin "len") by decide +kernel) (wpAny_bind (wpAny_standAt (wpAny_pure ?_))) (by decide) (by decide)))
    refine wpAny_evalAll_nil ?_
    show wpAny _ _ (call (.builtin "sorted") [.ref l] [(Str.ofString "key", .builtin "len")]) _ _ s1
    obtain ⟨its, rv, pl, hz2⟩ := I1.list hl2
    have rs := strs_of_vals rv
    rw [List.length_map] at hz2
    have pm := List.mergeSort_perm ss leL
    refine PySem.W.sorted_key_data (k := fun x : Str => PyData.int x.length) (b := false) (f := .builtin "len") pl.isList (each_vals rs) (PySem.W.AllAlike.of fun _ _ => rfl) (PySem.W.Sortable.others fun _ => ⟨(fun z => nomatch z), (fun _ z => nomatch z)⟩) hz2
      (fun _ _ => by show X.A.units + 2 + 0 < cLine; omega) (PyProof.Rows.ksk_s1 _ _) (fun _ => PyProof.Rows.ksk_l1 _ _) (fun _ => PyProof.Rows.ksk_t4 _ _) (fun v y hv hy h2 tk kp => ?_) fun out c h' tk kp fr hD len eo => ?_
    · obtain ⟨t, rfl⟩ := hv
      have hy2 := hz y hy
      rw [sizeLine_eq] at hy2
      exact len_str (by omega) ⟨h2, _, rfl, fun _ _ q => q, Reads.int _ _⟩
    · rw [leL_data] at eo
      have hlen : ((ss.mergeSort leL).map V.str).length ≤ sizeLine := by
        rw [List.length_map, pm.length_eq]
        exact hz2
      exact ⟨.ref _, upd H1 (s1.heap.objs.size + 1) (.lst ((ss.mergeSort leL).map V.str)), I1.laid (t' := tk) kp (Nat.le_succ _) ⟨hlen, out, c, vals_each eo, hD⟩, rfl, q _ (I1.hok.fresh (Nat.le_succ _))⟩
end
end Lk

/-! Asc0 -/
set_option Elab.async false
set_option maxRecDepth 100000
set_option linter.all false
set_option maxHeartbeats 4000000
namespace Lk
open PySem PySem.Spec PyProof.Rows L2
/-! ### the order of names -/
def leA (x y : Str) : Prop := x.length < y.length ∨ (x.length = y.length ∧ leT x y = true)
/-- the ascending list of the different ones -/
structure IsAsc (cs ss : List Str) : Prop where
  nd : cs.Nodup
  mem : ∀ x, x ∈ cs ↔ x ∈ ss
  pw : cs.Pairwise leA
theorem leA_anti {x y : Str} (h : leA x y) (g : leA y x) : x = y := by
  rcases h with h | ⟨e, h⟩
  · rcases g with g | ⟨f, g⟩ <;> omega
  · rcases g with g | ⟨f, g⟩
    · omega
    · exact leT_anti x y h g
theorem IsAsc.uniq {cs ds ss : List Str} (h : IsAsc cs ss) (g : IsAsc ds ss) : cs = ds :=
  List.Perm.eq_of_pairwise (fun _ _ _ _ a b => leA_anti a b) h.pw g.pw ((List.perm_ext_iff_of_nodup h.nd g.nd).mpr fun x => (h.mem x).trans (g.mem x).symm)
theorem IsAsc.same {cs ss ts : List Str} (h : IsAsc cs ss) (e : ∀ x, x ∈ ss ↔ x ∈ ts) : IsAsc cs ts := ⟨h.nd, fun x => (h.mem x).trans (e x), h.pw⟩
theorem two_way {α : Type} {x y : α} (ne : x ≠ y) : ∀ {l : List α}, x ∈ l → y ∈ l → List.Sublist [x, y] l ∨ List.Sublist [y, x] l
  | a :: l, hx, hy => by
    rcases List.mem_cons.mp hx with e1 | h1
    · rcases List.mem_cons.mp hy with e2 | h2
      · exact absurd (e1.trans e2.symm) ne
      · rw [← e1]
        exact .inl (List.Sublist.cons_cons _ (List.singleton_sublist.mpr h2))
    · rcases List.mem_cons.mp hy with e2 | h2
      · rw [← e2]
        exact .inr (List.Sublist.cons_cons _ (List.singleton_sublist.mpr h1))
      · exact (two_way ne h1 h2).imp (fun z => z.cons _) fun z => z.cons _
theorem one_way {α : Type} {x y : α} (ne : x ≠ y) : ∀ {l : List α}, l.Nodup → List.Sublist [x, y] l → List.Sublist [y, x] l → False
  | [], _, h, _ => by cases h
  | a :: l, nd, h, g => by
    obtain ⟨na, nl⟩ := List.nodup_cons.mp nd
    cases h with
    | cons _ h =>
      cases g with
      | cons _ g => exact one_way ne nl h g
      | cons_cons _ g => exact na (h.subset (by simp))
    | cons_cons _ h =>
      cases g with
      | cons _ g => exact na (g.subset (by simp))
      | cons_cons _ g => exact ne rfl
theorem leL_trans (x y z : Str) (h : leL x y = true) (g : leL y z = true) : leL x z = true := by
  have h2 := of_decide_eq_true h
  have g2 := of_decide_eq_true g
  exact decide_eq_true (by omega)
theorem leL_total (x y : Str) : (leL x y || leL y x) = true := by
  rw [Bool.or_eq_true]
  by_cases h : (x.length : Int) ≤ (y.length : Int)
  · exact .inl (decide_eq_true h)
  · exact .inr (decide_eq_true (by omega))
theorem asc_of {us ss cs : List Str} (nd : us.Nodup) (mem : ∀ x, x ∈ us ↔ x ∈ ss) (pm : cs.Perm us) (pw : cs.Pairwise (fun x y => leT x y = true)) : IsAsc (cs.mergeSort leL) ss := by
  have p2 := (List.mergeSort_perm cs leL).trans pm
  have n2 := p2.nodup_iff.mpr nd
  refine ⟨n2, fun x => (p2.mem_iff).trans (mem x), List.pairwise_iff_forall_sublist.mpr fun {x y} hs => ?_⟩
  have hL : leL x y = true := List.pairwise_iff_forall_sublist.mp (List.pairwise_mergeSort leL_trans leL_total cs) hs
  have h2 := of_decide_eq_true hL
  by_cases lt : x.length < y.length
  · exact .inl lt
  have eq : x.length = y.length := by omega
  refine .inr ⟨eq, ?_⟩
  have ne : x ≠ y := List.pairwise_iff_forall_sublist.mp n2 hs
  have hx : x ∈ cs := (List.mergeSort_perm cs leL).mem_iff.mp (hs.subset (by simp))
  have hy : y ∈ cs := (List.mergeSort_perm cs leL).mem_iff.mp (hs.subset (by simp))
  rcases two_way ne hx hy with z | z
  · exact List.pairwise_iff_forall_sublist.mp pw z
  · have hL2 : leL y x = true := decide_eq_true (by omega)
    exact (one_way ne n2 hs (List.pair_sublist_mergeSort leL_trans leL_total hL2 z)).elim
end Lk

/-! Stem0 -/
set_option Elab.async false
set_option maxRecDepth 100000
set_option linter.all false
set_option maxHeartbeats 4000000
namespace Lk
open PySem PySem.Spec PyProof.Rows L2
/-! ### stems -/
theorem starts_tl {x y : Str} : Txt.startswith x y = true ↔ ∃ r, TL.tl x = TL.tl y ++ r := by
  unfold Txt.startswith
  rw [StrLaws.subAt_eq, Bool.and_eq_true, decide_eq_true_eq, beq_iff_eq, List.drop_zero]
  constructor
  · rintro ⟨_, h⟩
    exact ⟨(TL.tl x).drop y.length, by
      have e : TL.tl x = (TL.tl x).take y.length ++ (TL.tl x).drop y.length := (List.take_append_drop _ _).symm
      rw [show (TL.tl x).take y.length = TL.tl y from h] at e
      exact e⟩
  · rintro ⟨r, h⟩
    have l1 : x.length = (TL.tl y ++ r).length := by rw [TL.len_tl, h]
    rw [List.length_append, ← TL.len_tl] at l1
    refine ⟨by omega, ?_⟩
    show (TL.tl x).take y.length = TL.tl y
    rw [h, TL.len_tl, List.take_left]
theorem ends_tl {x y : Str} : Txt.endswith x y = true ↔ ∃ r, TL.tl x = r ++ TL.tl y := by
  unfold Txt.endswith
  rw [StrLaws.subAt_eq, Bool.and_eq_true, decide_eq_true_eq, beq_iff_eq]
  constructor
  · rintro ⟨l, h⟩
    refine ⟨(TL.tl x).take (x.length - y.length), ?_⟩
    have h2 : ((TL.tl x).drop (x.length - y.length)).take y.length = TL.tl y := h
    have l2 : ((TL.tl x).drop (x.length - y.length)).length ≤ y.length := by
      rw [List.length_drop, ← TL.len_tl]
      omega
    rw [List.take_of_length_le l2] at h2
    rw [← h2, List.take_append_drop]
  · rintro ⟨r, h⟩
    have l1 : x.length = (r ++ TL.tl y).length := by rw [TL.len_tl, h]
    rw [List.length_append, ← TL.len_tl] at l1
    refine ⟨by omega, ?_⟩
    show ((TL.tl x).drop (x.length - y.length)).take y.length = TL.tl y
    rw [h, show x.length - y.length = r.length by omega, List.drop_left, TL.len_tl y, List.take_length]
/-- what lies between two ends, where the one are capitals and the other small letters -/
theorem mid_of {z b e : List Nat} (hb : ∀ c ∈ b, upB c = true) (he : ∀ c ∈ e, loB c = true) (h1 : ∃ r, z = b ++ r) (h2 : ∃ r, z = r ++ e) : ∃ m, z = b ++ m ++ e := by
  obtain ⟨r, rfl⟩ := h1
  obtain ⟨q, h2⟩ := h2
  rcases List.append_eq_append_iff.mp h2 with ⟨m, e1, e2⟩ | ⟨m, e1, e2⟩
  · exact ⟨m, by rw [e2, List.append_assoc]⟩
  · cases m with
    | nil => exact ⟨[], by rw [e2]; simp⟩
    | cons c t =>
      have u := hb c (by rw [e1]; simp)
      have v := he c (by rw [e2]; simp)
      simp only [upB, loB, Bool.and_eq_true, decide_eq_true_eq] at u v
      omega
theorem cut_mid {z : Str} {b m e : List Nat} (h : TL.tl z = b ++ m ++ e) : TL.tl (cutS z (some (b.length : Int)) (some ((z.length : Int) - (e.length : Int)))) = m := by
  have l : z.length = b.length + m.length + e.length := by
    rw [TL.len_tl, h, List.length_append, List.length_append]
  show ((TL.tl z).drop (HT.sIx z.length 0 (some (b.length : Int)))).take (HT.sIx z.length z.length (some ((z.length : Int) - (e.length : Int))) - HT.sIx z.length 0 (some (b.length : Int))) = m
  rw [show ((z.length : Int) - (e.length : Int)) = ((b.length + m.length : Nat) : Int) by omega, HT.sIx_nat, HT.sIx_nat, Nat.min_eq_left (by omega), Nat.min_eq_left (by omega), h, List.append_assoc, List.drop_left, show b.length + m.length - b.length = m.length by omega, List.take_left]
end Lk

/-! EnT0 -/
set_option Elab.async false
set_option maxRecDepth 100000
set_option linter.all false
set_option maxHeartbeats 4000000
namespace Lk
open PySem PySem.Spec PyProof.Rows L2
/-! ### enumerate(t), t a tuple -/
theorem enum_one {v : Value} {o : Obj} {Hh : Heap → Prop} (B : Begins v o Hh) :
    Meets (Builtin.«enumerate.__new__» ⟨[.type "enumerate", v], []⟩) (fun _ R s => Hh s.heap ∧
      R (.ok (.ret (.ref (s.heap.push o).objs.size))) { s with heap := (s.heap.push o).push { cls := .type "enumerate", data := .fields #[.none, .bool false, .ref s.heap.objs.size, rawInt 0, .none, .none] } }) :=
  .of_wp fun prog w A R s h => by
    obtain ⟨hp, g, d, tk, os⟩ := s
    obtain ⟨h1, h⟩ := h
    have hsub := sub_enumerate
    have q1 : ∀ {A' : Around} {E : Value → Shared → Prop} {Q : Value → Shared → Prop}, Q (.ref hp.objs.size) ⟨hp.push o, g, d, tk, os⟩ → wpAny (model prog w) A' (pyIter v) Q E ⟨hp, g, d, tk, os⟩ :=
      fun q => B.iter prog w _ _ ⟨hp, g, d, tk, os⟩ _ (B.keeps _ _ h1 fun b o' e => e) q
    wp_walk
    refine wpAny_stack_any fun st => wpAny_pure ?_
    split
    · rename_i c _ _ _ _ _
      cases (c == Value.type "enumerate")
      · wp_walk using q1
        exact ⟨_, rfl, h⟩
      · wp_walk using q1
        exact ⟨_, rfl, h⟩
    · wp_walk using q1
      exact ⟨_, rfl, h⟩
section
variable {prog : Program} {w : World} {A : Around} {E : Value → Shared → Prop} {s : Shared}
theorem call_enum_tup {l : Addr} {items : Array Value} {Q : Value → Shared → Prop} (hT : s.heap.IsTuple l items)
    (h : ∀ h', IsEnum h' (s.heap.objs.size + 1) s.heap.objs.size 0 .none → h'.IsTupleIter s.heap.objs.size l 0 → h'.objs.size = s.heap.objs.size + 2 →
      (∀ b o, s.heap.get? b = some o → h'.get? b = some o) → Q (.ref (s.heap.objs.size + 1)) { s with heap := h' }) :
    wpAny (model prog w) A (call (.type "enumerate") [.ref l]) Q E s := by
  refine callType_new F.called_enumerate (by decide) (F.typeCall_enumerate_1 _) (F.newCall_enumerate_1 _) (fun obj => F.args_object_init_2 obj _) F.entry_enumerate_new (enum_one (begins_tuple l items)) ⟨hT, ?_⟩
  have z1 : (s.heap.push { cls := .type "tuple_iterator", data := .fields #[.ref l, .int 0 0] }).objs.size = s.heap.objs.size + 1 := Heap.size_push ..
  show _ ∧ _
  have at1 := Heap.get?_push_size (s.heap.push { cls := .type "tuple_iterator", data := .fields #[.ref l, .int 0 0] }) (o := { cls := .type "enumerate", data := .fields #[.none, .bool false, .ref s.heap.objs.size, rawInt 0, .none, .none] }) rfl
  rw [z1] at at1 ⊢
  exact ⟨⟨_, at1, rfl⟩, h _ at1 ⟨_, Heap.get?_push_of_some _ (Heap.get?_push_size _ rfl), rfl, rfl⟩ (by rw [Heap.size_push, z1]) fun b o x => Heap.get?_push_of_some _ (Heap.get?_push_of_some _ x)⟩
end
/-- the pairs of a tuple at a -/
def IteT (K : PySem.W.Frag) (a : Addr) : It :=
  ⟨fun i H => ∃ (xs : List V) (x : V), SqT K H a xs ∧ xs[i]? = some x, fun i H v H' => ∃ T x, v = .ref T ∧ H T = none ∧ H' = upd H T (.tup [.int (i : Nat), x]) ∧ ∀ xs, SqT K H a xs → xs[i]? = some x, fun i H => ∃ xs : List V, SqT K H a xs ∧ xs.length = i⟩
theorem apart_of {h : Heap} {e it a i : Addr} {n : Int} {old : Value} {items : Array Value} (he : IsEnum h e it n old) (hit : h.IsTupleIter it a i) (ht : h.IsTuple a items) : a ≠ it ∧ e ∉ [it, a] ∨ e = it := by
  by_cases q : e = it
  · exact .inr q
  · refine .inl ⟨fun z => ?_, fun m => ?_⟩
    · obtain ⟨o1, h1, c1, _⟩ := hit
      obtain ⟨o2, h2, c2, _⟩ := ht
      rw [z, h1] at h2
      cases h2
      rw [c1] at c2
      exact absurd c2 (by decide)
    · rcases List.mem_cons.mp m with z | m
      · exact q z
      · have z := List.mem_singleton.mp m
        obtain ⟨o2, h2, c2, _⟩ := ht
        rw [← z] at h2
        unfold IsEnum at he
        rw [he] at h2
        injection h2 with h2
        rw [← h2] at c2
        have c3 : Value.type "enumerate" = Value.type "tuple" := c2
        injection c3 with c3
        exact absurd c3 (by decide)
theorem turn_enT {P : Program} {w : World} {K : PySem.W.Frag} {elts : List Expr} {kk : Nat} {tpos : Pos} (a e it : Addr) :
    Turn P w K (.Tuple elts kk tpos) (IteT K a) [e, it] e (fun i h => (∃ old, IsEnum h e it ((i : Nat) : Int) old) ∧ h.IsTupleIter it a i ∧ e ≠ it) where
  mem := by simp
  obj := fun i h st b hb => by
    obtain ⟨⟨old, he⟩, ⟨o, ho, hc, hd⟩, _⟩ := st
    have e' : b = e ∨ b = it := by simpa using hb
    rcases e' with z | z
    · rw [z]
      exact ⟨_, he, fun v q => nomatch q⟩
    · rw [z]
      exact ⟨o, ho, fun v q => by rw [hd] at q; cases q⟩
  keep := fun i h h' st k => let ⟨⟨old, he⟩, hi, hne⟩ := st; ⟨⟨old, k e (by simp) _ he⟩, hi.at fun o q => k it (by simp) o q, hne⟩
  item := by
    intro X hP hw hK hc i pins s σ H E I hf st hg
    subst hP hw hK
    obtain ⟨⟨old, he⟩, hit, hne⟩ := st
    obtain ⟨xs, x, hq, hx⟩ := hg
    obtain ⟨its, rv, p, hz⟩ := I.tuple hq
    obtain ⟨u, hu, ru⟩ := rv.get hx
    have hel : e < s.heap.objs.size := Heap.lt_size he
    have hil : it < s.heap.objs.size := by obtain ⟨_, q, _⟩ := hit; exact Heap.lt_size q
    have ap := (apart_of he hit p).resolve_right hne
    have quiet : X.A.in1.handled = none := by
      have z := I.ok.hd hc
      simp [z]
    refine wpAny_pyNext_enum_itemD (Draws.tuple quiet it a ap.1 its.toArray) he ⟨hit, p⟩ (i := i) (by
      have z := (List.getElem?_eq_some_iff.mp hu).1
      simpa using z) hne ap.2 fun v h' tk pv ho st' hT hsz hk => ?_
    have ev : v = u := by
      have z : its[i]? = some v := by simpa using pv
      rw [hu] at z
      exact (Option.some.inj z).symm
    subst ev
    refine ⟨_, rfl, wpAny_letOwnedTupleGo_enum (s := { s with heap := h', toks := tk + 1 }) ho fun h'' he' sb => ?_⟩
    have hT2 : h''.get? s.heap.objs.size = some { cls := .type "tuple", data := .seq #[.int i tk, v] } := (sb.2 _ (Nat.ne_of_gt hel)).trans hT
    have new : ObjOk X.prog X.w (upd H s.heap.objs.size (.tup [.int (i : Nat), x])) h'' s.heap.objs.size (.tup [.int (i : Nat), x]) :=
      ⟨by show 2 ≤ sizeLine; decide, [.int i tk, v], .cons ⟨_, rfl⟩ (.cons ru .nil), ⟨_, hT2, rfl, _, rfl⟩⟩
    have I1 : Inv X pins σ (upd H s.heap.objs.size (.tup [.int (i : Nat), x])) { s with heap := h'', toks := tk + 1 } :=
      I.turnedNew (ch := [e, it]) (fun b ob hb q => (sb.2 b (fun z => hb (by simp [z]))).trans (hk b ob (fun z => hb (by simp [z])) (fun z => hb (by simp [z])) q)) hf (Nat.le_refl _) new
    refine ⟨.ref s.heap.objs.size, _, I1, rfl, ⟨_, x, rfl, I.hok.fresh (Nat.le_refl _), rfl, fun ys hy => by rw [I.tuple_inj hy hq]; exact hx⟩, ⟨⟨v, ?_⟩, st'.1.at fun o q => (sb.2 it (Ne.symm hne)).trans q, hne⟩, fun b hb => ?_⟩
    · have e1 : ((i + 1 : Nat) : Int) = (i : Int) + 1 := by omega
      rw [e1]
      exact he'
    · have hb' : b < s.heap.objs.size := by
        have e' : b = e ∨ b = it := by simpa using hb
        rcases e' with z | z
        · rw [z]; exact hel
        · rw [z]; exact hil
      rw [upd_ne (Nat.ne_of_lt hb')]
      exact (hf b hb).1
  done := by
    intro X hP hw hK hc i pins s σ H E I hf st hg
    subst hP hw hK
    obtain ⟨⟨old, he⟩, hit, hne⟩ := st
    obtain ⟨xs, hq, hx⟩ := hg
    obtain ⟨its, rv, p, hz⟩ := I.tuple hq
    obtain ⟨f0, f1, f2, f3, f4, f5⟩ := hf it (by simp)
    have hl := rv.length
    have ap := (apart_of he hit p).resolve_right hne
    have quiet : X.A.in1.handled = none := by
      have z := I.ok.hd hc
      simp [z]
    have ei : i = its.toArray.size := by
      rw [List.size_toArray, ← hl, hx]
    subst ei
    exact wpAny_pyNext_enum_endD (Draws.tuple quiet it a ap.1 its.toArray) he ⟨hit, p⟩ fun h' eb => ⟨rfl, I.turned (t' := s.toks) (fun b o hb q => eb b o hb q) f0 f1 f3 f4 f5⟩
  self := fun A i s Q E st h => let ⟨⟨_, he⟩, _⟩ := st; wpAny_pyIter_enum he h
def iEnT (K : PySem.W.Frag) (ta : TA) : TI := fun σ H R => ta σ H fun vs H1 => ∃ a xs, vs = [.ref a] ∧ SqT K H1 a xs ∧ R (IteT K a) H1
theorem pi_enT {X : Cx} {e : Expr} {ta : TA} {p pos tpos : Pos} {elts : List Expr} {kk : Nat} (hg : Gl X "enumerate") (hm : X.mg "enumerate" = none) (ha : PA X [e] ta) (hs : starEach [e] X.env = [(false, eval e X.env)] := by rfl) :
    PI X (.Tuple elts kk tpos) (.Call (.Name "enumerate" p) [e] [] pos) (iEnT X.K ta) := by
  refine ⟨fun pins s σ H R I h => ?_⟩
  refine Call_ (ld_blt I hg hm boot_enumerate (PyProof.Rows.callWith_type1 (thn (ha.run pos pins s σ H _ I h) fun us s1 ⟨vs, H1, I1, r1, q1⟩ => ?_) hs rfl))
  obtain ⟨a, xs, ex, hq, q⟩ := q1
  subst ex
  cases r1 with
  | cons r rr =>
    cases rr
    cases r
    obtain ⟨its, rv, p', hz⟩ := I1.tuple hq
    refine call_enum_tup p' fun h' he hit hsz hk => wpAny_pyIter_enum he ?_
    have I2 : Inv X pins σ H1 { s1 with heap := h' } := I1.kept (t' := s1.toks) hk
    refine ⟨s1.heap.objs.size + 1, [s1.heap.objs.size + 1, s1.heap.objs.size], _, _, H1, rfl, I2, turn_enT a (s1.heap.objs.size + 1) s1.heap.objs.size, ⟨⟨.none, he⟩, hit, Nat.succ_ne_self _⟩, fun b hb => ?_, q⟩
    have e' : b = s1.heap.objs.size + 1 ∨ b = s1.heap.objs.size := by simpa using hb
    have hle : s1.heap.objs.size ≤ b := by
      rcases e' with z | z
      · rw [z]; exact Nat.le_add_right _ _
      · rw [z]; exact Nat.le_refl _
    exact I1.fpOk hle (I1.hok.fresh hle)
theorem for_enT {K : PySem.W.Frag} {a : Addr} {xs : List V} {g : TG} {tb : TS} {D : Ends} {σ : L2.St} {H : Hp} (Pv : Nat → L2.St → Hp → Prop) (h0 : Pv 0 σ H) (hl : ∀ i σ H, Pv i σ H → SqT K H a xs)
    (hs : ∀ (i : Nat) (x : V) (σ : L2.St) (H : Hp) (T : Addr), xs[i]? = some x → H T = none → Pv i σ H → g (.ref T) σ (upd H T (.tup [.int (i : Int), x])) fun σ2 H2 => tb { D with nx := Pv (i + 1), ct := Pv (i + 1), bk := D.nx } σ2 H2)
    (hd : ∀ σ H, Pv xs.length σ H → D.nx σ H) :
    ∃ W : Nat → Nat → L2.St → Hp → Prop, (∃ m, W 0 m σ H) ∧ ∀ i m σ H, W i m σ H →
      ((IteT K a).stop i H ∧ D.nx σ H) ∨ ((IteT K a).go i H ∧ ∃ N : L2.St → Hp → Prop, (∀ σ' H', N σ' H' → ∃ m', m' < m ∧ W (i + 1) m' σ' H') ∧ ∀ x H', (IteT K a).yld i H x H' → g x σ H' fun σ2 H2 => tb { D with nx := N, ct := N, bk := D.nx } σ2 H2) := by
  refine ⟨fun i m σ H => i + m = xs.length ∧ Pv i σ H, ⟨xs.length, Nat.zero_add _, h0⟩, ?_⟩
  rintro i m σ H ⟨em, p⟩
  have q := hl i σ H p
  cases m with
  | zero =>
    have e : i = xs.length := em
    subst e
    exact .inl ⟨⟨xs, q, rfl⟩, hd σ H p⟩
  | succ m =>
    have lt : i < xs.length := by omega
    have hx := List.getElem?_eq_getElem lt
    refine .inr ⟨⟨xs, _, q, hx⟩, fun σ' H' => Pv (i + 1) σ' H', fun σ' H' p' => ⟨m, Nat.lt_succ_self m, by omega, p'⟩, ?_⟩
    rintro v H' ⟨T, x, rfl, nT, rfl, each⟩
    exact hs i x σ H T (each xs q) nT p
theorem walk_enT {K : PySem.W.Frag} {a : Addr} {xs : List V} : Walk (IteT K a) xs.length (fun H => SqT K H a xs) (YPair (fun i => some (.int (i : Nat))) (fun i => xs[i]?)) := by
  refine ⟨fun i _ hi q => ⟨xs, xs[i], q, by simp [hi]⟩, fun _ q => ⟨xs, q, rfl⟩, fun i H v H' _ q y => ?_⟩
  obtain ⟨T, x, h1, h2, h3, h4⟩ := y
  exact ⟨T, .int (i : Nat), x, h1, h2, h3, rfl, h4 xs q⟩
end Lk

/-! Pick0 -/
set_option Elab.async false
set_option maxRecDepth 100000
set_option linter.all false
set_option maxHeartbeats 4000000
namespace Lk
open PySem PySem.Spec PyProof.Rows L2
/-! ### one of a display (law04b.tpl has its own copies: do not build both together) -/
section
variable {K : PySem.W.Frag} {H H' : Hp} {p c : Addr} {σ : L2.St}
theorem th_of_mem : ∀ {xs : List V} {ds : List PyData} {x : V}, ThAll K H xs ds → x ∈ xs → ∃ d, d ∈ ds ∧ Th K H x d
  | _, _, _, .nil, h => by simp at h
  | _, _, x, .cons h t, m => by
    rcases List.mem_cons.mp m with rfl | m
    · exact ⟨_, List.mem_cons_self, h⟩
    · obtain ⟨d, hd, ht⟩ := th_of_mem t m
      exact ⟨d, List.mem_cons_of_mem _ hd, ht⟩
theorem noPot_of : ∀ {ds : List PyData} {d : PyData}, noPotAll ds = true → d ∈ ds → noPot d = true
  | e :: r, d, h, m => by
    have n2 : noPot e = true ∧ noPotAll r = true := by simpa only [noPotAll, Bool.and_eq_true] using h
    rcases List.mem_cons.mp m with rfl | m
    · exact n2.1
    · exact noPot_of n2.2 m
/-- one of a new display; the list may have any length -/
theorem pick_new {ta : TA} {ds : List PyData} {Q : VK} {i : Nat} (h : MkA K ta σ H ds) (hn : noPotAll ds = true) (l0 : 0 < ds.length) (l1 : ds.length ≤ 1000) (hP : PotAt p c H) (hi : σ[i]? = some (some (.ref p)))
    (k : ∀ v d H', d ∈ ds → Th K H' v d → Ext p c H H' → Q v H') : tCall (spPick K) [] E0 (tCons (tVar i) (tCons (tLst ta) tNil)) σ H Q :=
  ⟨_, hi, h H (Same.refl H) _ fun xs H1 s1 t1 => by
    have hl := thAll_len t1
    refine ⟨Nat.le_trans (Nat.le_of_eq hl) (Nat.le_trans l1 (by decide)), fun l nl => ?_⟩
    have P1 := hP.same s1
    have s2 : Same H1 (upd H1 l (.lst xs)) := same_upd nl
    refine ⟨p, c, l, xs, rfl, P1.same s2, SqL.of upd_same, P1.nep nl, by omega, by omega, fun v H2 hv e2 => ?_⟩
    obtain ⟨d, hd, ht⟩ := th_of_mem t1 hv
    exact k v d H2 hd (th_ext (P1.same s2) e2 (th_same s2 ht) (noPot_of hn hd)) (Ext.pre (s1.trans s2) e2)⟩
/-- data without lists stands when a list changes -/
theorem th_mutL {D : Addr} {ys : List V} {o : HO} (hD : H D = some (.lst ys)) {v : V} {d : PyData} (h : Th K H v d) : noLst d = true → Th K (upd H D o) v d := by
  refine Th.rec (motive_1 := fun v d _ => noLst d = true → Th K (upd H D o) v d) (motive_2 := fun vs ds _ => noLstAll ds = true → ThAll K (upd H D o) vs ds) ?_ ?_ ?_ ?_ ?_ ?_ ?_ ?_ ?_ h
  · exact fun _ => .non
  · exact fun b _ => .bl b
  · exact fun i _ => .int i
  · exact fun x _ => .str x
  · intro q xs ds _ _ _ n
    simp [noLst] at n
  · intro q xs ds hs ha ih n
    have n2 : noLstAll ds = true := by simpa only [noLst] using n
    rcases hs with (hs | ⟨u, hs⟩) | hs
    · have ne : q ≠ D := fun z => by
        rw [z, hD] at hs
        cases hs
      exact .tup (.inl (.inl (by rw [upd_ne ne]; exact hs))) (ih n2)
    · have ne : q ≠ D := fun z => by
        rw [z, hD] at hs
        cases hs
      exact .tup (.inl (.inr ⟨u, by rw [upd_ne ne]; exact hs⟩)) (ih n2)
    · exact .tup (.inr hs) (ih n2)
  · intro q kvs ds hs _ ek ih n
    have n2 : noLstAll (ds.map (·.2)) = true := by
      rw [noLstKv_map]
      simpa only [noLst] using n
    have ne : q ≠ D := fun z => by
      rw [z, hD] at hs
      cases hs
    exact .dct (by rw [upd_ne ne]; exact hs) (ih n2) ek
  · exact fun _ => .nil
  · intro v vs d ds _ _ i1 i2 n
    have n2 : noLst d = true ∧ noLstAll ds = true := by simpa only [noLstAll, Bool.and_eq_true] using n
    exact .cons (i1 n2.1) (i2 n2.2)
theorem thAll_mutL {D : Addr} {ys : List V} {o : HO} (hD : H D = some (.lst ys)) : ∀ {vs : List V} {ds : List PyData}, ThAll K H vs ds → noLstAll ds = true → ThAll K (upd H D o) vs ds
  | _, _, .nil, _ => .nil
  | _ :: _, d :: ds, .cons h t, n => by
    have n2 : noLst d = true ∧ noLstAll ds = true := by simpa only [noLstAll, Bool.and_eq_true] using n
    exact .cons (th_mutL hD h n2.1) (thAll_mutL hD t n2.2)
/-- what stands ready: a list that grows while the pot moves -/
theorem grow {H0 : Hp} {D : Addr} {n iv : Nat} {te : TE} {α : Type} {f : α → PyData} {Ok : α → Prop} {Qd : Hp → Prop} (flat : ∀ a, noLst (f a) = true ∧ noPot (f a) = true) (hP : PotAt p c H0) (hD0 : H0 D = none) (small : n ≤ 1000)
    (wp : ∀ (x : V), wipe ((wipe σ [iv]).set iv (some x)) [iv] = wipe σ [iv])
    (call : ∀ (x : V) (H' : Hp) (R : VK), PotAt p c H' → (∀ v a H2, Ok a → Ext p c H' H2 → Th K H2 v (f a) → R v H2) → te ((wipe σ [iv]).set iv (some x)) H' R)
    (k : ∀ (vs : List V) (as : List α) (H' : Hp), H' D = some (.lst vs) → ThAll K H' vs (as.map f) → (∀ a ∈ as, Ok a) → as.length = n → Ext p c H0 H' → Qd H') :
    ∃ W : Nat → Nat → Hp → Prop, (∃ m, W 0 m (upd H0 D (.lst []))) ∧ ∀ i m H, W i m H →
      ((Itr 0 n).stop i H ∧ Qd H) ∨ ((Itr 0 n).go i H ∧ ∃ Nx : Hp → Prop, (∀ H', Nx H' → ∃ m', m' < m ∧ W (i + 1) m' H') ∧ ∀ x H', (Itr 0 n).yld i H x H' → gName iv x (wipe σ [iv]) H' fun σ2 H2 => wipe σ2 [iv] = wipe σ [iv] ∧ tYes σ2 H2 fun b H3 =>
        if b = true then te σ2 H3 fun y H4 => ∃ acc, H4 D = some (.lst acc) ∧ acc.length < sizeLine ∧ Nx (upd H4 D (.lst (acc ++ [y]))) else Nx H3) := by
  have nd := hP.nep hD0
  have flatA : ∀ as : List α, noLstAll (as.map f) = true ∧ noPotAll (as.map f) = true := fun as => by
    induction as with
    | nil => exact ⟨rfl, rfl⟩
    | cons a r ih => exact ⟨by rw [List.map_cons, noLstAll, (flat a).1, ih.1]; rfl, by rw [List.map_cons, noPotAll, (flat a).2, ih.2]; rfl⟩
  refine lc_range (lo := 0) (n := n) (fun i H' => ∃ vs as, H' D = some (.lst vs) ∧ ThAll K H' vs (as.map f) ∧ (∀ a ∈ as, Ok a) ∧ as.length = i ∧ Ext p c H0 H') ⟨[], [], upd_same, .nil, (fun _ h => by simp at h), rfl, Ext.mut hP hP.ref hD0⟩ ?_ ?_
  · rintro i H' hi ⟨vs, as, hD, ta, ok, len, e⟩
    refine ⟨wp _, call _ H' _ e.pot fun v a H2 oka e2 th => ⟨vs, e2.get hD nd, ?_, vs ++ [v], as ++ [a], upd_same, ?_, ?_, ?_, Ext.mut hP (e.trans e2) hD0⟩⟩
    · have := thAll_len ta
      rw [List.length_map] at this
      exact small1000 (by omega)
    · rw [List.map_append]
      exact thAll_app (thAll_mutL (e2.get hD nd) (thAll_ext e.pot e2 ta (flatA as).2) (flatA as).1) (.cons (th_mutL (e2.get hD nd) th (flat a).1) .nil)
    · intro y hy
      rcases List.mem_append.mp hy with hy | hy
      · exact ok y hy
      · rw [List.mem_singleton.mp hy]
        exact oka
    · rw [List.length_append, List.length_singleton, len]
  · rintro H' ⟨vs, as, hD, ta, ok, len, e⟩
    exact k vs as H' hD ta ok len e
end
end Lk

/-! DUpd0 -/
set_option Elab.async false
set_option maxRecDepth 100000
set_option linter.all false
set_option maxHeartbeats 4000000
namespace Lk
open PySem PySem.Spec PyProof.Rows L2
/-! ### d.update(e), both dicts of ints and texts as keys -/
section
variable {X : Cx} {pins : List (Addr × Obj)} {σ : L2.St} {H : Hp} {s : Shared} {a b : Addr} {kvs more : List (Key × V)} {A : Around} {E : Value → Shared → Prop}
theorem d_update {Q : Value → Shared → Prop} (I : Inv X pins σ H s) (e : H a = some (.dK kvs)) (e2 : Rd H b (.dK more)) (ne : a ≠ b) (hz : kvs.length + more.length ≤ sizeLine)
    (h : ∀ s', Inv X pins σ (upd H a (.dK (mergeK kvs more))) s' → Q .none s') : wpAny (model X.prog X.w) A (call (.builtin "dict.update") [.ref a, .ref b]) Q E s := by
  obtain ⟨z, hd, vs, rel, dd⟩ := dk_of I.hok e
  obtain ⟨z2, hd2, ws, rel2, dd2⟩ := dk_rd I.hok e2
  refine call_meetsIn PySem.F.slot_dict_update dd.typeIs PySem.F.entry_dict_update (PySem.F.args_dict_update_2 _ _) (meets_dict_update (mixKind X.prog X.w) a b ne hd2) ⟨vs, ws, dd, dd2, by rw [← rel.length, ← rel2.length]; exact hz, fun h' dd' _ hs => h _ ?_⟩
  have he : ∃ q, h'.get? a = some q := let ⟨q, _, _, hq, _⟩ := dd'; ⟨q, hq⟩
  exact d_write (t' := s.toks) I (by rw [e]; exact True.intro) hs he (dk_new (Nat.le_trans (length_mergeK more kvs) hz) hd (KV.merge rel2 rel) dd')
end
def rDUpd : V → List V → Hp → VK → Prop := fun x vs H Q => ∃ a b kvs more, x = .ref a ∧ vs = [.ref b] ∧ H a = some (.dK kvs) ∧ Rd H b (.dK more) ∧ a ≠ b ∧ kvs.length + more.length ≤ sizeLine ∧ Q .non (upd H a (.dK (mergeK kvs more)))
theorem mt_update {X : Cx} : MtM X "dict.update" rDUpd := by
  intro pins s σ H x vs v us Q I rx rv h
  obtain ⟨a, b, kvs, more, rfl, rfl, e, e2, ne, hz, q⟩ := h
  cases rx
  rw [Vals.ref1 rv]
  exact d_update I e e2 ne hz fun s' I' => ⟨.non, _, I', rfl, q⟩
end Lk

/-! TabB0 -/
set_option Elab.async false
set_option maxRecDepth 100000
set_option linter.all false
set_option maxHeartbeats 4000000
namespace Lk
open PySem PySem.Spec PyProof.Rows L2
/-! ### tables of up to 2048 slots -/
/-- the slots that the round meets, as the bits of a number -/
def metBits (m : Nat) : Nat → Nat → Nat → Nat
  | 0, _, acc => acc
  | f + 1, x, acc => metBits m f ((x * 5 + 1) % (m + 1)) (acc ||| 2 ^ x)
def lastOf (m : Nat) : Nat → Nat → Nat
  | 0, x => x
  | f + 1, x => lastOf m f ((x * 5 + 1) % (m + 1))
theorem met_bits (m : Nat) : ∀ (f b acc j : Nat), (metBits m f (lcgN m b) acc).testBit j = true → acc.testBit j = true ∨ ∃ c, c < b + f ∧ lcgN m c = j
  | 0, b, acc, j, h => .inl h
  | f + 1, b, acc, j, h => by
    rcases met_bits m f (b + 1) (acc ||| 2 ^ lcgN m b) j h with z | ⟨c, lt, e⟩
    · rw [Nat.testBit_or, Bool.or_eq_true, Nat.testBit_two_pow, decide_eq_true_eq] at z
      exact z.imp id fun e => ⟨b, by omega, e⟩
    · exact .inr ⟨c, by omega, e⟩
theorem last_of (m : Nat) : ∀ f b : Nat, lastOf m f (lcgN m b) = lcgN m (b + f)
  | 0, _ => rfl
  | f + 1, b => by
    have z := last_of m f (b + 1)
    rw [show b + (f + 1) = b + 1 + f by omega]
    exact z
def MaskB (m : Nat) : Prop := m = 7 ∨ m = 31 ∨ m = 127 ∨ m = 511 ∨ m = 2047 ∨ m = 8191
theorem round7 : (metBits 7 8 0 0 == 2 ^ 8 - 1 && lastOf 7 8 0 == 0) = true := by decide +kernel
theorem round31 : (metBits 31 32 0 0 == 2 ^ 32 - 1 && lastOf 31 32 0 == 0) = true := by decide +kernel
theorem round127 : (metBits 127 128 0 0 == 2 ^ 128 - 1 && lastOf 127 128 0 == 0) = true := by decide +kernel
theorem round511 : (metBits 511 512 0 0 == 2 ^ 512 - 1 && lastOf 511 512 0 == 0) = true := by decide +kernel
theorem round2047 : (metBits 2047 2048 0 0 == 2 ^ 2048 - 1 && lastOf 2047 2048 0 == 0) = true := by decide +kernel
theorem round8191 : (metBits 8191 8192 0 0 == 2 ^ 8192 - 1 && lastOf 8191 8192 0 == 0) = true := by decide +kernel
theorem roundB {m : Nat} (hm : MaskB m) : (metBits m (m + 1) 0 0 == 2 ^ (m + 1) - 1 && lastOf m (m + 1) 0 == 0) = true := by
  rcases hm with e | e | e | e | e | e <;> subst e
  · exact round7
  · exact round31
  · exact round127
  · exact round511
  · exact round2047
  · exact round8191
theorem circleB {m : Nat} (hm : MaskB m) {j : Nat} (hj : j ≤ m) : ∃ b, b ≤ m ∧ lcgN m b = j := by
  have z := roundB hm
  rw [Bool.and_eq_true, beq_iff_eq, beq_iff_eq] at z
  rcases met_bits m (m + 1) 0 0 j (by
    show (metBits m (m + 1) 0 0).testBit j = true
    rw [z.1, Nat.testBit_two_pow_sub_one, decide_eq_true_eq]
    omega) with e | ⟨c, lt, e⟩
  · rw [Nat.zero_testBit] at e
    cases e
  · exact ⟨c, by omega, e⟩
theorem againB {m : Nat} (hm : MaskB m) (k : Nat) : lcgN m (m + 1 + k) = lcgN m k := by
  have z := roundB hm
  rw [Bool.and_eq_true, beq_iff_eq, beq_iff_eq] at z
  have e : lcgN m (m + 1) = 0 := by
    have y := last_of m (m + 1) 0
    rw [Nat.zero_add] at y
    exact y.symm.trans z.2
  rw [← lcgN_add, e]
  have y := lcgN_add m 0 k
  rw [Nat.zero_add] at y
  exact y
/-- a search meets each slot as the start of a run -/
theorem meetB {m : Nat} (hm : MaskB m) (h : Int) {j : Nat} (hj : j ≤ m) : ∃ n, n ≤ m + 12 ∧ runI m (SetTable.bits h) n = j := by
  obtain ⟨a, ha, ea⟩ := circleB hm (runI_le m (SetTable.bits h) 12)
  obtain ⟨b, hb, eb⟩ := circleB hm hj
  have go : ∀ k, lcgI m (runI m (SetTable.bits h) 12) k = lcgN m (a + k) := fun k => by rw [← ea, lcgN_add]
  by_cases c : a ≤ b
  · exact ⟨12 + (b - a), by omega, by rw [runI_tail (bits_lt h), go, Nat.add_sub_cancel' c, eb]⟩
  · exact ⟨12 + (b + (m + 1) - a), by omega, by
      rw [runI_tail (bits_lt h), go, show a + (b + (m + 1) - a) = m + 1 + b by omega, againB hm, eb]⟩
theorem wayB (m : Nat) (h : Int) (k : Nat) : way m h k ≤ m := by
  have lt : SetTable.bits h % (m + 1) ≤ m := Nat.le_of_lt_succ (Nat.mod_lt _ (Nat.succ_pos _))
  have r := runEnd_bd lt
  exact Nat.le_trans (Nat.le_add_right _ _) (nth_in k (runAt m (SetTable.bits h % (m + 1)) (SetTable.bits h)) (show SetTable.bits h % (m + 1) + (SetTable.runEnd m (SetTable.bits h % (m + 1)) - SetTable.bits h % (m + 1)) ≤ m by omega))
/-- a table whose members all are found again by their hashes -/
structure TabB (t : SetTable) (hs : List Int) : Prop where
  ris : Ris t.place.toList
  dm : t.dummies = #[]
  sz : t.place.size = hs.length
  mok : MaskB t.mask
  bd : ∀ x ∈ t.place.toList, x ≤ t.mask
  reach : ∀ (i : Nat) (h : Int) (j : Nat), hs[i]? = some h → t.place.toList[i]? = some j → ∃ k, way t.mask h k = j ∧ ∀ k', k' < k → way t.mask h k' ∈ t.place.toList
theorem oddB {m : Nat} (h : MaskB m) : m % 2 = 1 := by
  rcases h with e | e | e | e | e | e <;> subst e <;> rfl
theorem topB {m : Nat} (h : MaskB m) : m ≤ 8191 := by
  rcases h with e | e | e | e | e | e <;> omega
section
variable {t : SetTable} {hs : List Int}
theorem TabB.first (T : TabB t hs) (hl : hs.length ≤ t.mask) (h : Int) : ∃ K, K < 10 * SetTable.turns t.mask ∧ way t.mask h K ∉ t.place.toList ∧ ∀ k, k < K → way t.mask h k ∈ t.place.toList := by
  obtain ⟨j, hj, hn⟩ := st_missing t.place.toList (t.mask + 1) (by rw [Array.length_toList, T.sz]; omega)
  obtain ⟨n, le, e⟩ := meetB T.mok h (Nat.le_of_lt_succ hj)
  obtain ⟨k, lk, ek⟩ := run_nth t.mask (SetTable.bits h) n
  have free : way t.mask h k ∉ t.place.toList := by
    have z : way t.mask h k = j := (congrArg SetTable.Probe.j ek).trans e
    rwa [z]
  obtain ⟨K, h1, h2, h3⟩ := st_least (p := fun k => way t.mask h k ∉ t.place.toList) k free
  exact ⟨K, by unfold SetTable.turns; omega, h2, fun k' lt => Classical.byContradiction (h3 k' lt)⟩
theorem TabB.before (T : TabB t hs) {h : Int} {K i j : Nat} (hK : way t.mask h K ∉ t.place.toList) (hi : hs[i]? = some h) (hj : t.place.toList[i]? = some j) : ∃ k, k < K ∧ way t.mask h k = j := by
  obtain ⟨k, e, hb⟩ := T.reach i h j hi hj
  refine ⟨k, Nat.lt_of_not_le fun le => hK ?_, e⟩
  rcases Nat.eq_or_lt_of_le le with c | c
  · rw [c, e]
    exact List.mem_of_getElem? hj
  · exact hb K c
theorem TabB.put (T : TabB t hs) {h : Int} {K : Nat} (hK : way t.mask h K ∉ t.place.toList) (hb : ∀ k, k < K → way t.mask h k ∈ t.place.toList) {p : Nat} (ep : p = SetTable.below t.place (way t.mask h K)) :
    (t.put (way t.mask h K)).2 = p ∧ p ≤ hs.length ∧ TabB (t.put (way t.mask h K)).1 (hs.take p ++ h :: hs.drop p) ∧ (t.put (way t.mask h K)).1.mask = t.mask ∧ (t.put (way t.mask h K)).1.led = t.led ∧ (t.put (way t.mask h K)).1.fill = hs.length + 1 := by
  have top := wayB t.mask h K
  have pp := put_place t (way t.mask h K)
  have pd := put_dm T.dm (way t.mask h K)
  obtain ⟨c1, _, _⟩ := below_cut T.ris (way t.mask h K)
  rw [← ep] at pp c1
  have long : t.place.toList.length = hs.length := by
    rw [Array.length_toList]
    exact T.sz
  have hp1 : p ≤ t.place.toList.length := by
    rw [Array.length_toList]
    exact c1
  have hp2 : p ≤ hs.length := by rw [← long]; exact hp1
  have n1 : (t.put (way t.mask h K)).1.place.size = hs.length + 1 := by rw [← Array.length_toList, pp, len_ins _ hp1, long]
  have up : ∀ x ∈ t.place.toList, x ∈ (t.put (way t.mask h K)).1.place.toList := fun x m => by
    rw [pp]
    exact mem_ins.2 (.inr m)
  refine ⟨ep.symm, hp2, ⟨ris_insert T.ris fun e => hK (List.mem_of_getElem? (by rw [Array.getElem?_toList]; exact e)), pd, by rw [len_ins _ hp2]; exact n1, T.mok, fun x m => ?_, fun i h' j h1 h2 => ?_⟩, rfl, rfl, ?_⟩
  · rw [pp] at m
    rcases mem_ins.1 m with e | m
    · rw [e]
      exact top
    · exact T.bd x m
  · rw [tins_get hs hp2] at h1
    rw [pp, tins_get _ hp1] at h2
    have old : ∀ i', hs[i']? = some h' → t.place.toList[i']? = some j → ∃ k, way t.mask h' k = j ∧ ∀ k', k' < k → way t.mask h' k' ∈ (t.put (way t.mask h K)).1.place.toList := fun i' g1 g2 => by
      obtain ⟨k, e, z⟩ := T.reach i' h' j g1 g2
      exact ⟨k, e, fun k' lt => up _ (z k' lt)⟩
    by_cases c : i < p
    · rw [if_pos c] at h1 h2
      exact old i h1 h2
    · rw [if_neg c] at h1 h2
      by_cases d : i = p
      · rw [if_pos d] at h1 h2
        cases h1
        cases h2
        exact ⟨K, rfl, fun k' lt => up _ (hb k' lt)⟩
      · rw [if_neg d] at h1 h2
        exact old (i - 1) h1 h2
  · show (t.put (way t.mask h K)).1.place.size + (t.put (way t.mask h K)).1.dummies.size = hs.length + 1
    rw [n1, pd]
    rfl
end
/-! laid out anew -/
theorem freeB {m : Nat} (hm : MaskB m) (owner : Array (Option Nat)) (h : Int) {j : Nat} (hj : j ≤ m) (hf : oAt owner j = none) :
    ∃ K, SetTable.layClean.free m owner (SetTable.turns m) (SetTable.bits h % (m + 1)) (SetTable.bits h) = some (way m h K) ∧ oAt owner (way m h K) = none ∧ ∀ k, k < K → oAt owner (way m h k) ≠ none := by
  obtain ⟨n, le, e⟩ := meetB hm h hj
  have hit : oAt owner (way m h (off m (SetTable.bits h % (m + 1)) (SetTable.bits h) n)) = none := by
    have z : way m h (off m (SetTable.bits h % (m + 1)) (SetTable.bits h) n) = j := by
      have y := congrArg SetTable.Probe.j (nth_off m n (SetTable.bits h % (m + 1)) (SetTable.bits h))
      rw [itL_run] at y
      exact y.trans e
    rw [z]
    exact hf
  obtain ⟨K, k1, k2, k3⟩ := st_least (p := fun k => oAt owner (way m h k) = none) _ hit
  refine ⟨K, free_spec m owner (SetTable.turns m) n _ _ K (by unfold SetTable.turns; omega) k1 (fun k lt => ?_) (by rw [show oAt owner _ = none from k2]; rfl), k2, k3⟩
  have y := k3 k lt
  cases z : oAt owner (nth m (runAt m (SetTable.bits h % (m + 1)) (SetTable.bits h)) k).j with
  | none => exact absurd z y
  | some _ => rfl
theorem sitB {m : Nat} (hm : MaskB m) {done : List Int} {owner : Array (Option Nat)} (W : Own m done owner) (hl : done.length ≤ m) (h : Int) :
    ∃ j, SetTable.layClean.free m owner (SetTable.turns m) (SetTable.bits h % (m + 1)) (SetTable.bits h) = some j ∧ Own m (done ++ [h]) (owner.setIfInBounds j (some done.length)) := by
  obtain ⟨ps, n, hin⟩ := W.ps
  obtain ⟨j0, lt0, no0⟩ := st_missing ps (m + 1) (by omega)
  have free0 : oAt owner j0 = none := Classical.byContradiction fun z => no0 (hin j0 (Nat.le_of_lt_succ lt0) z)
  obtain ⟨K, e1, e2, e3⟩ := freeB hm owner h (Nat.le_of_lt_succ lt0) free0
  have top := wayB m h K
  refine ⟨way m h K, e1, ?_⟩
  generalize ej : way m h K = j at e1 e2 top
  have self := oAt_set_self (owner := owner) (j := j) (some done.length) (by rw [W.sz]; omega)
  have keep : ∀ i, i ≠ j → oAt (owner.setIfInBounds j (some done.length)) i = oAt owner i := fun i => oAt_set_ne _
  have busy : ∀ i, oAt owner i ≠ none → oAt (owner.setIfInBounds j (some done.length)) i ≠ none := fun i hi => by
    rw [keep i fun z => hi (by rw [z, e2])]
    exact hi
  constructor
  · rw [Array.size_setIfInBounds]
    exact W.sz
  · intro i k hi e
    by_cases c : i = j
    · subst c
      rw [self] at e
      cases e
      exact ⟨h, K, by simp, ej, fun k' lt => busy _ (e3 k' lt)⟩
    · rw [keep i c] at e
      obtain ⟨h', K', a1, a2, a3⟩ := W.at_ i k hi e
      exact ⟨h', K', by rw [List.getElem?_append_left (List.getElem?_eq_some_iff.mp a1).1]; exact a1, a2, fun k' lt => busy _ (a3 k' lt)⟩
  · intro k lt
    rw [List.length_append, List.length_singleton] at lt
    rcases Nat.lt_or_ge k done.length with c | c
    · obtain ⟨i, hi, e⟩ := W.all k c
      exact ⟨i, hi, by rw [keep i fun z => by rw [z, e2] at e; cases e]; exact e⟩
    · have z : k = done.length := by omega
      subst z
      exact ⟨j, top, self⟩
  · refine ⟨j :: ps, by rw [List.length_cons, List.length_append, n]; rfl, fun i hi e => ?_⟩
    by_cases c : i = j
    · rw [c]
      exact List.mem_cons_self
    · rw [keep i c] at e
      exact List.mem_cons_of_mem _ (hin i hi e)
theorem layB {m : Nat} (hm : MaskB m) : ∀ (rest done : List Int) (owner : Array (Option Nat)), Own m done owner → done.length + rest.length ≤ m →
    ∃ owner' n, rest.foldl (stepF m) (some (owner, done.length)) = some (owner', n) ∧ Own m (done ++ rest) owner'
  | [], done, owner, W, _ => ⟨owner, done.length, rfl, by rw [List.append_nil]; exact W⟩
  | h :: rest, done, owner, W, hl => by
    rw [List.length_cons] at hl
    obtain ⟨j, e, W1⟩ := sitB hm W (by omega) h
    have n1 : (done ++ [h]).length = done.length + 1 := by rw [List.length_append]; rfl
    obtain ⟨owner', n, f, W2⟩ := layB hm rest _ _ W1 (by omega)
    rw [List.append_assoc] at W2
    refine ⟨owner', n, ?_, W2⟩
    rw [List.foldl_cons, stepF_some e, ← n1]
    exact f
theorem relaidB (t : SetTable) {hs : Array Int} {wanted M : Nat} (hw : SetTable.sizeAbove wanted = M + 1) (hM : MaskB M) (hn : hs.size ≤ M) :
    ∃ t' order, t.relaid hs wanted = some (t', order) ∧ order.toList.Perm (List.range hs.size) ∧ TabB t' (order.toList.map fun i => hs.getD i 0) ∧ t'.mask = M ∧ t'.led = t.led := by
  obtain ⟨owner, n, f, W⟩ := layB hM hs.toList [] _ (Own.init M) (by rw [Array.length_toList]; show 0 + hs.size ≤ M; omega)
  rw [List.nil_append] at W
  have lc : SetTable.layClean M hs = some owner := by
    rw [layClean_eq]
    exact congrArg (Option.map Prod.fst) f
  have made : t.relaid hs wanted = some (tabOf t M owner, ((liveOf M owner).map (·.2)).toArray) := by
    rw [relaid_eq, show SetTable.sizeAbove wanted - 1 = M by omega, lc]
    rfl
  obtain ⟨r1, r2⟩ : Ris ((liveOf M owner).map (·.1)) ∧ ∀ x ∈ (liveOf M owner).map (·.1), x ∈ List.range (M + 1) := ris_live (fun j => owner.getD j none) (List.range (M + 1)) (by
    unfold Ris
    first | exact List.pairwise_lt_range | exact List.pairwise_lt_range _)
  have every : ∀ k, k < hs.size → k ∈ (liveOf M owner).map (·.2) := fun k lt => by
    obtain ⟨j, b1, b2⟩ := W.all k (by rw [Array.length_toList]; exact lt)
    exact List.mem_map.mpr ⟨(j, k), (mem_live W.sz).2 ⟨b1, b2⟩, rfl⟩
  have many : (liveOf M owner).length = hs.size := by
    obtain ⟨ps, p1, p2⟩ := W.ps
    have a := nat_nodup_len ((liveOf M owner).map (·.1)) ps (show ((liveOf M owner).map (·.1)).Nodup from List.Pairwise.imp (fun h => Nat.ne_of_lt h) r1) fun x m => by
      obtain ⟨⟨y, k⟩, m2, rfl⟩ := List.mem_map.mp m
      obtain ⟨b1, b2⟩ := (mem_live W.sz).1 m2
      exact p2 y b1 (by rw [b2]; exact fun z => nomatch z)
    have b := nat_nodup_len (List.range hs.size) ((liveOf M owner).map (·.2)) List.nodup_range fun k m => every k (List.mem_range.mp m)
    rw [List.length_map] at a
    rw [List.length_map, List.length_range] at b
    have hz : hs.toList.length = hs.size := rfl
    omega
  refine ⟨_, _, made, perm_range hs.size _ (by show ((liveOf M owner).map (·.2)).length = _; rw [List.length_map]; exact many) every, ⟨r1, rfl, ?_, hM, fun x m => Nat.le_of_lt_succ (List.mem_range.mp (r2 x m)), fun i h j h1 h2 => ?_⟩, rfl, rfl⟩
  · show ((liveOf M owner).map (·.1)).toArray.size = (((liveOf M owner).map (·.2)).map fun i => hs.getD i 0).length
    simp
  · replace h1 : (((liveOf M owner).map (·.2)).map fun i => hs.getD i 0)[i]? = some h := h1
    replace h2 : ((liveOf M owner).map (·.1))[i]? = some j := h2
    rw [List.getElem?_map, Option.map_eq_some_iff] at h2
    obtain ⟨⟨j1, k⟩, at_, ej⟩ := h2
    replace ej : j1 = j := ej
    subst ej
    obtain ⟨b1, b2⟩ := (mem_live W.sz).1 (List.mem_of_getElem? at_)
    obtain ⟨h', K, g1, g2, g3⟩ := W.at_ j1 k b1 b2
    rw [List.getElem?_map, List.getElem?_map, at_] at h1
    have eh : h' = h := by
      have z : hs.getD k 0 = h := Option.some.inj h1
      rw [Array.getElem?_toList] at g1
      rw [← z, Array.getD_eq_getD_getElem?, g1]
      rfl
    subst eh
    refine ⟨K, g2, fun k' lt => ?_⟩
    cases z : oAt owner (way M h' k') with
    | none => exact absurd z (g3 k' lt)
    | some k2 => exact List.mem_map.mpr ⟨(way M h' k', k2), (mem_live W.sz).2 ⟨wayB M h' k', z⟩, rfl⟩
end Lk

/-! TupG0 -/
set_option Elab.async false
set_option maxRecDepth 100000
set_option linter.all false
set_option maxHeartbeats 4000000
namespace Lk
open PySem PySem.Spec PyProof.Rows L2
/-! ### a set whose members are told by what stands at their addresses: tuples of whatever kind, found by the table -/
section
variable {α β : Type} {R : α → β → Prop}
theorem each_at : ∀ {as : List α} {bs : List β}, PySem.W.EachIs R as bs → ∀ {i : Nat} {b : β}, bs[i]? = some b → ∃ a, as[i]? = some a ∧ R a b
  | _, _, .nil, i, b, h => by cases h
  | _, _, .cons r t, 0, b, h => by
    cases h
    exact ⟨_, rfl, r⟩
  | _, _, .cons r t, i + 1, b, h => each_at t (i := i) h
theorem each_app : ∀ {as cs : List α} {bs ds : List β}, PySem.W.EachIs R as bs → PySem.W.EachIs R cs ds → PySem.W.EachIs R (as ++ cs) (bs ++ ds)
  | _, _, _, _, .nil, g => g
  | _, _, _, _, .cons r t, g => .cons r (each_app t g)
theorem each_take : ∀ {as : List α} {bs : List β} (p : Nat), PySem.W.EachIs R as bs → PySem.W.EachIs R (as.take p) (bs.take p)
  | _, _, 0, _ => .nil
  | _, _, p + 1, .nil => .nil
  | _, _, p + 1, .cons r t => .cons r (each_take p t)
theorem each_drop : ∀ {as : List α} {bs : List β} (p : Nat), PySem.W.EachIs R as bs → PySem.W.EachIs R (as.drop p) (bs.drop p)
  | _, _, 0, h => h
  | _, _, p + 1, .nil => .nil
  | _, _, p + 1, .cons r t => each_drop p t
theorem each_ins {as : List α} {bs : List β} {a : α} {b : β} (p : Nat) (h : PySem.W.EachIs R as bs) (r : R a b) : PySem.W.EachIs R (as.take p ++ a :: as.drop p) (bs.take p ++ b :: bs.drop p) :=
  each_app (each_take p h) (.cons r (each_drop p h))
/-- some of them, by their places -/
theorem each_pick {as : List α} {bs : List β} (h : PySem.W.EachIs R as bs) : ∀ l : List Nat, (∀ i ∈ l, i < bs.length) → PySem.W.EachIs R (l.filterMap fun i => as[i]?) (l.filterMap fun i => bs[i]?)
  | [], _ => .nil
  | i :: l, hl => by
    have e := List.getElem?_eq_getElem (hl i List.mem_cons_self)
    obtain ⟨a, ea, r⟩ := each_at h e
    rw [List.filterMap_cons_some ea, List.filterMap_cons_some e]
    exact .cons r (each_pick h l fun j hj => hl j (List.mem_cons_of_mem _ hj))
theorem pick_all : ∀ bs : List β, (List.range bs.length).filterMap (fun i => bs[i]?) = bs
  | [] => rfl
  | b :: bs => by
    rw [List.length_cons, List.range_succ_eq_map, List.filterMap_cons_some (show (b :: bs)[0]? = some b from rfl), List.filterMap_map]
    exact congrArg (b :: ·) (pick_all bs)
theorem pick_perm {bs : List β} {l : List Nat} (h : l.Perm (List.range bs.length)) : (l.filterMap fun i => bs[i]?).Perm bs := by
  have z := h.filterMap fun i => bs[i]?
  rw [pick_all] at z
  exact z
theorem ins_perm (l : List β) (p : Nat) (b : β) : (l.take p ++ b :: l.drop p).Perm (b :: l) := by
  have z : (l.take p ++ b :: l.drop p).Perm (b :: (l.take p ++ l.drop p)) := List.perm_middle
  rwa [List.take_append_drop] at z
end
/-! the steps of a search -/
def stp (m : Nat) (h : Int) (c : Nat) : SetTable.Probe := nth m (runAt m (SetTable.bits h % (m + 1)) (SetTable.bits h)) c
theorem stp_on (m : Nat) (h : Int) (c q : Nat) : nth m (stp m h c) q = stp m h (c + q) := (nth_add m c _ q).symm
theorem stp_clean (m : Nat) (h : Int) : ∀ c, (stp m h c).dummy = none
  | 0 => rfl
  | c + 1 => by
    have e : stp m h (c + 1) = adv m (stp m h c) := nth_succ m _ c
    rw [e]
    unfold adv
    split
    · exact stp_clean m h c
    · exact stp_clean m h c
/-- what the probe meets from the c-th step on, in steps from the start -/
theorem probe_met {t : SetTable} {hs : List Int} (T : TabB t hs) {h : Int} {g : Nat → Int} {K c : Nat} (lim : K < 10 * SetTable.turns t.mask) (free : way t.mask h K ∉ t.place.toList) (busy : ∀ d, d < K → way t.mask h d ∈ t.place.toList) (le : c ≤ K) :
    (∃ d i, c ≤ d ∧ d < K ∧ t.place.toList[i]? = some (way t.mask h d) ∧ (∀ d' i', c ≤ d' → d' < d → t.place.toList[i']? = some (way t.mask h d') → g i' ≠ h) ∧ t.probe g h (stp t.mask h c) = some (.candidate (way t.mask h d) i (stp t.mask h (d + 1)))) ∨
    ((∀ d' i', c ≤ d' → d' < K → t.place.toList[i']? = some (way t.mask h d') → g i' ≠ h) ∧ t.probe g h (stp t.mask h c) = some (.empty (way t.mask h K) none)) := by
  have ej : ∀ q, (nth t.mask (stp t.mask h c) q).j = way t.mask h (c + q) := fun q => congrArg SetTable.Probe.j (stp_on t.mask h c q)
  have eK : c + (K - c) = K := by omega
  have shift : ∀ {d : Nat}, c ≤ d → way t.mask h d = (nth t.mask (stp t.mask h c) (d - c)).j := fun {d} hd => by
    rw [ej]
    exact congrArg (way t.mask h) (by omega)
  rcases go_spec t T.ris T.dm g h (10 * SetTable.turns t.mask) (K - c) (stp t.mask h c) (stp_clean _ _ _) (by omega) (fun q hq => by
    rw [ej]
    exact busy _ (by omega)) (by rw [ej, eK]; exact free) with ⟨q, i, lt, at_, _, early, e⟩ | ⟨early, e⟩
  · refine .inl ⟨c + q, i, Nat.le_add_right _ _, by omega, by rw [← ej]; exact at_, fun d' i' h1 h2 h3 => early (d' - c) i' (by omega) (by rw [← shift h1]; exact h3), ?_⟩
    rw [ej, stp_on] at e
    exact e
  · refine .inr ⟨fun d' i' h1 h2 h3 => early (d' - c) i' (by omega) (by rw [← shift h1]; exact h3), ?_⟩
    rw [ej, eK] at e
    exact e
section
variable {P : Program} {w : World} {κ : Type} [DecidableEq κ]
/-- what a set asks of such members, besides hash and equality -/
structure Mem (knd : HeapKind P w κ) : Prop where
  st : knd.Stays
  cls : ∀ {A : Around} {E : Value → Shared → Prop} {s : Shared} {k : κ} {b : Addr} {Q : Bool → Shared → Prop}, knd.is s.heap k b → Q false s → wpAny (model P w) A (ofAClassStatement 8 (.ref b)) Q E s
  byV : ∀ {A : Around} {E : Value → Shared → Prop} {s : Shared} {k : κ} {b : Addr} {Q : Bool → Shared → Prop}, knd.is s.heap k b → (∀ v, Q v s) → wpAny (model P w) A (hashByValue 8 (.ref b)) Q E s
variable {knd : HeapKind P w κ}
theorem Mem.keep (M : Mem knd) {h h' : Heap} {k : κ} {b : Addr} (x : knd.is h k b) (kp : ∀ c u, h.get? c = some u → h'.get? c = some u) : knd.is h' k b := M.st.stays (fun c u _ _ hc _ => kp c u hc) x
/-- an entry of the table, and the key that it bears; B tells which key stands at which address -/
def Row (knd : HeapKind P w κ) (B : κ → Addr → Prop) (e : Int × Value) (k : κ) : Prop := ∃ b, e = (knd.hash k, Value.ref b) ∧ B k b
structure TRow (knd : HeapKind P w κ) (B : κ → Addr → Prop) (h : Heap) (a : Addr) (ks : List κ) (es : Array (Int × Value)) (ep : Nat) (t : SetTable) : Prop where
  here : ∃ o, h.get? a = some o ∧ o.ExactSet ∧ o.data = .set es ep t
  each : PySem.W.EachIs (Row knd B) es.toList ks
  tab : TabB t (ks.map knd.hash)
  diff : ks.Nodup
  led : w.params.followText "set-order" = true ∨ t.led = true
  loose : ks.length * 5 < t.mask * 3
  few : ks.length ≤ 4000
def Sees (knd : HeapKind P w κ) (B : κ → Addr → Prop) (h : Heap) : Prop := ∀ k b, B k b → knd.is h k b
variable {B : κ → Addr → Prop} {A : Around} {E : Value → Shared → Prop} {s : Shared} {a : Addr} {ks : List κ} {es : Array (Int × Value)} {ep : Nat} {t : SetTable}
theorem TRow.many (R : TRow knd B s.heap a ks es ep t) : es.size = ks.length := by
  have z := R.each.length
  rwa [Array.length_toList] at z
theorem fits_tab {hs : List Int} (T : TabB t hs) {n : Nat} (e : hs.length = n) (le : n ≤ t.mask) : t.fits n = true := by
  have z := T.sz
  unfold SetTable.fits SetTable.fill
  simp only [T.dm, Bool.and_eq_true, beq_iff_eq, decide_eq_true_eq, List.size_toArray, List.length_nil]
  omega
theorem TRow.fit (R : TRow knd B s.heap a ks es ep t) : t.fits es.size = true := by
  have z := R.loose
  exact fits_tab R.tab (by rw [List.length_map, R.many]) (by rw [R.many]; omega)
theorem TRow.at (R : TRow knd B s.heap a ks es ep t) {i : Nat} {k : κ} (h : ks[i]? = some k) : ∃ b, es[i]? = some (knd.hash k, Value.ref b) ∧ B k b := by
  obtain ⟨e, he, b, eb, z⟩ := each_at R.each h
  refine ⟨b, ?_, z⟩
  rw [← Array.getElem?_toList, he, eb]
theorem TRow.odd (R : TRow knd B s.heap a ks es ep t) : t.gaveWay = false := by
  unfold SetTable.gaveWay
  rw [oddB R.tab.mok]
  rfl
/-- a search shows nothing of such members -/
theorem seen_none (M : Mem knd) {k : κ} {x : Addr} {Q : Bool → Shared → Prop} (hx : knd.is s.heap k x) {ys : List Value} (hy : ∀ y ∈ ys, ∃ k' c, y = Value.ref c ∧ knd.is s.heap k' c) (q : Q false s) : wpAny (model P w) A (searchCouldBeSeen (.ref x) ys) Q E s := by
  unfold searchCouldBeSeen
  refine wpAny_bind (wpAny_forIn_list _ (fun l z u => z.1 = none ∧ u = s ∧ ∀ y ∈ l, y ∈ ys) _ ?step ?stop _ _ ⟨rfl, rfl, fun _ m => m⟩)
  case step =>
    rintro v l z u ⟨hz, rfl, sub⟩
    obtain ⟨k', c, rfl, hc⟩ := hy v (sub v List.mem_cons_self)
    have on : ∀ y ∈ l, y ∈ ys := fun y m => sub y (List.mem_cons_of_mem _ m)
    dsimp only
    by_cases same : (x == c || (carriedByValue (.ref x) && carriedByValue (.ref c))) = true
    · exact wp_if_pos same (wpAny_pure ⟨rfl, rfl, on⟩)
    · refine wp_if_neg same (wpAny_bind (knd.quiet hx ?_))
      simp only [Bool.not_true, Bool.false_eq_true, if_false]
      refine wpAny_bind (knd.quiet hc ?_)
      simp only [Bool.not_true, Bool.false_eq_true, if_false]
      refine wpAny_bind (M.cls hx ?_)
      simp only [Bool.false_eq_true, if_false]
      refine wpAny_bind (M.cls hc ?_)
      simp only [Bool.false_eq_true, if_false]
      exact wpAny_pure ⟨rfl, rfl, on⟩
  case stop =>
    rintro ⟨z1, z2⟩ u ⟨hz, rfl, _⟩
    cases hz
    exact wpAny_pure q
/-- the search from the c-th step on -/
theorem search_on (M : Mem knd) (C : Sees knd B s.heap) (R : TRow knd B s.heap a ks es ep t) {x : Addr} {k : κ} (hx : knd.is s.heap k x) (room : knd.room A) {K : Nat} (lim : K < 10 * SetTable.turns t.mask) (free : way t.mask (knd.hash k) K ∉ t.place.toList)
    (busy : ∀ d, d < K → way t.mask (knd.hash k) d ∈ t.place.toList) {Q : SetFound → Shared → Prop} (old : k ∈ ks → Q (.there none) s) (new : k ∉ ks → Q (.free (way t.mask (knd.hash k) K) false) s) :
    ∀ (f c : Nat) (stand : Option SetTable.Probe), stand.getD (t.probeStart (knd.hash k)) = stp t.mask (knd.hash k) c → c ≤ K → K - c < f → (∀ i : Nat, ks[i]? = some k → ∃ d, c ≤ d ∧ d < K ∧ t.place.toList[i]? = some (way t.mask (knd.hash k) d)) →
      wpAny (model P w) A (setSearchFrom a (.ref x) (knd.hash k) true f stand) Q E s := by
  obtain ⟨o, ho, hex, hd⟩ := R.here
  intro f
  induction f with
  | zero => exact fun c _ _ _ lt => absurd lt (Nat.not_lt_zero _)
  | succ f ih =>
    intro c stand es0 le lt ahead
    rw [setSearchFrom_succ]
    refine wpAny_bind (wpAny_setState_of (a := a) ho hd (TRow.fit R) ?_)
    dsimp only
    rw [R.odd]
    simp only [Bool.false_eq_true, if_false]
    try refine wpAny_bind (wpAny_pure ?_)
    rw [es0]
    have bears : ∀ (i : Nat) (k' : κ), ks[i]? = some k' → (es[i]?.map (·.1)).getD 0 = knd.hash k' := fun i k' h => by
      obtain ⟨b, e, _⟩ := R.at h
      rw [e]
      rfl
    rcases probe_met R.tab (g := fun i => (es[i]?.map (·.1)).getD 0) lim free busy le with ⟨d, i, h1, h2, h3, early, e⟩ | ⟨early, e⟩
    · rw [e]
      dsimp only
      have lti : i < ks.length := by
        have z := (List.getElem?_eq_some_iff.mp h3).1
        have z2 := R.tab.sz
        rw [List.length_map] at z2
        rw [Array.length_toList] at z
        omega
      have hk : ks[i]? = some ks[i] := List.getElem?_eq_getElem lti
      generalize ks[i] = k' at hk
      obtain ⟨b, eb, hb⟩ := R.at hk
      have live : t.slot (way t.mask (knd.hash k) d) = .live i := slot_live R.tab.ris h3
      have tail : wpAny (model P w) A (searchRest a (.ref x) (knd.hash k) true f es t (way t.mask (knd.hash k) d) i (stp t.mask (knd.hash k) (d + 1))) Q E s := by
        unfold searchRest
        rw [eb]
        dsimp only
        refine wpAny_bind (wpAny_holding (knd.eqBool room (C _ _ hb) hx ?_))
        refine wpAny_bind (wpAny_setState_of (a := a) ho hd (TRow.fit R) ?_)
        dsimp only
        by_cases eq : k' = k
        · refine wp_if_pos (by rw [decide_eq_true eq]; rfl) (wpAny_pure (old ?_))
          rw [← eq]
          exact List.mem_of_getElem? hk
        · refine wp_if_neg (by rw [decide_eq_false eq]; exact Bool.false_ne_true) ?_
          try refine wpAny_bind (wpAny_pure ?_)
          rw [sameMem]
          dsimp only
          simp only [↓reduceIte, live, eb]
          refine wpAny_bind (wpAny_isSame_ref_self (wpAny_bind (wpAny_pure ?_)))
          simp only [↓reduceIte]
          refine wp_if_neg (by rw [decide_eq_false eq]; exact Bool.false_ne_true) ?_
          refine ih (d + 1) _ rfl h2 (by omega) fun i0 h0 => ?_
          obtain ⟨d0, g1, g2, g3⟩ := ahead i0 h0
          refine ⟨d0, ?_, g2, g3⟩
          rcases Nat.lt_trichotomy d0 d with z | z | z
          · exact absurd (bears i0 k h0) (early d0 i0 g1 z g3)
          · rw [z] at g3
            have s0 := slot_live R.tab.ris g3
            rw [live] at s0
            injection s0 with s0
            rw [s0, h0] at hk
            exact absurd (Option.some.inj hk).symm eq
          · exact z
      by_cases hl : t.led = true
      · rw [hl]
        simp only [Bool.not_true, Bool.false_eq_true, if_false]
        try refine wpAny_bind (wpAny_pure ?_)
        exact tail
      · rw [Bool.not_eq_true] at hl
        rw [hl]
        simp only [Bool.not_false, if_true]
        refine wpAny_bind (seen_none M hx (fun y hy => ?_) ?_)
        · obtain ⟨e1, m, ey⟩ := List.mem_map.mp hy
          have m2 : e1 ∈ es.toList := by
            have z : e1 ∈ es ∧ e1.1 = knd.hash k := by simpa using m
            exact Array.mem_toList_iff.mpr z.1
          obtain ⟨k2, _, b2, z2, z3⟩ := PySem.W.EachIs.left R.each e1 m2
          refine ⟨k2, b2, ?_, C _ _ z3⟩
          rw [← ey, z2]
        · simp only [Bool.false_eq_true, if_false]
          try refine wpAny_bind (wpAny_pure ?_)
          exact tail
    · rw [e]
      dsimp only
      refine wpAny_pure (new fun m => ?_)
      obtain ⟨i0, lt0, e0⟩ := List.getElem_of_mem m
      have h0 : ks[i0]? = some k := by rw [List.getElem?_eq_getElem lt0, e0]
      obtain ⟨d0, g1, g2, g3⟩ := ahead i0 h0
      exact early d0 i0 g1 g2 g3 (bears i0 k h0)
theorem search_all (M : Mem knd) (C : Sees knd B s.heap) (R : TRow knd B s.heap a ks es ep t) {x : Addr} {k : κ} (hx : knd.is s.heap k x) (room : knd.room A) {Q : SetFound → Shared → Prop} (old : k ∈ ks → Q (.there none) s)
    (new : ∀ K, k ∉ ks → way t.mask (knd.hash k) K ∉ t.place.toList → (∀ d, d < K → way t.mask (knd.hash k) d ∈ t.place.toList) → Q (.free (way t.mask (knd.hash k) K) false) s) : wpAny (model P w) A (setSearch a (.ref x) (knd.hash k) true) Q E s := by
  have lo := R.loose
  obtain ⟨K, lim, free, busy⟩ := R.tab.first (by rw [List.length_map]; omega) (knd.hash k)
  have big : 10 * SetTable.turns t.mask ≤ 90000 := by
    have z := topB R.tab.mok
    unfold SetTable.turns
    omega
  unfold setSearch
  refine search_on M C R hx room lim free busy old (fun n => new K n free busy) 100000 0 none rfl (Nat.zero_le _) (by omega) fun i hi => ?_
  have h1 : (ks.map knd.hash)[i]? = some (knd.hash k) := by rw [List.getElem?_map, hi]; rfl
  have h2 : i < t.place.toList.length := by
    have z := (List.getElem?_eq_some_iff.mp h1).1
    rw [Array.length_toList, R.tab.sz]
    exact z
  have h3 := List.getElem?_eq_getElem h2
  obtain ⟨d, lt, e⟩ := R.tab.before free h1 h3
  exact ⟨d, Nat.zero_le _, lt, by rw [h3, e]⟩
end
end Lk

/-! TupG1 -/
set_option Elab.async false
set_option maxRecDepth 100000
set_option linter.all false
set_option maxHeartbeats 4000000
namespace Lk
open PySem PySem.Spec PyProof.Rows L2
section
variable {P : Program} {w : World} {κ : Type} [DecidableEq κ] {knd : HeapKind P w κ} {A : Around} {E : Value → Shared → Prop} {s : Shared} {a : Addr} {B : κ → Addr → Prop}
/-- a set with these keys, in whatever order -/
def TSet (knd : HeapKind P w κ) (B : κ → Addr → Prop) (h : Heap) (a : Addr) (ks : List κ) : Prop := ∃ ls es ep t, TRow knd B h a ls es ep t ∧ ls.Perm ks
theorem size_308 : SetTable.sizeAbove (SetTable.grown 77) = 512 := by decide +kernel
theorem size_1228 : SetTable.sizeAbove (SetTable.grown 307) = 2048 := by decide +kernel
theorem size_4914 : SetTable.sizeAbove (SetTable.grown 1229) = 8192 := by decide +kernel
/-- a table laid out anew, with more room -/
theorem tset_relay {o : Obj} {es : Array (Int × Value)} {ep : Nat} {t : SetTable} {ls ks : List κ} (ho : s.heap.get? a = some o) (hex : o.ExactSet) (hd : o.data = .set es ep t) (each : PySem.W.EachIs (Row knd B) es.toList ls) (T : TabB t (ls.map knd.hash)) (inside : ls.length ≤ t.mask)
    (pm : ls.Perm ks) (nd : ks.Nodup) (led : w.params.followText "set-order" = true ∨ t.led = true) (few : ks.length ≤ 4000) {wanted N : Nat} (hw : SetTable.sizeAbove wanted = N + 1) (hN : MaskB N) (loose : ks.length * 5 < N * 3) {Q : Unit → Shared → Prop}
    (q : ∀ h', Heap.SameBut a s.heap h' → TSet knd B h' a ks → Q () { s with heap := h' }) : wpAny (model P w) A (setRelay a wanted) Q E s := by
  have n0 : es.size = ls.length := by
    have z := each.length
    rwa [Array.length_toList] at z
  have n1 : ls.length = ks.length := pm.length_eq
  have nN := topB hN
  obtain ⟨t', order, e, hp, T', em, el⟩ := relaidB t (hs := es.map (·.1)) (wanted := wanted) (M := N) hw hN (by rw [Array.size_map]; omega)
  rw [Array.size_map, n0] at hp
  have sub : ∀ i ∈ order.toList, i < ls.length := fun i hi => List.mem_range.mp (hp.mem_iff.mp hi)
  have each' := each_pick each order.toList sub
  have perm' : (order.toList.filterMap fun i => ls[i]?).Perm ls := pick_perm hp
  have hashes : ∀ l : List Nat, (∀ i ∈ l, i < ls.length) → (l.filterMap fun i => ls[i]?).map knd.hash = l.map fun i => (es.map (·.1)).getD i 0 := by
    intro l
    induction l with
    | nil => exact fun _ => rfl
    | cons i l ih =>
      intro hl
      have lt := hl i List.mem_cons_self
      have ei := List.getElem?_eq_getElem lt
      obtain ⟨e1, he, b, eb, _⟩ := each_at each ei
      rw [Array.getElem?_toList] at he
      have eh : (es.map (·.1)).getD i 0 = knd.hash (ls[i]'lt) := by
        rw [Array.getD_eq_getD_getElem?, Array.getElem?_map, he, eb]
        rfl
      rw [List.filterMap_cons_some ei, List.map_cons, List.map_cons, ih fun j hj => hl j (List.mem_cons_of_mem _ hj), eh]
  rw [← hashes _ sub] at T'
  have toL : (order.filterMap (es[·]?)).toList = order.toList.filterMap fun i => es.toList[i]? := by
    simp
  have n2 : (order.filterMap (es[·]?)).size = es.size := by
    rw [← Array.length_toList, toL, each'.length, perm'.length_eq, n0]
  have sb : Heap.SameBut a s.heap (s.heap.update a (Obj.putSet (order.filterMap (es[·]?)) t')) := Heap.SameBut.update ..
  rw [setRelay_eq]
  refine wpAny_bind (wpAny_setState_of (a := a) ho hd (fits_tab T (by rw [List.length_map, n0]) (by omega)) ?_)
  dsimp only
  refine wp_if_neg (by rw [hw, sizeLine_eq]; omega) ?_
  try refine wpAny_bind (wpAny_pure ?_)
  rw [e]
  dsimp only
  refine wpAny_bind (wp_if_neg (by rw [n2]; simp) ?_)
  try refine wpAny_bind (wpAny_pure ?_)
  refine wpAny_pure ?_
  dsimp only
  refine wpAny_storeSet_of (a := a) ho hd (q _ sb ⟨_, order.filterMap (es[·]?), ep + 1, t', ⟨⟨_, store_at ho hd, ⟨hex.1, hex.2.1, hex.2.2⟩, rfl⟩, ?_, T', ?_, ?_, ?_, ?_⟩, perm'.trans pm⟩) (by rw [n2, n0, sizeLine_eq]; omega)
  · rw [toL]
    exact each'
  · exact (perm'.trans pm).nodup_iff.mpr nd
  · exact led.imp id fun z => by rw [el]; exact z
  · rw [(perm'.trans pm).length_eq, em]
    exact loose
  · rw [(perm'.trans pm).length_eq]
    exact few
/-- one more -/
theorem tset_add (M : Mem knd) {ks : List κ} (C : Sees knd B s.heap) (R0 : TSet knd B s.heap a ks) {x : Addr} {k : κ} (hx : B k x) (room : knd.room A) (few : ks.length + 1 ≤ 4000) {Q : Bool → Shared → Prop} (old : k ∈ ks → Q false s)
    (new : k ∉ ks → ∀ h', Heap.SameBut a s.heap h' → TSet knd B h' a (k :: ks) → Q true { s with heap := h' }) : wpAny (model P w) A (setAddHashed a (.ref x) (knd.hash k)) Q E s := by
  obtain ⟨ls, es, ep, t, R, pm⟩ := R0
  obtain ⟨o, ho, hex, hd⟩ := R.here
  have n0 := R.many
  have n1 : ls.length = ks.length := pm.length_eq
  have lo := R.loose
  unfold setAddHashed
  refine wpAny_holding ?_
  rw [show (100000 : Nat) = 99999 + 1 from rfl, setAddHashedIn_succ]
  refine wpAny_bind (wpAny_setState_of (a := a) ho hd (TRow.fit R) ?_)
  dsimp only
  refine wp_if_neg (by simp [byScan, Value.scannable]) ?_
  try refine wpAny_bind (wpAny_pure ?_)
  refine wpAny_bind (search_all M C R (C _ _ hx) room (fun m => ?_) fun K m free busy => ?_)
  · dsimp only
    exact wpAny_pure (old (pm.mem_iff.mp m))
  · have nm : k ∉ ks := fun z => m (pm.mem_iff.mpr z)
    dsimp only
    refine wpAny_bind (wpAny_setState_of (a := a) ho hd (TRow.fit R) ?_)
    dsimp only
    obtain ⟨q1, q2, q3, q4, q5, q9⟩ := R.tab.put free busy rfl
    generalize t.put (way t.mask (knd.hash k) K) = Z at q1 q3 q4 q5 q9 ⊢
    obtain ⟨t1, p⟩ := Z
    dsimp only at q1 q3 q4 q5 q9 ⊢
    rw [← q1] at q3
    have hs1 : (ls.map knd.hash).take p ++ knd.hash k :: (ls.map knd.hash).drop p = (ls.take p ++ k :: ls.drop p).map knd.hash := by
      rw [List.map_append, List.map_cons, List.map_take, List.map_drop]
    rw [hs1] at q3
    have toL : (SetTable.insertAt es p (knd.hash k, Value.ref x)).toList = es.toList.take p ++ (knd.hash k, Value.ref x) :: es.toList.drop p := SetTable.toList_insertAt ..
    have each1 : PySem.W.EachIs (Row knd B) (SetTable.insertAt es p (knd.hash k, Value.ref x)).toList (ls.take p ++ k :: ls.drop p) := by
      rw [toL]
      exact each_ins p R.each ⟨x, rfl, hx⟩
    have pm1 : (ls.take p ++ k :: ls.drop p).Perm (k :: ks) := (ins_perm ls p k).trans (pm.cons k)
    have nd1 : (k :: ks).Nodup := List.nodup_cons.mpr ⟨nm, pm.nodup_iff.mp R.diff⟩
    have n3 : (ls.take p ++ k :: ls.drop p).length = ks.length + 1 := pm1.length_eq
    rw [List.length_map, n1] at q9
    generalize SetTable.insertAt es p (knd.hash k, Value.ref x) = es1 at toL each1 ⊢
    generalize ls.take p ++ k :: ls.drop p = l1 at each1 pm1 q3 n3
    have n4 : es1.size = ks.length + 1 := by
      rw [← Array.length_toList, each1.length, n3]
    have led1 : w.params.followText "set-order" = true ∨ t1.led = true := R.led.imp id fun z => by rw [q5]; exact z
    -- whatever the table says of its members' hashes from here on, the rest is the same
    have rest : ∀ t2 : SetTable, TabB t2 (l1.map knd.hash) → t2.mask = t.mask → (w.params.followText "set-order" = true ∨ t2.led = true) → t2.fill = ks.length + 1 →
        wpAny (model P w) A (do
          storeSet a es1 t2
          if (!false && t2.tooFull) = true then setRelay a (SetTable.grown (es.size + 1))
          pure true) Q E s := by
      intro t2 T2 em led2 fl
      have sb : Heap.SameBut a s.heap (s.heap.update a (Obj.putSet es1 t2)) := Heap.SameBut.update ..
      have at2 := store_at (es' := es1) (t' := t2) ho hd
      refine wpAny_bind (wpAny_storeSet_of (a := a) ho hd ?_ (by rw [n4, sizeLine_eq]; omega))
      generalize s.heap.update a (Obj.putSet es1 t2) = h1 at sb at2 ⊢
      by_cases full : t2.tooFull = true
      · have tight : (ks.length + 1) * 5 ≥ t.mask * 3 := by
          have z := full
          unfold SetTable.tooFull at z
          rw [decide_eq_true_eq, fl, em] at z
          exact z
        have two : (t.mask = 7 ∧ ks.length = 4) ∨ (t.mask = 31 ∧ ks.length = 18) ∨ (t.mask = 127 ∧ ks.length = 76) ∨ (t.mask = 511 ∧ ks.length = 306) ∨ (t.mask = 2047 ∧ ks.length = 1228) := by
          rcases R.tab.mok with e | e | e | e | e | e
          · exact .inl ⟨e, by omega⟩
          · exact .inr (.inl ⟨e, by omega⟩)
          · exact .inr (.inr (.inl ⟨e, by omega⟩))
          · exact .inr (.inr (.inr (.inl ⟨e, by omega⟩)))
          · exact .inr (.inr (.inr (.inr ⟨e, by omega⟩)))
          · omega
        simp only [full, Bool.not_false, Bool.and_true, if_true]
        rw [n0, n1]
        have go : ∀ N, SetTable.sizeAbove (SetTable.grown (ks.length + 1)) = N + 1 → MaskB N → (ks.length + 1) * 5 < N * 3 → wpAny (model P w) A (setRelay a (SetTable.grown (ks.length + 1)) >>= fun _ => pure true) Q E { s with heap := h1 } := fun N c1 c2 c3 =>
          wpAny_bind (tset_relay (s := { s with heap := h1 }) at2 ⟨hex.1, hex.2.1, hex.2.2⟩ rfl each1 T2 (by rw [em]; rcases two with ⟨e, f⟩ | ⟨e, f⟩ | ⟨e, f⟩ | ⟨e, f⟩ | ⟨e, f⟩ <;> omega) pm1 nd1 led2 few c1 c2 c3 fun h2 sb2 r => wpAny_pure (new nm h2 (sb.trans sb2) r))
        rcases two with ⟨_, e⟩ | ⟨_, e⟩ | ⟨_, e⟩ | ⟨_, e⟩ | ⟨_, e⟩
        · exact go 31 (by rw [e]; exact size_20) (.inr (.inl rfl)) (by omega)
        · exact go 127 (by rw [e]; exact size_76) (.inr (.inr (.inl rfl))) (by omega)
        · exact go 511 (by rw [e]; exact size_308) (.inr (.inr (.inr (.inl rfl)))) (by omega)
        · exact go 2047 (by rw [e]; exact size_1228) (.inr (.inr (.inr (.inr (.inl rfl))))) (by omega)
        · exact go 8191 (by rw [e]; exact size_4914) (.inr (.inr (.inr (.inr (.inr rfl))))) (by omega)
      · rw [Bool.not_eq_true] at full
        simp only [full, Bool.not_false, Bool.and_false, Bool.false_eq_true, if_false]
        refine wpAny_bind (wpAny_pure (wpAny_pure (new nm h1 sb ⟨l1, es1, ep + 1, t2, ⟨⟨_, at2, ⟨hex.1, hex.2.1, hex.2.2⟩, rfl⟩, each1, T2, pm1.nodup_iff.mpr nd1, led2, ?_, by omega⟩, pm1⟩)))
        unfold SetTable.tooFull at full
        rw [decide_eq_false_iff_not, fl, em] at full
        rw [n3, em]
        omega
    have plainOff : TabB { t1 with plain := false } (l1.map knd.hash) := ⟨q3.ris, q3.dm, q3.sz, q3.mok, q3.bd, q3.reach⟩
    by_cases pl : t1.plain = true
    · rw [pl]
      simp only [if_true]
      refine wpAny_bind (M.byV (C _ _ hx) fun v => ?_)
      cases v
      · exact rest { t1 with plain := false } plainOff q4 led1 q9
      · exact rest t1 q3 q4 led1 q9
    · rw [Bool.not_eq_true] at pl
      rw [pl]
      simp only [Bool.false_eq_true, if_false]
      refine wpAny_bind (wpAny_pure ?_)
      exact rest t1 q3 q4 led1 q9
end
end Lk

/-! TupG2 -/
set_option Elab.async false
set_option maxRecDepth 100000
set_option linter.all false
set_option maxHeartbeats 4000000
namespace Lk
open PySem PySem.Spec PyProof.Rows L2
section
variable {P : Program} {w : World} {κ : Type} [DecidableEq κ] {knd : HeapKind P w κ} {B : κ → Addr → Prop} {A : Around} {E : Value → Shared → Prop} {s : Shared}
theorem TSet.at {h h' : Heap} {a : Addr} {ks : List κ} (R : TSet knd B h a ks) (ha : ∀ o, h.get? a = some o → h'.get? a = some o) : TSet knd B h' a ks := by
  obtain ⟨ls, es, ep, t, r, pm⟩ := R
  obtain ⟨o, ho, hx⟩ := r.here
  exact ⟨ls, es, ep, t, ⟨⟨o, ha o ho, hx⟩, r.each, r.tab, r.diff, r.led, r.loose, r.few⟩, pm⟩
theorem TSet.nodup {h : Heap} {a : Addr} {ks : List κ} (R : TSet knd B h a ks) : ks.Nodup := by
  obtain ⟨_, _, _, _, r, pm⟩ := R
  exact pm.nodup_iff.mp r.diff
theorem tset_new {h : Heap} {a : Addr} (ho : h.get? a = some { cls := .type "set", dict := none, data := .set #[] 0 (.fresh 0 0 (!w.params.followText "set-order")) }) : TSet knd B h a [] :=
  ⟨[], #[], 0, _, ⟨⟨_, ho, ⟨rfl, rfl, rfl⟩, rfl⟩, .nil, ⟨List.Pairwise.nil, rfl, rfl, .inl rfl, fun x m => (by cases m), fun i z j hi => (by cases hi)⟩, List.nodup_nil, by
    show _ ∨ (!w.params.followText "set-order") = true
    cases w.params.followText "set-order"
    · exact .inr rfl
    · exact .inl rfl, (by decide : 0 * 5 < 7 * 3), (by decide : 0 ≤ 4000)⟩, .nil⟩
/-- s.update(..), turn by turn; h0: a heap in which the members stand, and which is not written -/
theorem tset_loop (M : Mem knd) {I S : Addr} {fp wr : List Addr} {G : Array GenState → Array GenState → Prop} {n : Nat} {Pv : Nat → Value → Prop} {St : Nat → Shared → Prop} {R : Result → Shared → Prop} (W : WalksS P w A.in1 I fp wr G n Pv St) (apart : S ∉ fp) {ks : List κ}
    (len : n = ks.length) (few : ks.length ≤ 4000) (room : knd.room A.in1) {h0 : Heap} (fresh : ∀ b ∈ S :: wr, h0.get? b = none) (C : Sees knd B h0) (item : ∀ i v, Pv i v → ∃ k b, ks[i]? = some k ∧ v = .ref b ∧ B k b)
    (done : ∀ s' us, Moved (S :: wr) G s s' → (∀ b o, h0.get? b = some o → s'.heap.get? b = some o) → TSet knd B s'.heap S us → (∀ k, k ∈ us ↔ k ∈ ks) → R (.ok (.ret .none)) s') :
    ∀ (m i : Nat) (s1 : Shared) (us : List κ), n - i = m → i ≤ n → St i s1 → Moved (S :: wr) G s s1 → (∀ b o, h0.get? b = some o → s1.heap.get? b = some o) → TSet knd B s1.heap S us → (∀ k, k ∈ us ↔ k ∈ ks.take i) → us.length ≤ i →
      codeAny (model P w) A (.builtin "set.update.loop" ⟨[.ref S, .ref I], []⟩) R s1 := by
  have aw : S ∉ wr := fun z => apart (W.sub _ z)
  have up : ∀ b ∈ wr, b ∈ S :: wr := fun b hb => List.mem_cons_of_mem _ hb
  have kept : ∀ {s1 s2 : Shared}, Moved wr G s1 s2 → (∀ b o, h0.get? b = some o → s1.heap.get? b = some o) → ∀ b o, h0.get? b = some o → s2.heap.get? b = some o := fun mv kp b o e =>
    mv.heap b o (fun hb => by
      rw [fresh b (up b hb)] at e
      cases e) (kp b o e)
  intro m
  induction m with
  | zero =>
    intro i s1 us em hi st mv kp R1 mem _
    have ei : i = n := by omega
    rw [ei] at st mem
    refine codeAny_builtin F.entry_set_update_loop ?_
    rw [Around.under_plainId F.plain_set_update_loop _]
    show wpAny _ A.in1 (pyNext (.ref I) >>= _) _ _ s1
    refine wpAny_bind (W.done s1 _ _ st fun s2 mv2 => ?_)
    show wpAny _ A.in1 (ret Value.none) _ _ s2
    rw [List.take_of_length_le (Nat.le_of_eq len.symm)] at mem
    exact wpAny_pure (done s2 us (Moved.trans W.gtrans mv (mv2.mono up)) (kept mv2 kp) (R1.at fun o e => mv2.heap S o aw e) mem)
  | succ m ih =>
    intro i s1 us em hi st mv kp R1 mem most
    have lt : i < n := by omega
    refine codeAny_builtin F.entry_set_update_loop ?_
    rw [Around.under_plainId F.plain_set_update_loop _]
    show wpAny _ A.in1 (pyNext (.ref I) >>= _) _ _ s1
    refine wpAny_bind (W.item i s1 _ _ lt st fun v s2 pv st2 mv2 => ?_)
    obtain ⟨k, b, hk, ev, hb⟩ := item i v pv
    subst ev
    have kp2 := kept mv2 kp
    have C2 : Sees knd B s2.heap := fun k b z => M.keep (C k b z) kp2
    have R2 := R1.at (h' := s2.heap) fun o e => mv2.heap S o aw e
    have next : ∀ j, j ∈ ks.take (i + 1) ↔ j ∈ ks.take i ∨ j = k := fun j => by
      rw [List.take_add_one, hk]
      simp [List.mem_append]
    show wpAny _ A.in1 (holding [Value.ref b] (setAdd S (.ref b)) >>= _) _ _ s2
    refine wpAny_bind (wpAny_holding ?_)
    unfold setAdd
    refine wpAny_holding (wpAny_bind (knd.pyHash room (C2 _ _ hb) ?_))
    have mv12 := Moved.trans W.gtrans mv (mv2.mono up)
    refine tset_add (s := { s2 with toks := s2.toks + knd.draws k }) M C2 R2 hb room (by omega) (fun old => ?_) fun nk h3 sb R3 => ?_
    · refine wpAny_pure ⟨plainId_quiet F.plain_set_update_loop _, ih (i + 1) _ us (by omega) lt (W.frame _ s2 _ _ st2 (Nat.le_add_right _ _) fun b hb o e => e) (mv12.then_heap (Nat.le_add_right _ _) fun b o hb e => e) kp2 R2 (fun j => ?_) (by omega)⟩
      rw [next j, mem j]
      exact ⟨.inl, fun z => z.elim id fun e => e ▸ (mem k).1 old⟩
    · refine wpAny_pure ⟨plainId_quiet F.plain_set_update_loop _, ih (i + 1) _ (k :: us) (by omega) lt (W.frame _ s2 _ _ st2 (Nat.le_add_right _ _) fun b hb o e => ?_) (mv12.then_heap (Nat.le_add_right _ _) fun b o hb e => ?_) (fun b o e => ?_) R3 (fun j => ?_) (by rw [List.length_cons]; omega)⟩
      · rw [sb.2 b (fun z : b = S => apart (by rw [← z]; exact hb))]
        exact e
      · rw [sb.2 b (fun z : b = S => hb (by rw [z]; exact List.mem_cons_self))]
        exact e
      · refine (sb.2 b fun z => ?_).trans (kp2 b o e)
        rw [z, fresh S List.mem_cons_self] at e
        cases e
      · rw [next j, List.mem_cons, mem j]
        exact Or.comm
end
end Lk

/-! TupS0 -/
set_option Elab.async false
set_option maxRecDepth 100000
set_option linter.all false
set_option maxHeartbeats 4000000
namespace Lk
open PySem PySem.Spec PyProof.Rows L2
/-! ### sorted(s), s a set of tuples -/
theorem each_perm {α β : Type} {R : α → β → Prop} {as' as : List α} (p : as'.Perm as) : ∀ {bs : List β}, PySem.W.EachIs R as bs → ∃ bs', PySem.W.EachIs R as' bs' ∧ bs'.Perm bs := by
  induction p with
  | nil => exact fun h => ⟨_, h, .refl _⟩
  | cons a _ ih =>
    intro bs h
    cases h with
    | cons r t =>
      obtain ⟨cs, h1, h2⟩ := ih t
      exact ⟨_, .cons r h1, h2.cons _⟩
  | swap a b l =>
    intro bs h
    cases h with
    | cons r t =>
      cases t with
      | cons r2 t => exact ⟨_, .cons r2 (.cons r t), List.Perm.swap ..⟩
  | trans _ _ ih1 ih2 =>
    intro bs h
    obtain ⟨cs, h1, h2⟩ := ih2 h
    obtain ⟨ds, h3, h4⟩ := ih1 h1
    exact ⟨ds, h3, h4.trans h2⟩
theorem each_map_left {α β γ : Type} {R : α → β → Prop} {S : γ → β → Prop} {f : α → γ} (g : ∀ a b, R a b → S (f a) b) : ∀ {as : List α} {bs : List β}, PySem.W.EachIs R as bs → PySem.W.EachIs S (as.map f) bs
  | _, _, .nil => .nil
  | _, _, .cons r t => .cons (g _ _ r) (each_map_left g t)
theorem each_with {α β : Type} {R : α → β → Prop} {p : β → Prop} : ∀ {as : List α} {bs : List β}, PySem.W.EachIs R as bs → (∀ b ∈ bs, p b) → PySem.W.EachIs (fun a b => R a b ∧ p b) as bs
  | _, _, .nil, _ => .nil
  | _, _, .cons r t, h => .cons ⟨r, h _ List.mem_cons_self⟩ (each_with t fun b m => h b (List.mem_cons_of_mem _ m))
section
variable {P : Program} {w : World} {κ : Type} [DecidableEq κ] {knd : HeapKind P w κ} {B : κ → Addr → Prop} {A : Around} {E : Value → Shared → Prop} {s : Shared} {a : Addr} {ks : List κ}
def At (B : κ → Addr → Prop) (v : Value) (k : κ) : Prop := ∃ b, v = .ref b ∧ B k b
theorem tset_sorted {Q : Value → Shared → Prop} (R0 : TSet knd B s.heap a ks) (hh : A.handled = none) (enc : κ → PyData) (rd : ∀ k b, k ∈ ks → B k b → Reads s.heap (.ref b) (enc k) []) (al : PySem.W.AllAlike (ks.map enc)) (so : PySem.W.Sortable (ks.map enc)) (hu : ∀ k ∈ ks, A.units + 2 + (enc k).depth < cLine)
    (hQ : ∀ s' p (out : List Value) (c : Nat) (cs : List κ), (∀ b o, s.heap.get? b = some o → s'.heap.get? b = some o) → s'.gens = s.gens → s'.os = s.os → s.heap.objs.size ≤ p →
      s'.heap.get? p = some (seqObj "list" out.toArray c) → PySem.W.EachIs (At B) out cs → cs.Perm ks → cs.Pairwise (fun x y => PySem.W.dataLe false enc x y = true) → Q (.ref p) s') :
    wpAny (model P w) A (call (.builtin "sorted") [.ref a]) Q E s := by
  obtain ⟨ls, es, ep, t, R, pm0⟩ := R0
  obtain ⟨o, ho, hex, hd⟩ := R.here
  have n0 : ks.length ≤ 4000 := by
    rw [← pm0.length_eq]
    exact R.few
  have n1 : es.size = ks.length := by
    rw [R.many]
    exact pm0.length_eq
  refine Calls.call_function_entry kind_sorted plain_sorted entry_sorted (args_sorted1 _) ?_
  unfold Builtin.«sorted»
  refine wpAny_bind (m := checkCount "sorted" 1 1 _) (wpAny_pure ?_)
  refine wpAny_bind (collect_set (A := A.in1) hh ⟨o, ho, hex.1, hd⟩ (TRow.fit R) (by unfold scanBound; omega) R.tab.ris R.led fun s1 vs kp hz g1 o1 pm => ?_)
  obtain ⟨cs, each, pc⟩ := each_perm pm (each_map_left (S := At B) (f := Prod.snd) (fun e k ⟨b, e1, h⟩ => ⟨b, by rw [e1], h⟩) R.each)
  have pk : cs.Perm ks := pc.trans pm0
  have n2 : cs.length = ks.length := pk.length_eq
  have n3 : vs.length = ks.length := each.length.trans n2
  refine wpAny_bind (wpAny_newList ?_ (by rw [n3, sizeLine_eq]; omega))
  have hoL : (s1.heap.push (seqObj "list" vs.toArray 0)).get? s1.heap.objs.size = some (seqObj "list" vs.toArray 0) := Heap.get?_push_size _ rfl
  have kp1 : ∀ b u, s.heap.get? b = some u → (s1.heap.push (seqObj "list" vs.toArray 0)).get? b = some u := fun b u e => Heap.get?_push_of_some _ (kp b u e)
  have er : PySem.W.EachIs (fun v k => ∃ as, Reads (s1.heap.push (seqObj "list" vs.toArray 0)) v (enc k) as ∧ s1.heap.objs.size ∉ as) vs cs := by
    refine (each_with each fun k m => pk.mem_iff.mp m).mono fun v k ⟨⟨b, ev, hb⟩, m⟩ => ⟨[], ?_, fun z => nomatch z⟩
    rw [ev]
    exact PyProof.Rows.Reads.keeps kp1 (rd k b m hb)
  have al' : PySem.W.AllAlike (cs.map enc) := fun d m d' m' => al d ((pk.map enc).mem_iff.mp m) d' ((pk.map enc).mem_iff.mp m')
  have so' : PySem.W.Sortable (cs.map enc) := so.imp (fun z d m => z d ((pk.map enc).mem_iff.mp m)) fun z d m => z d ((pk.map enc).mem_iff.mp m)
  refine wpAny_bind (wpAny_holding (PySem.W.list_sort_data (enc := enc) (s := { s1 with heap := s1.heap.push (seqObj "list" vs.toArray 0) }) hoL each er al' so' (by rw [n2, sizeLine_eq]; omega) (fun k m => ?_) fun out len eo => ?_))
  · have z := hu k (pk.mem_iff.mp m)
    show A.in1.units + 1 + (enc k).depth < cLine
    simp
    omega
  · obtain ⟨c, hc⟩ := sortedHeap_at (vs := vs) (out := out.toArray) hoL
    refine wpAny_pure ⟨_, rfl, hQ _ s1.heap.objs.size out c _ (fun b u e => ?_) g1 o1 hz hc eo ((List.mergeSort_perm _ _).trans pk) (PySem.W.sort_pairwise (PySem.W.sortLe_total _ _ _) _)⟩
    have q := kp b u e
    have lt := Heap.lt_size q
    show (sortedHeap (s1.heap.push (seqObj "list" vs.toArray 0)) s1.heap.objs.size vs out.toArray).get? b = some u
    rw [sortedHeap_old (Nat.ne_of_lt lt) (by rw [size_push']; exact Nat.lt_succ_of_lt lt)]
    exact Heap.get?_push_of_some _ q
end
/-! ### tuples of ints and texts as members -/
section
variable {P : Program} {w : World}
theorem mix_items {k : List Key} {vs : List Value} (h : ItemsAre (mixKind P w) k vs) : ∀ v ∈ vs, (∃ i t, v = Value.int i t) ∨ ∃ x t, v = Value.str x t := by
  induction h with
  | nil => exact fun v m => nomatch m
  | cons r _ ih =>
    intro v m
    rcases List.mem_cons.mp m with e | m
    · rcases keyIs_shape r with ⟨i, t, e2, _⟩ | ⟨x, t, e2, _⟩
      · exact .inl ⟨i, t, e.trans (by first | exact e2 | exact (by assumption))⟩
      · exact .inr ⟨x, t, e.trans (by first | exact e2 | exact (by assumption))⟩
    · exact ih v m
theorem mixMem : Mem (tupleKind (mixKind P w)) where
  st := tupleKind_stays
  cls := fun {A E s k b Q} x q => by
    have hT := IsTupleKey.typeIs x
    obtain ⟨o, its, n, ho, _, hd, hi⟩ := x
    have low : ∀ (d : Nat) (v : Value), v ∈ its.toList → ofAClassStatement d v = pure false := fun d v m => by
      rcases mix_items hi v m with ⟨i, t, rfl⟩ | ⟨z, t, rfl⟩ <;> cases d <;> rfl
    unfold ofAClassStatement
    refine wpAny_bind (wpAny_typeOf hT ?_)
    dsimp only
    simp only [show (("tuple" : String) == "tuple") = true by decide, if_true, Bool.not_true, Bool.false_eq_true, if_false]
    try refine wpAny_bind (wpAny_pure ?_)
    try simp only [Bool.not_true, Bool.false_eq_true, if_false]
    refine wpAny_bind (wpAny_seqItems (a := b) ho hd ?_)
    dsimp only
    rw [← Array.forIn_toList]
    refine wpAny_bind (wpAny_forIn_list _ (fun l z u => z.1 = none ∧ u = s ∧ ∀ v ∈ l, v ∈ its.toList) _ ?step ?stop _ _ ⟨rfl, rfl, fun _ m => m⟩)
    case step =>
      rintro v l z u ⟨hz, rfl, sub⟩
      rw [low _ v (sub v List.mem_cons_self)]
      refine wpAny_bind (wpAny_pure ?_)
      simp only [Bool.false_eq_true, if_false]
      exact wpAny_pure ⟨rfl, rfl, fun y m => sub y (List.mem_cons_of_mem _ m)⟩
    case stop =>
      rintro ⟨z1, z2⟩ u ⟨hz, rfl, _⟩
      cases hz
      exact wpAny_pure q
  byV := fun {A E s k b Q} x q => by
    have hT := IsTupleKey.typeIs x
    obtain ⟨o, its, n, ho, _, hd, hi⟩ := x
    have low : ∀ (d : Nat) (v : Value), v ∈ its.toList → hashByValue d v = pure true ∨ hashByValue d v = pure false := fun d v m => by
      rcases mix_items hi v m with ⟨i, t, rfl⟩ | ⟨z, t, rfl⟩ <;> cases d <;> first | exact .inl rfl | exact .inr rfl
    unfold hashByValue
    refine wpAny_bind (wpAny_specialOf hT F.slot_tuple_hash.lookup ?_)
    show wpAny _ _ (seqItems? (.ref b) >>= _) _ _ s
    refine wpAny_bind (wpAny_seqItems (a := b) ho hd ?_)
    show wpAny _ _ (forIn its _ _ >>= _) _ _ s
    rw [← Array.forIn_toList]
    refine wpAny_bind (wpAny_forIn_list _ (fun l z u => z.1 = none ∧ u = s ∧ ∀ v ∈ l, v ∈ its.toList) _ ?step ?stop _ _ ⟨rfl, rfl, fun _ m => m⟩)
    case step =>
      rintro v l z u ⟨hz, rfl, sub⟩
      rcases low 7 v (sub v List.mem_cons_self) with e | e
      · rw [e]
        refine wpAny_bind (wpAny_pure ?_)
        simp only [Bool.not_true, Bool.false_eq_true, if_false]
        exact wpAny_pure ⟨rfl, rfl, fun y m => sub y (List.mem_cons_of_mem _ m)⟩
      · rw [e]
        refine wpAny_bind (wpAny_pure ?_)
        simp only [Bool.not_false, if_true]
        exact wpAny_pure (wpAny_pure (q _))
    case stop =>
      rintro ⟨z1, z2⟩ u ⟨hz, rfl, _⟩
      cases hz
      exact wpAny_pure (q _)
end
end Lk

/-! SrtT0 -/
set_option Elab.async false
set_option maxRecDepth 100000
set_option linter.all false
set_option maxHeartbeats 4000000
namespace Lk
open PySem PySem.Spec PyProof.Rows L2
/-! ### sorted(t), t a tuple of ints -/
section
variable {prog : Program} {w : World} {A : Around} {E : Value → Shared → Prop} {s : Shared}
theorem collect_tup {l : Addr} {vs : List Value} {Q : List Value → Shared → Prop} (hl : s.heap.IsTuple l vs.toArray)
    (h : Q vs { s with heap := (s.heap.push (seqObj "list" #[] 0)).update s.heap.objs.size (Obj.mapSeq (· ++ vs.toArray)) }) (hsz : vs.length ≤ sizeLine) :
    wpAny (model prog w) A (collect (.ref l)) Q E s := by
  obtain ⟨o, ho, hc, n, hd⟩ := id hl
  have old : (s.heap.push (seqObj "list" #[] 0)).get? l = some o := Heap.get?_push_of_some _ ho
  have new : (s.heap.push (seqObj "list" #[] 0)).get? s.heap.objs.size = some (seqObj "list" #[] 0) := Heap.get?_push_size _ rfl
  unfold collect
  refine wpAny_bind (wpAny_runValue (codeAny_builtin entry_proto_collect' ?_))
  show wpAny _ _ (do again (.builtin "list.__iadd__" ⟨[← newList [], .ref l], []⟩)) _ _ s
  refine wpAny_bind (wpAny_newList (wpAny_pure ⟨Code.quiet_builtin _ (by decide +kernel), codeAny_builtin entry_list_iadd' ?_⟩))
  show wpAny _ _ (Builtin.List.listExtendWith (.ref s.heap.objs.size) (.ref l) (.ref s.heap.objs.size)) _ _ { s with heap := s.heap.push (seqObj "list" #[] 0) }
  unfold Builtin.List.listExtendWith
  refine wpAny_bind (wpAny_typeOf (T := "tuple") ⟨o, old, hc⟩ ?_)
  have ht : (Value.type "tuple" == Value.type "tuple") = true := by rfl
  rw [if_pos (by rw [ht]; simp)]
  refine wpAny_bind (listItems_at old hd ?_)
  refine wpAny_bind (listItems_at (xs := #[]) (n := 0) new rfl ?_)
  rw [if_neg (by simp)]
  refine wpAny_bind (listUpdate_at (xs := #[]) (n := 0) new rfl ?_ (Nat.zero_le _) (by show (#[] ++ vs.toArray).size ≤ sizeLine + 1; simp only [Array.size_append, List.size_toArray, List.length_nil]; omega))
  refine wpAny_pure ?_
  show wpAny (model prog w) A (do
      let o ← load s.heap.objs.size
      match o.data with
      | .seq xs _ => pure xs.toList
      | _ => unsupported "internal:collect") Q E { s with heap := (s.heap.push (seqObj "list" #[] 0)).update s.heap.objs.size (Obj.mapSeq (· ++ vs.toArray)) }
  refine wpAny_bind (wpAny_load (get?_update_seq new _) ?_)
  show wpAny _ _ (pure ((#[] : Array Value) ++ vs.toArray).toList) Q E _
  rw [show ((#[] : Array Value) ++ vs.toArray).toList = vs by simp]
  exact wpAny_pure h
def AsInt (v : Value) (n : Int) : Prop := ∃ t, v = .int n t
theorem sorted_tup {l : Addr} {vs : List Value} {ns : List Int} {Q : Value → Shared → Prop} (hl : s.heap.IsTuple l vs.toArray) (each : PySem.W.EachIs AsInt vs ns) (hsz : ns.length ≤ sizeLine) (hu : A.units + 2 < cLine)
    (h : ∀ (h' : Heap) (p : Addr) (out : List Value) (c : Nat) (ns' : List Int), (∀ b o, s.heap.get? b = some o → h'.get? b = some o) → s.heap.objs.size ≤ p → h'.get? p = some (seqObj "list" out.toArray c) → PySem.W.EachIs AsInt out ns' → ns'.Perm ns → ns'.Pairwise (· ≤ ·) → Q (.ref p) { s with heap := h' }) :
    wpAny (model prog w) A (call (.builtin "sorted") [.ref l]) Q E s := by
  have n1 : vs.length = ns.length := each.length
  refine Calls.call_function_entry kind_sorted plain_sorted entry_sorted (args_sorted1 _) ?_
  unfold Builtin.«sorted»
  refine wpAny_bind (m := checkCount "sorted" 1 1 _) (wpAny_pure ?_)
  refine wpAny_bind (collect_tup (A := A.in1) hl ?_ (by omega))
  generalize hm : (s.heap.push (seqObj "list" #[] 0)).update s.heap.objs.size (Obj.mapSeq (· ++ vs.toArray)) = h1
  have kp1 : ∀ b o, s.heap.get? b = some o → h1.get? b = some o := fun b o e => by
    have lt := Heap.lt_size e
    rw [← hm, Heap.get?_update_ne _ _ _ _ (Nat.ne_of_lt lt)]
    exact Heap.get?_push_of_some _ e
  have z1 : h1.objs.size = s.heap.objs.size + 1 := by rw [← hm, Heap.size_update, size_push']
  refine wpAny_bind (wpAny_newList ?_ (by omega))
  have hoL : (h1.push (seqObj "list" vs.toArray 0)).get? h1.objs.size = some (seqObj "list" vs.toArray 0) := Heap.get?_push_size _ rfl
  have er : PySem.W.EachIs (fun v (k : Int) => ∃ as, Reads (h1.push (seqObj "list" vs.toArray 0)) v (PyData.int k) as ∧ h1.objs.size ∉ as) vs ns := each.mono fun v k ⟨t, e⟩ => ⟨[], by rw [e]; exact .int _ _, fun z => nomatch z⟩
  have shape : ∀ d ∈ ns.map PyData.int, ∃ k, d = .int k := fun d m => by
    obtain ⟨k, _, e⟩ := List.mem_map.mp m
    exact ⟨k, e.symm⟩
  have al : PySem.W.AllAlike (ns.map PyData.int) := fun d m d' m' => by
    obtain ⟨x, rfl⟩ := shape d m
    obtain ⟨y, rfl⟩ := shape d' m'
    rfl
  refine wpAny_bind (wpAny_holding (PySem.W.list_sort_data (enc := PyData.int) (s := { s with heap := h1.push (seqObj "list" vs.toArray 0) }) hoL each er al (PySem.W.Sortable.others fun b => ⟨(fun z => by cases z), (fun xs z => by cases z)⟩) (by omega) (fun k m => ?_) fun out len eo => ?_))
  · show A.in1.units + 1 + 0 < cLine
    simp
    omega
  · obtain ⟨c, hc⟩ := sortedHeap_at (vs := vs) (out := out.toArray) hoL
    refine wpAny_pure ⟨_, rfl, h _ h1.objs.size out c _ (fun b u e => ?_) (by omega) hc eo (List.mergeSort_perm _ _) ?_⟩
    · have q := kp1 b u e
      have lt := Heap.lt_size q
      show (sortedHeap (h1.push (seqObj "list" vs.toArray 0)) h1.objs.size vs out.toArray).get? b = some u
      rw [sortedHeap_old (Nat.ne_of_lt lt) (by rw [size_push']; exact Nat.lt_succ_of_lt lt)]
      exact Heap.get?_push_of_some _ q
    · have pw : (ns.mergeSort (PySem.W.dataLe false PyData.int)).Pairwise (fun x y => PySem.W.dataLe false PyData.int x y = true) := PySem.W.sort_pairwise (PySem.W.sortLe_total _ _ _) _
      refine pw.imp fun {x y} z => ?_
      rw [PySem.W.dataLe_eq] at z
      have z2 : (!PySem.W.dataLt (.int y) (.int x)) = true := z
      rw [PySem.W.dataLt_int] at z2
      simp at z2
      exact z2
end
section
variable {X : Cx}
def rSortT (K : PySem.W.Frag) : List V → Hp → VK → Prop := fun xs H Q => ∃ (a : Addr) (ns : List Int), xs = [.ref a] ∧ SqT K H a (ns.map V.int) ∧
  ∀ (ns' : List Int) (p : Addr), ns'.Perm ns → ns'.Pairwise (· ≤ ·) → H p = none → Q (.ref p) (upd H p (.lst (ns'.map V.int)))
theorem each_ints : ∀ {ns : List Int} {us : List Value}, Vals (ns.map V.int) us → PySem.W.EachIs AsInt us ns
  | [], _, h => by cases h; exact .nil
  | n :: ns, _, h => by
    cases h with
    | cons r t => exact .cons r (each_ints t)
theorem vals_ints : ∀ {us : List Value} {ns : List Int}, PySem.W.EachIs AsInt us ns → Vals (ns.map V.int) us
  | _, _, .nil => .nil
  | _, _, .cons r t => .cons r (vals_ints t)
theorem call_sortT (hu : X.A.units + 64 < cLine) : CallR X (.builtin "sorted") (rSortT X.K) := by
  intro pins s σ H xs us Q I r h
  obtain ⟨a, ns, rfl, ha, q⟩ := h
  rw [Vals.ref1 r]
  obtain ⟨its, rv, pl, hz⟩ := I.tuple ha
  have n1 : ns.length ≤ sizeLine := by
    have z := hz
    rw [List.length_map] at z
    exact z
  refine sorted_tup pl (each_ints rv) n1 (by omega) fun h' p out c ns' kp hp hg ev pm pw => ?_
  have hn : H p = none := I.hok.fresh hp
  exact ⟨.ref p, upd H p (.lst (ns'.map V.int)), I.laid (t' := s.toks) kp hp ⟨by rw [List.length_map, pm.length_eq]; exact n1, out, c, vals_ints ev, hg⟩, rfl, q ns' p pm pw hn⟩
end
end Lk

/-! Rev0 -/
set_option Elab.async false
set_option maxRecDepth 100000
set_option linter.all false
set_option maxHeartbeats 4000000
namespace Lk
open PySem PySem.Spec PyProof.Rows L2
/-! ### t[::-1], t a tuple -/
section
variable {P : Program} {w : World} {A : Around} {E : Value → Shared → Prop} {s : Shared}
theorem rev_pick (xs : Array Value) : ((List.range xs.size).filterMap fun (k : Nat) => xs[(((xs.size : Int) - 1) + (k : Int) * (-1)).toNat]?) = xs.toList.reverse := by
  have e : ∀ l : List Nat, (∀ k ∈ l, k < xs.size) → (l.filterMap fun (k : Nat) => xs[(((xs.size : Int) - 1) + (k : Int) * (-1)).toNat]?) = l.filterMap fun k => xs.toList.reverse[k]? := by
    intro l
    induction l with
    | nil => exact fun _ => rfl
    | cons k l ih =>
      intro h
      have hk := h k List.mem_cons_self
      have ek : (((xs.size : Int) - 1) + (k : Int) * (-1)).toNat = xs.size - 1 - k := by omega
      have e1 : xs[(((xs.size : Int) - 1) + (k : Int) * (-1)).toNat]? = xs.toList.reverse[k]? := by
        rw [ek, List.getElem?_reverse (by rw [Array.length_toList]; exact hk), Array.length_toList, Array.getElem?_toList]
      simp only [List.filterMap_cons, e1, ih fun j hj => h j (List.mem_cons_of_mem _ hj)]
  rw [e _ fun k hk => List.mem_range.mp hk]
  have n : xs.toList.reverse.length = xs.size := by rw [List.length_reverse, Array.length_toList]
  rw [← n]
  generalize xs.toList.reverse = l
  clear n e
  induction l with
  | nil => rfl
  | cons b bs ih =>
    rw [List.length_cons, List.range_succ_eq_map, List.filterMap_cons_some (show (b :: bs)[0]? = some b from rfl), List.filterMap_map]
    exact congrArg (b :: ·) ih
theorem item_rev {t sl : Addr} {items : Array Value} {u : Tok} {Q : Value → Shared → Prop} (ht : IsTup s.heap t items) (hs : s.heap.IsSliceOf sl .none .none (.int (-1) u)) (h : Q (.ref s.heap.objs.size) { s with heap := s.heap.push { cls := .type "tuple", data := .seq items.toList.reverse.toArray } })
    (small : items.size ≤ sizeLine) : wpAny (model P w) A (getItem (.ref t) (.ref sl)) Q E s := by
  have fits : sizeOk (.seq items.toList.reverse.toArray) := by
    show items.toList.reverse.toArray.size ≤ sizeLine
    rw [List.size_toArray, List.length_reverse, Array.length_toList]
    exact small
  obtain ⟨os, hos, hcs, hds⟩ := id hs
  have sT : s.TypeIs (.ref sl) "slice" := ⟨os, hos, hcs⟩
  unfold getItem
  try with_reducible refine wpAny_holding ?_
  first | refine wpAny_bind (wpAny_pure ?_) | skip
  refine wpAny_bind (wpAny_sequenceKey (IsTup.typeIs ht) (by decide) ?_)
  refine wpAny_bind (wpAny_callSpecial?_slot (name := Str.ofString "__getitem__") (IsTup.typeIs ht) PyProof.Rows.slot_tuple_getitem (wpAny_call_entry PyProof.Rows.slot_tuple_getitem (IsTup.typeIs ht) entry_tuple_getitem ?_ (args_tuple_getitem _ _)))
  show wpAny _ _ (Builtin.Tuple.tupleItemsOf (.ref t) >>= _) _ _ s
  refine wpAny_bind (tupleItemsOf_ (t := t) ht (wpAny_bind (wpAny_typeOf sT ?_)))
  simp only [show (Value.type "slice" == Value.type "slice") = true by decide, if_true]
  refine wpAny_bind ?_
  unfold Builtin.Slice.sliceApplied Builtin.Slice.sliceFields
  refine wpAny_bind (wpAny_bind (wpAny_field (a := sl) hos hds (x := .none) rfl (wpAny_bind (wpAny_field (a := sl) hos hds (x := .none) rfl (wpAny_bind (wpAny_field (a := sl) hos hds (x := .int (-1) u) rfl (wpAny_pure ?_)))))))
  refine wpAny_bind (slicePart_int ?_)
  show wpAny _ _ (if ((-1 : Int) == 0) = true then _ else _) _ _ s
  rw [if_neg (by decide)]
  refine wpAny_bind (slicePart_none (wpAny_bind (slicePart_none (wpAny_bind (wpAny_pure ?_)))))
  have adj : Builtin.Slice.sliceAdjust none none (-1) (items.size : Int) = ((items.size : Int) - 1, -1) := rfl
  have pl : Builtin.Slice.slicePlaces ((items.size : Int) - 1) (-1) (-1) = items.size := by
    unfold Builtin.Slice.slicePlaces
    simp only [show ¬ ((-1 : Int) > 0) by decide, if_false]
    split
    · simp only [Int.neg_neg, Int.ediv_one]
      omega
    · omega
  show wpAny _ _ (match Builtin.Slice.sliceAdjust none none (-1) (items.size : Int) with | (lo, hi) => pure (lo, (-1 : Int), Builtin.Slice.slicePlaces lo hi (-1))) _ _ s
  rw [adj]
  dsimp only
  rw [pl]
  refine wpAny_pure ?_
  dsimp only
  have no : (((items.size : Int) - 1 == 0) && ((-1 : Int) == 1) && (items.size == items.size)) = false := by
    rw [show ((-1 : Int) == 1) = false by decide, Bool.and_false, Bool.false_and]
  rw [no, rev_pick]
  simp only [Bool.false_eq_true, if_false]
  first
    | exact wpAny_bind (m := Builtin.Tuple.tupleExact _) (wpAny_newObj_type (wpAny_pure ⟨_, rfl, wpAny_pure h⟩) fits)
    | exact wpAny_bind (m := Builtin.Tuple.tupleExact _) (wpAny_newObj_type (wpAny_bind (wpAny_pure (wpAny_pure ⟨_, rfl, wpAny_pure h⟩))) fits)
    | exact wpAny_bind (wpAny_bind (m := Builtin.Tuple.tupleExact _) (wpAny_newObj_type (wpAny_pure (wpAny_pure ⟨_, rfl, wpAny_pure h⟩)) fits))
    | exact wpAny_bind (wpAny_bind (m := Builtin.Tuple.tupleExact _) (wpAny_newObj_type (wpAny_pure ⟨_, rfl, wpAny_pure h⟩) fits))
end
section
variable {X : Cx}
def tRevT (K : PySem.W.Frag) (te : TE) : TE := fun σ H Q => te σ H fun x H1 => ∃ a xs, x = .ref a ∧ SqT K H1 a xs ∧ ∀ p, H1 p = none → Q (.ref p) (upd H1 p (.tup xs.reverse))
theorem vals_rev : ∀ {xs : List V} {us : List Value}, Vals xs us → Vals xs.reverse us.reverse
  | _, _, .nil => .nil
  | _, _, .cons r t => by
    rw [List.reverse_cons, List.reverse_cons]
    exact Vals.append (vals_rev t) (.cons r .nil)
theorem pe_revT {e : Expr} {te : TE} {pos p1 p2 p3 : Pos} (he : PE X e te) : PE X (.Subscript e (.Slice none none (some (.UnaryOp .USub (.Constant (.int 1) 0 p1) p2)) p3) pos) (tRevT X.K te) := by
  refine ⟨fun pins s σ H Q I h => ?_⟩
  refine Subscript_ (thn (he.run pins s σ H _ I h) fun v s1 ⟨x, H1, I1, r1, q1⟩ => ?_)
  obtain ⟨a, xs, rfl, hx, q⟩ := q1
  cases r1
  refine wpAny_Slice ?_
  rw [evalPart_none]
  refine wpAny_pure (wpAny_pure ?_)
  rw [evalPart_some]
  have hm : PE X (.UnaryOp .USub (.Constant (.int 1) 0 p1) p2) _ := pe_un un_neg pe_int
  refine thn (hm.run pins s1 σ H1 (fun y H2 => y = .int (-1) ∧ H2 = H1) I1 ⟨1, rfl, rfl, rfl⟩) fun vk s2 ⟨y, H2, I2, r2, ey, eH⟩ => ?_
  subst ey eH
  obtain ⟨tk, rfl⟩ := r2
  have I4 : Inv X pins σ H2 { s2 with heap := s2.heap.push { cls := .type "slice", data := .fields #[.none, .none, .int (-1) tk] } } := I2.kept (t' := s2.toks) fun b ob z => Heap.get?_push_of_some _ z
  obtain ⟨its, r, ht, hz⟩ := I4.tuple hx
  have len : its.toArray.size = xs.length := by rw [List.size_toArray]; exact r.length.symm
  show wpAny (model X.prog X.w) X.A (subscriptTail e _ (.ref a) (.ref s2.heap.objs.size)) (EP X pins σ Q) X.xe { s2 with heap := s2.heap.push { cls := .type "slice", data := .fields #[.none, .none, .int (-1) tk] } }
  refine tail_any (ops := [.ref a, .ref s2.heap.objs.size]) (IsTup.typeIs ht) PyProof.Rows.slot_tuple_getitem.lookup (item_rev (u := tk) ht (Heap.IsSliceOf.new ..) ?_ (by rw [len]; exact hz)) (by with_unfolding_all rfl)
  refine ⟨.ref (s2.heap.push { cls := .type "slice", data := .fields #[.none, .none, .int (-1) tk] }).objs.size, _, I4.laid (t' := s2.toks) (o := .tup xs.reverse) (fun b ob z => Heap.get?_push_of_some _ z) (Nat.le_refl _) ?_, rfl, q _ (I4.hok.fresh (Nat.le_refl _))⟩
  exact ⟨by rw [List.length_reverse]; exact hz, _, vals_rev r, IsTup.new _ _⟩
end
/-! ### text * int, from 1 on -/
def rStrRep1 : R2 := fun x y H Q => ∃ (a : Str) (k : Nat), x = .str a ∧ y = .int (k : Int) ∧ 1 ≤ k ∧ k ≤ 5000 ∧ a.length ≤ 1000 ∧ ∀ z : Str, TL.tl z = (List.replicate k (TL.tl a)).flatten → Q (.str z) H
theorem op_strRep1 {X : Cx} : OpR X (binaryOp .Mult) rStrRep1 := by
  intro pins s σ H x y v u Q I rx ry h
  obtain ⟨a, k, rfl, rfl, k1, k2, ha, q⟩ := h
  obtain ⟨t, rfl⟩ := rx
  obtain ⟨t', rfl⟩ := ry
  have hm : a.length * k ≤ 5000000 := by
    have := Nat.mul_le_mul ha k2
    omega
  have hl := TL.len_tl a
  have long : Builtin.Str.tooLong (a.length * k) = false := by
    unfold Builtin.Str.tooLong
    refine decide_eq_false (Nat.not_lt.mpr (Nat.le_trans hm ?_))
    decide
  refine PySem.P.mul_str (by rw [decide_eq_false (by omega), decide_eq_false (by omega)]; rfl) (fun _ _ => ?_) (fun _ _ => by rw [Int.toNat_natCast]; exact long) ?_
  · refine Int.not_lt.mpr (Int.le_ediv_of_mul_le (by omega) ?_)
    have : ((a.length * k : Nat) : Int) = (a.length : Int) * (k : Int) := Int.natCast_mul _ _
    omega
  · rw [if_neg (by omega), Int.toNat_natCast]
    by_cases one : k = 1
    · rw [if_pos (by rw [one]; rfl)]
      exact ⟨.str a, H, I, ⟨_, rfl⟩, q a (by rw [one]; simp)⟩
    have big : ((k : Int) == 1) = false := beq_eq_false_iff_ne.mpr (by omega)
    rw [big, Bool.false_or]
    by_cases h0 : a.length = 0
    · rw [if_pos (beq_iff_eq.mpr h0)]
      have e0 : TL.tl a = [] := List.length_eq_zero_iff.mp (by omega)
      exact ⟨.str a, H, I, ⟨_, rfl⟩, q a (by rw [e0]; simp)⟩
    · rw [if_neg (by rw [beq_iff_eq]; exact h0)]
      have e : TL.tl ⟨(List.replicate k a.cps).foldl (· ++ ·) #[]⟩ = (List.replicate k (TL.tl a)).flatten := by
        show ((List.replicate k a.cps).foldl (· ++ ·) #[]).toList = _
        rw [rep_fold, List.nil_append]
      refine ⟨?_, .str _, H, I.tok _, ⟨_, rfl⟩, q _ e⟩
      rw [TL.len_tl, e, List.length_flatten, List.map_replicate, List.sum_replicate_nat, ← hl, Nat.mul_comm]
      exact Nat.le_trans hm (by decide)

end Lk

/-! Mak1 -/
set_option Elab.async false
set_option maxRecDepth 100000
set_option linter.all false
set_option maxHeartbeats 4000000
namespace Lk
open PySem PySem.Spec PyProof.Rows L2
/-! ### made data: tuples put together, cut, told again and again -/
def cutL {α : Type} (l : List α) (lo hi : Option Int) : List α := (l.drop (HT.sIx l.length 0 lo)).take (HT.sIx l.length l.length hi - HT.sIx l.length 0 lo)
theorem mem_cutL {α : Type} {l : List α} {lo hi : Option Int} {x : α} (h : x ∈ cutL l lo hi) : x ∈ l := (List.drop_sublist _ _).subset ((List.take_sublist _ _).subset h)
theorem len_cutL {α : Type} (l : List α) (lo hi : Option Int) : (cutL l lo hi).length ≤ l.length := by
  unfold cutL
  rw [List.length_take, List.length_drop]
  omega
section
variable {K : PySem.W.Frag} {σ : L2.St} {H0 : Hp} {te tf : TE} {ds es : List PyData}
theorem thAll_drop {H : Hp} : ∀ (n : Nat) {vs : List V} {ds : List PyData}, ThAll K H vs ds → ThAll K H (vs.drop n) (ds.drop n)
  | 0, _, _, h => h
  | n + 1, _, _, .nil => .nil
  | n + 1, _, _, .cons _ t => thAll_drop n t
theorem thAll_take {H : Hp} : ∀ (n : Nat) {vs : List V} {ds : List PyData}, ThAll K H vs ds → ThAll K H (vs.take n) (ds.take n)
  | 0, _, _, _ => .nil
  | n + 1, _, _, .nil => .nil
  | n + 1, _, _, .cons h t => .cons h (thAll_take n t)
theorem thAll_cut {H : Hp} {vs : List V} {ds : List PyData} (lo hi : Option Int) (h : ThAll K H vs ds) : ThAll K H (cutV vs lo hi) (cutL ds lo hi) := by
  unfold cutV cutL
  rw [thAll_len h]
  exact thAll_take _ (thAll_drop _ h)
theorem thAll_reps {H : Hp} {vs : List V} {ds : List PyData} (h : ThAll K H vs ds) : ∀ k, ThAll K H (List.replicate k vs).flatten (List.replicate k ds).flatten
  | 0 => .nil
  | k + 1 => by
    rw [List.replicate_succ, List.replicate_succ, List.flatten_cons, List.flatten_cons]
    exact thAll_app h (thAll_reps h k)
theorem th_of_tup {H : Hp} {v : V} {ds : List PyData} (h : Th K H v (.tuple ds)) : ∃ a xs, v = .ref a ∧ SqT K H a xs ∧ ThAll K H xs ds := by
  cases h with
  | tup hs ha => exact ⟨_, _, rfl, hs, ha⟩
theorem mk_catT (h : Mk1 K te σ H0 (.tuple ds)) (g : Mk1 K tf σ H0 (.tuple es)) (hl : ds.length + es.length ≤ 1000) : Mk1 K (tOp (rCatA K) te tf) σ H0 (.tuple (ds ++ es)) := fun H s Q q =>
  h H s _ fun v H1 s1 h1 => g H1 (s.trans s1) _ fun u H2 s2 h2 => by
    obtain ⟨a, xs, rfl, ha, ta⟩ := th_of_tup (th_same s2 h1)
    obtain ⟨b, ys, rfl, hb, tb⟩ := th_of_tup h2
    have l1 := thAll_len ta
    have l2 := thAll_len tb
    refine ⟨a, b, xs, ys, rfl, rfl, ha, hb, Nat.le_of_lt (small1000 (by omega)), fun e => ?_, fun _ e => ?_, fun _ _ p np => ?_⟩
    · have ed : ds = [] := List.length_eq_zero_iff.mp (by rw [← l1, e]; rfl)
      rw [ed] at q
      exact q _ H2 (s1.trans s2) h2
    · have ed : es = [] := List.length_eq_zero_iff.mp (by rw [← l2, e]; rfl)
      rw [ed, List.append_nil] at q
      exact q _ H2 (s1.trans s2) (th_same s2 h1)
    · exact q _ _ ((s1.trans s2).trans (same_upd np)) (.tup (.inl (.inl upd_same)) (thAll_same (same_upd np) (thAll_app ta tb)))
/-- a part of a slice -/
def MkP (t : TO) (σ : L2.St) (H0 : Hp) (o : Option Int) : Prop := ∀ H, Same H0 H → ∀ Q : Option Int → Hp → Prop, (∀ H', Same H H' → Q o H') → t σ H Q
theorem mkp_none : MkP tNoPart σ H0 none := fun H _ Q q => q H (Same.refl H)
theorem mkp_int {i : Int} : MkP (tPart (tC (.int i))) σ H0 (some i) := fun H _ Q q => ⟨i, rfl, q H (Same.refl H)⟩
theorem mkp_var {i : Int} {j : Nat} (h : σ[j]? = some (some (.int i))) : MkP (tPart (tVar j)) σ H0 (some i) := fun H _ Q q => ⟨_, h, i, rfl, q H (Same.refl H)⟩
theorem mkp_more {i k : Int} {j : Nat} (h : σ[j]? = some (some (.int i))) : MkP (tPart (tOp (rI0 fun a b => V.int (a + b)) (tVar j) (tC (.int k)))) σ H0 (some (i + k)) := fun H _ Q q => ⟨_, h, i, k, rfl, rfl, _, rfl, q H (Same.refl H)⟩
theorem mk_slT {tl th : TO} {lo hi : Option Int} (h : Mk1 K te σ H0 (.tuple ds)) (hl : MkP tl σ H0 lo) (hh : MkP th σ H0 hi) : Mk1 K (tSl (rSlA K) te tl th) σ H0 (.tuple (cutL ds lo hi)) := fun H s Q q =>
  h H s _ fun v H1 s1 h1 => hl H1 (s.trans s1) _ fun H2 s2 => hh H2 ((s.trans s1).trans s2) _ fun H3 s3 => by
    obtain ⟨a, xs, rfl, ha, ta⟩ := th_of_tup (th_same (s2.trans s3) h1)
    have l1 := thAll_len ta
    have x3 := (s1.trans s2).trans s3
    refine ⟨a, xs, rfl, ha, fun e => ?_, fun _ p np => ?_⟩
    · have ec : cutL ds lo hi = ds := by
        unfold cutL
        rw [← l1, e.1, e.2, List.drop_zero, Nat.sub_zero, List.take_of_length_le (Nat.le_of_eq l1.symm)]
      rw [ec] at q
      exact q _ H3 x3 (.tup ha ta)
    · exact q _ _ (x3.trans (same_upd np)) (.tup (.inl (.inl upd_same)) (thAll_same (same_upd np) (thAll_cut lo hi ta)))
theorem mk_revT (h : Mk1 K te σ H0 (.tuple ds)) : Mk1 K (tRevT K te) σ H0 (.tuple ds.reverse) := fun H s Q q =>
  h H s _ fun v H1 s1 h1 => by
    obtain ⟨a, xs, rfl, ha, ta⟩ := th_of_tup h1
    have rev : ∀ {vs : List V} {ds : List PyData}, ThAll K H1 vs ds → ThAll K H1 vs.reverse ds.reverse := fun {vs ds} t => by
      induction vs generalizing ds with
      | nil => cases t; exact .nil
      | cons v vs ih =>
        cases t with
        | cons r t =>
          rw [List.reverse_cons, List.reverse_cons]
          exact thAll_app (ih t) (.cons r .nil)
    exact ⟨a, xs, rfl, ha, fun p np => q _ _ (s1.trans (same_upd np)) (.tup (.inl (.inl upd_same)) (thAll_same (same_upd np) (rev ta)))⟩
/-- list(t) -/
theorem mk_listT (h : Mk1 K te σ H0 (.tuple ds)) : MkL K (tCB (fun xs H Q => ∃ p ys, xs = [.ref p] ∧ (SqL K H p ys ∨ SqT K H p ys) ∧ ∀ l, H l = none → Q (.ref l) (upd H l (.lst ys))) (tCons te tNil)) σ H0 ds := fun H s Q q =>
  h H s _ fun v H1 s1 h1 => by
    obtain ⟨a, xs, rfl, ha, ta⟩ := th_of_tup h1
    exact ⟨a, xs, rfl, .inr ha, fun l nl => q l xs _ (s1.trans (same_upd nl)) upd_same (thAll_same (same_upd nl) ta)⟩
/-- tuple(l) -/
theorem mk_tupL (h : MkL K te σ H0 ds) : Mk1 K (tCB (fun xs H Q => ∃ p ys, xs = [.ref p] ∧ ((SqL K H p ys ∧ ∀ l, H l = none → Q (.ref l) (upd H l (.tup ys))) ∨ (SqT K H p ys ∧ Q (.ref p) H))) (tCons te tNil)) σ H0 (.tuple ds) := fun H s Q q =>
  h H s _ fun p xs H1 s1 e1 t1 => ⟨p, xs, rfl, .inl ⟨SqL.of e1, fun l nl => q _ _ (s1.trans (same_upd nl)) (.tup (.inl (.inl upd_same)) (thAll_same (same_upd nl) t1))⟩⟩
/-- t * k -/
theorem mk_repT {k : Nat} (h : Mk1 K te σ H0 (.tuple ds)) (ne : ds ≠ []) (k1 : 2 ≤ k) (k2 : k ≤ 1000) (hl : ds.length ≤ 1000) : Mk1 K (tOp (rRepT K) te (tC (.int (k : Int)))) σ H0 (.tuple (List.replicate k ds).flatten) := fun H s Q q =>
  h H s _ fun v H1 s1 h1 => by
    obtain ⟨a, xs, rfl, ha, ta⟩ := th_of_tup h1
    have l1 := thAll_len ta
    refine ⟨a, k, xs, rfl, rfl, ha, fun e => ne (List.length_eq_zero_iff.mp (by rw [← l1, e]; rfl)), by omega, by omega, by omega, fun p np => q _ _ (s1.trans (same_upd np)) (.tup (.inl (.inl upd_same)) ?_)⟩
    rw [Int.toNat_natCast]
    exact thAll_same (same_upd np) (thAll_reps ta k)
/-- a list that is new -/
def MkN (K : PySem.W.Frag) (te : TE) (σ : L2.St) (H0 : Hp) (ds : List PyData) : Prop := ∀ H, Same H0 H → ∀ Q : VK, (∀ p xs H1, Same H H1 → H1 p = none → ThAll K H1 xs ds → Q (.ref p) (upd H1 p (.lst xs))) → te σ H Q
theorem mk_catN (h : MkL K te σ H0 ds) (g : MkL K tf σ H0 es) (hl : ds.length + es.length ≤ 1000) : MkN K (tOp rCat te tf) σ H0 (ds ++ es) := fun H s Q q =>
  h H s _ fun p xs H1 s1 e1 h1 => g H1 (s.trans s1) _ fun r ys H2 s2 e2 h2 => ⟨p, r, xs, ys, rfl, rfl, s2 _ _ e1, e2, by rw [thAll_len h1, thAll_len h2]; exact Nat.le_of_lt (small1000 hl), fun l nl =>
    q l _ H2 (s1.trans s2) nl (thAll_app (thAll_same s2 h1) h2)⟩
end
end Lk

/-! Nil0 -/
set_option Elab.async false
set_option maxRecDepth 100000
set_option linter.all false
set_option maxHeartbeats 4000000
namespace Lk
open PySem PySem.Spec PyProof.Rows L2
/-! ### xs == [], xs != [], whatever xs holds -/
def rEqNil (K : PySem.W.Frag) : R2 := fun x y H Q => ∃ (a b : Addr) (xs : List V), x = .ref a ∧ y = .ref b ∧ SqL K H a xs ∧ SqL K H b [] ∧ Q (.bl xs.isEmpty) H
def rNeNil (K : PySem.W.Frag) : R2 := fun x y H Q => ∃ (a b : Addr) (xs : List V), x = .ref a ∧ y = .ref b ∧ SqL K H a xs ∧ SqL K H b [] ∧ Q (.bl (!xs.isEmpty)) H
section
variable {X : Cx}
theorem op_eqNil (hu : X.A.units + 64 < cLine) : OpR X (compareOp .Eq) (rEqNil X.K) := by
  intro pins s σ H x y v u Q I rx ry h
  obtain ⟨a, b, xs, rfl, rfl, ha, hb, q⟩ := h
  cases xs with
  | nil => exact op_eqD hu pins s σ H (.ref a) (.ref b) v u Q I rx ry ⟨.list [], .list [], .lst ha .nil, .lst hb .nil, rfl, rfl, q⟩
  | cons y ys =>
    cases rx
    cases ry
    obtain ⟨us, r1, p1, _⟩ := I.list ha
    obtain ⟨ws, r2, p2, _⟩ := I.list hb
    obtain ⟨⟨c1, d1, e1, l1⟩, ho1, hc1, n1, hd1⟩ := p1.isList
    obtain ⟨⟨c2, d2, e2, l2⟩, ho2, hc2, n2, hd2⟩ := p2.isList
    simp only at hc1 hd1 hc2 hd2
    subst hc1 hd1 hc2 hd2
    have sz : (us.toArray.size != ws.toArray.size) = true := by
      have z1 := r1.length
      have z2 := r2.length
      rw [List.size_toArray, List.size_toArray, ← z1, ← z2]
      rfl
    exact wpAny_richCompare_same_room (op := .Eq) (show s.TypeIs (.ref a) "list" from ⟨_, ho1, rfl⟩) (show s.TypeIs (.ref b) "list" from ⟨_, ho2, rfl⟩) F.slot_list_eq
      (call_meets F.slot_list_eq ⟨_, ho1, rfl⟩ F.entry_list_eq (F.args_list_eq_2 _ _) (SeqAt.list_eq_lengthsAt a b _ _ n1 n2 d1 d2 l1 l2 sz) ⟨ho1, ho2, show Value.bool false ≠ Value.notImplemented ∧ _ from ⟨(fun x => nomatch x), ⟨.bl false, H, I, rfl, q⟩⟩⟩) (by omega)
theorem op_neNil (hu : X.A.units + 64 < cLine) : OpR X (compareOp .NotEq) (rNeNil X.K) := by
  intro pins s σ H x y v u Q I rx ry h
  obtain ⟨a, b, xs, rfl, rfl, ha, hb, q⟩ := h
  cases xs with
  | nil => exact op_neD hu pins s σ H (.ref a) (.ref b) v u Q I rx ry ⟨.list [], .list [], .lst ha .nil, .lst hb .nil, rfl, rfl, q⟩
  | cons y ys =>
    cases rx
    cases ry
    obtain ⟨us, r1, p1, _⟩ := I.list ha
    obtain ⟨ws, r2, p2, _⟩ := I.list hb
    obtain ⟨⟨c1, d1, e1, l1⟩, ho1, hc1, n1, hd1⟩ := p1.isList
    obtain ⟨⟨c2, d2, e2, l2⟩, ho2, hc2, n2, hd2⟩ := p2.isList
    simp only at hc1 hd1 hc2 hd2
    subst hc1 hd1 hc2 hd2
    have sz : (us.toArray.size != ws.toArray.size) = true := by
      have z1 := r1.length
      have z2 := r2.length
      rw [List.size_toArray, List.size_toArray, ← z1, ← z2]
      rfl
    exact wpAny_richCompare_same_room (op := .NotEq) (show s.TypeIs (.ref a) "list" from ⟨_, ho1, rfl⟩) (show s.TypeIs (.ref b) "list" from ⟨_, ho2, rfl⟩) F.slot_list_ne
      (call_meets F.slot_list_ne ⟨_, ho1, rfl⟩ F.entry_list_ne (F.args_list_ne_2 _ _) (SeqAt.list_ne_lengthsAt a b _ _ n1 n2 d1 d2 l1 l2 sz) ⟨ho1, ho2, show Value.bool true ≠ Value.notImplemented ∧ _ from ⟨(fun x => nomatch x), ⟨.bl true, H, I, rfl, q⟩⟩⟩) (by omega)
end
end Lk

/-! TupG3 -/
set_option Elab.async false
set_option maxRecDepth 100000
set_option linter.all false
set_option maxHeartbeats 4000000
namespace Lk
open PySem PySem.Spec PyProof.Rows L2
section
variable {P : Program} {w : World} {κ : Type} [DecidableEq κ] {knd : HeapKind P w κ} {B : κ → Addr → Prop} {A : Around} {E : Value → Shared → Prop} {s : Shared}
set_option maxRecDepth 100000 in
theorem call_set_M (M : Mem knd) {l : Addr} {items : Array Value} {ks : List κ} {Q : Value → Shared → Prop} (hh : A.handled = none) (hl : s.heap.IsList l items) (len : items.size = ks.length) (few : ks.length ≤ 4000) (room : ∀ A' : Around, A'.units ≤ A.units + 8 → knd.room A') (C : Sees knd B s.heap)
    (item : ∀ (i : Nat) (v : Value), items[i]? = some v → ∃ k b, ks[i]? = some k ∧ v = .ref b ∧ B k b)
    (h : ∀ (h' : Heap) (tk : Nat) (us : List κ), TSet knd B h' s.heap.objs.size us → (∀ k, k ∈ us ↔ k ∈ ks) → (∀ b o, s.heap.get? b = some o → h'.get? b = some o) → Q (.ref s.heap.objs.size) { s with heap := h', toks := tk }) :
    wpAny (model P w) A (call (.type "set") [.ref l]) Q E s := by
  obtain ⟨c, tl, hmro⟩ := F.called_set.mro
  have hmade := F.called_set.made
  have hsub := F.called_set.sub
  refine wpAny_call (codeAny_of_tree ?_)
  show wpAny _ _ (callAny (.type "set") _) _ _ _
  refine wpAny_pure ⟨Code.quiet_builtin _ (by decide +kernel), codeAny_builtin F.entry_type_call ?_⟩
  rw [Around.under_plain (weight_type_call_type "set" [.ref l] []) rfl]
  have h1 := F.called_set.notType
  have h2 := F.called_set.canCreate
  have hct := F.typeCall_set_1 (.ref l)
  repeat (any_goals (first | assumption | wp_step))
  refine codeAny_mono (code_set_led1 (.ref l) (E := E) (Q₁ := fun obj s₁ => obj = .ref s.heap.objs.size ∧ s₁ = { s with heap := s.heap.push { cls := .type "set", dict := none, data := .set #[] 0 (.fresh 0 0 (!w.params.followText "set-order")) } }) ⟨rfl, rfl⟩) fun r s₁ hr => ?_
  match r, hr with
  | .error e, hr => exact hr
  | .ok .next, hr => exact hr.elim
  | .ok .brk, hr => exact hr.elim
  | .ok .cont, hr => exact hr.elim
  | .ok (.ret obj), ⟨eo, es⟩ =>
    subst eo es
    have hS : (s.heap.push { cls := .type "set", dict := none, data := .set #[] 0 (.fresh 0 0 (!w.params.followText "set-order")) }).get? s.heap.objs.size = some { cls := .type "set", dict := none, data := .set #[] 0 (.fresh 0 0 (!w.params.followText "set-order")) } := Heap.get?_push_size _ rfl
    have hT : Shared.TypeIs { s with heap := s.heap.push { cls := .type "set", dict := none, data := .set #[] 0 (.fresh 0 0 (!w.params.followText "set-order")) } } (.ref s.heap.objs.size) "set" := ⟨_, hS, rfl⟩
    have hli := F.called_set.init.lookup
    have hbi := F.called_set.init.bind (.ref s.heap.objs.size)
    repeat (any_goals (first | assumption | wp_step))
    refine codeAny_mono (codeAny_call_builtin (R := wants (fun r s₂ => r = .none ∧ ∃ h' tk us, s₂ = { s with heap := h', toks := tk } ∧ TSet knd B h' s.heap.objs.size us ∧ (∀ k, k ∈ us ↔ k ∈ ks) ∧
        (∀ b o, s.heap.get? b = some o → h'.get? b = some o)) E) F.called_set.init.plain F.entry_set_init (check_set_init_1 hT ?_)) fun r₂ s₂ hr₂ => ?_
    · obtain ⟨⟨ocls, odict, odata, oslots⟩, hol, hcl, nl, hdl⟩ := hl
      simp only at hcl hdl
      subst hcl hdl
      have hol' : (s.heap.push { cls := .type "set", dict := none, data := .set #[] 0 (.fresh 0 0 (!w.params.followText "set-order")) }).get? l = some { cls := .type "list", dict := odict, data := .seq items nl, slots := oslots } := Heap.get?_push_of_some _ hol
      have hsls := F.sub_list_set
      have hslf := F.sub_list_frozenset
      have hne : (Value.type "list" == Value.type "dict") = false := by decide
      have hl1 : (s.heap.push { cls := .type "set", dict := none, data := .set #[] 0 (.fresh 0 0 (!w.params.followText "set-order")) }).IsList l items := ⟨_, hol', rfl, nl, rfl⟩
      unfold Builtin.«set.__init__» noKeywords Builtin.Frozenset.updateFrom
      generalize hPI : pyIter = PI
      wp_walk
      subst hPI
      refine wpAny_pyIter_list hl1 ?_
      refine wpAny_bind (wpAny_runValue ?_)
      have lt : l < s.heap.objs.size := Heap.lt_size hol
      have sz : (s.heap.push { cls := .type "set", dict := none, data := .set #[] 0 (.fresh 0 0 (!w.params.followText "set-order")) }).objs.size = s.heap.objs.size + 1 := Heap.size_push ..
      have quiet : A.in1.in1.in1.handled = none := by simp [hh]
      have n1 : l ≠ (s.heap.push { cls := .type "set", dict := none, data := .set #[] 0 (.fresh 0 0 (!w.params.followText "set-order")) }).objs.size := by
        rw [Heap.size_push]
        exact Nat.ne_of_lt (Nat.lt_succ_of_lt lt)
      have n2 : s.heap.objs.size ∉ [(s.heap.push { cls := .type "set", dict := none, data := .set #[] 0 (.fresh 0 0 (!w.params.followText "set-order")) }).objs.size, l] := by
        rw [Heap.size_push]
        simp only [List.mem_cons, List.not_mem_nil, or_false, not_or]
        exact ⟨Nat.ne_of_lt (Nat.lt_succ_self _), Nat.ne_of_gt lt⟩
      have none_at : ∀ b, s.heap.objs.size ≤ b → s.heap.get? b = none := fun b hb => by
        cases q : s.heap.get? b with
        | none => rfl
        | some o => exact absurd (Nat.lt_of_lt_of_le (Heap.lt_size q) hb) (Nat.lt_irrefl _)
      refine tset_loop (knd := knd) (B := B) (ks := ks) (h0 := s.heap) M ((Walks.list quiet _ l n1 items).toS) n2 len few (room _ (by simp)) (fun b hb => ?fresh) C item ?hR (items.size - 0) 0 _ [] rfl (Nat.zero_le _) ⟨⟨_, Heap.get?_push_size _ rfl, rfl, rfl⟩, (hl1.push _)⟩ (Moved.refl fun _ => rfl) (fun b o e => Heap.get?_push_of_some _ (Heap.get?_push_of_some _ e)) ?hS0 (fun k => by simp) (Nat.le_refl 0)
      case fresh =>
        rcases List.mem_cons.mp hb with e | hb
        · rw [e]
          exact none_at _ (Nat.le_refl _)
        · rw [List.mem_singleton.mp hb, Heap.size_push]
          exact none_at _ (Nat.le_succ _)
      case hS0 => exact tset_new (Heap.get?_push_of_some _ hS)
      case hR =>
        rintro ⟨h', g2, d', tk', os'⟩ us mv kp R2 mem
        have eg := mv.gens
        have ed := mv.drawn
        have eo := mv.os
        dsimp only at eg ed eo
        subst eg ed eo
        show wpAny _ _ _ _ _ _
        refine wpAny_pure ?_
        show wpAny _ _ (ret Value.none) _ _ _
        exact wpAny_pure ⟨rfl, h', tk', us, rfl, R2, mem, kp⟩
    · match r₂, hr₂ with
      | .error e, hr₂ => exact hr₂
      | .ok .next, hr₂ => exact hr₂.elim
      | .ok .brk, hr₂ => exact hr₂.elim
      | .ok .cont, hr₂ => exact hr₂.elim
      | .ok (.ret r), ⟨er, h', tk, us, es, R2, mem, kp⟩ =>
        subst er es
        repeat (any_goals (first | assumption | wp_step))
        exact h _ _ _ R2 mem kp
end
end Lk

/-! TupS1 -/
set_option Elab.async false
set_option maxRecDepth 100000
set_option linter.all false
set_option maxHeartbeats 4000000
namespace Lk
open PySem PySem.Spec PyProof.Rows L2
/-! ### sets of pairs (length, text) over the layer -/
def keyP (x : Str) : List Key := [Sum.inl (x.length : Int), Sum.inr x]
def unP : List Key → Str
  | [_, Sum.inr x] => x
  | _ => Str.empty
def vP (x : Str) : List V := [V.int (x.length : Int), V.str x]
def encK : Key → PyData
  | .inl n => .int n
  | .inr x => .str x
def encP (k : List Key) : PyData := .tuple (k.map encK)
/-- which pair stands at which address -/
def InL (L : List (Addr × Str)) (k : List Key) (b : Addr) : Prop := ∃ x, (b, x) ∈ L ∧ k = keyP x
def SetPr (P : Program) (w : World) (L : List (Addr × Str)) (a : Addr) (us : List Str) : HO := .ext fun h => TSet (tupleKind (mixKind P w)) (InL L) h a (us.map keyP)
theorem un_keys {us : List (List Key)} {L : List (Addr × Str)} (h : ∀ k ∈ us, k ∈ L.map fun p => keyP p.2) : (us.map unP).map keyP = us := by
  rw [List.map_map]
  refine (List.map_congr_left fun k m => ?_).trans (List.map_id _)
  obtain ⟨p, _, rfl⟩ := List.mem_map.mp (h k m)
  rfl
theorem keyP_inj {x y : Str} (h : keyP x = keyP y) : x = y := by
  injection h with _ h
  injection h with h _
  injection h
/-- the order of such pairs is the order of names -/
theorem leP {x y : Str} (h : PySem.W.dataLe false encP (keyP x) (keyP y) = true) : leA x y := by
  rw [PySem.W.dataLe_eq] at h
  have h1 : (!PySem.W.dataLt (.tuple [.int (y.length : Int), .str y]) (.tuple [.int (x.length : Int), .str x])) = true := h
  rw [PySem.W.dataLt_pair (by rfl) (by rfl), PySem.W.dataLt_int, PySem.W.dataLt_str] at h1
  simp only [PyData.eqv, beq_iff_eq, Bool.not_eq_true', Int.natCast_inj] at h1
  by_cases e : y.length = x.length
  · rw [if_pos e] at h1
    by_cases f : y = x
    · exact .inr ⟨e.symm, by rw [f]; exact decide_eq_true (List.le_refl _)⟩
    · rw [if_neg f] at h1
      exact .inr ⟨e.symm, decide_eq_true (List.not_lt.mp (of_decide_eq_false h1))⟩
  · rw [if_neg e] at h1
    have z := of_decide_eq_false h1
    exact .inl (by omega)
section
variable {X : Cx}
theorem items_mix {P : Program} {w : World} {n : Int} {x : Str} {us : List Value} (h : Vals [V.int n, V.str x] us) : ItemsAre (mixKind P w) [Sum.inl n, Sum.inr x] us := by
  cases h with
  | cons r t =>
    cases t with
    | cons r2 t =>
      cases t
      obtain ⟨t1, rfl⟩ := r
      obtain ⟨t2, rfl⟩ := r2
      exact .cons (keyIs_int n t1) (.cons (keyIs_str x t2) .nil)
theorem isP {pins : List (Addr × Obj)} {σ : L2.St} {H : Hp} {s : Shared} {b : Addr} {x : Str} (I : Inv X pins σ H s) (h : SqT X.K H b (vP x)) : IsTupleKey (mixKind X.prog X.w) s.heap (keyP x) b ∧ Reads s.heap (.ref b) (encP (keyP x)) [] := by
  obtain ⟨its, r, ⟨o, ho, hc, n, hd⟩, _⟩ := I.tuple h
  refine ⟨⟨o, its.toArray, n, ho, hc, hd, items_mix r⟩, ?_⟩
  cases r with
  | cons r t =>
    cases t with
    | cons r2 t =>
      cases t
      obtain ⟨t1, rfl⟩ := r
      obtain ⟨t2, rfl⟩ := r2
      exact .tuple ho hc hd (.cons (.int _ t1) (.cons (.str _ t2) .nil))
def rSetPr (K : PySem.W.Frag) (P : Program) (w : World) : List V → Hp → VK → Prop := fun xs H Q => ∃ (l : Addr) (L : List (Addr × Str)), xs = [.ref l] ∧ SqL K H l (L.map fun p => V.ref p.1) ∧ (∀ p ∈ L, SqT K H p.1 (vP p.2)) ∧ L.length ≤ 4000 ∧
  ∀ (p : Addr) (us : List Str), H p = none → us.Nodup → (∀ x, x ∈ us ↔ x ∈ L.map (·.2)) → Q (.ref p) (upd H p (SetPr P w L p us))
theorem call_setPr (calm : X.calm = true) (hu : X.A.units + 64 < cLine) : CallR X (.type "set") (rSetPr X.K X.prog X.w) := by
  intro pins s σ H xs us Q I r h
  obtain ⟨l, L, rfl, hl, ht, few, q⟩ := h
  rw [Vals.ref1 r]
  have hn : H s.heap.objs.size = none := I.hok.fresh (Nat.le_refl _)
  obtain ⟨its, rv, pl, hz⟩ := I.list hl
  have ei : its = L.map fun p => Value.ref p.1 := by
    clear hl ht few q hz pl
    induction L generalizing its with
    | nil => cases rv; rfl
    | cons p L ih =>
      cases rv with
      | cons r t =>
        cases r
        rw [ih _ t]
        rfl
  have keys : ∀ (i : Nat) (v : Value), its.toArray[i]? = some v → ∃ k b, (L.map fun p => keyP p.2)[i]? = some k ∧ v = .ref b ∧ InL L k b := fun i v hv => by
    have h2 : its[i]? = some v := by simpa using hv
    rw [ei, List.getElem?_map] at h2
    obtain ⟨p, hp, e⟩ := Option.map_eq_some_iff.mp h2
    exact ⟨keyP p.2, p.1, by rw [List.getElem?_map, hp]; rfl, e.symm, p.2, List.mem_of_getElem? hp, rfl⟩
  refine call_set_M (knd := tupleKind (mixKind X.prog X.w)) (B := InL L) (ks := L.map fun p => keyP p.2) mixMem (I.ok.hd calm) pl.isList (by rw [List.size_toArray, ei, List.length_map, List.length_map]) (by rw [List.length_map]; exact few)
    (fun A' le => by show A'.units < cLine; omega) (fun k b ⟨x, m, e⟩ => by rw [e]; exact (isP I (ht _ m)).1) keys fun h' tk us R mem kp => ?_
  have eu := un_keys fun k m => (mem k).mp m
  refine ⟨.ref s.heap.objs.size, upd H s.heap.objs.size (SetPr X.prog X.w L s.heap.objs.size (us.map unP)), I.laid (t' := tk) kp (Nat.le_refl _) ?_, rfl, q _ (us.map unP) hn ?_ fun x => ?_⟩
  · refine ⟨by show TSet _ _ _ _ _; rw [eu]; exact R, ?_, fun _ _ z k => TSet.at z k⟩
    obtain ⟨_, _, _, _, R1, _⟩ := R
    obtain ⟨o, ho, _⟩ := R1.here
    exact ⟨o, ho⟩
  · have nd := R.nodup
    rw [← eu] at nd
    exact List.Pairwise.of_map keyP (fun _ _ ne e => ne (congrArg keyP e)) nd
  · constructor
    · intro m
      obtain ⟨k, hk, e⟩ := List.mem_map.mp m
      obtain ⟨p, hp, e2⟩ := List.mem_map.mp ((mem k).mp hk)
      rw [← e, ← e2]
      exact List.mem_map.mpr ⟨p, hp, rfl⟩
    · intro m
      obtain ⟨p, hp, e⟩ := List.mem_map.mp m
      exact List.mem_map.mpr ⟨keyP p.2, (mem _).mpr (List.mem_map.mpr ⟨p, hp, rfl⟩), e⟩
/-- sorted(s), s such a set -/
def rSortedPr (K : PySem.W.Frag) (P : Program) (w : World) : List V → Hp → VK → Prop := fun xs H Q => ∃ (a : Addr) (L : List (Addr × Str)) (us : List Str), xs = [.ref a] ∧ H a = some (SetPr P w L a us) ∧ (∀ p ∈ L, SqT K H p.1 (vP p.2)) ∧
  ∀ (p : Addr) (M : List (Addr × Str)), H p = none → (∀ m ∈ M, m ∈ L) → (M.map (·.2)).Perm us → (M.map (·.2)).Pairwise leA → Q (.ref p) (upd H p (.lst (M.map fun m => V.ref m.1)))
theorem each_pairs {L : List (Addr × Str)} : ∀ {out : List Value} {cs : List (List Key)}, PySem.W.EachIs (At (InL L)) out cs → ∃ M : List (Addr × Str), (∀ m ∈ M, m ∈ L) ∧ out = M.map (fun m => Value.ref m.1) ∧ cs = M.map fun m => keyP m.2
  | _, _, .nil => ⟨[], (fun _ m => nomatch m), rfl, rfl⟩
  | _, _, .cons ⟨b, e1, x, m, e2⟩ t => by
    obtain ⟨M, h1, h2, h3⟩ := each_pairs t
    refine ⟨(b, x) :: M, fun y my => ?_, by rw [List.map_cons, ← h2, e1], by rw [List.map_cons, ← h3, e2]⟩
    rcases List.mem_cons.mp my with e | my
    · rw [e]
      exact m
    · exact h1 y my
theorem call_sortedPr (calm : X.calm = true) (hu : X.A.units + 64 < cLine) : CallR X (.builtin "sorted") (rSortedPr X.K X.prog X.w) := by
  intro pins s σ H xs us Q I r h
  obtain ⟨a, L, ks, rfl, ha, ht, q⟩ := h
  have R : TSet (tupleKind (mixKind X.prog X.w)) (InL L) s.heap a (ks.map keyP) := (I.hok a _ ha).1
  rw [Vals.ref1 r]
  have shape : ∀ d ∈ (ks.map keyP).map encP, ∃ x : Str, d = .tuple [.int (x.length : Int), .str x] := fun d m => by
    obtain ⟨k, hk, e⟩ := List.mem_map.mp m
    obtain ⟨x, _, e2⟩ := List.mem_map.mp hk
    exact ⟨x, by rw [← e, ← e2]; rfl⟩
  refine tset_sorted R (I.ok.hd calm) encP (fun k b _ ⟨x, m, e⟩ => by rw [e]; exact (isP I (ht _ m)).2) (fun d m d' m' => ?_) (.inl fun d m => ?_) (fun k m => ?_) fun s' p out c cs kp g o hp hg ev pm pw => ?_
  · obtain ⟨x, rfl⟩ := shape d m
    obtain ⟨y, rfl⟩ := shape d' m'
    rfl
  · obtain ⟨x, rfl⟩ := shape d m
    exact ⟨_, _, rfl⟩
  · obtain ⟨x, _, rfl⟩ := List.mem_map.mp m
    show X.A.units + 2 + 1 < cLine
    omega
  · obtain ⟨M, h1, h2, h3⟩ := each_pairs ev
    have hn : H p = none := I.hok.fresh hp
    have few : (ks.map keyP).length ≤ 4000 := by
      obtain ⟨ls, _, _, _, R1, pm1⟩ := R
      rw [← pm1.length_eq]
      exact R1.few
    have lenM : M.length ≤ 4000 := by
      have z := pm.length_eq
      rw [h3, List.length_map] at z
      omega
    have hlen : (M.map fun m => V.ref m.1).length ≤ sizeLine := by
      rw [List.length_map, sizeLine_eq]
      omega
    have hv : Vals (M.map fun m => V.ref m.1) out := by
      rw [h2]
      clear h1 h2 h3 lenM hlen ev
      induction M with
      | nil => exact .nil
      | cons m M ih => exact .cons rfl ih
    have J : Inv X pins σ (upd H p (.lst (M.map fun m => V.ref m.1))) { s with heap := s'.heap, gens := s'.gens, drawn := s'.drawn, toks := s'.toks } :=
      I.call (ch := []) (Un.laid kp hp hn) (I.hok.laid kp hp ⟨hlen, out, c, hv, hg⟩) (by rw [g]; exact I.bare) (fun _ z => nomatch z)
    have e : s' = { s with heap := s'.heap, gens := s'.gens, drawn := s'.drawn, toks := s'.toks } := by
      cases s'
      cases s
      cases o
      rfl
    rw [e]
    refine ⟨.ref p, _, J, rfl, q p M hn h1 ?_ ?_⟩
    · rw [h3] at pm
      have z := pm.map unP
      rw [List.map_map, List.map_map] at z
      have e1 : (unP ∘ fun m : Addr × Str => keyP m.2) = fun m => m.2 := rfl
      have e2 : ks.map (unP ∘ keyP) = ks := (List.map_congr_left fun _ _ => rfl).trans (List.map_id _)
      rw [e1, e2] at z
      exact z
    · rw [h3, List.pairwise_map] at pw
      rw [List.pairwise_map]
      exact pw.imp fun h => leP h
end
end Lk

/-! DctN0 -/
set_option Elab.async false
set_option maxRecDepth 100000
set_option linter.all false
set_option maxHeartbeats 4000000
namespace Lk
open PySem PySem.Spec PyProof.Rows L2
/-! ### dicts whose keys are pairs of a text and a tuple of numbers -/
abbrev NK := Str × List Nat
def nk (p : NK) : NestedKey := .tup [.text p.1, .tup (p.2.map fun n : Nat => .num (n : Int))]
theorem nums_inj : ∀ {a b : List Nat}, (a.map fun n : Nat => NestedKey.num (n : Int)) = b.map (fun n : Nat => NestedKey.num (n : Int)) → a = b
  | [], [], _ => rfl
  | [], _ :: _, e => nomatch e
  | _ :: _, [], e => nomatch e
  | x :: xs, y :: ys, e => by
    rw [List.map_cons, List.map_cons] at e
    injection e with e1 e2
    injection e1 with e1
    rw [nums_inj e2]
    congr 1
    exact Int.ofNat.inj e1
theorem nk_inj {p q : NK} (h : nk p = nk q) : p = q := by
  obtain ⟨a, b⟩ := p
  obtain ⟨c, d⟩ := q
  unfold nk at h
  injection h with h
  injection h with h1 h2
  injection h1 with h1
  injection h2 with h2 _
  injection h2 with h2
  have e1 : a = c := h1
  have e2 : b = d := nums_inj h2
  rw [e1, e2]
theorem nums_depth : ∀ ns : List Nat, NestedKey.depthAll (ns.map fun n : Nat => NestedKey.num (n : Int)) = 0
  | [] => rfl
  | x :: xs => by
    rw [List.map_cons, NestedKey.depthAll, nums_depth xs]
    rfl
theorem nk_depth (p : NK) : (nk p).depth ≤ 8 := by
  unfold nk
  simp [NestedKey.depth, NestedKey.depthAll, nums_depth]
def KeyAt (H : Hp) (b : Addr) (p : NK) : Prop := ∃ t, H b = some (.tup [.str p.1, .ref t]) ∧ H t = some (.tup (p.2.map fun n : Nat => V.int (n : Int)))
theorem KeyAt.keeps {H H' : Hp} {b : Addr} {p : NK} (h : KeyAt H b p) (k : ∀ c xs, H c = some (.tup xs) → H' c = some (.tup xs)) : KeyAt H' b p := by
  obtain ⟨t, h1, h2⟩ := h
  exact ⟨t, k _ _ h1, k _ _ h2⟩
theorem nested_nums {h : Heap} : ∀ {ns : List Nat} {us : List Value}, Vals (ns.map fun n : Nat => V.int (n : Int)) us → NestedAll h (ns.map fun n : Nat => NestedKey.num (n : Int)) us
  | [], _, r => by
    cases r
    exact .nil
  | n :: ns, _, r => by
    rw [List.map_cons] at r
    cases r with
    | cons h1 t =>
      obtain ⟨tk, rfl⟩ := (show ∃ t, _ = Value.int (n : Int) t from h1)
      rw [List.map_cons]
      exact .cons (.int _ tk) (nested_nums t)
section
variable {P : Program} {w : World} {H : Hp} {h : Heap} {a b d : Addr}
theorem keyN {p : NK} (ok : HOk P w H h) (e : KeyAt H b p) : (nestedKind P w).is h (nk p) b := by
  obtain ⟨t, e1, e2⟩ := e
  obtain ⟨_, its, r, o, h1, h2, n, h3⟩ := (show ObjOk P w H h b (.tup [.str p.1, .ref t]) from ok b _ e1)
  obtain ⟨_, its2, r2, o2, g1, g2, n2, g3⟩ := (show ObjOk P w H h t (.tup (p.2.map fun n : Nat => V.int (n : Int))) from ok t _ e2)
  refine ⟨?_, nk_depth p⟩
  cases r with
  | cons r1 r =>
    cases r with
    | cons r3 r =>
      cases r
      obtain ⟨tk, rfl⟩ := (show ∃ t, _ = Value.str p.1 t from r1)
      cases (show _ = Value.ref t from r3)
      exact .tup h1 h2 h3 (.cons (.text _ tk) (.cons (.tup g1 g2 g3 (by simpa using nested_nums r2)) .nil))
def DN (P : Program) (w : World) (d : Addr) (xs : List (NestedKey × Addr × Value)) : HO :=
  .ext fun h => (d == sysModules) = false ∧ ∃ o es ep, h.get? d = some o ∧ o.ExactDict ∧ o.data = .dict es ep ∧ es.toList = xs.map (entryOfKey (nestedKind P w)) ∧ (xs.map (·.1)).Nodup
abbrev KN (H : Hp) : List (NK × V) → List (NestedKey × Addr × Value) → Prop := Paired fun p q => q.1 = nk p.1 ∧ KeyAt H q.2.1 p.1 ∧ RelV p.2 q.2.2
def NAt (P : Program) (w : World) (H : Hp) (d : Addr) (kvs : List (NK × V)) : Prop := kvs.length ≤ sizeLine ∧ ((kvs = [] ∧ H d = some (.dK [])) ∨ ∃ xs, H d = some (DN P w d xs) ∧ KN H kvs xs)
theorem KN.val {H : Hp} {kvs : List (NK × V)} {xs : List (NestedKey × Addr × Value)} (r : KN H kvs xs) (k : NK) : RelO (valV kvs k) ((atKey xs (nk k)).map (·.2)) := by
  induction r with
  | nil => exact True.intro
  | @cons p q ps qs h t ih =>
    obtain ⟨h1, _, h2⟩ := h
    by_cases e : p.1 = k
    · have e' : q.1 = nk k := h1.trans (congrArg nk e)
      have b : atKey (q :: qs) (nk k) = some q.2 := by simp [atKey, List.find?_cons, e']
      rw [valV_pos e, b]; exact h2
    · have e' : ¬ q.1 = nk k := fun z => e (nk_inj (h1.symm.trans z))
      have b : atKey (q :: qs) (nk k) = atKey qs (nk k) := by simp [atKey, List.find?_cons, e']
      rw [valV_neg e, b]; exact ih
theorem KN.repl {H : Hp} {kvs : List (NK × V)} {xs : List (NestedKey × Addr × Value)} (r : KN H kvs xs) (k : NK) {y : V} {u : Value} (ry : RelV y u) :
    KN H (kvs.map fun kv => if kv.1 = k then (kv.1, y) else kv) (xs.map (putAt (nk k) u)) := by
  induction r with
  | nil => exact .nil
  | @cons p q ps qs h t ih =>
    rw [List.map_cons, List.map_cons]
    refine .cons ?_ ih
    obtain ⟨h1, h2, h3⟩ := h
    unfold putAt
    by_cases e : p.1 = k
    · rw [if_pos e, if_pos (h1.trans (congrArg nk e))]; exact ⟨h1, h2, ry⟩
    · rw [if_neg e, if_neg (fun z => e (nk_inj (h1.symm.trans z)))]; exact ⟨h1, h2, h3⟩
theorem KN.put {H : Hp} {kvs : List (NK × V)} {xs : List (NestedKey × Addr × Value)} (r : KN H kvs xs) (k : NK) {b : Addr} {y : V} {u : Value} (hb : KeyAt H b k) (ry : RelV y u) :
    KN H (putK kvs k y) (storedH xs (nk k) b u) := by
  have e : (kvs.any fun kv => decide (kv.1 = k)) = (atKey xs (nk k)).isSome := by
    rw [valV_any, (r.val k).isSome_eq, Option.isSome_map]
  unfold putK storedH
  rw [e]
  by_cases q : (atKey xs (nk k)).isSome = true
  · rw [if_pos q, if_pos q]; exact r.repl k ry
  · rw [if_neg q, if_neg q]; exact Paired.snoc r ⟨rfl, hb, ry⟩
theorem KN.keeps {H H' : Hp} {kvs : List (NK × V)} {xs : List (NestedKey × Addr × Value)} (r : KN H kvs xs) (ht : ∀ b ys, H b = some (.tup ys) → H' b = some (.tup ys)) : KN H' kvs xs :=
  Paired.mapP r fun _ _ z => ⟨z.1, z.2.1.keeps ht, z.2.2⟩
theorem n_of {kvs : List (NK × V)} (ok : HOk P w H h) (g : NAt P w H d kvs) : (d == sysModules) = false ∧ ∃ xs, KN H kvs xs ∧ h.DictOfH (nestedKind P w) d xs := by
  obtain ⟨_, ⟨rfl, e⟩ | ⟨xs, e, r⟩⟩ := g
  · obtain ⟨_, hd, vs, rel, o, es, ep, h1, h2, h3, _, h5, _⟩ := dk_of ok e
    cases rel
    refine ⟨hd, [], .nil, o, es, ep, h1, h2, h3, ?_, (fun x hx => nomatch hx), List.nodup_nil⟩
    generalize es.toList = l at h5
    cases h5
    rfl
  · obtain ⟨⟨hd, o, es, ep, h1, h2, h3, h4, h5⟩, _⟩ := (show ObjOk P w H h d (DN P w d xs) from ok d _ e)
    refine ⟨hd, xs, r, o, es, ep, h1, h2, h3, h4, fun x hx => ?_, h5⟩
    have all : ∀ {l : List (NK × V)} {m : List (NestedKey × Addr × Value)}, KN H l m → ∀ x ∈ m, (nestedKind P w).is h x.1 x.2.1 := by
      intro l m q
      induction q with
      | nil => intro x hx; exact nomatch hx
      | @cons p q ps qs hq t ih =>
        intro x hx
        rcases List.mem_cons.mp hx with e | hx
        · subst e
          rw [hq.1]
          exact keyN ok hq.2.1
        · exact ih x hx
    exact all r x hx
theorem NAt.mut {kvs : List (NK × V)} (g : NAt P w H d kvs) : Mut (H d) := by
  obtain ⟨_, ⟨_, e⟩ | ⟨xs, e, _⟩⟩ := g
  · rw [e]
    exact True.intro
  · rw [e]
    exact True.intro
theorem NAt.notup {kvs : List (NK × V)} (g : NAt P w H d kvs) {ys : List V} : H d ≠ some (.tup ys) := by
  obtain ⟨_, ⟨_, e⟩ | ⟨xs, e, _⟩⟩ := g
  · rw [e]
    exact fun z => nomatch z
  · rw [e]
    exact fun z => nomatch z
theorem NAt.same {H' : Hp} {kvs : List (NK × V)} (g : NAt P w H d kvs) (hd : ∀ o, H d = some o → H' d = some o) (ht : ∀ b ys, H b = some (.tup ys) → H' b = some (.tup ys)) : NAt P w H' d kvs := by
  obtain ⟨z, ⟨e0, e⟩ | ⟨xs, e, r⟩⟩ := g
  · exact ⟨z, .inl ⟨e0, hd _ e⟩⟩
  · exact ⟨z, .inr ⟨xs, hd _ e, r.keeps ht⟩⟩
theorem NAt.new (e : H d = some (.dK [])) : NAt P w H d [] := ⟨Nat.zero_le _, .inl ⟨rfl, e⟩⟩
end
section
variable {X : Cx} {pins : List (Addr × Obj)} {σ : L2.St} {H : Hp} {s : Shared} {a b : Addr} {p : NK} {kvs : List (NK × V)} {v : V} {u r : Value} {A : Around} {E : Value → Shared → Prop}
theorem n_getItem {Q : Value → Shared → Prop} (hu : A.units + 9 < cLine) (I : Inv X pins σ H s) (g : NAt X.prog X.w H a kvs) (kb : KeyAt H b p) (hv : valV kvs p = some v) (h : ∀ w' s', Inv X pins σ H s' → RelV v w' → Q w' s') :
    wpAny (model X.prog X.w) A (getItem (.ref a) (.ref b)) Q E s := by
  obtain ⟨hd, xs, rel, dd⟩ := n_of I.hok g
  obtain ⟨w', hw, rw'⟩ := RelO.some_of (v := v) (o := (atKey xs (nk p)).map (·.2)) (by rw [← hv]; exact rel.val p)
  obtain ⟨q, hp, hp2⟩ := Option.map_eq_some_iff.mp hw
  refine wpAny_getItem_heap (show (nestedKind X.prog X.w).room A.in1 from (by show A.units + 1 + 8 < cLine; omega)) (keyN I.hok kb) dd hp ?_
  rw [hp2]
  exact h w' _ (I.tok _) rw'
theorem n_notIn {Q : Value → Shared → Prop} (hu : A.units + 9 < cLine) (I : Inv X pins σ H s) (g : NAt X.prog X.w H a kvs) (kb : KeyAt H b p) (h : ∀ s', Inv X pins σ H s' → Q (.bool (!(valV kvs p).isSome)) s') :
    wpAny (model X.prog X.w) A (compareOp .NotIn (.ref b) (.ref a)) Q E s := by
  obtain ⟨hd, xs, rel, dd⟩ := n_of I.hok g
  refine wpAny_notIn_heap (show (nestedKind X.prog X.w).room A.in1 from (by show A.units + 1 + 8 < cLine; omega)) (keyN I.hok kb) hd dd ?_
  have q := (rel.val p).isSome_eq
  rw [Option.isSome_map] at q
  rw [← q]
  exact h _ (I.tok _)
theorem n_setItem {Q : Unit → Shared → Prop} (hu : A.units + 9 < cLine) (I : Inv X pins σ H s) (g : NAt X.prog X.w H a kvs) (hl : kvs.length < sizeLine) (kb : KeyAt H b p) (rv : RelV v r)
    (h : ∀ o s', NAt X.prog X.w (upd H a o) a (putK kvs p v) → Inv X pins σ (upd H a o) s' → Q () s') : wpAny (model X.prog X.w) A (setItem (.ref a) (.ref b) r) Q E s := by
  obtain ⟨hd, xs, rel, dd⟩ := n_of I.hok g
  have hz : xs.length ≤ sizeLine := by rw [← Paired.length rel]; exact Nat.le_of_lt hl
  refine wpAny_setItem_heap (hsz := hz) (show (nestedKind X.prog X.w).room A.in1 from (by show A.units + 1 + 8 < cLine; omega)) (keyN I.hok kb) dd fun h' dd' hs => ?_
  obtain ⟨q, es, ep, hq, h2, h3, h4, _, h5⟩ := dd'
  have keep : ∀ c ys, H c = some (.tup ys) → upd H a (DN X.prog X.w a (storedH xs (nk p) b r)) c = some (.tup ys) := fun c ys ec => by
    have ne : c ≠ a := fun z => g.notup (z ▸ ec)
    rw [upd_ne ne]
    exact ec
  refine h (DN X.prog X.w a (storedH xs (nk p) b r)) _ ⟨?_, .inr ⟨_, upd_same, (rel.put p kb rv).keeps keep⟩⟩ (d_write I g.mut hs ⟨q, hq⟩ ⟨⟨hd, q, es, ep, hq, h2, h3, h4, h5⟩, ⟨q, hq⟩, ?_⟩)
  · have := length_putK kvs p v
    omega
  · rintro h1 h2' ⟨e0, o, es, ep, x1, x2⟩ k
    exact ⟨e0, o, es, ep, k _ x1, x2⟩
end
/-- d[y], y not in d, d[y] = v -/
def tNGet (P : Program) (w : World) (td ty : TE) : TE := fun σ H Q => td σ H fun x H1 => ty σ H1 fun y H2 => ∃ a b p kvs v, x = .ref a ∧ y = .ref b ∧ NAt P w H2 a kvs ∧ KeyAt H2 b p ∧ valV kvs p = some v ∧ Q v H2
def tNNotIn (P : Program) (w : World) (ty td : TE) : TE := fun σ H Q => ty σ H fun y H1 => td σ H1 fun x H2 => ∃ a b p kvs, x = .ref a ∧ y = .ref b ∧ NAt P w H2 a kvs ∧ KeyAt H2 b p ∧ Q (.bl (!(valV kvs p).isSome)) H2
def sNPut (P : Program) (w : World) (td ty tv : TE) : TS := fun D σ H => tv σ H fun v H1 => td σ H1 fun x H2 => ty σ H2 fun y H3 => ∃ a b p kvs, x = .ref a ∧ y = .ref b ∧ NAt P w H3 a kvs ∧ KeyAt H3 b p ∧ kvs.length < sizeLine ∧
  ∀ o, NAt P w (upd H3 a o) a (putK kvs p v) → D.nx σ (upd H3 a o)
section
variable {X : Cx} {o i value : Expr} {td ty tv : TE} {pos pos' : Pos}
theorem pe_nget (hu : X.A.units + 9 < cLine) (ho : PE X o td) (hi : PE X i ty) (hs : NoSl i) : PE X (.Subscript o i pos) (tNGet X.prog X.w td ty) := by
  refine ⟨fun pins s σ H Q I h => ?_⟩
  refine subD_of PySem.F.slot_dict_getitem.lookup hs (thn (ho.run pins s σ H _ I h) fun u s1 ⟨x, H1, I1, rx, q1⟩ => thn (hi.run pins s1 σ H1 _ I1 q1) fun iv s2 ⟨y, H2, I2, ry, a, b, p, kvs, v, ex, ey, g, kb, hv, q2⟩ => ?_)
  subst ex ey
  obtain rfl : u = Value.ref a := rx
  obtain rfl : iv = Value.ref b := ry
  obtain ⟨_, xs, _, dd⟩ := n_of I2.hok g
  exact ⟨dd.typeIs, n_getItem hu I2 g kb hv fun w' s3 I3 rw' => ⟨v, H2, I3, rw', q2⟩⟩
theorem pc_nnotin (hu : X.A.units + 9 < cLine) (hi : PE X i ty) (ho : PE X o td) : PC X .NotIn i o (tNNotIn X.prog X.w ty td) := by
  refine ⟨fun pins s σ H Q I h => ?_⟩
  refine thn (hi.run pins s σ H _ I h) fun iv s1 ⟨y, H1, I1, ry, q1⟩ => thn (ho.run pins s1 σ H1 _ I1 q1) fun u s2 ⟨x, H2, I2, rx, a, b, p, kvs, ex, ey, g, kb, q2⟩ => ?_
  subst ex ey
  obtain rfl : u = Value.ref a := rx
  obtain rfl : iv = Value.ref b := ry
  exact n_notIn hu I2 g kb fun s3 I3 => ⟨.bl (!(valV kvs p).isSome), H2, I3, rfl, q2⟩
theorem ps_nput (hu : X.A.units + 9 < cLine) (ho : PE X o td) (hi : PE X i ty) (hv : PE X value tv) (hs : swapsWith value (some (.Subscript o i pos')) pos.line X.env = pure false) :
    PS X (.Assign [.Subscript o i pos'] value pos) (sNPut X.prog X.w td ty tv) := by
  refine ⟨fun pins s σ H D I h => ?_⟩
  refine wpAny_Assign_Subscript (thn (hv.run pins s σ H _ I h) fun r s1 ⟨v, H1, I1, rv, q1⟩ => thn (ho.run pins s1 σ H1 _ I1 q1) fun u s2 ⟨x, H2, I2, rx, q2⟩ => thn (hi.run pins s2 σ H2 _ I2 q2) fun iv s3 ⟨y, H3, I3, ry, a, b, p, kvs, ex, ey, g, kb, hl, q3⟩ => ?_) hs
  subst ex ey
  obtain rfl : u = Value.ref a := rx
  obtain rfl : iv = Value.ref b := ry
  exact n_setItem hu I3 g hl kb rv fun o s4 g4 I4 => ⟨σ, _, I4, q3 o g4⟩
end
end Lk

/-! Obj0 -/
set_option Elab.async false
set_option maxRecDepth 100000
set_option linter.all false
set_option maxHeartbeats 4000000
namespace Lk
open PySem PySem.Spec PyProof.Rows L2
/-! ### own classes: their methods, called -/
/-- a method of the class at C, as it stands behind the top -/
structure DefM (K : PySem.W.Frag) (C : Addr) (m qn : String) (st : Stmt) : Prop where
  ex : ∃ (f : Addr) (fd : FuncData), L2.Fun K m qn st f fd ∧ Meth K C m f
/-- a class that is made by its own __init__ -/
structure Kls (K : PySem.W.Frag) (mg : Str → Option Value) (x : String) (C : Addr) : Prop where
  cl : Cls K C
  makes : PySem.W.makesIn K C = true
  kp : PySem.W.keepIn K (.ref C) = true
  mgC : mg x = some (.ref C)
/-- a method that may be called, with its promise -/
structure MCal (P : Program) (w : World) (K : PySem.W.Frag) (mg : Str → Option Value) (base : Heap) (C : Addr) (k : Nat) (m : String) (sp : Sp) : Prop where
  ex : ∃ (f : Addr) (fd : FuncData) (ps : List Str), FnOk P w K mg base CX0 k f fd ps sp ∧ Meth K C m f ∧ Binds K fd ps []
section
variable {P : Program} {w : World} {K : PySem.W.Frag} {mg : Str → Option Value} {base : Heap} {C : Addr}
theorem mkMCal {m qn : String} {st : Stmt} {N ps : List Str} {k : Nat} {sp : Sp} (D : DefM K C m qn st) (S : FnScope N ps (defScope st))
    (hb : ∀ (kV doc pm : Value) (an : Option Addr) (cdv ct : Value) (us : List Value), us.length = ps.length → bindArgs (PySem.W.fnOf m qn (defArgs st) (defBody st) (defScope st) .none kV doc pm an cdv ct) ⟨us, []⟩ = pure (ps.zip us))
    (len : ∀ vs H Q E, sp vs H Q E → vs.length = ps.length)
    (hbody : ∀ (f : Addr) (cdv : Value) (A : Around) (outer : List Env) (s : Shared) (H : Hp) (vs : List V) (Q : VK) (E : XK), Room k (A.deeper (envOfC qn (defScope st) s.heap.objs.size f cdv)) → sp vs H Q E →
      ∃ t, PSs (cxOf CX0 P w K mg base N qn (defScope st) f cdv A outer s H E).nox (defBody st) t ∧ t { nx := fun _ H' => Q .non H', rt := Q } (start N vs) H) : MCal P w K mg base C (k + 1) m sp := by
  obtain ⟨f, fd, F, m⟩ := D.ex
  exact ⟨f, fd, ps, F.ok S len fun cdv A outer s H vs Q E hr h => hbody f cdv A outer s H vs Q E hr h, m, F.binds hb⟩
theorem MCal.imp {m : String} {k : Nat} {sp sp' : Sp} (c : MCal P w K mg base C k m sp) (h : ∀ vs H Q E, sp' vs H Q E → sp vs H Q E) : MCal P w K mg base C k m sp' := by
  obtain ⟨f, fd, ps, F, a, b⟩ := c.ex
  exact ⟨f, fd, ps, F.imp h, a, b⟩
theorem MCal.mono {m : String} {j k : Nat} {sp : Sp} (c : MCal P w K mg base C j m sp) (h : j ≤ k) : MCal P w K mg base C k m sp := by
  obtain ⟨f, fd, ps, F, a, b⟩ := c.ex
  exact ⟨f, fd, ps, F.mono h, a, b⟩
/-- a promise that nobody can ask for -/
theorem mcal_never {m qn : String} {st : Stmt} {ps : List Str} {k : Nat} {sp : Sp} (D : DefM K C m qn st)
    (hb : ∀ (kV doc pm : Value) (an : Option Addr) (cdv ct : Value) (us : List Value), us.length = ps.length → bindArgs (PySem.W.fnOf m qn (defArgs st) (defBody st) (defScope st) .none kV doc pm an cdv ct) ⟨us, []⟩ = pure (ps.zip us))
    (no : ∀ vs H Q E, ¬ sp vs H Q E) : MCal P w K mg base C k m sp := by
  obtain ⟨f, fd, F, m⟩ := D.ex
  exact ⟨f, fd, ps, ⟨fun vs H Q E h => absurd h (no vs H Q E), fun A outer s H args us vs Q E _ _ _ _ h => absurd h (no vs H Q E)⟩, m, F.binds hb⟩
theorem Cal.mono {x : String} {j k : Nat} {sp : Sp} (c : Cal P w K mg base j x sp) (h : j ≤ k) : Cal P w K mg base k x sp := by
  obtain ⟨f, fd, ps, F, a, b, d⟩ := c.ex
  exact ⟨f, fd, ps, F.mono h, a, b, d⟩
theorem cal_never {x : String} {st : Stmt} {ps : List Str} {k : Nat} {sp : Sp} (D : Def1 K mg x st)
    (hb : ∀ (kV doc pm : Value) (an : Option Addr) (cdv ct : Value) (us : List Value), us.length = ps.length → bindArgs (PySem.W.fnOf x x (defArgs st) (defBody st) (defScope st) .none kV doc pm an cdv ct) ⟨us, []⟩ = pure (ps.zip us))
    (no : ∀ vs H Q E, ¬ sp vs H Q E) : Cal P w K mg base k x sp := by
  obtain ⟨f, fd, F, m⟩ := D.ex
  exact ⟨f, fd, ps, ⟨fun vs H Q E h => absurd h (no vs H Q E), fun A outer s H args us vs Q E _ _ _ _ h => absurd h (no vs H Q E)⟩, m, F.kp, F.binds hb⟩
end
theorem u9 {k : Nat} {A : Around} (r : Room k A) : A.units + 9 < cLine := by
  have := r.units
  omega
section
variable {X : Cx} {k j : Nat} {C : Addr} {m x : String} {sp : Sp} {p pos apos : Pos} {o e : Expr} {es : List Expr} {ta : TE} {t : TA}
theorem pe_mcal {pl : Sem Bool} (c : MCal X.prog X.w X.K X.mg X.base C k m sp) (cl : Cls X.K C) (hr : Room j X.A) (hk : k ≤ j) (he : PE X o ta) (ha : PA X (e :: es) t)
    (hst : starEach (e :: es) X.env = (false, eval e X.env) :: starEach es X.env := by rfl) (hpl : (backTo pos (starEach es X.env)).any (·.1) = false := by rfl)
    (ht : eval (.Call (.Attribute o m apos) (e :: es) [] pos) X.env = (do
      let ov ← eval o X.env
      standAt apos.atName
      let (f, first) ← holding [ov] (getMethod ov m pl)
      callWith pos f first (backTo pos (starEach (e :: es) X.env)) (backToKw pos (keywordEach [] X.env))) := by rfl) :
    PE X (.Call (.Attribute o m apos) (e :: es) [] pos) (tMeth C m sp [] E0 ta t) := by
  obtain ⟨f, fd, ps, F, hm, b⟩ := c.ex
  exact pe_meth he cl hm F (hr.mono hk) b .nil pass0 ha hst hpl ht
theorem pe_mcal0 {pl : Sem Bool} (c : MCal X.prog X.w X.K X.mg X.base C k m sp) (cl : Cls X.K C) (hr : Room j X.A) (hk : k ≤ j) (he : PE X o ta)
    (ht : eval (.Call (.Attribute o m apos) [] [] pos) X.env = (do
      let ov ← eval o X.env
      standAt apos.atName
      let (f, first) ← holding [ov] (getMethod ov m pl)
      callWith pos f first (backTo pos (starEach [] X.env)) (backToKw pos (keywordEach [] X.env))) := by rfl) :
    PE X (.Call (.Attribute o m apos) [] [] pos) (tMeth C m sp [] E0 ta tNil) := by
  obtain ⟨f, fd, ps, F, hm, b⟩ := c.ex
  exact pe_meth0 he cl hm F (hr.mono hk) b .nil pass0 ht
theorem pe_new (c : MCal X.prog X.w X.K X.mg X.base C k "__init__" sp) (Z : Kls X.K X.mg x C) (hr : Room j X.A) (hk : k + 1 ≤ j) (ha : PA X (e :: es) t) (hg : Gl X x := by rfl)
    (hdb : ((x : Str) == ("__debug__" : Str)) = false := by decide) (he : starEach (e :: es) X.env = (false, eval e X.env) :: starEach es X.env := by rfl) (hpl : (backTo pos (starEach es X.env)).any (·.1) = false := by rfl) :
    PE X (.Call (.Name x p) (e :: es) [] pos) (tMake C sp [] E0 t) := by
  obtain ⟨f, fd, ps, F, hm, b⟩ := c.ex
  exact pe_make ⟨Z.makes, hm.at_, hm.fn, Z.kp⟩ F (hr.mono hk) hg Z.mgC b .nil pass0 ha hdb he hpl
end
/-! within a comprehension: the reading speaks of K, not of the frame's own -/
theorem inL {X : Cx} {K : PySem.W.Frag} {tg l : Expr} {tl : TE} (h : PE X l tl) (e : X.K = K := by rfl) : PI X tg l (iList K tl) := e ▸ pi_list h
theorem inT {X : Cx} {K : PySem.W.Frag} {tg l : Expr} {tl : TE} (h : PE X l tl) (e : X.K = K := by rfl) : PI X tg l (iTup K tl) := e ▸ pi_tup h
/-! ### data of tuples and texts alone: it stands while one other thing is written -/
mutual
def onlyT : PyData → Bool
  | .none | .bool _ | .int _ | .str _ => true
  | .list _ => false
  | .tuple xs => onlyTs xs
  | .dict _ => false
def onlyTs : List PyData → Bool
  | [] => true
  | x :: xs => onlyT x && onlyTs xs
end
theorem onlyTs_all : ∀ {ds : List PyData}, onlyTs ds = true ↔ ∀ d ∈ ds, onlyT d = true
  | [] => ⟨(fun _ _ m => nomatch m), (fun _ => rfl)⟩
  | d :: ds => by
    rw [onlyTs, Bool.and_eq_true, onlyTs_all]
    exact ⟨fun h e m => (List.mem_cons.mp m).elim (fun z => z ▸ h.1) (h.2 e), fun h => ⟨h d List.mem_cons_self, fun e m => h e (List.mem_cons_of_mem _ m)⟩⟩
/-- all tuples and all that is locked stand -/
def Tups (H H' : Hp) : Prop := (∀ b xs, H b = some (.tup xs) → H' b = some (.tup xs)) ∧ ∀ b o u, H b = some (.frz o u) → H' b = some (.frz o u)
theorem Tups.seqT {K : PySem.W.Frag} {H H' : Hp} {a : Addr} {xs : List V} (t : Tups H H') (h : SqT K H a xs) : SqT K H' a xs := by
  rcases h with (h | ⟨o, h⟩) | h
  · exact .inl (.inl (t.1 _ _ h))
  · exact .inl (.inr ⟨o, t.2 _ _ _ h⟩)
  · exact .inr h
theorem Same.tups {H H' : Hp} (s : Same H H') : Tups H H' := ⟨fun b xs h => s _ _ h, fun b o u h => s _ _ h⟩
theorem Tups.trans {H H1 H2 : Hp} (a : Tups H H1) (b : Tups H1 H2) : Tups H H2 := ⟨fun c xs h => b.1 _ _ (a.1 _ _ h), fun c o u h => b.2 _ _ _ (a.2 _ _ _ h)⟩
theorem But.tups {d : Addr} {H H' : Hp} (b : But d H H') (h1 : ∀ ys, H d ≠ some (.tup ys)) (h2 : ∀ o u, H d ≠ some (.frz o u)) : Tups H H' :=
  ⟨fun c xs h => b _ _ h fun z => h1 xs (z ▸ h), fun c o u h => b _ _ h fun z => h2 o u (z ▸ h)⟩
theorem th_tups {K : PySem.W.Frag} {H H' : Hp} (t : Tups H H') {v : V} {d : PyData} (h : Th K H v d) : onlyT d = true → Th K H' v d := by
  refine Th.rec (motive_1 := fun v d _ => onlyT d = true → Th K H' v d) (motive_2 := fun vs ds _ => onlyTs ds = true → ThAll K H' vs ds) ?_ ?_ ?_ ?_ ?_ ?_ ?_ ?_ ?_ h
  · exact fun _ => .non
  · exact fun b _ => .bl b
  · exact fun i _ => .int i
  · exact fun x _ => .str x
  · exact fun _ _ _ n => nomatch n
  · exact fun hs _ ih n => .tup (t.seqT hs) (ih n)
  · exact fun _ _ _ _ n => nomatch n
  · exact fun _ => .nil
  · intro v vs d ds _ _ i1 i2 n
    have n2 : onlyT d = true ∧ onlyTs ds = true := by simpa only [onlyTs, Bool.and_eq_true] using n
    exact .cons (i1 n2.1) (i2 n2.2)
theorem thAll_tups {K : PySem.W.Frag} {H H' : Hp} (t : Tups H H') : ∀ {vs : List V} {ds : List PyData}, ThAll K H vs ds → onlyTs ds = true → ThAll K H' vs ds
  | _, _, .nil, _ => .nil
  | _ :: _, d :: ds, .cons h r, n => by
    have n2 : onlyT d = true ∧ onlyTs ds = true := by simpa only [onlyTs, Bool.and_eq_true] using n
    exact .cons (th_tups t h n2.1) (thAll_tups t r n2.2)
theorem NAt.nofrz {P : Program} {w : World} {H : Hp} {d : Addr} {kvs : List (NK × V)} (g : NAt P w H d kvs) {o : Obj} {u : HO} : H d ≠ some (.frz o u) := by
  obtain ⟨_, ⟨_, e⟩ | ⟨xs, e, _⟩⟩ := g
  · rw [e]
    exact fun z => nomatch z
  · rw [e]
    exact fun z => nomatch z
theorem But.trans {d : Addr} {H H1 H2 : Hp} (a : But d H H1) (b : But d H1 H2) : But d H H2 := fun q o h n => b q o (a q o h n) n
theorem But.same {d : Addr} {H H1 H2 : Hp} (a : But d H H1) (b : Same H1 H2) : But d H H2 := fun q o h n => b q o (a q o h n)
theorem But.refl (d : Addr) (H : Hp) : But d H H := fun _ _ h _ => h
theorem Same.but {d : Addr} {H H1 : Hp} (a : Same H H1) : But d H H1 := fun q o h _ => a q o h
theorem But.upd {d : Addr} {H H1 : Hp} {o : HO} (a : But d H H1) : But d H (upd H1 d o) := fun q u h n => by
  rw [upd_ne n]
  exact a q u h n
theorem But.upd2 {d p : Addr} {H H1 : Hp} {o : HO} (a : But d H H1) (n : H p = none) : But d H (L2.upd H1 p o) := fun q u h nq => by
  rw [upd_ne (ne_of_none h n)]
  exact a q u h nq
theorem But.free {d : Addr} {H H1 : Hp} {q : Addr} (a : But d H H1) (h : H1 q = none) (n : q ≠ d) : H q = none := by
  cases e : H q with
  | none => rfl
  | some o =>
    rw [a q o e n] at h
    cases h
theorem putK_mem {κ : Type} [DecidableEq κ] {kvs : List (κ × V)} {k : κ} {v : V} {p : κ × V} (h : p ∈ putK kvs k v) : p ∈ kvs ∨ p = (k, v) := by
  unfold putK at h
  split at h
  · obtain ⟨q, hq, rfl⟩ := List.mem_map.mp h
    by_cases e : q.1 = k
    · rw [if_pos e, ← e]
      exact .inr (by rw [e])
    · rw [if_neg e]
      exact .inl hq
  · rcases List.mem_append.mp h with h | h
    · exact .inl h
    · exact .inr (List.mem_singleton.mp h)
theorem putK_keys {κ : Type} [DecidableEq κ] {kvs : List (κ × V)} {k : κ} {v : V} (h : (kvs.map (·.1)).Nodup) : ((putK kvs k v).map (·.1)).Nodup := by
  unfold putK
  split
  · have e : (kvs.map fun kv => if kv.1 = k then (kv.1, v) else kv).map (·.1) = kvs.map (·.1) := by
      rw [List.map_map]
      refine List.map_congr_left fun q _ => ?_
      show (if q.1 = k then (q.1, v) else q).1 = q.1
      split <;> rfl
    rw [e]
    exact h
  · rename_i n
    rw [List.map_append, List.nodup_append]
    refine ⟨h, List.nodup_cons.mpr ⟨(fun z => nomatch z), List.nodup_nil⟩, fun a ha b hb e => n ?_⟩
    have hb2 : b = k := by simpa using hb
    obtain ⟨q, hq, e2⟩ := List.mem_map.mp ha
    exact List.any_eq_true.mpr ⟨q, hq, decide_eq_true (e2.trans (e.trans hb2))⟩
theorem valV_mem {κ : Type} [DecidableEq κ] {kvs : List (κ × V)} {k : κ} {v : V} (h : valV kvs k = some v) : (k, v) ∈ kvs := by
  unfold valV at h
  obtain ⟨q, hq, e⟩ := Option.map_eq_some_iff.mp h
  have a := List.find?_some hq
  have b := List.mem_of_find?_eq_some hq
  have c : q.1 = k := of_decide_eq_true a
  rw [← c, ← e]
  exact b
theorem valV_put_self {κ : Type} [DecidableEq κ] {kvs : List (κ × V)} {k : κ} {v : V} : valV (putK kvs k v) k = some v := by
  rw [valV_put, if_pos rfl]
end Lk

/-! Bits0 -/
set_option Elab.async false
set_option maxRecDepth 100000
set_option linter.all false
set_option maxHeartbeats 4000000
namespace Lk
open PySem PySem.Spec PyProof.Rows L2
/-! ### numbers as rows of bits -/
def bits : Nat → (Nat → Bool) → Nat
  | 0, _ => 0
  | n + 1, f => (if f n = true then 2 ^ n else 0) + bits n f
theorem bits_lt (f : Nat → Bool) : ∀ n, bits n f < 2 ^ n
  | 0 => by show 0 < 2 ^ 0; decide
  | n + 1 => by
    have := bits_lt f n
    have e : 2 ^ (n + 1) = 2 ^ n * 2 := Nat.pow_succ 2 n
    show (if f n = true then 2 ^ n else 0) + bits n f < 2 ^ (n + 1)
    split <;> omega
theorem bits_test (f : Nat → Bool) : ∀ n i, (bits n f).testBit i = (decide (i < n) && f i)
  | 0, i => by
    show (0 : Nat).testBit i = _
    rw [Nat.zero_testBit]
    rfl
  | n + 1, i => by
    have lt := bits_lt f n
    have ih := bits_test f n
    show ((if f n = true then 2 ^ n else 0) + bits n f).testBit i = _
    rcases Nat.lt_trichotomy i n with h | h | h
    · have e : decide (i < n + 1) = decide (i < n) := by rw [decide_eq_true h, decide_eq_true (Nat.lt_succ_of_lt h)]
      split
      · rw [Nat.testBit_two_pow_add_gt h, ih, e]
      · rw [Nat.zero_add, ih, e]
    · subst h
      rw [decide_eq_true (Nat.lt_succ_self i), Bool.true_and]
      split
      · rename_i y
        rw [Nat.testBit_two_pow_add_eq, ih, decide_eq_false (Nat.lt_irrefl i), y]
        rfl
      · rename_i y
        rw [Nat.zero_add, ih, decide_eq_false (Nat.lt_irrefl i)]
        simpa using y
    · rw [decide_eq_false (show ¬ i < n + 1 by omega), Bool.false_and]
      refine Nat.testBit_lt_two_pow ?_
      have e : 2 ^ (n + 1) = 2 ^ n * 2 := Nat.pow_succ 2 n
      have le : 2 ^ (n + 1) ≤ 2 ^ i := Nat.pow_le_pow_right (by decide) h
      split <;> omega
theorem bits_ext {a n : Nat} {f : Nat → Bool} (h : ∀ i, a.testBit i = (decide (i < n) && f i)) : a = bits n f := Nat.eq_of_testBit_eq fun i => by rw [h, bits_test]
theorem bits_or {n : Nat} {f g : Nat → Bool} : bits n f ||| bits n g = bits n fun i => f i || g i := bits_ext fun i => by
  rw [Nat.testBit_or, bits_test, bits_test]
  cases decide (i < n) <;> rfl
theorem bits_and {n : Nat} {f g : Nat → Bool} : bits n f &&& bits n g = bits n fun i => f i && g i := bits_ext fun i => by
  rw [Nat.testBit_and, bits_test, bits_test]
  cases decide (i < n) <;> rfl
theorem bits_all {n : Nat} : 2 ^ n - 1 = bits n fun _ => true := bits_ext fun i => by
  rw [Nat.testBit_two_pow_sub_one, Bool.and_true]
theorem bits_congr {n : Nat} {f g : Nat → Bool} (h : ∀ i, i < n → f i = g i) : bits n f = bits n g := bits_ext fun i => by
  rw [bits_test]
  by_cases hi : i < n
  · rw [h i hi]
  · rw [decide_eq_false hi]
    rfl
theorem bits_at {n i : Nat} {f : Nat → Bool} : bits n f / 2 ^ i % 2 = (if i < n ∧ f i = true then 1 else 0) := by
  have z := bits_test f n i
  rw [Nat.testBit_eq_decide_div_mod_eq] at z
  have lt := Nat.mod_lt (bits n f / 2 ^ i) (show 0 < 2 by decide)
  split
  · rename_i y
    rw [decide_eq_true y.1, y.2] at z
    exact of_decide_eq_true z
  · rename_i y
    have : (decide (i < n) && f i) = false := by
      cases hd : decide (i < n) with
      | false => rfl
      | true =>
        cases hf : f i with
        | false => rfl
        | true => exact absurd ⟨of_decide_eq_true hd, hf⟩ y
    rw [this] at z
    have := of_decide_eq_false z
    omega
/-! a column: the sets, by their numbers, in which one place stands -/
theorem test_two_pow_add {a k i : Nat} (h : a < 2 ^ k) (hi : i < k + 1) (q : Nat) : (2 ^ k * q + a).testBit i = (if i < k then a.testBit i else q.testBit (i - k)) := by
  rw [Nat.testBit_two_pow_mul_add q h i]
/-- found |= found << (1 << place) -/
theorem col_step {at' p : Nat} (h : at' < p) : bits (2 ^ p) (fun s => s.testBit at') ||| bits (2 ^ p) (fun s => s.testBit at') * 2 ^ (2 ^ p) = bits (2 ^ (p + 1)) fun s => s.testBit at' := by
  refine bits_ext fun i => ?_
  have e2 : 2 ^ (p + 1) = 2 ^ p * 2 := Nat.pow_succ 2 p
  rw [Nat.testBit_or, bits_test, Nat.testBit_mul_two_pow, bits_test]
  by_cases h1 : i < 2 ^ p
  · rw [decide_eq_true h1, decide_eq_false (show ¬ 2 ^ p ≤ i by omega), decide_eq_true (show i < 2 ^ (p + 1) by omega)]
    simp
  · by_cases h2 : i < 2 ^ (p + 1)
    · rw [decide_eq_false h1, decide_eq_true (show 2 ^ p ≤ i by omega), decide_eq_true h2, decide_eq_true (show i - 2 ^ p < 2 ^ p by omega)]
      simp only [Bool.false_and, Bool.false_or, Bool.true_and]
      obtain ⟨j, rfl⟩ : ∃ j, i = 2 ^ p + j := ⟨i - 2 ^ p, by omega⟩
      rw [Nat.add_sub_cancel_left, Nat.testBit_two_pow_add_gt h]
    · rw [decide_eq_false h1, decide_eq_false h2, decide_eq_false (show ¬ i - 2 ^ p < 2 ^ p by omega)]
      simp
/-- ((1 << turn) - 1) << turn -/
theorem col_start {at' : Nat} : (2 ^ 2 ^ at' - 1) * 2 ^ 2 ^ at' = bits (2 ^ (at' + 1)) fun s => s.testBit at' := by
  refine bits_ext fun i => ?_
  have e2 : 2 ^ (at' + 1) = 2 ^ at' * 2 := Nat.pow_succ 2 at'
  rw [Nat.testBit_mul_two_pow, Nat.testBit_two_pow_sub_one]
  by_cases h1 : i < 2 ^ at'
  · rw [decide_eq_false (show ¬ 2 ^ at' ≤ i by omega), decide_eq_true (show i < 2 ^ (at' + 1) by omega), Nat.testBit_lt_two_pow h1]
    rfl
  · by_cases h2 : i < 2 ^ (at' + 1)
    · rw [decide_eq_true (show 2 ^ at' ≤ i by omega), decide_eq_true h2, decide_eq_true (show i - 2 ^ at' < 2 ^ at' by omega)]
      obtain ⟨j, rfl⟩ : ∃ j, i = 2 ^ at' + j := ⟨i - 2 ^ at', by omega⟩
      rw [Nat.testBit_two_pow_add_eq, Nat.testBit_lt_two_pow (by omega)]
      rfl
    · rw [decide_eq_false h2, decide_eq_false (show ¬ i - 2 ^ at' < 2 ^ at' by omega), Bool.and_false]
      rfl
/-! over the layer: numbers that are not negative -/
def rNat (g : Nat → Nat → Nat) (C : Nat → Nat → Prop) : R2 := fun x y H Q => ∃ a b : Nat, x = .int (a : Int) ∧ y = .int (b : Int) ∧ C a b ∧ Q (.int ((g a b : Nat) : Int)) H
section
variable {X : Cx}
theorem or_nat (a b : Nat) : Builtin.bitOr (a : Int) (b : Int) = ((a ||| b : Nat) : Int) := by
  rw [bitOr_nn (Int.natCast_nonneg a) (Int.natCast_nonneg b), Int.toNat_natCast, Int.toNat_natCast]
theorem ip_or : PIp X .BitOr (rNat (fun a b => a ||| b) fun _ _ => True) := by
  intro pins s σ H x y v u Q I rx ry h
  obtain ⟨a, b, rfl, rfl, _, q⟩ := h
  rw [← or_nat] at q
  exact iop_or pins s σ H _ _ v u Q I rx ry ⟨_, _, rfl, rfl, q⟩
theorem ip_and : PIp X .BitAnd (rNat (fun a b => a &&& b) fun _ _ => True) := by
  intro pins s σ H x y v u Q I rx ry h
  obtain ⟨a, b, rfl, rfl, _, q⟩ := h
  rw [← PySem.W.os_band] at q
  exact iop_and pins s σ H _ _ v u Q I rx ry ⟨_, _, rfl, rfl, q⟩
theorem op_shlM : OpR X (binaryOp .LShift) (rNat (fun a b => a * 2 ^ b) fun a b => ∃ n, a < 2 ^ n ∧ n + b ≤ 134217728) := by
  intro pins s σ H x y v u Q I rx ry h
  obtain ⟨a, b, rfl, rfl, ⟨n, l1, l2⟩, q⟩ := h
  refine op_shlN pins s σ H _ _ v u Q I rx ry ⟨_, b, rfl, rfl, shl_ok (n := n) (by rw [Int.natAbs_natCast]; exact l1) l2, ?_⟩
  have e : ((a * 2 ^ b : Nat) : Int) = (a : Int) * 2 ^ b := by rw [Int.natCast_mul, Int.natCast_pow]; rfl
  rw [e] at q
  exact q
theorem op_shrM : OpR X (binaryOp .RShift) (rNat (fun a b => a / 2 ^ b) fun _ _ => True) := by
  intro pins s σ H x y v u Q I rx ry h
  obtain ⟨a, b, rfl, rfl, _, q⟩ := h
  refine op_shrN pins s σ H _ _ v u Q I rx ry ⟨_, b, rfl, rfl, ?_⟩
  have e : ((a / 2 ^ b : Nat) : Int) = (a : Int) / 2 ^ b := by rw [Int.natCast_ediv, Int.natCast_pow]; rfl
  rw [e] at q
  exact q
end
end Lk

/-! DLen0 -/
set_option Elab.async false
set_option maxRecDepth 100000
set_option linter.all false
set_option maxHeartbeats 4000000
namespace Lk
open PySem PySem.Spec PyProof.Rows L2
/-! ### len(d), keys numbers or texts -/
section
variable {X : Cx}
def rLenK : List V → Hp → VK → Prop := fun xs H Q => ∃ (p : Addr) (kvs : List (Key × V)), xs = [.ref p] ∧ H p = some (.dK kvs) ∧ Q (.int ((kvs.length : Nat) : Int)) H
theorem call_len_K : CallR X (.builtin "len") rLenK := by
  intro pins s σ H xs us Q I r h
  obtain ⟨p, kvs, rfl, g, q⟩ := h
  obtain ⟨u, rfl, rx⟩ := vals1 r
  obtain rfl : u = .ref p := rx
  obtain ⟨z, hd, ys, rel, dd⟩ := dk_of I.hok g
  have hl : kvs.length = ys.length := rel.length
  refine PySem.call_len_dict hd dd (by rw [sizeLine_eq] at z; omega) ⟨.int ((kvs.length : Nat) : Int), H, I.tok _, ?_, q⟩
  exact ⟨_, by rw [hl]⟩
end
end Lk

/-! SrtD0 -/
set_option Elab.async false
set_option maxRecDepth 100000
set_option linter.all false
set_option maxHeartbeats 4000000
namespace Lk
open PySem PySem.Spec PyProof.Rows L2
/-! ### sorted(xs), xs a list of data; sorted(xs, key=len), xs a list of tuples -/
theorem each_ix {α β : Type} {R : α → β → Prop} : ∀ {as : List α} {bs : List β}, as.length = bs.length → (∀ (i : Nat) (a : α) (b : β), as[i]? = some a → bs[i]? = some b → R a b) → PySem.W.EachIs R as bs
  | [], [], _, _ => .nil
  | a :: as, b :: bs, h, f => .cons (f 0 a b rfl rfl) (each_ix (by simpa using h) fun i x y h1 h2 => f (i + 1) x y h1 h2)
  | [], _ :: _, h, _ => nomatch h
  | _ :: _, [], h, _ => nomatch h
theorem vals_ix {xs : List V} {us : List Value} (h : Vals xs us) : ∀ (i : Nat) (x : V) (u : Value), xs[i]? = some x → us[i]? = some u → RelV x u := by
  induction h with
  | nil => exact fun i x u h => nomatch h
  | cons r _ ih =>
    intro i x u h1 h2
    cases i with
    | zero =>
      cases h1
      cases h2
      exact r
    | succ i => exact ih i x u h1 h2
theorem vals_each2 {β : Type} {f : β → V} {R : Value → β → Prop} (h : ∀ u c, R u c → RelV (f c) u) : ∀ {us : List Value} {L : List β}, PySem.W.EachIs R us L → Vals (L.map f) us
  | _, _, .nil => .nil
  | _, _, .cons r t => .cons (h _ _ r) (vals_each2 h t)
theorem short_sort {β : Type} (le : β → β → Bool) : ∀ {L : List β}, L.length < 2 → L.mergeSort le = L
  | [], _ => List.mergeSort_nil
  | [x], _ => List.mergeSort_singleton _
  | _ :: _ :: l, h => by rw [List.length_cons, List.length_cons] at h; omega
theorem short_perm {α : Type} {a : List α} : ∀ {b : List α}, a.Perm b → b.length < 2 → a = b
  | [], p, _ => List.perm_nil.mp p
  | [x], p, _ => List.perm_singleton.mp p
  | _ :: _ :: l, _, h => by rw [List.length_cons, List.length_cons] at h; omega
section
variable {X : Cx}
def rSortD (K : PySem.W.Frag) : List V → Hp → VK → Prop := fun vs H Q => ∃ (β : Type) (a : Addr) (L : List β) (f : β → V) (enc : β → PyData), vs = [.ref a] ∧ SqL K H a (L.map f) ∧ (∀ c ∈ L, Th K H (f c) (enc c)) ∧ PySem.W.AllAlike (L.map enc) ∧ (PySem.W.Sortable (L.map enc) ∨ L.length < 2) ∧ (∀ c ∈ L, (enc c).depth ≤ 32) ∧
  ∀ p, H p = none → Q (.ref p) (upd H p (.lst ((L.mergeSort (PySem.W.dataLe false enc)).map f)))
theorem call_sortD (hu : X.A.units + 64 < cLine) : CallR X (.builtin "sorted") (rSortD X.K) := by
  intro pins s σ H xs us Q I r h
  obtain ⟨β, a, L, f, enc, rfl, ha, th, al, so, dp, q⟩ := h
  rw [Vals.ref1 r]
  obtain ⟨its, rv, pl, hz⟩ := I.list ha
  have n1 : L.length ≤ sizeLine := by
    have z := hz
    rw [List.length_map] at z
    exact z
  have n2 : its.length = L.length := by
    have z := rv.length
    rw [List.length_map] at z
    exact z.symm
  have rx : ∀ (i : Nat) (u : Value) (c : β), its[i]? = some u → L[i]? = some c → RelV (f c) u ∧ c ∈ L := fun i u c h1 h2 => ⟨vals_ix rv i (f c) u (by rw [List.getElem?_map, h2]; rfl) h1, List.mem_of_getElem? h2⟩
  have e1 : PySem.W.EachIs (fun v (c : β) => RelV (f c) v) its L := each_ix n2 fun i u c h1 h2 => (rx i u c h1 h2).1
  have er : PySem.W.EachIs (fun v (c : β) => ∃ as, Reads s.heap v (enc c) as) its L := each_ix n2 fun i u c h1 h2 => by
    obtain ⟨r, m⟩ := rx i u c h1 h2
    obtain ⟨as, hr, _⟩ := th_reads I (th c m) u r
    exact ⟨as, hr⟩
  refine so.elim (fun so => ?_) (fun sh => ?short)
  case short =>
    refine SrtO.sorted_ord (ltv := fun _ _ => false) ⟨fun _ _ _ => rfl, fun _ _ _ _ _ => rfl⟩ pl.isList (by rw [n2]; exact n1) (fun h2 => absurd h2 (by omega)) fun out _ st => ?_
    have po := st.perm
    have eo : out = its := short_perm po (by omega)
    subst eo
    have em : L.mergeSort (PySem.W.dataLe false enc) = L := short_sort _ sh
    obtain ⟨ep, he'⟩ := PyProof.Rows.sortedAll_at s.heap out out.toArray
    refine ⟨.ref _, upd H (s.heap.objs.size + 1) (.lst (L.map f)), I.laid (t' := s.toks) (fun _ _ => PyProof.Rows.sortedAll_old) (Nat.le_succ _) ⟨by rw [List.length_map]; exact n1, out, ep, rv, he'⟩, rfl, ?_⟩
    have z := q _ (I.hok.fresh (Nat.le_succ _))
    rw [em] at z
    exact z
  refine PySem.W.sorted_data (enc := enc) pl.isList e1 er al so n1 (fun c m => ?_) fun out len eo => ?_
  · have := dp c m
    show X.A.units + 2 + (enc c).depth < cLine
    omega
  · obtain ⟨ep, he'⟩ := PyProof.Rows.sortedAll_at s.heap its out.toArray
    have pm := List.mergeSort_perm L (PySem.W.dataLe false enc)
    have hlen : ((L.mergeSort (PySem.W.dataLe false enc)).map f).length ≤ sizeLine := by
      rw [List.length_map, pm.length_eq]
      exact n1
    exact ⟨.ref _, upd H (s.heap.objs.size + 1) (.lst _), I.laid (t' := s.toks) (fun _ _ => PyProof.Rows.sortedAll_old) (Nat.le_succ _) ⟨hlen, out, ep, vals_each2 (fun _ _ h => h) eo, he'⟩, rfl, q _ (I.hok.fresh (Nat.le_succ _))⟩
def lenLe {β : Type} (n : β → Nat) (x y : β) : Bool := decide ((n x : Int) ≤ (n y : Int))
def tSortLenT (K : PySem.W.Frag) (te : TE) : TE := fun σ H Q => te σ H fun x H1 => ∃ (β : Type) (l : Addr) (L : List β) (f : β → Addr) (n : β → Nat), x = .ref l ∧ SqL K H1 l (L.map fun c => V.ref (f c)) ∧ (∀ c ∈ L, ∃ ys, SqT K H1 (f c) ys ∧ ys.length = n c) ∧ ∀ p, H1 p = none → Q (.ref p) (upd H1 p (.lst ((L.mergeSort (lenLe n)).map fun c => V.ref (f c))))
theorem pe_sortLenT {e : Expr} {te : TE} {p p2 kp pos : Pos} (he : PE X e te) (hm : X.mg "sorted" = none) (hl : X.mg "len" = none) (hu : X.A.units + 64 < cLine) (hg : Gl X "sorted" := by rfl) (hgl : Gl X "len" := by rfl)
    (h1 : backTo pos (starEach [e] X.env) = (false, eval e X.env) :: backTo pos (starEach [] X.env) := by rfl) (h2 : (backTo pos (starEach [e] X.env)).any (·.1) = false := by rfl)
    (hs : starEach [e] X.env = (false, eval e X.env) :: starEach [] X.env := by rfl) :
    PE X (.Call (.Name "sorted" p) [e] [⟨some "key", .Name "len" p2, kp⟩] pos) (tSortLenT X.K te) := by
  refine ⟨fun pins s σ H Q I h => ?_⟩
  refine wpAny_Call_Name_kw (ld_blt I hg hm (show bootBuiltins "sorted" = some (.builtin "sorted") by decide +kernel) ?_ (by decide) (by decide))
  let Q' : List V → Hp → Prop := fun vs H1 => match vs with
    | [x] => ∃ (β : Type) (l : Addr) (L : List β) (f : β → Addr) (n : β → Nat), x = .ref l ∧ SqL X.K H1 l (L.map fun c => V.ref (f c)) ∧ (∀ c ∈ L, ∃ ys, SqT X.K H1 (f c) ys ∧ ys.length = n c) ∧ ∀ p, H1 p = none → Q (.ref p) (upd H1 p (.lst ((L.mergeSort (lenLe n)).map fun c => V.ref (f c))))
    | _ => False
  refine PyProof.Rows.callWith_kw (thn ((pa_cons he pa_nil hs).run pos pins s σ H Q' I h) fun us s1 ⟨vs, H1, I1, r1, q1⟩ => ?_) h1 h2 (by rfl) (by rfl)
  match vs, r1, q1 with
  | [x], r1, ⟨β, l, L, f, n, ex, hl2, hz, q⟩ =>
    subst ex
    have eu := Vals.ref1 r1
    subst eu
    show wpAny _ _ (evalAll ((do let v ← eval (.Name "len" p2) X.env; standAt pos; pure v) :: [])) _ _ s1
    refine wpAny_evalAll_cons (wpAny_bind (ld_blt I1 hgl hl (show bootBuiltins "len" = some (.builtin "len") by decide +kernel) (wpAny_bind (wpAny_standAt (wpAny_pure ?_))) (by decide) (by decide)))
    refine wpAny_evalAll_nil ?_
    show wpAny _ _ (call (.builtin "sorted") [.ref l] [(Str.ofString "key", .builtin "len")]) _ _ s1
    obtain ⟨its, rv, pl, hz2⟩ := I1.list hl2
    have n1 : L.length ≤ sizeLine := by
      have z := hz2
      rw [List.length_map] at z
      exact z
    have n2 : its.length = L.length := by
      have z := rv.length
      rw [List.length_map] at z
      exact z.symm
    have pm := List.mergeSort_perm L (lenLe n)
    have e1 : PySem.W.EachIs (fun v (c : β) => v = Value.ref (f c)) its L := each_ix n2 fun i u c h1 h2 => by
      have r := vals_ix rv i (V.ref (f c)) u (by rw [List.getElem?_map, h2]; rfl) h1
      cases r
      rfl
    refine PySem.W.sorted_key_data (k := fun c : β => PyData.int (n c)) (b := false) (f := .builtin "len") pl.isList e1 (PySem.W.AllAlike.of fun _ _ => rfl) (PySem.W.Sortable.others fun _ => ⟨(fun z => nomatch z), (fun _ z => nomatch z)⟩) n1
      (fun _ _ => by show X.A.units + 2 + 0 < cLine; omega) (PyProof.Rows.ksk_s1 _ _) (fun _ => PyProof.Rows.ksk_l1 _ _) (fun _ => PyProof.Rows.ksk_t4 _ _) (fun v c hv hc h2 tk kp => ?_) fun out c h' tk kp fr hD len eo => ?_
    · subst hv
      obtain ⟨ys, hy, ely⟩ := hz c hc
      obtain ⟨jts, r', pl', hz'⟩ := I1.tuple hy
      obtain ⟨o, ho, hc', n2, hd⟩ := id pl'
      have hlen := r'.length
      have hn := line63
      have pl2 : h2.IsTuple (f c) jts.toArray := ⟨o, kp _ _ ho, hc', n2, hd⟩
      refine len_tuple (s := { s1 with heap := h2, toks := tk }) pl2 (by simp only [List.size_toArray] <;> omega) ?_
      refine ⟨h2, _, rfl, fun _ _ q => q, ?_⟩
      have e : (jts.toArray.size : Int) = (n c : Int) := by rw [List.size_toArray, ← hlen, ely]
      rw [e]
      exact Reads.int _ _
    · have ele : PySem.W.dataLe false (fun c : β => PyData.int (n c : Int)) = lenLe n := PySem.W.dataLe_int (β := β) (fun c => (n c : Int))
      rw [ele] at eo
      have hlen : ((L.mergeSort (lenLe n)).map fun c => V.ref (f c)).length ≤ sizeLine := by
        rw [List.length_map, pm.length_eq]
        exact n1
      exact ⟨.ref _, upd H1 (s1.heap.objs.size + 1) (.lst _), I1.laid (t' := tk) kp (Nat.le_succ _) ⟨hlen, out, c, vals_each2 (f := fun c : β => V.ref (f c)) (fun u c h => by rw [h]; exact rfl) eo, hD⟩, rfl, q _ (I1.hok.fresh (Nat.le_succ _))⟩
end
end Lk

/-! Open0 -/
set_option Elab.async false
set_option maxRecDepth 100000
set_option linter.all false
namespace Lk
open PySem PySem.Spec PyProof.Rows L2
/-! ### openings of readings, for any statement -/
theorem on_go {S : TS} {x : V} {i : Nat} {D : Ends} {σ : L2.St} {H : Hp} (h : S D (σ.set i (some x)) H) : gName i x σ H (S D) := h
theorem on_end {x : V} {i : Nat} {q : L2.St → Hp → Prop} {rt : VK} {bk ct : L2.St → Hp → Prop} {σ : L2.St} {H : Hp} (h : gName i x σ H q) : gName i x σ H (Ends.nx { nx := q, rt := rt, bk := bk, ct := ct }) := h
theorem sq_asg {te : TE} {g : TG} {r : TS} {D : Ends} {σ : L2.St} {H : Hp} (h : te σ H fun y H1 => g y σ H1 (r D)) : tSeq (tAsg te g) r D σ H := h
theorem sq_if {t : TT} {ts tl r : TS} {D : Ends} {σ : L2.St} {H : Hp} (h : tIfS t ts tl { D with nx := r D } σ H) : tSeq (tIfS t ts tl) r D σ H := h
theorem sq_for {w : TI} {g : TG} {tb r : TS} {D : Ends} {σ : L2.St} {H : Hp} (h : tFor w g tb { D with nx := r D } σ H) : tSeq (tFor w g tb) r D σ H := h
theorem sq_drop {te : TE} {r : TS} {D : Ends} {σ : L2.St} {H : Hp} (h : te σ H fun _ H1 => r D σ H1) : tSeq (tDrop te) r D σ H := h
theorem go_if {t : TT} {ts tl : TS} {D : Ends} {σ : L2.St} {H : Hp} (h : t σ H fun b H1 => if b = true then ts D σ H1 else tl D σ H1) : tIfS t ts tl D σ H := h
theorem go_ret {te : TE} {D : Ends} {σ : L2.St} {H : Hp} (h : te σ H D.rt) : tRet te D σ H := h
theorem nxt_go {q : L2.St → Hp → Prop} {rt : VK} {bk ct : L2.St → Hp → Prop} {σ : L2.St} {H : Hp} (h : q σ H) : tNext { nx := q, rt := rt, bk := bk, ct := ct } σ H := h
theorem ends_go {q : L2.St → Hp → Prop} {rt : VK} {bk ct : L2.St → Hp → Prop} {σ : L2.St} {H : Hp} (h : q σ H) : Ends.nx { nx := q, rt := rt, bk := bk, ct := ct } σ H := h
/-- an if whose two roads meet again -/
theorem if_join {t : TT} {ts tl r : TS} {D : Ends} {σ : L2.St} {H : Hp} (Pj : L2.St → Hp → Prop) (tail : ∀ σ H, Pj σ H → r D σ H) (h : ∀ Rn : L2.St → Hp → Prop, (∀ σ H, Pj σ H → Rn σ H) → tIfS t ts tl { D with nx := Rn } σ H) : tSeq (tIfS t ts tl) r D σ H := h _ tail
theorem lst_nil {σ : L2.St} {H : Hp} {Q : VK} (h : ∀ p, H p = none → Q (.ref p) (upd H p (.lst []))) : tLst tNil σ H Q := ⟨by show 0 ≤ sizeLine; decide, h⟩
theorem go_tt {r : R2} {ta tb : TE} {σ : L2.St} {H : Hp} {R : Bool → Hp → Prop} (h : ta σ H fun x H1 => tb σ H1 fun y H2 => r x y H2 fun v H3 => ∃ b, v = .bl b ∧ R b H3) : tTest (tOp r ta tb) σ H R := h
theorem go_cbc {r : List V → Hp → VK → Prop} {te : TE} {ta : TA} {σ : L2.St} {H : Hp} {Q : List V → Hp → Prop} (h : te σ H fun x H1 => r [x] H1 fun y H2 => ta σ H2 fun ys H3 => Q (y :: ys) H3) : tCons (tCB r (tCons te tNil)) ta σ H Q := h
end Lk

/-! Eq0 -/
set_option Elab.async false
set_option maxRecDepth 100000
set_option linter.all false
set_option maxHeartbeats 4000000
namespace PySem
open PySem.SeqAt
section
variable {prog : Program} {w : World} {A : Around} {E : Value → Shared → Prop} {s : Shared}
theorem lk_dict_eq_tup (l q : Addr) (es : Array DictEntry) (n : Nat) (dd dq : Option Addr) (sl sq : Array (Option Value)) (its : Array Value) (m : Nat) :
    Meets (Builtin.«dict.__eq__» ⟨[.ref l, .ref q], []⟩) (fun _ R s => s.heap.get? l = some { cls := .type "dict", dict := dd, data := .dict es n, slots := sl } ∧ s.heap.get? q = some { cls := .type "tuple", dict := dq, data := .seq its m, slots := sq } ∧ R (.ok (.ret .notImplemented)) s) := by
  refine .of_wp ?_
  rintro prog w A R ⟨hp, g, d, tk, os⟩ ⟨there, tq, h⟩
  have no1 := F.sub_tuple_dict
  wp_walk using wpAny_loadPart' there, wpAny_load there, wpAny_loadPart' tq, wpAny_load tq
  exact ⟨_, rfl, h⟩
theorem lk_tup_eq_dict (l q : Addr) (es : Array DictEntry) (n : Nat) (dd dq : Option Addr) (sl sq : Array (Option Value)) (its : Array Value) (m : Nat) :
    Meets (Builtin.«tuple.__eq__» ⟨[.ref q, .ref l], []⟩) (fun _ R s => s.heap.get? l = some { cls := .type "dict", dict := dd, data := .dict es n, slots := sl } ∧ s.heap.get? q = some { cls := .type "tuple", dict := dq, data := .seq its m, slots := sq } ∧ R (.ok (.ret .notImplemented)) s) := by
  refine .of_wp ?_
  rintro prog w A R ⟨hp, g, d, tk, os⟩ ⟨there, tq, h⟩
  have no1 := F.sub_dict_tuple
  wp_walk using wpAny_loadPart' there, wpAny_load there, wpAny_loadPart' tq, wpAny_load tq
  exact ⟨_, rfl, h⟩
end
end PySem
namespace PySem
open PySem.SeqAt
section
variable {prog : Program} {w : World} {A : Around} {E : Value → Shared → Prop} {s : Shared}
theorem lk_rc_dict_tup {l q : Addr} {o oq : Obj} {es : Array DictEntry} {n m : Nat} {its : Array Value} (ho : s.heap.get? l = some o) (hc : o.cls = .type "dict") (hd : o.data = .dict es n) (hoq : s.heap.get? q = some oq) (hcq : oq.cls = .type "tuple") (hdq : oq.data = .seq its m)
    (hu : A.units < cLine) {Q : Value → Shared → Prop} (h : Q (.bool false) s) : wpAny (model prog w) A (richCompare .Eq (.ref l) (.ref q)) Q E s := by
  obtain ⟨cls, dd, data, sl⟩ := o
  obtain ⟨clsq, ddq, dataq, slq⟩ := oq
  simp only at hc hd hcq hdq
  subst hc hd hcq hdq
  have ne : (l == q) = false := by
    rw [beq_eq_false_iff_ne]
    intro z
    rw [z, hoq] at ho
    exact absurd (show Value.type "tuple" = Value.type "dict" from congrArg Obj.cls (Option.some.inj ho)) (by decide)
  refine rc_eq_decline_or (a := .ref l) (b := .ref q) (s := s) (k := false) (show s.TypeIs (.ref l) "dict" from ⟨_, ho, rfl⟩) (show s.TypeIs (.ref q) "tuple" from ⟨_, hoq, rfl⟩) (by decide) F.sub_tuple_dict F.slot_dict_eq F.slot_tuple_eq_refl ?_ ?_ ?_ ?_ ?_
  · exact fun _ hq => call_meets F.slot_dict_eq ⟨_, ho, rfl⟩ F.entry_dict_eq (F.args_dict_eq_2 _ _) (lk_dict_eq_tup l q es n dd ddq sl slq its m) ⟨ho, hoq, hq⟩
  · exact fun _ hq => call_meets F.slot_tuple_eq_refl ⟨_, hoq, rfl⟩ F.entry_tuple_eq (F.args_tuple_eq_2 _ _) (lk_tup_eq_dict l q es n dd ddq sl slq its m) ⟨ho, hoq, hq⟩
  · intro Q' hq
    unfold isSame
    dsimp only
    rw [if_neg (by rw [ne]; decide)]
    refine wpAny_bind (wpAny_load ho ?_)
    refine wpAny_bind (wpAny_load hoq ?_)
    exact wpAny_pure hq
  · exact .inr hu
  · exact h
end
end PySem
namespace Lk
open PySem PySem.Spec PyProof.Rows L2
/-- thing == t, t a tuple, thing of any form -/
def rEqT (K : PySem.W.Frag) : R2 := fun x y H Q => ∃ d es, Th K H x d ∧ Th K H y (.tuple es) ∧ (d.hasDict = true → isDct d = true) ∧ (d.hasDict = false → SeqAt.shaped d = true) ∧ SeqAt.shaped (.tuple es) = true ∧ Q (.bl (!isDct d && PyData.eqv d (.tuple es))) H
theorem op_eqT {X : Cx} (hu : X.A.units + 64 < cLine) : OpR X (compareOp .Eq) (rEqT X.K) := by
  intro pins s σ H x y v u Q I rx ry h
  obtain ⟨d, es, ht, hy, hd, hs, sh, q⟩ := h
  cases e : d.hasDict with
  | false =>
    have s1 := hs e
    have nd : isDct d = false := by
      cases d with
      | dict _ => cases e
      | _ => rfl
    rw [nd, Bool.not_false, Bool.true_and] at q
    exact op_eqD hu pins s σ H x y v u Q I rx ry ⟨d, .tuple es, th_dp ht (SeqAt.canLay_of_shaped s1), th_dp hy (SeqAt.canLay_of_shaped sh), s1, sh, q⟩
  | true =>
    have hh := hd e
    rw [hh, Bool.not_true, Bool.false_and] at q
    cases ht with
    | dct ha _ _ =>
      cases hy with
      | tup hq hx =>
        cases rx
        cases ry
        obtain ⟨_, _, vs, kv, o, es, ep, ho, ex, hda, _⟩ := (show ObjOk X.prog X.w H s.heap _ (.dK _) from I.hok _ _ ha)
        obtain ⟨its, rv, ⟨oq, hoq, hcq, m, hdq⟩, _⟩ := I.tuple hq
        exact PySem.lk_rc_dict_tup ho ex.1 hda hoq hcq hdq (by omega) ⟨.bl false, H, I, rfl, q⟩
    | _ => cases hh
end Lk

/-! EqM0 -/
set_option Elab.async false
set_option maxRecDepth 100000
set_option linter.all false
set_option maxHeartbeats 4000000
namespace PySem
open PySem.SeqAt
section
variable {prog : Program} {w : World} {A : Around} {E : Value → Shared → Prop} {s : Shared}
theorem lk_dict_eq_str (l : Addr) (es : Array DictEntry) (n : Nat) (dd : Option Addr) (sl : Array (Option Value)) (b : Str) (u : Tok) :
    Meets (Builtin.«dict.__eq__» ⟨[.ref l, .str b u], []⟩) (fun _ R s => s.heap.get? l = some { cls := .type "dict", dict := dd, data := .dict es n, slots := sl } ∧ R (.ok (.ret .notImplemented)) s) := by
  refine .of_wp ?_
  rintro prog w A R ⟨hp, g, d, tk, os⟩ ⟨there, h⟩
  have noSub := F.sub_str_dict
  wp_walk using wpAny_loadPart' there, wpAny_load there
  exact ⟨_, rfl, h⟩
theorem lk_str_eq_dict (l : Addr) (es : Array DictEntry) (n : Nat) (dd : Option Addr) (sl : Array (Option Value)) (b : Str) (u : Tok) :
    Meets (Builtin.«str.__eq__» ⟨[.str b u, .ref l], []⟩) (fun _ R s => s.heap.get? l = some { cls := .type "dict", dict := dd, data := .dict es n, slots := sl } ∧ R (.ok (.ret .notImplemented)) s) := by
  refine .of_wp ?_
  rintro prog w A R ⟨hp, g, d, tk, os⟩ ⟨there, h⟩
  wp_walk using wpAny_loadPart' there, wpAny_load there
  exact ⟨_, rfl, h⟩
theorem lk_rc_str_eq_dict {l : Addr} {o : Obj} {es : Array DictEntry} {n : Nat} (b : Str) (u : Tok) (ho : s.heap.get? l = some o) (hc : o.cls = .type "dict") (hd : o.data = .dict es n) (hu : A.units < cLine) {Q : Value → Shared → Prop} (h : Q (.bool false) s) :
    wpAny (model prog w) A (richCompare .Eq (.str b u) (.ref l)) Q E s := by
  obtain ⟨cls, dd, data, sl⟩ := o
  simp only at hc hd
  subst hc hd
  refine rc_eq_decline_or (a := .str b u) (b := .ref l) (s := s) (k := false) (typeIs_str s b u) (show s.TypeIs (.ref l) "dict" from ⟨_, ho, rfl⟩) (by decide) F.sub_dict_str F.slot_str_eq F.slot_dict_eq_refl ?_ ?_ ?_ ?_ ?_
  · exact fun _ hq => call_meets F.slot_str_eq (typeIs_str s b u) F.entry_str_eq (F.args_str_eq_2 _ _) (lk_str_eq_dict l es n dd sl b u) ⟨ho, hq⟩
  · exact fun _ hq => call_meets F.slot_dict_eq_refl ⟨_, ho, rfl⟩ F.entry_dict_eq (F.args_dict_eq_2 _ _) (lk_dict_eq_str l es n dd sl b u) ⟨ho, hq⟩
  · exact fun _ hq => wpAny_of_eq (rfl : isSame (.str b u) (.ref l) = pure false) hq
  · exact .inr hu
  · exact h
theorem lk_eqAt_str_dict {l : Addr} {o : Obj} {es : Array DictEntry} {n : Nat} (b : Str) (u : Tok) (ho : s.heap.get? l = some o) (hc : o.cls = .type "dict") (hd : o.data = .dict es n) (hu : A.units < cLine) : EqAt A s (.str b u) (.ref l) false := fun prog w E Q h => by
  unfold eqBool
  refine wpAny_holding ?_
  refine wpAny_ite_split (fun hab => absurd (eq_of_beq hab) nofun) (fun _ => ?_)
  exact wpAny_bind (lk_rc_str_eq_dict b u ho hc hd hu (wpAny_truthy_bool h))
end
end PySem
namespace Lk
open PySem PySem.Spec PyProof.Rows L2
/-! ### texts and things of any form, a dict among them -/
def isTx (b : Str) : PyData → Bool
  | .str x => decide (x = b)
  | _ => false
/-- no dict within, or a dict -/
def eqO (d : PyData) : Bool := isDct d || SeqAt.shaped d
theorem eqv_isTx (b : Str) (d : PyData) : PyData.eqv d (.str b) = isTx b d := by
  cases d with
  | str x =>
    show (x == b) = decide (x = b)
    by_cases e : x = b
    · rw [e, decide_eq_true rfl, beq_self_eq_true]
    · rw [decide_eq_false e, beq_eq_false_iff_ne.mpr e]
  | _ => rfl
theorem eqv_isTx2 (b : Str) (d : PyData) : PyData.eqv (.str b) d = isTx b d := by
  cases d with
  | str x =>
    show (b == x) = decide (x = b)
    by_cases e : x = b
    · rw [e, decide_eq_true rfl, beq_self_eq_true]
    · rw [decide_eq_false e, beq_eq_false_iff_ne.mpr (Ne.symm e)]
  | _ => rfl
theorem str_shaped {b : Str} (h : PyData.strOk b = true) : SeqAt.shaped (.str b) = true := by
  unfold SeqAt.shaped
  simp [PyData.canLay0, PyData.depth, h]
theorem eqO_cases {d : PyData} (h : eqO d = true) : (∃ kvs, d = .dict kvs) ∨ (SeqAt.shaped d = true) := by
  unfold eqO at h
  rw [Bool.or_eq_true] at h
  rcases h with h | h
  · cases d with
    | dict kvs => exact .inl ⟨kvs, rfl⟩
    | _ => cases h
  · exact .inr h
def rEqS (K : PySem.W.Frag) : R2 := fun x y H Q => ∃ d b, x = .str b ∧ Th K H y d ∧ PyData.strOk b = true ∧ eqO d = true ∧ Q (.bl (isTx b d)) H
def rNeS (K : PySem.W.Frag) : R2 := fun x y H Q => ∃ d b, Th K H x d ∧ y = .str b ∧ PyData.strOk b = true ∧ eqO d = true ∧ Q (.bl (!isTx b d)) H
section
variable {X : Cx}
theorem op_eqS (hu : X.A.units + 64 < cLine) : OpR X (compareOp .Eq) (rEqS X.K) := by
  intro pins s σ H x y v u Q I rx ry h
  obtain ⟨d, b, rfl, ht, ok, hd, q⟩ := h
  rcases eqO_cases hd with ⟨kvs, rfl⟩ | sh
  · cases ht with
    | dct ha _ _ =>
      obtain ⟨t, rfl⟩ := rx
      cases ry
      obtain ⟨_, _, vs, kv, o, es, ep, ho, ex, hda, _⟩ := (show ObjOk X.prog X.w H s.heap _ (.dK _) from I.hok _ _ ha)
      exact PySem.lk_rc_str_eq_dict _ _ ho ex.1 hda (by omega) ⟨.bl false, H, I, rfl, q⟩
  · refine op_eqD hu pins s σ H (.str b) y v u Q I rx ry ⟨.str b, d, .str _, th_dp ht (SeqAt.canLay_of_shaped sh), str_shaped ok, sh, ?_⟩
    rw [eqv_isTx2]
    exact q
theorem op_neS (hu : X.A.units + 64 < cLine) : OpR X (compareOp .NotEq) (rNeS X.K) := by
  intro pins s σ H x y v u Q I rx ry h
  obtain ⟨d, b, ht, rfl, ok, hd, q⟩ := h
  rcases eqO_cases hd with ⟨kvs, rfl⟩ | sh
  · cases ht with
    | dct ha _ _ =>
      obtain ⟨t, rfl⟩ := ry
      cases rx
      obtain ⟨_, _, vs, kv, o, es, ep, ho, ex, hda, _⟩ := (show ObjOk X.prog X.w H s.heap _ (.dK _) from I.hok _ _ ha)
      exact PySem.lk_rc_dict_str _ _ ho ex.1 hda (by omega) ⟨.bl true, H, I, rfl, q⟩
  · refine op_neD hu pins s σ H x (.str b) v u Q I rx ry ⟨d, .str b, th_dp ht (SeqAt.canLay_of_shaped sh), .str _, sh, str_shaped ok, ?_⟩
    rw [eqv_isTx]
    exact q
end
/-! ### a list of texts == a list of things -/
def isTxs : List Str → List PyData → Bool
  | [], [] => true
  | s :: ss, d :: ds => isTx s d && isTxs ss ds
  | _, _ => false
theorem isTxs_iff : ∀ {ss : List Str} {ds : List PyData}, isTxs ss ds = true ↔ ds = ss.map PyData.str
  | [], [] => ⟨fun _ => rfl, fun _ => rfl⟩
  | [], d :: ds => ⟨(fun h => nomatch h), (fun h => nomatch h)⟩
  | s :: ss, [] => ⟨(fun h => nomatch h), (fun h => nomatch h)⟩
  | s :: ss, d :: ds => by
    unfold isTxs
    rw [Bool.and_eq_true, isTxs_iff, List.map_cons, List.cons.injEq]
    refine and_congr_left fun _ => ?_
    cases d with
    | str x => exact ⟨fun h => by rw [of_decide_eq_true h], fun h => decide_eq_true (PyData.str.inj h)⟩
    | _ => exact ⟨(fun h => nomatch h), (fun h => nomatch h)⟩
theorem isTxs_len {ss : List Str} {ds : List PyData} (h : ss.length ≠ ds.length) : isTxs ss ds = false := by
  cases e : isTxs ss ds with
  | false => rfl
  | true =>
    have z := congrArg List.length (isTxs_iff.mp e)
    rw [List.length_map] at z
    exact absurd z.symm h
theorem isTxs_all : ∀ {ss : List Str} {ds : List PyData} {e : Nat → Bool}, ss.length = ds.length → (∀ j s d, ss[j]? = some s → ds[j]? = some d → e j = isTx s d) → (List.range ss.length).all e = isTxs ss ds
  | [], [], _, _, _ => rfl
  | [], d :: ds, _, h, _ => nomatch h
  | s :: ss, [], _, h, _ => nomatch h
  | s :: ss, d :: ds, e, h, he => by
    have h2 : ss.length = ds.length := Nat.succ.inj h
    rw [List.length_cons, List.range_succ_eq_map, List.all_cons, List.all_map]
    show (e 0 && (List.range ss.length).all (e ∘ Nat.succ)) = (isTx s d && isTxs ss ds)
    rw [isTxs_all (e := e ∘ Nat.succ) h2 fun j s' d' a b => he (j + 1) s' d' a b, he 0 s d rfl rfl]
def rEqTs (K : PySem.W.Frag) : R2 := fun x y H Q => ∃ (a b : Addr) (ss : List Str) (vs : List V) (ds : List PyData), x = .ref a ∧ y = .ref b ∧ SqL K H a (ss.map V.str) ∧ SqL K H b vs ∧ ThAll K H vs ds ∧ (∀ s ∈ ss, PyData.strOk s = true) ∧ (∀ d ∈ ds, eqO d = true) ∧ Q (.bl (isTxs ss ds)) H
section
variable {X : Cx} {pins : List (Addr × Obj)} {σ : L2.St} {H : Hp} {s : Shared}
theorem eqAt_tx (I : Inv X pins σ H s) {A : Around} (hu : A.units + 64 < cLine) {b : Str} {u y : Value} {v : V} {d : PyData} (ht : Th X.K H v d) (rx : RelV (.str b) u) (ry : RelV v y) (ok : PyData.strOk b = true) (hd : eqO d = true) : SeqAt.EqAt A s u y (isTx b d) := by
  obtain ⟨t, rfl⟩ := rx
  rcases eqO_cases hd with ⟨kvs, rfl⟩ | sh
  · cases ht with
    | dct ha _ _ =>
      cases ry
      obtain ⟨_, _, vs, kv, o, es, ep, ho, ex, hda, _⟩ := (show ObjOk X.prog X.w H s.heap _ (.dK _) from I.hok _ _ ha)
      exact PySem.lk_eqAt_str_dict _ _ ho ex.1 hda (by omega)
  · obtain ⟨as, r1, _⟩ := th_reads I ht y ry
    have z := SeqAt.eqAt_reads (.str b) d A s _ y _ as (Reads.str b t) r1 (SeqAt.canLay_of_shaped (str_shaped ok)) (SeqAt.canLay_of_shaped sh) (by
      have : min (PyData.str b).depth d.depth ≤ 0 := Nat.min_le_left _ _
      omega)
    rw [eqv_isTx2] at z
    exact z
theorem thAll_getV {K : PySem.W.Frag} {H : Hp} : ∀ {vs : List V} {ds : List PyData} {us : List Value}, ThAll K H vs ds → Vals vs us → ∀ (j : Nat) (u : Value), us[j]? = some u → ∃ v d, ds[j]? = some d ∧ Th K H v d ∧ RelV v u
  | _, _, _, .nil, .nil, j, u, h => nomatch h
  | _, _, _, .cons (v := v) (d := d) h t, .cons r1 r2, j, u, hj => by
    cases j with
    | zero =>
      cases hj
      exact ⟨v, d, rfl, h, r1⟩
    | succ j => exact thAll_getV t r2 j u hj
theorem strs_getV : ∀ {ss : List Str} {us : List Value}, Vals (ss.map V.str) us → ∀ (j : Nat) (u : Value), us[j]? = some u → ∃ x, ss[j]? = some x ∧ RelV (.str x) u
  | [], _, .nil, j, u, h => nomatch h
  | x :: ss, _, .cons r1 r2, j, u, hj => by
    cases j with
    | zero =>
      cases hj
      exact ⟨x, rfl, r1⟩
    | succ j => exact strs_getV r2 j u hj
end
section
variable {X : Cx}
theorem op_eqTs (hu : X.A.units + 65 < cLine) : OpR X (compareOp .Eq) (rEqTs X.K) := by
  intro pins s σ H x y v u Q I rx ry h
  obtain ⟨a, b, ss, vs, ds, rfl, rfl, ha, hb, ht, ok, eo, q⟩ := h
  cases rx
  cases ry
  obtain ⟨us, r1, p1, _⟩ := I.list ha
  obtain ⟨ws, r2, p2, _⟩ := I.list hb
  have l1 := r1.length
  have l2 := r2.length
  have l3 := thAll_len ht
  rw [List.length_map] at l1
  by_cases e : ss.length = ds.length
  · have eu : (A : Around) → A.in1.units = A.units + 1 := fun _ => rfl
    refine SeqAt.eq_listAt (e := fun j => isTxs ((ss[j]?).toList) ((ds[j]?).toList)) p1.isList p2.isList (by rw [List.size_toArray, List.size_toArray]; omega) (by omega) (fun j h1 h2 => ?_) ?_
    · rw [List.size_toArray] at h1 h2
      obtain ⟨x, hx, rx⟩ := strs_getV r1 j _ (List.getElem?_eq_getElem h1)
      obtain ⟨v, d, hd, th, rv⟩ := thAll_getV ht r2 j _ (List.getElem?_eq_getElem h2)
      have z := eqAt_tx I (A := X.A.in1) (by rw [eu]; omega) th rx rv (ok x (List.mem_of_getElem? hx)) (eo d (List.mem_of_getElem? hd))
      have e2 : isTxs ((ss[j]?).toList) ((ds[j]?).toList) = isTx x d := by
        rw [hx, hd]
        show (isTx x d && true) = _
        rw [Bool.and_true]
      rw [e2]
      simpa using z
    · have e3 : (List.range us.toArray.size).all (fun j => isTxs ((ss[j]?).toList) ((ds[j]?).toList)) = isTxs ss ds := by
        rw [List.size_toArray, ← l1]
        refine isTxs_all e fun j x d hx hd => ?_
        show isTxs ((ss[j]?).toList) ((ds[j]?).toList) = _
        rw [hx, hd]
        show (isTx x d && true) = _
        rw [Bool.and_true]
      rw [e3]
      exact ⟨.bl _, H, I, rfl, q⟩
  · rw [isTxs_len e] at q
    refine SeqAt.eq_list_lengthsAt p1.isList p2.isList ?_ (by omega) ⟨.bl _, H, I, rfl, q⟩
    rw [bne_iff_ne, List.size_toArray, List.size_toArray]
    omega
/-! ### t == (), t != (), whatever t holds -/
def rEqNilT (K : PySem.W.Frag) : R2 := fun x y H Q => ∃ (a b : Addr) (xs : List V), x = .ref a ∧ y = .ref b ∧ SqT K H a xs ∧ SqT K H b [] ∧ Q (.bl xs.isEmpty) H
def rNeNilT (K : PySem.W.Frag) : R2 := fun x y H Q => ∃ (a b : Addr) (xs : List V), x = .ref a ∧ y = .ref b ∧ SqT K H a xs ∧ SqT K H b [] ∧ Q (.bl (!xs.isEmpty)) H
theorem op_eqNilT (hu : X.A.units + 64 < cLine) : OpR X (compareOp .Eq) (rEqNilT X.K) := by
  intro pins s σ H x y v u Q I rx ry h
  obtain ⟨a, b, xs, rfl, rfl, ha, hb, q⟩ := h
  cases rx
  cases ry
  obtain ⟨us, r1, ⟨o1, h1, c1, n1, d1⟩, _⟩ := I.tuple ha
  obtain ⟨ws, r2, ⟨o2, h2, c2, n2, d2⟩, _⟩ := I.tuple hb
  cases r2
  refine SeqAt.eq_tupleAt (e := fun _ => false) ⟨o1, h1, c1, n1, d1⟩ ⟨o2, h2, c2, n2, d2⟩ (by omega) (fun j _ h => absurd h (Nat.not_lt_zero _)) ?_
  have e : ((List.range (min us.toArray.size ([] : List Value).toArray.size)).all (fun _ => false) && us.toArray.size == ([] : List Value).toArray.size) = xs.isEmpty := by
    have z := r1.length
    cases xs with
    | nil =>
      cases r1
      rfl
    | cons x xs =>
      cases us with
      | nil => cases z
      | cons _ _ => simp
  rw [e]
  exact ⟨.bl _, H, I, rfl, q⟩
theorem op_neNilT (hu : X.A.units + 64 < cLine) : OpR X (compareOp .NotEq) (rNeNilT X.K) := by
  intro pins s σ H x y v u Q I rx ry h
  obtain ⟨a, b, xs, rfl, rfl, ha, hb, q⟩ := h
  cases rx
  cases ry
  obtain ⟨us, r1, ⟨o1, h1, c1, n1, d1⟩, _⟩ := I.tuple ha
  obtain ⟨ws, r2, ⟨o2, h2, c2, n2, d2⟩, _⟩ := I.tuple hb
  cases r2
  refine SeqAt.RcNeAt.tuples (e := fun _ => false) ⟨o1, h1, c1, n1, d1⟩ ⟨o2, h2, c2, n2, d2⟩ (by omega) (fun j _ h => absurd h (Nat.not_lt_zero _)) _ _ _ _ ?_
  have e : (!((List.range (min us.toArray.size ([] : List Value).toArray.size)).all (fun _ => false) && us.toArray.size == ([] : List Value).toArray.size)) = !xs.isEmpty := by
    have z := r1.length
    cases xs with
    | nil =>
      cases r1
      rfl
    | cons x xs =>
      cases us with
      | nil => cases z
      | cons _ _ => simp
  rw [e]
  exact ⟨.bl _, H, I, rfl, q⟩
end
end Lk

/-! InS0 -/
set_option Elab.async false
set_option maxRecDepth 100000
set_option linter.all false
set_option maxHeartbeats 4000000
namespace Lk
open PySem PySem.Spec PyProof.Rows L2
/-! ### thing in names, names a tuple of texts, thing of any form -/
def isNm (ss : List Str) : PyData → Bool
  | .str x => decide (x ∈ ss)
  | _ => false
theorem any_isTx {ss : List Str} {d : PyData} : (ss.any fun b => isTx b d) = isNm ss d := by
  cases d with
  | str x =>
    show (ss.any fun b => decide (x = b)) = decide (x ∈ ss)
    rw [Bool.eq_iff_iff, List.any_eq_true, decide_eq_true_iff]
    exact ⟨fun ⟨b, m, e⟩ => (of_decide_eq_true e) ▸ m, fun m => ⟨x, m, decide_eq_true rfl⟩⟩
  | _ =>
    exact List.any_eq_false.mpr fun b _ h => nomatch h
def valTx (d : PyData) : Value → Bool
  | .str b _ => isTx b d
  | _ => false
theorem vals_any {d : PyData} : ∀ {ss : List Str} {us : List Value}, Vals (ss.map V.str) us → us.any (valTx d) = ss.any fun b => isTx b d
  | [], _, .nil => rfl
  | x :: ss, _, .cons r t => by
    obtain ⟨tk, rfl⟩ := r
    rw [List.any_cons, List.any_cons, vals_any t]
    rfl
def rInS (K : PySem.W.Frag) : R2 := fun x y H Q => ∃ (d : PyData) (a : Addr) (ss : List Str), y = .ref a ∧ Th K H x d ∧ SqT K H a (ss.map V.str) ∧ (∀ s ∈ ss, PyData.strOk s = true) ∧ eqO d = true ∧ Q (.bl (isNm ss d)) H
def rNotInS (K : PySem.W.Frag) : R2 := fun x y H Q => ∃ (d : PyData) (a : Addr) (ss : List Str), y = .ref a ∧ Th K H x d ∧ SqT K H a (ss.map V.str) ∧ (∀ s ∈ ss, PyData.strOk s = true) ∧ eqO d = true ∧ Q (.bl (!isNm ss d)) H
section
variable {X : Cx}
theorem op_inS (hu : X.A.units + 65 < cLine) : OpR X (compareOp .In) (rInS X.K) := by
  intro pins s σ H x y v u Q I rx ry h
  obtain ⟨d, a, ss, rfl, th, ha, ok, hd, q⟩ := h
  cases ry
  obtain ⟨us, r1, p1, _⟩ := I.tuple ha
  have eu : (A : Around) → A.in1.units = A.units + 1 := fun _ => rfl
  refine SeqAt.in_tupleAt (valTx d) p1 (fun y my => ?_) ?_
  · obtain ⟨j, hj, ej⟩ := List.mem_iff_getElem.mp (show y ∈ us by simpa using my)
    obtain ⟨b, hb, rb⟩ := strs_getV r1 j y (by rw [List.getElem?_eq_getElem hj, ej])
    have z := eqAt_tx I (A := X.A.in1) (by rw [eu]; omega) th rb rx (ok b (List.mem_of_getElem? hb)) hd
    obtain ⟨tk, rfl⟩ := rb
    exact z
  · have e : us.toArray.any (valTx d) = isNm ss d := by rw [List.any_toArray, vals_any r1, any_isTx]
    rw [e]
    exact ⟨.bl _, H, I, rfl, q⟩
theorem op_notInS (hu : X.A.units + 65 < cLine) : OpR X (compareOp .NotIn) (rNotInS X.K) := by
  intro pins s σ H x y v u Q I rx ry h
  obtain ⟨d, a, ss, rfl, th, ha, ok, hd, q⟩ := h
  cases ry
  obtain ⟨us, r1, p1, _⟩ := I.tuple ha
  have eu : (A : Around) → A.in1.units = A.units + 1 := fun _ => rfl
  refine SeqAt.notIn_tupleAt (valTx d) p1 (fun y my => ?_) ?_
  · obtain ⟨j, hj, ej⟩ := List.mem_iff_getElem.mp (show y ∈ us by simpa using my)
    obtain ⟨b, hb, rb⟩ := strs_getV r1 j y (by rw [List.getElem?_eq_getElem hj, ej])
    have z := eqAt_tx I (A := X.A.in1) (by rw [eu]; omega) th rb rx (ok b (List.mem_of_getElem? hb)) hd
    obtain ⟨tk, rfl⟩ := rb
    exact z
  · have e : us.toArray.any (valTx d) = isNm ss d := by rw [List.any_toArray, vals_any r1, any_isTx]
    rw [e]
    exact ⟨.bl _, H, I, rfl, q⟩
end
end Lk

/-! Rep0 -/
set_option Elab.async false
set_option maxRecDepth 100000
set_option linter.all false
set_option maxHeartbeats 4000000
namespace Lk
open PySem PySem.Spec PyProof.Rows L2
/-! ### text * int, from 0 on -/
def rStrRep0 : R2 := fun x y H Q => ∃ (a : Str) (k : Nat), x = .str a ∧ y = .int (k : Int) ∧ k ≤ 5000 ∧ a.length ≤ 1000 ∧ ∀ z : Str, TL.tl z = (List.replicate k (TL.tl a)).flatten → Q (.str z) H
theorem op_strRep0 {X : Cx} : OpR X (binaryOp .Mult) rStrRep0 := by
  intro pins s σ H x y v u Q I rx ry h
  obtain ⟨a, k, rfl, rfl, k2, ha, q⟩ := h
  by_cases h0 : k = 0
  · subst h0
    obtain ⟨t, rfl⟩ := rx
    obtain ⟨t', rfl⟩ := ry
    exact PySem.P.mul_str_none (by decide) (by decide) ⟨.str Str.empty, H, I.tok _, ⟨_, rfl⟩, q _ rfl⟩
  · exact op_strRep1 pins s σ H _ _ v u Q I rx ry ⟨a, k, rfl, rfl, by omega, k2, ha, q⟩
/-! ### data that repr shows: tuples of such -/
structure Pl (k : Nat) (d : PyData) : Prop where
  sh : d.showable = true
  lv : d.leavesShort 13 = true
  dp : d.depth ≤ k
  hd : d.hasDict = false
theorem pl_all {k : Nat} : ∀ {ds : List PyData}, (∀ d ∈ ds, Pl k d) → PyData.showableAll ds = true ∧ PyData.leavesShortAll 13 ds = true ∧ PyData.depthAll ds ≤ k ∧ PyData.hasDictAll ds = false
  | [], _ => ⟨rfl, rfl, Nat.zero_le _, rfl⟩
  | d :: ds, h => by
    obtain ⟨a, b, c, e⟩ := pl_all fun x m => h x (List.mem_cons_of_mem _ m)
    have q := h d List.mem_cons_self
    refine ⟨?_, ?_, ?_, ?_⟩
    · rw [PyData.showableAll, q.sh, a]
      rfl
    · rw [PyData.leavesShortAll, q.lv, b]
      rfl
    · rw [PyData.depthAll]
      have z := q.dp
      omega
    · rw [PyData.hasDictAll, q.hd, e]
      rfl
theorem pl_tup {k : Nat} {ds : List PyData} (h : ∀ d ∈ ds, Pl k d) : Pl (k + 1) (.tuple ds) := by
  obtain ⟨a, b, c, e⟩ := pl_all h
  refine ⟨?_, ?_, ?_, ?_⟩
  · rw [PyData.showable]
    exact a
  · rw [PyData.leavesShort]
    exact b
  · rw [PyData.depth]
    omega
  · rw [PyData.hasDict]
    exact e
theorem Pl.le {k j : Nat} {d : PyData} (h : Pl k d) (le : k ≤ j) : Pl j d := ⟨h.sh, h.lv, Nat.le_trans h.dp le, h.hd⟩
theorem Pl.wf {k : Nat} {d : PyData} (h : Pl k d) (k60 : k ≤ 60) (b : d.bulk ≤ 1000000) : Wf d := ⟨h.sh, h.lv, b, Nat.le_trans h.dp k60, .inl h.hd⟩
end Lk

/-! RevL0 -/
set_option Elab.async false
set_option maxRecDepth 100000
set_option linter.all false
set_option maxHeartbeats 4000000
namespace Lk
open PySem PySem.Spec PyProof.Rows L2
/-! ### xs[::0 - 1] -/
section
variable {X : Cx}
theorem pe_revL0 {e : Expr} {te : TE} {k k2 : Nat} {p0 p1 p2 p3 pos : Pos} (he : PE X e te) : PE X (.Subscript e (.Slice none none (some (.BinOp (.Constant (.int 0) k p0) .Sub (.Constant (.int 1) k2 p1) p2)) p3) pos) (tRevL X.K te) := by
  refine ⟨fun pins s σ H Q I h => ?_⟩
  refine Subscript_ (thn (he.run pins s σ H _ I h) fun v s1 ⟨x, H1, I1, r1, q1⟩ => ?_)
  obtain ⟨a, xs, ex, hx, q⟩ := q1
  subst ex
  cases r1
  have hst : PO X (some (.BinOp (.Constant (.int 0) k p0) .Sub (.Constant (.int 1) k2 p1) p2)) _ := po_some (pe_op op_sub pe_int pe_int)
  refine wpAny_Slice (thn (po_none.run pins s1 σ H1 (fun o H2 => o = none ∧ H2 = H1) I1 ⟨rfl, rfl⟩) fun vl s2 ⟨l, H2, I2, pl, el, e2⟩ => ?_)
  subst el e2
  refine thn (po_none.run pins s2 σ H2 (fun o H3 => o = none ∧ H3 = H2) I2 ⟨rfl, rfl⟩) fun vu s3 ⟨u, H3, I3, pu, eu, e3⟩ => ?_
  subst eu e3
  refine thn (hst.run pins s3 σ H3 (fun o H4 => o = some (-1) ∧ H4 = H3) I3 ⟨0, 1, rfl, rfl, -1, rfl, rfl, rfl⟩) fun vs s4 ⟨o, H4, I4, ps, eo, e4⟩ => ?_
  subst eo e4
  have I5 : Inv X pins σ H4 { s4 with heap := s4.heap.push { cls := .type "slice", data := .fields #[vl, vu, vs] } } := I4.kept (t' := s4.toks) fun b ob q => Heap.get?_push_of_some _ q
  obtain ⟨its, r, ht, hz⟩ := I5.list hx
  have hlen := r.length
  show wpAny (model X.prog X.w) X.A (subscriptTail e (.Slice none none (some (.BinOp (.Constant (.int 0) k p0) .Sub (.Constant (.int 1) k2 p1) p2)) p3) (.ref a) (.ref s4.heap.objs.size)) (EP X pins σ Q) X.xe { s4 with heap := s4.heap.push { cls := .type "slice", data := .fields #[vl, vu, vs] } }
  refine tail_any (ops := [.ref a, .ref s4.heap.objs.size]) ht.isList.typeIs (PySem.slot_list_getitem.lookup) ?_ (by with_unfolding_all rfl)
  refine wpAny_getItem_list_slice ht.isList (Heap.IsSliceOf.new _ vl vu vs) pl pu ps (by decide) ?_ (by rw [List.size_toArray]; omega)
  rw [PySem.W.krv_pick]
  refine ⟨.ref _, _, I5.laid (t' := s4.toks) (o := .lst xs.reverse) (fun b ob q => Heap.get?_push_of_some _ q) (Nat.le_refl _) ?_, rfl, q _ (I5.hok.fresh (Nat.le_refl _))⟩
  exact ⟨by rw [List.length_reverse]; exact hz, _, 0, r.reverse, Heap.get?_push_size _ rfl⟩
end
end Lk

/-! RevT0 -/
set_option Elab.async false
set_option maxRecDepth 100000
set_option linter.all false
set_option maxHeartbeats 4000000
namespace Lk
open PySem PySem.Spec PyProof.Rows L2
/-! ### t[::0 - 1] -/
section
variable {X : Cx}
theorem pe_revT0 {e : Expr} {te : TE} {k k2 : Nat} {p0 p1 p2 p3 pos : Pos} (he : PE X e te) : PE X (.Subscript e (.Slice none none (some (.BinOp (.Constant (.int 0) k p0) .Sub (.Constant (.int 1) k2 p1) p2)) p3) pos) (tRevT X.K te) := by
  refine ⟨fun pins s σ H Q I h => ?_⟩
  refine Subscript_ (thn (he.run pins s σ H _ I h) fun v s1 ⟨x, H1, I1, r1, q1⟩ => ?_)
  obtain ⟨a, xs, rfl, hx, q⟩ := q1
  cases r1
  refine wpAny_Slice ?_
  rw [evalPart_none]
  refine wpAny_pure (wpAny_pure ?_)
  rw [evalPart_some]
  have hm : PE X (.BinOp (.Constant (.int 0) k p0) .Sub (.Constant (.int 1) k2 p1) p2) _ := pe_op op_sub pe_int pe_int
  refine thn (hm.run pins s1 σ H1 (fun y H2 => y = .int (-1) ∧ H2 = H1) I1 ⟨0, 1, rfl, rfl, rfl, rfl⟩) fun vk s2 ⟨y, H2, I2, r2, ey, eH⟩ => ?_
  subst ey eH
  obtain ⟨tk, rfl⟩ := r2
  have I4 : Inv X pins σ H2 { s2 with heap := s2.heap.push { cls := .type "slice", data := .fields #[.none, .none, .int (-1) tk] } } := I2.kept (t' := s2.toks) fun b ob z => Heap.get?_push_of_some _ z
  obtain ⟨its, r, ht, hz⟩ := I4.tuple hx
  have len : its.toArray.size = xs.length := by rw [List.size_toArray]; exact r.length.symm
  show wpAny (model X.prog X.w) X.A (subscriptTail e _ (.ref a) (.ref s2.heap.objs.size)) (EP X pins σ Q) X.xe { s2 with heap := s2.heap.push { cls := .type "slice", data := .fields #[.none, .none, .int (-1) tk] } }
  refine tail_any (ops := [.ref a, .ref s2.heap.objs.size]) (IsTup.typeIs ht) PyProof.Rows.slot_tuple_getitem.lookup (item_rev (u := tk) ht (Heap.IsSliceOf.new ..) ?_ (by rw [len]; exact hz)) (by with_unfolding_all rfl)
  refine ⟨.ref (s2.heap.push { cls := .type "slice", data := .fields #[.none, .none, .int (-1) tk] }).objs.size, _, I4.laid (t' := s2.toks) (o := .tup xs.reverse) (fun b ob z => Heap.get?_push_of_some _ z) (Nat.le_refl _) ?_, rfl, q _ (I4.hok.fresh (Nat.le_refl _))⟩
  exact ⟨by rw [List.length_reverse]; exact hz, _, vals_rev r, IsTup.new _ _⟩
end
end Lk

/-! K31t -/
set_option Elab.async false
set_option linter.all false
set_option maxRecDepth 100000
set_option maxHeartbeats 4000000
namespace Lk
open PySem PySem.Spec PyProof.Rows L2
def top (i : Nat) : Stmt := PySem.Challenge.pw_stemrules_k31_barriers_judged.main.body.getD i (.Pass ⟨0, 0, 0, 0⟩)
abbrev s_p_is_name : Stmt := top 10
abbrev s_p_is_pattern : Stmt := top 11
abbrev s_p_is_end : Stmt := top 12
abbrev s_p_need_name : Stmt := top 13
abbrev s_p_stem_within : Stmt := top 14
abbrev s_p_filled : Stmt := top 15
abbrev s_p_ascending : Stmt := top 16
abbrev s_p_is_rule : Stmt := top 23
abbrev s_p_is_label : Stmt := top 24
abbrev s_p_are_sources : Stmt := top 25
abbrev s_p_is_rule_source : Stmt := top 26
abbrev s_p_is_book : Stmt := top 27
abbrev s_p_are_files : Stmt := top 28
abbrev s_p_gathered : Stmt := top 29
abbrev s_p_sources_for_all : Stmt := top 30
abbrev s_p_fitted : Stmt := top 31
abbrev s_p_need_book : Stmt := top 32
abbrev s_p_need_files : Stmt := top 33
abbrev s_p_need_things : Stmt := top 34
abbrev s_p_with_one_more : Stmt := top 36
abbrev s_p_barriers : Stmt := top 40
abbrev s_p_shows_barrier : Stmt := top 41
abbrev s_p_few_kin : Stmt := top 42
abbrev s_p_column : Stmt := top 43
abbrev s_p_making : Stmt := top 44
abbrev s_p_barring : Stmt := top 45
abbrev s_p_numbered : Stmt := top 46
abbrev s_p_least_of : Stmt := top 47
abbrev s_p_none_in : Stmt := top 48
abbrev s_kneaded : Stmt := top 50
abbrev s_pot_of : Stmt := top 51
abbrev s_below : Stmt := top 52
abbrev s_pick : Stmt := top 53
abbrev s_some_name : Stmt := top 54
abbrev s_split : Stmt := top 55
abbrev s_is_name : Stmt := top 56
abbrev s_stem : Stmt := top 57
abbrev s_put : Stmt := top 58
abbrev s_ordered : Stmt := top 59
abbrev s_whole : Stmt := top 60
abbrev s_some_source : Stmt := top 61
abbrev s_some_rule : Stmt := top 62
abbrev s_some_book : Stmt := top 63
abbrev s_kin : Stmt := top 64
abbrev s_way : Stmt := top 65
abbrev s_some_files : Stmt := top 66
abbrev s_due : Stmt := top 67
abbrev s_law : Stmt := top 68
abbrev s_TooMany_init : Stmt := L2.inClass (top 2) 0
abbrev s_TooMany_str : Stmt := L2.inClass (top 2) 1
abbrev s_Makers_init : Stmt := L2.inClass (top 39) 0
abbrev s_Makers_of : Stmt := L2.inClass (top 39) 1
abbrev s_Makers_of_all : Stmt := L2.inClass (top 39) 2
end Lk

/-! K31s -/
set_option Elab.async false
set_option linter.all false
set_option maxRecDepth 100000
set_option maxHeartbeats 4000000
namespace Lk
open PySem PySem.Spec PyProof.Rows L2
section
variable {P : Program} {w : World} {K : PySem.W.Frag} {mg : Str → Option Value} {base : Heap}
def spSW (K : PySem.W.Frag) : Sp := fun vs H Q _ => ∃ (q : Addr) (b e z : Str), vs = [.ref q, .str z] ∧ SqT K H q [.str b, .str e] ∧ (∀ c ∈ TL.tl b, upB c = true) ∧ (∀ c ∈ TL.tl e, loB c = true) ∧ b.length ≤ 1000000 ∧ e.length ≤ 1000000 ∧ z.length ≤ 1000000 ∧
  (∀ m : Str, TL.tl z = TL.tl b ++ TL.tl m ++ TL.tl e → Q (.str m) H) ∧ ((¬ ∃ m : Str, TL.tl z = TL.tl b ++ TL.tl m ++ TL.tl e) → Q .non H)
theorem sc_p_stem_within : FnScope ["pattern", "name", "begin", "end"] ["pattern", "name"] (defScope s_p_stem_within) := ⟨rfl, rfl, rfl, by decide +kernel, rfl, by decide +kernel, by decide +kernel⟩
theorem cal_p_stem_within (D : Def1 K mg "stem_within" s_p_stem_within) (G : Glb mg) : Cal P w K mg base 1 "stem_within" (spSW K) := by
  refine mkCal D sc_p_stem_within (fun _ _ _ _ _ _ us hl => match us, hl with | [_, _], _ => rfl) (fun vs H Q E h => ?_) (fun f cdv A outer s H vs Q E hr h => ?_)
  · obtain ⟨q, b, e, z, rfl, _⟩ := h
    rfl
  · obtain ⟨q, b, e, z, rfl, hq, hb, he, lb, le, lz, yes, no⟩ := h
    refine ⟨_, pss_cons (ps_asg (pv 0) (pg_tup rfl (pgs_cons (pg_name (i := 2) sc_p_stem_within.nd rfl (.inl rfl)) (pgs_cons (pg_name (i := 3) sc_p_stem_within.nd rfl (.inl rfl)) pgs_nil))))
      (pss_cons (ps_if (PW.pt (pw_and (pt_val (pe_m1 PySem.F.slot_str_startswith PySem.F.type_str_startswith mt_startswith (pv 1) (pv 2))) (pw_and1 (pt_val (pe_m1 PySem.F.slot_str_endswith PySem.F.type_str_endswith mt_endswith (pv 1) (pv 3))))))
        (pss_one (ps_ret (pe_slice sl_str (pv 1) (po_some (pe_callB call_len_str (by rfl) G.len PySem.boot_len (pa_cons (pv 2) pa_nil))) (po_some (pe_op op_sub (pe_callB call_len_str (by rfl) G.len PySem.boot_len (pa_cons (pv 1) pa_nil)) (pe_callB call_len_str (by rfl) G.len PySem.boot_len (pa_cons (pv 3) pa_nil))))))) pss_nil)
      (pss_one (ps_ret pe_non))), ?_⟩
    have big : ∀ n : Nat, n ≤ 1000000 → n ≤ sizeLine := fun n h => Nat.le_trans h (by decide)
    refine ⟨_, rfl, q, _, rfl, hq, rfl, _, _, rfl, _, _, rfl, rfl, ?_⟩
    refine ⟨_, rfl, ⟨z, rfl⟩, _, rfl, z, b, rfl, rfl, _, rfl, ?_⟩
    by_cases hs : Txt.startswith z b = true
    · refine iteT' hs ⟨_, rfl, ⟨z, rfl⟩, _, rfl, z, e, rfl, rfl, _, rfl, ?_⟩
      by_cases hn : Txt.endswith z e = true
      · refine iteT' hn ?_
        obtain ⟨m, hm⟩ := mid_of hb he (starts_tl.mp hs) (ends_tl.mp hn)
        refine ⟨_, rfl, _, rfl, b, rfl, big _ lb, _, rfl, _, rfl, z, rfl, big _ lz, _, rfl, e, rfl, big _ le, _, _, rfl, rfl, _, rfl, z, rfl, big _ lz, yes _ ?_⟩
        have c := cut_mid hm
        rw [← TL.len_tl, ← TL.len_tl] at c
        rw [c]
        exact hm
      · refine iteF' (Bool.eq_false_iff.mpr hn) (no ?_)
        rintro ⟨m, hm⟩
        exact hn (ends_tl.mpr ⟨_, hm⟩)
    · refine iteF' (Bool.eq_false_iff.mpr hs) ?_
      refine iteF (no ?_)
      rintro ⟨m, hm⟩
      exact hs (starts_tl.mpr ⟨TL.tl m ++ TL.tl e, by rw [hm, List.append_assoc]⟩)
end
end Lk

/-! K31q -/
set_option Elab.async false
set_option linter.all false
set_option maxRecDepth 100000
set_option maxHeartbeats 4000000
namespace Lk
open PySem PySem.Spec PyProof.Rows L2
section
variable {P : Program} {w : World} {K : PySem.W.Frag} {mg : Str → Option Value} {base : Heap}
theorem sc_p_is_name : FnScope ["thing"] ["thing"] (defScope s_p_is_name) := ⟨rfl, rfl, rfl, by decide +kernel, rfl, by decide +kernel, by decide +kernel⟩
theorem cal_p_is_name (D : Def1 K mg "is_name" s_p_is_name) (T : Glc mg) : Cal P w K mg base 1 "is_name" (spIsName K) := by
  refine mkCal D sc_p_is_name (fun _ _ _ _ _ _ us hl => match us, hl with | [_], _ => rfl) (fun vs H Q E h => ?_) (fun f cdv A outer s H vs Q E hr h => ?_)
  · obtain ⟨v, d, rfl, _⟩ := h
    rfl
  · obtain ⟨v, d, rfl, ht, hb, k⟩ := h
    refine ⟨_, pss_one (ps_ret (pe_and (pe_isi (T := "str") (pv 0) T.isinst T.str (by decide +kernel)) (pe_and (pe_cmpR op_ne (pv 0) pe_str (nomark _))
      (pe_one (pe_cmpR op_eq (pe_m1 PySem.F.slot_str_lstrip PySem.F.type_str_lstrip mt_lstripChars (pe_m1 PySem.F.slot_str_lstrip PySem.F.type_str_lstrip mt_lstripChars (pv 0) (pe_con1 T.caps)) (pe_con1 T.smalls)) pe_str (nomark _)))))), ?_⟩
    refine ⟨_, rfl, v, _, _, _, _, rfl, .ty _, th_ty ht, kit_str d, _, rfl, ?_⟩
    cases e : isStr d with
    | false =>
      rw [(not_str e).1] at k
      exact iteF k
    | true =>
      obtain ⟨x, rfl, rfl⟩ := th_str ht e
      refine iteT ⟨_, rfl, rfl, _, rfl, ?_⟩
      have hx : x.length ≤ sizeLine := Nat.le_trans hb (by decide)
      have e1 : TL.tl (Txt.lstripChars (Txt.lstripChars x capS) smaS) = ((TL.tl x).dropWhile upB).dropWhile loB := by
        rw [Txt.lstripChars, tl_lstrip, Txt.lstripChars, tl_lstrip, funext cap_has, funext sma_has]
      have h2 : (Txt.lstripChars x capS).length ≤ sizeLine := by
        rw [TL.len_tl, Txt.lstripChars, tl_lstrip]
        refine Nat.le_trans ?_ hx
        rw [TL.len_tl, ← drop_tw, List.length_drop]
        omega
      refine ite2 (fun hne => ?_) (fun hne => ?_)
      · have hn : TL.tl x ≠ [] := fun z => by
          rw [tl_nil_iff.mp z] at hne
          exact absurd hne (by decide)
        refine ⟨_, rfl, ⟨x, rfl⟩, x, capS, rfl, rfl, hx, ⟨_, rfl⟩, _, smaS, rfl, rfl, h2, rfl, ?_⟩
        have e2 : decide (V.str (Txt.lstripChars (Txt.lstripChars x capS) smaS) = V.str "") = dName (.str x) := by
          rw [Bool.eq_iff_iff, decide_eq_true_iff]
          show _ ↔ (!(TL.tl x).isEmpty && ((TL.tl x).dropWhile upB).all loB) = true
          rw [V.str.injEq, ← tl_nil_iff, e1, dw_all]
          cases q : TL.tl x with
          | nil => exact absurd q hn
          | cons c r => simp
        rw [e2]
        exact k
      · have hn : x = "" := by
          apply Classical.byContradiction
          intro z
          exact hne (by rw [decide_eq_false (by rw [V.str.injEq]; exact z)]; rfl)
        subst hn
        exact k
theorem sc_p_is_end : FnScope ["thing", "letters"] ["thing", "letters"] (defScope s_p_is_end) := ⟨rfl, rfl, rfl, by decide +kernel, rfl, by decide +kernel, by decide +kernel⟩
theorem cal_p_is_end (D : Def1 K mg "is_end" s_p_is_end) (T : Glc mg) (G : Glb mg) : Cal P w K mg base 1 "is_end" (spIsEnd K) := by
  refine mkCal D sc_p_is_end (fun _ _ _ _ _ _ us hl => match us, hl with | [_, _], _ => rfl) (fun vs H Q E h => ?_) (fun f cdv A outer s H vs Q E hr h => ?_)
  · obtain ⟨v, d, L, p, rfl, _⟩ := h
    rfl
  · obtain ⟨v, d, L, p, rfl, ht, hb, hL, k⟩ := h
    refine ⟨_, pss_one (ps_ret (pe_and (pe_isi (T := "str") (pv 0) T.isinst T.str (by decide +kernel)) (pe_and (pe_cmpR op_le (pe_callB call_len_str (by rfl) G.len PySem.boot_len (pa_cons (pv 0) pa_nil)) (pe_con1 T.ends) (nomark _))
      (pe_one (pe_cmpR op_eq (pe_m1 PySem.F.slot_str_strip PySem.F.type_str_strip mt_stripChars (pv 0) (pv 1)) pe_str (nomark _)))))), ?_⟩
    refine ⟨_, rfl, v, _, _, _, _, rfl, .ty _, th_ty ht, kit_str d, _, rfl, ?_⟩
    cases e : isStr d with
    | false =>
      rw [(not_str e).2.1] at k
      exact iteF k
    | true =>
      obtain ⟨x, rfl, rfl⟩ := th_str ht e
      have hx : x.length ≤ sizeLine := Nat.le_trans hb (by decide)
      refine iteT ⟨_, rfl, x, rfl, hx, _, _, rfl, rfl, _, rfl, ?_⟩
      refine ite2 (fun hne => ?_) (fun hne => ?_)
      · have h3 : x.length ≤ 3 := by
          have := of_decide_eq_true hne
          omega
        refine ⟨_, rfl, ⟨x, rfl⟩, _, rfl, x, L, rfl, rfl, hx, rfl, ?_⟩
        have e2 : decide (V.str (Txt.stripChars x L) = V.str "") = dEnd p (.str x) := by
          rw [Bool.eq_iff_iff, decide_eq_true_iff]
          show _ ↔ (decide (x.length ≤ 3) && (TL.tl x).all p) = true
          rw [V.str.injEq, ← tl_nil_iff, Txt.stripChars, tl_strip, funext hL, decide_eq_true h3, Bool.true_and]
        rw [e2]
        exact k
      · have e2 : dEnd p (.str x) = false := by
          show (decide (x.length ≤ 3) && (TL.tl x).all p) = false
          rw [decide_eq_false (fun z => hne (decide_eq_true (by omega))), Bool.false_and]
        rw [e2] at k
        exact k
theorem sc_p_is_pattern : FnScope ["thing", "begin", "end"] ["thing"] (defScope s_p_is_pattern) := ⟨rfl, rfl, rfl, by decide +kernel, rfl, by decide +kernel, by decide +kernel⟩
theorem cal_p_is_pattern (D : Def1 K mg "is_pattern" s_p_is_pattern) (T : Glc mg) (G : Glb mg) (CE : Cal P w K mg base 1 "is_end" (spIsEnd K)) : Cal P w K mg base 2 "is_pattern" (spIsPat K) := by
  refine mkCal D sc_p_is_pattern (fun _ _ _ _ _ _ us hl => match us, hl with | [_], _ => rfl) (fun vs H Q E h => ?_) (fun f cdv A outer s H vs Q E hr h => ?_)
  · obtain ⟨v, d, rfl, _⟩ := h
    rfl
  · obtain ⟨v, d, rfl, ht, hb, k⟩ := h
    refine ⟨_, pss_cons (ps_if (PW.pt (pw_or (pt_not (pt_val (pe_isi (T := "tuple") (pv 0) T.isinst T.tuple (by decide +kernel)))) (pw_or1 (pt_cmpR op_ne (pe_callB call_len_seq (by rfl) G.len PySem.boot_len (pa_cons (pv 0) pa_nil)) pe_int (nomark _))))) (pss_one (ps_ret pe_bl)) pss_nil)
      (pss_cons (ps_asg (pv 0) (pg_tup rfl (pgs_cons (pg_name (i := 1) sc_p_is_pattern.nd rfl (.inl rfl)) (pgs_cons (pg_name (i := 2) sc_p_is_pattern.nd rfl (.inl rfl)) pgs_nil))))
      (pss_one (ps_ret (pe_and (pe_cal CE hr (by decide) (pa_cons (pv 1) (pa_cons (pe_con1 T.caps) pa_nil))) (pe_and (pe_cal CE hr (by decide) (pa_cons (pv 2) (pa_cons (pe_con1 T.smalls) pa_nil))) (pe_one (pe_cmpR op_ne (pe_op op_add_str (pv 1) (pv 2)) pe_str (nomark _)))))))), ?_⟩
    refine ⟨_, rfl, v, _, _, _, _, rfl, .ty _, th_ty ht, kit_tup d, _, rfl, ?_⟩
    cases e : isTup d with
    | false =>
      rw [not_pat e] at k
      exact iteT (iteT k)
    | true =>
      obtain ⟨a, xs, ds, rfl, rfl, hs, ha⟩ := th_tup ht e
      have hl := thAll_len ha
      refine iteF ⟨_, rfl, a, xs, rfl, .inr hs, rfl, _, rfl, ?_⟩
      refine ite2 (fun hne => ?_) (fun hne => ?_)
      · have h2 : ds.length ≠ 2 := fun z => by
          rw [hl, z] at hne
          exact absurd hne (by decide)
        rw [not_pat2 h2] at k
        exact k
      · have h2 : xs.length = 2 := by
          apply Classical.byContradiction
          intro z
          refine hne ?_
          rw [decide_eq_false (by rw [V.int.injEq]; omega)]
          rfl
        obtain ⟨b, c, db, dc, rfl, rfl, hb1, hc1⟩ := th_two ha h2
        have hbk : db.bulk ≤ 1000000 ∧ dc.bulk ≤ 1000000 := by
          simp only [PyData.bulk, PyData.bulkAll] at hb
          omega
        refine ⟨_, rfl, a, _, rfl, hs, rfl, b, [c], rfl, c, [], rfl, rfl, ?_⟩
        refine ⟨_, rfl, b, db, capS, upB, rfl, hb1, hbk.1, cap_has, _, rfl, ?_⟩
        have ep : dPat (.tuple [db, dc]) = (dEnd upB db && (dEnd loB dc && !(isE db && isE dc))) := rfl
        cases e1 : dEnd upB db with
        | false =>
          rw [ep, e1, Bool.false_and] at k
          exact iteF k
        | true =>
          refine iteT ⟨_, rfl, c, dc, smaS, loB, rfl, hc1, hbk.2, sma_has, _, rfl, ?_⟩
          cases e2 : dEnd loB dc with
          | false =>
            rw [ep, e1, e2, Bool.true_and, Bool.false_and] at k
            exact iteF k
          | true =>
            obtain ⟨x, rfl, rfl⟩ := th_str hb1 (end_str e1)
            obtain ⟨y, rfl, rfl⟩ := th_str hc1 (end_str e2)
            refine iteT ⟨_, rfl, _, rfl, x, y, rfl, rfl, ?_, rfl, ?_⟩
            · have l1 : x.length ≤ 1000000 := hbk.1
              have l2 : y.length ≤ 1000000 := hbk.2
              exact Nat.le_trans (Nat.add_le_add l1 l2) (by decide)
            · have e3 : (!decide (V.str (x ++ y) = V.str "")) = dPat (.tuple [.str x, .str y]) := by
                rw [ep, e1, e2, Bool.true_and, Bool.true_and]
                congr 1
                rw [Bool.eq_iff_iff, decide_eq_true_iff]
                show _ ↔ (decide (x = "") && decide (y = "")) = true
                rw [V.str.injEq, ← tl_nil_iff, TL.tl_append, Bool.and_eq_true, decide_eq_true_iff, decide_eq_true_iff, List.append_eq_nil_iff, tl_nil_iff, tl_nil_iff]
              rw [e3]
              exact k
end
end Lk

/-! K31a -/
set_option Elab.async false
set_option linter.all false
set_option maxRecDepth 100000
set_option maxHeartbeats 4000000
namespace Lk
open PySem PySem.Spec PyProof.Rows L2
section
variable {P : Program} {w : World} {K : PySem.W.Frag} {mg : Str → Option Value} {base : Heap}
structure Gla (mg : Str → Option Value) : Prop where
  tuple : mg "tuple" = none
  sorted : mg "sorted" = none
  set : mg "set" = none
  len : mg "len" = none
def spAsc (K : PySem.W.Frag) : Sp := fun vs H Q _ => ∃ (l : Addr) (ss : List Str), vs = [.ref l] ∧ (SqL K H l (ss.map V.str) ∨ SqT K H l (ss.map V.str)) ∧ ss.length + 1 < scanBound ∧ (∀ y ∈ ss, y.length ≤ sizeLine) ∧
  ∀ (cs : List Str) (p : Addr) (H' : Hp), Same H H' → H' p = some (.tup (cs.map V.str)) → IsAsc cs ss → Q (.ref p) H'
theorem sc_p_ascending : FnScope ["names"] ["names"] (defScope s_p_ascending) := ⟨rfl, rfl, rfl, by decide +kernel, rfl, by decide +kernel, by decide +kernel⟩
theorem cal_p_ascending (D : Def1 K mg "ascending" s_p_ascending) (T : Gla mg) : Cal P w K mg base 1 "ascending" (spAsc K) := by
  refine mkCal D sc_p_ascending (fun _ _ _ _ _ _ us hl => match us, hl with | [_], _ => rfl) (fun vs H Q E h => ?_) (fun f cdv A outer s H vs Q E hr h => ?_)
  · obtain ⟨l, ss, rfl, _⟩ := h
    rfl
  · obtain ⟨l, ss, rfl, hl, room, small, k⟩ := h
    refine ⟨_, pss_one (ps_ret (pe_callTy call_tuple_of (by rfl) T.tuple (by decide +kernel) (pa_cons (pe_sortLen (pe_callB (call_sortedS rfl hr.units) (by rfl) T.sorted (by decide +kernel) (pa_cons (pe_callTy (call_setS rfl) (by rfl) T.set (by decide +kernel) (pa_cons (pv 0) pa_nil)) pa_nil)) T.sorted T.len hr.units) pa_nil))), ?_⟩
    exact ⟨_, rfl, l, ss, rfl, hl, room, fun p us np nd mem => ⟨p, us, rfl, upd_same, fun p2 cs n2 pm pw => ⟨p2, cs, rfl, SqL.of upd_same, fun y hy => small y ((mem y).mp (pm.mem_iff.mp hy)), fun p3 n3 => ⟨p3, _, rfl, .inl ⟨SqL.of upd_same, fun t nt =>
      k _ t _ ((((same_upd np).trans (same_upd n2)).trans (same_upd n3)).trans (same_upd nt)) upd_same (asc_of nd mem pm pw)⟩⟩⟩⟩⟩
end
end Lk

/-! K31u -/
set_option Elab.async false
set_option linter.all false
set_option maxRecDepth 100000
set_option maxHeartbeats 4000000
namespace Lk
open PySem PySem.Spec PyProof.Rows L2
section
variable {P : Program} {w : World} {K : PySem.W.Frag} {mg : Str → Option Value} {base : Heap}
theorem th_strs {H : Hp} : ∀ ss : List Str, ThAll K H (ss.map V.str) (ss.map PyData.str)
  | [] => .nil
  | x :: r => .cons (.str x) (th_strs r)
def spFill (K : PySem.W.Frag) : Sp := fun vs H Q _ => ∃ (v : V) (m : Str), vs = [v, .str m] ∧ m.length ≤ 1000000 ∧ ((∃ x, v = .str x ∧ Q (.str x) H) ∨ ∃ q b e, v = .ref q ∧ SqT K H q [.str b, .str e] ∧ b.length ≤ 1000000 ∧ e.length ≤ 1000000 ∧ Q (.str (b ++ m ++ e)) H)
theorem sc_p_filled : FnScope ["source", "within", "begin", "end"] ["source", "within"] (defScope s_p_filled) := ⟨rfl, rfl, rfl, by decide +kernel, rfl, by decide +kernel, by decide +kernel⟩
theorem cal_p_filled (D : Def1 K mg "filled" s_p_filled) (T : Glc mg) : Cal P w K mg base 1 "filled" (spFill K) := by
  refine mkCal D sc_p_filled (fun _ _ _ _ _ _ us hl => match us, hl with | [_, _], _ => rfl) (fun vs H Q E h => ?_) (fun f cdv A outer s H vs Q E hr h => ?_)
  · obtain ⟨v, m, rfl, _⟩ := h
    rfl
  · obtain ⟨v, m, rfl, lm, how⟩ := h
    refine ⟨_, pss_cons (ps_if (pt_val (pe_isi (T := "str") (pv 0) T.isinst T.str (by decide +kernel))) (pss_one (ps_ret (pv 0))) pss_nil)
      (pss_cons (ps_asg (pv 0) (pg_tup rfl (pgs_cons (pg_name (i := 2) sc_p_filled.nd rfl (.inl rfl)) (pgs_cons (pg_name (i := 3) sc_p_filled.nd rfl (.inl rfl)) pgs_nil))))
      (pss_one (ps_ret (pe_op op_add_str (pe_op op_add_str (pv 2) (pv 1)) (pv 3))))), ?_⟩
    have big : ∀ n : Nat, n ≤ 4000000 → n ≤ sizeLine := fun n h => Nat.le_trans h (by decide)
    rcases how with ⟨x, rfl, k⟩ | ⟨q, b, e, rfl, hq, lb, le, k⟩
    · exact ⟨_, rfl, .str x, _, _, _, _, rfl, .ty _, th_ty (.str x : Th K H (.str x) (.str x)), kit_str (.str x), _, rfl, iteT ⟨_, rfl, k⟩⟩
    · have th : Th K H (.ref q) (.tuple [.str b, .str e]) := .tup hq (.cons (.str b) (.cons (.str e) .nil))
      refine ⟨_, rfl, .ref q, _, _, _, _, rfl, .ty _, th_ty th, kit_str (.tuple [.str b, .str e]), _, rfl, iteF ?_⟩
      refine ⟨_, rfl, q, _, rfl, hq, rfl, _, _, rfl, _, _, rfl, rfl, ?_⟩
      exact ⟨_, rfl, _, rfl, b, m, rfl, rfl, big _ (by omega), _, rfl, b ++ m, e, rfl, rfl, big _ (by rw [len_add]; omega), k⟩
def spNeed0 (K : PySem.W.Frag) : Sp := fun vs H Q _ => ∃ z : Str, vs = [.str z] ∧ z.length ≤ 1000000 ∧ dName (.str z) = true ∧ Q .non H
theorem sc_need0 : FnScope ["thing"] ["thing"] (defScope s_p_need_name) := ⟨rfl, rfl, rfl, by decide +kernel, rfl, by decide +kernel, by decide +kernel⟩
theorem cal_need (D : Def1 K mg "need_name" s_p_need_name) (C1 : Cal P w K mg base 1 "is_name" (spIsName K)) : Cal P w K mg base 2 "need_name" (spNeed0 K) := by
  refine mkCal D sc_need0 (fun _ _ _ _ _ _ us hl => match us, hl with | [_], _ => rfl) (fun vs H Q E h => ?_) (fun f cdv A outer s H vs Q E hr h => ?_)
  · obtain ⟨z, rfl, _⟩ := h
    rfl
  · obtain ⟨z, rfl, lz, nz, k⟩ := h
    refine ⟨_, pss_one (ps_if (pt_not (pt_val (pe_cal C1 hr (by decide) (pa_cons (pv 0) pa_nil)))) (pss_one ps_never) pss_nil), ?_⟩
    exact ⟨_, rfl, .str z, .str z, rfl, .str z, lz, _, rfl, iteF' (by rw [nz]; rfl) k⟩
theorem pat_ends {b e : Str} (h : dPat (.tuple [.str b, .str e]) = true) : (∀ c ∈ TL.tl b, upB c = true) ∧ (∀ c ∈ TL.tl e, loB c = true) ∧ b.length ≤ 3 ∧ e.length ≤ 3 := by
  have h2 : (dEnd upB (.str b) && (dEnd loB (.str e) && !(isE (.str b) && isE (.str e)))) = true := h
  rw [Bool.and_eq_true, Bool.and_eq_true] at h2
  obtain ⟨h3, h4, _⟩ := h2
  have h5 : (decide (b.length ≤ 3) && (TL.tl b).all upB) = true := h3
  have h6 : (decide (e.length ≤ 3) && (TL.tl e).all loB) = true := h4
  rw [Bool.and_eq_true, decide_eq_true_eq, List.all_eq_true] at h5 h6
  exact ⟨h5.2, h6.2, h5.1, h6.1⟩
end
end Lk

/-! K31b -/
set_option Elab.async false
set_option linter.all false
set_option maxRecDepth 100000
set_option maxHeartbeats 4000000
namespace Lk
open PySem PySem.Spec PyProof.Rows L2
def sLen : PyData → Nat
  | .str x => x.length
  | _ => 0
def dLabel : PyData → Bool
  | .str x => decide (1 ≤ x.length) && (decide (x.length ≤ 8) && (TL.tl x).all loB)
  | _ => false
def dSrc1 (d : PyData) : Bool := dPat d || (dName d && decide (sLen d ≤ 6))
def dSrcs : PyData → Bool
  | .tuple ds => decide (ds.length ≤ 3) && ds.all dSrc1
  | _ => false
def dRule : PyData → Bool
  | .tuple [l, p, s] => dLabel l && (dPat p && dSrcs s)
  | _ => false
def dBook : PyData → Bool
  | .tuple ds => decide (ds.length ≤ 6) && ds.all dRule
  | _ => false
section
variable {P : Program} {w : World} {K : PySem.W.Frag} {mg : Str → Option Value} {base : Heap}
structure Glk (mg : Str → Option Value) : Prop where
  all : mg "all" = none
  label : Con1 mg "MOST_LABEL_LETTERS" (.int 8)
  name : Con1 mg "MOST_NAME_LETTERS" (.int 6)
  sources : Con1 mg "MOST_SOURCES" (.int 3)
  rules : Con1 mg "MOST_RULES" (.int 6)
def spOne (K : PySem.W.Frag) (p : PyData → Bool) : Sp := fun vs H Q _ => ∃ v d, vs = [v] ∧ Th K H v d ∧ d.bulk ≤ 1000000 ∧ Q (.bl (p d)) H
def spOneS (K : PySem.W.Frag) (p : PyData → Bool) : Sp := fun vs H Q _ => ∃ v d, vs = [v] ∧ Th K H v d ∧ d.bulk ≤ 1000000 ∧ ∀ H', Same H H' → Q (.bl (p d)) H'
theorem name_str {d : PyData} (h : dName d = true) : isStr d = true := by
  cases d with
  | str x => rfl
  | _ => cases h
theorem th_at {H : Hp} : ∀ {xs : List V} {ds : List PyData} {i : Nat} {x : V}, ThAll K H xs ds → xs[i]? = some x → ∃ d, ds[i]? = some d ∧ Th K H x d
  | _, _, _, _, .nil, h => by simp at h
  | _, _, 0, _, .cons h _, e => by
    simp at e
    subst e
    exact ⟨_, rfl, h⟩
  | _, _, i + 1, x, .cons _ tl, e => by
    obtain ⟨d, m, h⟩ := th_at (i := i) (x := x) tl (by simpa using e)
    exact ⟨d, by simpa using m, h⟩
theorem bulk_in : ∀ {ds : List PyData} {d : PyData}, d ∈ ds → d.bulk ≤ PyData.bulkAll ds
  | e :: r, d, h => by
    rw [PyData.bulkAll]
    rcases List.mem_cons.mp h with rfl | h
    · omega
    · have := bulk_in h
      omega
/-- all([f(x) for x in t]), t a tuple -/
theorem all_read {σ : L2.St} {H : Hp} {a : Addr} {xs : List V} {ds : List PyData} {p : PyData → Bool} {n iv : Nat} {te : TE} {Q : VK} (hv : σ[0]? = some (some (.ref a))) (hs : SqT K H a xs) (ha : ThAll K H xs ds) (small : ds.length ≤ 1000)
    (wp : ∀ (x : V), wipe ((wipe σ [iv]).set iv (some x)) [iv] = wipe σ [iv])
    (call : ∀ (x : V) (d : PyData) (H' : Hp) (R : VK), d ∈ ds → Th K H' x d → Same H H' → (∀ H2, Same H' H2 → R (.bl (p d)) H2) → te ((wipe σ [iv]).set iv (some x)) H' R) (k : ∀ H', Same H H' → Q (.bl (ds.all p)) H') :
    tCB (rAll K) (tCons (tLc (iTup K (tVar 0)) (gName iv) tYes te [iv]) tNil) σ H Q := by
  have hl := thAll_len ha
  refine ⟨_, hv, a, rfl, ⟨_, hs⟩, fun D nD => ?_⟩
  refine lc_tup (K := K) (a := a) (xs := xs) (fun i H' => H' D = some (.lst (((ds.take i).map p).map V.bl)) ∧ Same H H') ⟨upd_same, same_upd nD⟩ (fun i H' _ h => Same.seqT h.2 hs) ?_ ?_
  · rintro i x H' hx ⟨hD, s⟩
    obtain ⟨d, hd, th⟩ := th_at ha hx
    have hi : i < ds.length := (List.getElem?_eq_some_iff.mp hd).1
    refine ⟨wp x, call x d H' _ (List.mem_of_getElem? hd) (th_same s th) s fun H2 s2 => ⟨_, s2 _ _ hD, ?_, ?_, same_mut (s.trans s2) nD⟩⟩
    · rw [List.length_map, List.length_map, List.length_take]
      exact small1000 (by omega)
    · rw [upd_same, List.take_add_one, hd, List.map_append, List.map_append]
      rfl
  · rintro H' ⟨hD, s⟩
    rw [hl, List.take_length] at hD
    refine ⟨D, ds.map p, rfl, SqL.of hD, ?_⟩
    have e : (ds.map p).all id = ds.all p := by rw [List.all_map]; rfl
    rw [e]
    exact k H' s
theorem sc_p_is_label : FnScope ["thing"] ["thing"] (defScope s_p_is_label) := ⟨rfl, rfl, rfl, by decide +kernel, rfl, by decide +kernel, by decide +kernel⟩
theorem cal_p_is_label (D : Def1 K mg "is_label" s_p_is_label) (T : Glc mg) (G : Glb mg) (B : Glk mg) : Cal P w K mg base 1 "is_label" (spOne K dLabel) := by
  refine mkCal D sc_p_is_label (fun _ _ _ _ _ _ us hl => match us, hl with | [_], _ => rfl) (fun vs H Q E h => ?_) (fun f cdv A outer s H vs Q E hr h => ?_)
  · obtain ⟨v, d, rfl, _⟩ := h
    rfl
  · obtain ⟨v, d, rfl, ht, hb, k⟩ := h
    refine ⟨_, pss_one (ps_ret (pe_and (pe_isi (T := "str") (pv 0) T.isinst T.str (by decide +kernel)) (pe_and (pe_chain op_le op_le pe_int (pe_callB call_len_str (by rfl) G.len PySem.boot_len (pa_cons (pv 0) pa_nil)) (pe_con1 B.label))
      (pe_one (pe_cmpR op_eq (pe_m1 PySem.F.slot_str_strip PySem.F.type_str_strip mt_stripChars (pv 0) (pe_con1 T.smalls)) pe_str (nomark _)))))), ?_⟩
    refine ⟨_, rfl, v, _, _, _, _, rfl, .ty _, th_ty ht, kit_str d, _, rfl, ?_⟩
    cases e : isStr d with
    | false =>
      have z : dLabel d = false := by
        cases d with
        | str x => cases e
        | _ => rfl
      rw [z] at k
      exact iteF k
    | true =>
      obtain ⟨x, rfl, rfl⟩ := th_str ht e
      have hx : x.length ≤ sizeLine := Nat.le_trans hb (by decide)
      have ed : dLabel (.str x) = (decide (1 ≤ x.length) && (decide (x.length ≤ 8) && (TL.tl x).all loB)) := rfl
      refine iteT ⟨_, rfl, x, rfl, hx, _, _, rfl, rfl, _, rfl, ?_⟩
      refine ite2 (fun h1 => ?_) (fun h1 => ?_)
      · have g1 : 1 ≤ x.length := by
          have := of_decide_eq_true h1
          omega
        refine ⟨_, _, rfl, rfl, _, rfl, ?_⟩
        refine ite2 (fun h2 => ?_) (fun h2 => ?_)
        · have g2 : x.length ≤ 8 := by
            have := of_decide_eq_true h2
            omega
          refine ⟨_, rfl, ⟨x, rfl⟩, x, smaS, rfl, rfl, hx, rfl, ?_⟩
          have e2 : decide (V.str (Txt.stripChars x smaS) = V.str "") = dLabel (.str x) := by
            rw [ed, decide_eq_true g1, decide_eq_true g2, Bool.true_and, Bool.true_and, Bool.eq_iff_iff, decide_eq_true_iff, V.str.injEq, ← tl_nil_iff, Txt.stripChars, tl_strip, funext sma_has]
          rw [e2]
          exact k
        · have z : dLabel (.str x) = false := by
            rw [ed, decide_eq_false (p := x.length ≤ 8) (fun q => h2 (decide_eq_true (by omega))), Bool.false_and, Bool.and_false]
          rw [z] at k
          exact k
      · have z : dLabel (.str x) = false := by
          rw [ed, decide_eq_false (p := 1 ≤ x.length) (fun q => h1 (decide_eq_true (by omega))), Bool.false_and]
        rw [z] at k
        exact ⟨_, rfl, iteF k⟩
theorem sc_p_is_rule_source : FnScope ["thing"] ["thing"] (defScope s_p_is_rule_source) := ⟨rfl, rfl, rfl, by decide +kernel, rfl, by decide +kernel, by decide +kernel⟩
theorem cal_p_is_rule_source (D : Def1 K mg "is_rule_source" s_p_is_rule_source) (G : Glb mg) (B : Glk mg) (CN : Cal P w K mg base 1 "is_name" (spIsName K)) (CP : Cal P w K mg base 2 "is_pattern" (spIsPat K)) : Cal P w K mg base 3 "is_rule_source" (spOne K dSrc1) := by
  refine mkCal D sc_p_is_rule_source (fun _ _ _ _ _ _ us hl => match us, hl with | [_], _ => rfl) (fun vs H Q E h => ?_) (fun f cdv A outer s H vs Q E hr h => ?_)
  · obtain ⟨v, d, rfl, _⟩ := h
    rfl
  · obtain ⟨v, d, rfl, ht, hb, k⟩ := h
    refine ⟨_, pss_one (ps_ret (pe_or (pe_cal CP hr (by decide) (pa_cons (pv 0) pa_nil)) (pe_one (pe_and (pe_cal CN hr (by decide) (pa_cons (pv 0) pa_nil)) (pe_one (pe_cmpR op_le (pe_callB call_len_str (by rfl) G.len PySem.boot_len (pa_cons (pv 0) pa_nil)) (pe_con1 B.name) (nomark _))))))), ?_⟩
    refine ⟨_, rfl, v, d, rfl, ht, hb, _, rfl, ?_⟩
    unfold dSrc1 at k
    cases e : dPat d with
    | true =>
      rw [e, Bool.true_or] at k
      exact iteT k
    | false =>
      rw [e, Bool.false_or] at k
      refine iteF ⟨_, rfl, v, d, rfl, ht, hb, _, rfl, ?_⟩
      cases e2 : dName d with
      | false =>
        rw [e2, Bool.false_and] at k
        exact iteF k
      | true =>
        rw [e2, Bool.true_and] at k
        obtain ⟨x, rfl, rfl⟩ := th_str ht (name_str e2)
        refine iteT ⟨_, rfl, x, rfl, Nat.le_trans hb (by decide), _, _, rfl, rfl, ?_⟩
        have z : decide ((x.length : Int) ≤ 6) = decide (sLen (.str x) ≤ 6) := by
          rw [Bool.eq_iff_iff, decide_eq_true_iff, decide_eq_true_iff]
          show (x.length : Int) ≤ 6 ↔ x.length ≤ 6
          omega
        rw [← z] at k
        exact k
theorem tup_no {d : PyData} (h : isTup d = false) : dSrcs d = false ∧ dRule d = false ∧ dBook d = false := by
  cases d with
  | tuple ds => cases h
  | _ => exact ⟨rfl, rfl, rfl⟩
theorem rule_no : ∀ {ds : List PyData}, ds.length ≠ 3 → dRule (.tuple ds) = false
  | [], _ => rfl
  | [_], _ => rfl
  | [_, _], _ => rfl
  | [_, _, _], h => absurd rfl h
  | _ :: _ :: _ :: _ :: _, _ => rfl
theorem sc_p_are_sources : FnScope ["thing", "source"] ["thing"] (defScope s_p_are_sources) := ⟨rfl, rfl, rfl, by decide +kernel, rfl, by decide +kernel, by decide +kernel⟩
theorem cal_p_are_sources (D : Def1 K mg "are_sources" s_p_are_sources) (T : Glc mg) (G : Glb mg) (B : Glk mg) (C1 : Cal P w K mg base 3 "is_rule_source" (spOne K dSrc1)) : Cal P w K mg base 4 "are_sources" (spOneS K dSrcs) := by
  refine mkCal D sc_p_are_sources (fun _ _ _ _ _ _ us hl => match us, hl with | [_], _ => rfl) (fun vs H Q E h => ?_) (fun f cdv A outer s H vs Q E hr h => ?_)
  · obtain ⟨v, d, rfl, _⟩ := h
    rfl
  · obtain ⟨v, d, rfl, ht, hb, k⟩ := h
    refine ⟨_, pss_cons (ps_if (PW.pt (pw_or (pt_not (pt_val (pe_isi (T := "tuple") (pv 0) T.isinst T.tuple (by decide +kernel)))) (pw_or1 (pt_cmpR op_gt (pe_callB call_len_seq (by rfl) G.len PySem.boot_len (pa_cons (pv 0) pa_nil)) (pe_con1 B.sources) (nomark _))))) (pss_one (ps_ret pe_bl)) pss_nil)
      (pss_one (ps_ret (pe_callB (cr_all rfl) (by rfl) B.all (by decide +kernel) (pa_cons (pe_lc (own := [("source", 1)]) (g := gName 1) (tt := tYes) (by rfl) sc_p_are_sources.nd (pi_tup (pv 0))
        (blkOk_by (own := [("source", 1)]) (N := ["thing", "source"]) (sc := defScope s_p_are_sources) (by decide +kernel)) (fun _ _ _ _ _ => pg_name (i := 1) sc_p_are_sources.nd rfl (Or.inl rfl)) (fun _ _ _ _ _ => pts_nil)
        (fun _ _ _ _ _ => pe_cal C1 hr (by decide) (pa_cons (pv 1) pa_nil))) pa_nil)))), ?_⟩
    refine ⟨_, rfl, v, _, _, _, _, rfl, .ty _, th_ty ht, kit_tup d, _, rfl, ?_⟩
    cases e : isTup d with
    | false =>
      rw [(tup_no e).1] at k
      exact iteT (iteT (k H (Same.refl H)))
    | true =>
      obtain ⟨a, xs, ds, rfl, rfl, hs, ha⟩ := th_tup ht e
      have hl := thAll_len ha
      have ed : dSrcs (.tuple ds) = (decide (ds.length ≤ 3) && ds.all dSrc1) := rfl
      refine iteF ⟨_, rfl, a, xs, rfl, .inr hs, _, _, rfl, rfl, _, rfl, ?_⟩
      refine ite2 (fun h1 => ?_) (fun h1 => ?_)
      · have g : ¬ ds.length ≤ 3 := by
          have := of_decide_eq_true h1
          omega
        rw [ed, decide_eq_false g, Bool.false_and] at k
        exact k H (Same.refl H)
      · have g : ds.length ≤ 3 := by
          apply Classical.byContradiction
          intro z
          exact h1 (decide_eq_true (by omega))
        rw [ed, decide_eq_true g, Bool.true_and] at k
        exact all_read (n := 2) rfl hs ha (by omega) (fun _ => rfl) (fun x d H' R hd th s q => ⟨_, rfl, x, d, rfl, th, Nat.le_trans (bulk_in hd) hb, q H' (Same.refl H')⟩) k
theorem sc_p_is_rule : FnScope ["thing", "label", "pattern", "sources"] ["thing"] (defScope s_p_is_rule) := ⟨rfl, rfl, rfl, by decide +kernel, rfl, by decide +kernel, by decide +kernel⟩
theorem cal_p_is_rule (D : Def1 K mg "is_rule" s_p_is_rule) (T : Glc mg) (G : Glb mg) (C1 : Cal P w K mg base 1 "is_label" (spOne K dLabel)) (C2 : Cal P w K mg base 2 "is_pattern" (spIsPat K)) (C3 : Cal P w K mg base 4 "are_sources" (spOneS K dSrcs)) : Cal P w K mg base 5 "is_rule" (spOneS K dRule) := by
  refine mkCal D sc_p_is_rule (fun _ _ _ _ _ _ us hl => match us, hl with | [_], _ => rfl) (fun vs H Q E h => ?_) (fun f cdv A outer s H vs Q E hr h => ?_)
  · obtain ⟨v, d, rfl, _⟩ := h
    rfl
  · obtain ⟨v, d, rfl, ht, hb, k⟩ := h
    refine ⟨_, pss_cons (ps_if (PW.pt (pw_or (pt_not (pt_val (pe_isi (T := "tuple") (pv 0) T.isinst T.tuple (by decide +kernel)))) (pw_or1 (pt_cmpR op_ne (pe_callB call_len_seq (by rfl) G.len PySem.boot_len (pa_cons (pv 0) pa_nil)) pe_int (nomark _))))) (pss_one (ps_ret pe_bl)) pss_nil)
      (pss_cons (ps_asg (pv 0) (pg_tup rfl (pgs_cons (pg_name (i := 1) sc_p_is_rule.nd rfl (.inl rfl)) (pgs_cons (pg_name (i := 2) sc_p_is_rule.nd rfl (.inl rfl)) (pgs_cons (pg_name (i := 3) sc_p_is_rule.nd rfl (.inl rfl)) pgs_nil)))))
      (pss_one (ps_ret (pe_and (pe_cal C1 hr (by decide) (pa_cons (pv 1) pa_nil)) (pe_and (pe_cal C2 hr (by decide) (pa_cons (pv 2) pa_nil)) (pe_one (pe_cal C3 hr (by decide) (pa_cons (pv 3) pa_nil)))))))), ?_⟩
    refine ⟨_, rfl, v, _, _, _, _, rfl, .ty _, th_ty ht, kit_tup d, _, rfl, ?_⟩
    cases e : isTup d with
    | false =>
      rw [(tup_no e).2.1] at k
      exact iteT (iteT (k H (Same.refl H)))
    | true =>
      obtain ⟨a, xs, ds, rfl, rfl, hs, ha⟩ := th_tup ht e
      have hl := thAll_len ha
      refine iteF ⟨_, rfl, a, xs, rfl, .inr hs, rfl, _, rfl, ?_⟩
      refine ite2 (fun hne => ?_) (fun hne => ?_)
      · have h3 : ds.length ≠ 3 := fun z => by
          rw [hl, z] at hne
          exact absurd hne (by decide)
        rw [rule_no h3] at k
        exact k H (Same.refl H)
      · have h3 : xs.length = 3 := by
          apply Classical.byContradiction
          intro z
          refine hne ?_
          rw [decide_eq_false (by rw [V.int.injEq]; omega)]
          rfl
        obtain ⟨x, y, z, dx, dy, dz, rfl, rfl, hx, hy, hz⟩ := th_three ha h3
        have bk : dx.bulk ≤ 1000000 ∧ dy.bulk ≤ 1000000 ∧ dz.bulk ≤ 1000000 := by
          simp only [PyData.bulk, PyData.bulkAll] at hb
          omega
        have ed : dRule (.tuple [dx, dy, dz]) = (dLabel dx && (dPat dy && dSrcs dz)) := rfl
        refine ⟨_, rfl, a, _, rfl, hs, rfl, x, [y, z], rfl, y, [z], rfl, z, [], rfl, rfl, ?_⟩
        refine ⟨_, rfl, x, dx, rfl, hx, bk.1, _, rfl, ?_⟩
        cases e1 : dLabel dx with
        | false =>
          rw [ed, e1, Bool.false_and] at k
          exact iteF (k H (Same.refl H))
        | true =>
          refine iteT ⟨_, rfl, y, dy, rfl, hy, bk.2.1, _, rfl, ?_⟩
          cases e2 : dPat dy with
          | false =>
            rw [ed, e1, e2, Bool.true_and, Bool.false_and] at k
            exact iteF (k H (Same.refl H))
          | true =>
            rw [ed, e1, e2, Bool.true_and, Bool.true_and] at k
            exact iteT ⟨_, rfl, z, dz, rfl, hz, bk.2.2, k⟩
theorem sc_p_is_book : FnScope ["thing", "rule"] ["thing"] (defScope s_p_is_book) := ⟨rfl, rfl, rfl, by decide +kernel, rfl, by decide +kernel, by decide +kernel⟩
theorem cal_p_is_book (D : Def1 K mg "is_book" s_p_is_book) (T : Glc mg) (G : Glb mg) (B : Glk mg) (C1 : Cal P w K mg base 5 "is_rule" (spOneS K dRule)) : Cal P w K mg base 6 "is_book" (spOneS K dBook) := by
  refine mkCal D sc_p_is_book (fun _ _ _ _ _ _ us hl => match us, hl with | [_], _ => rfl) (fun vs H Q E h => ?_) (fun f cdv A outer s H vs Q E hr h => ?_)
  · obtain ⟨v, d, rfl, _⟩ := h
    rfl
  · obtain ⟨v, d, rfl, ht, hb, k⟩ := h
    refine ⟨_, pss_cons (ps_if (PW.pt (pw_or (pt_not (pt_val (pe_isi (T := "tuple") (pv 0) T.isinst T.tuple (by decide +kernel)))) (pw_or1 (pt_cmpR op_gt (pe_callB call_len_seq (by rfl) G.len PySem.boot_len (pa_cons (pv 0) pa_nil)) (pe_con1 B.rules) (nomark _))))) (pss_one (ps_ret pe_bl)) pss_nil)
      (pss_one (ps_ret (pe_callB (cr_all rfl) (by rfl) B.all (by decide +kernel) (pa_cons (pe_lc (own := [("rule", 1)]) (g := gName 1) (tt := tYes) (by rfl) sc_p_is_book.nd (pi_tup (pv 0))
        (blkOk_by (own := [("rule", 1)]) (N := ["thing", "rule"]) (sc := defScope s_p_is_book) (by decide +kernel)) (fun _ _ _ _ _ => pg_name (i := 1) sc_p_is_book.nd rfl (Or.inl rfl)) (fun _ _ _ _ _ => pts_nil)
        (fun _ _ _ _ _ => pe_cal C1 hr (by decide) (pa_cons (pv 1) pa_nil))) pa_nil)))), ?_⟩
    refine ⟨_, rfl, v, _, _, _, _, rfl, .ty _, th_ty ht, kit_tup d, _, rfl, ?_⟩
    cases e : isTup d with
    | false =>
      rw [(tup_no e).2.2] at k
      exact iteT (iteT (k H (Same.refl H)))
    | true =>
      obtain ⟨a, xs, ds, rfl, rfl, hs, ha⟩ := th_tup ht e
      have hl := thAll_len ha
      have ed : dBook (.tuple ds) = (decide (ds.length ≤ 6) && ds.all dRule) := rfl
      refine iteF ⟨_, rfl, a, xs, rfl, .inr hs, _, _, rfl, rfl, _, rfl, ?_⟩
      refine ite2 (fun h1 => ?_) (fun h1 => ?_)
      · have g : ¬ ds.length ≤ 6 := by
          have := of_decide_eq_true h1
          omega
        rw [ed, decide_eq_false g, Bool.false_and] at k
        exact k H (Same.refl H)
      · have g : ds.length ≤ 6 := by
          apply Classical.byContradiction
          intro z
          exact h1 (decide_eq_true (by omega))
        rw [ed, decide_eq_true g, Bool.true_and] at k
        exact all_read (n := 2) rfl hs ha (by omega) (fun _ => rfl) (fun x d H' R hd th s q => ⟨_, rfl, x, d, rfl, th, Nat.le_trans (bulk_in hd) hb, q⟩) k
end
end Lk

/-! K31p -/
set_option Elab.async false
set_option linter.all false
set_option maxRecDepth 100000
set_option maxHeartbeats 4000000
namespace Lk
open PySem PySem.Spec PyProof.Rows L2
/-! ### the pot of numbers -/
section
variable {P : Program} {w : World} {K : PySem.W.Frag} {mg : Str → Option Value} {base : Heap}
theorem sc_kneaded : FnScope ["seed", "lap", "prime", "amount", "again"] ["seed", "lap"] (defScope s_kneaded) := ⟨rfl, rfl, rfl, by decide +kernel, rfl, by decide +kernel, by decide +kernel⟩
theorem cal_kneaded (D : Def1 K mg "_law_kneaded" s_kneaded) (T : Glb mg) : Cal P w K mg base 1 "_law_kneaded" spKneaded := by
  refine mkCal D sc_kneaded (fun _ _ _ _ _ _ us hl => match us, hl with | [_, _], _ => rfl) (fun vs H Q E h => ?_) (fun f cdv A outer s H vs Q E hr h => ?_)
  · obtain ⟨s, l, rfl, _⟩ := h
    rfl
  · obtain ⟨s, l, rfl, k⟩ := h
    refine ⟨_, pss_cons (ps_set (i := 2) sc_kneaded.nd rfl (.inl rfl) pe_int)
      (pss_cons (ps_set (i := 3) sc_kneaded.nd rfl (.inl rfl) (pe_op op_mod (pe_callTy call_int1 (by rfl) T.int (by decide +kernel)
        (pa_cons (pe_op op_add (pe_op op_add (pe_op op_mul (pv 0) pe_int) (pe_op op_mul (pv 1) pe_int)) pe_int) pa_nil)) (pv 2)))
      (pss_cons (ps_for PassesOwn.never rfl (pi_range1 (by rfl) T.range (pa_cons pe_int pa_nil)) (pg_name (i := 4) sc_kneaded.nd rfl (.inl rfl))
        (pss_one (ps_set (i := 3) sc_kneaded.nd rfl (.inl rfl) (pe_op op_mod (pe_callTy call_int1 (by rfl) T.int (by decide +kernel)
          (pa_cons (pe_op op_add (pe_op op_add (pe_op op_add (pe_op op_mul (pv 3) (pv 3)) (pe_op op_mul pe_int (pv 3))) (pe_op op_mul pe_int (pv 4))) (pv 1)) pa_nil)) (pv 2)))))
      (pss_one (ps_ret (pe_op op_add (pe_op op_mul (pv 3) (pv 2)) (pe_op op_mod (pe_callTy call_int1 (by rfl) T.int (by decide +kernel)
          (pa_cons (pe_op op_add (pe_op op_mul (pv 3) pe_int) (pv 1)) pa_nil)) (pv 2))))))), ?_⟩
    refine ⟨_, rfl, _, _, rfl, rfl, .inr (by decide), _, rfl, _, _, rfl, rfl, .inr (by decide), _, _, rfl, rfl, _, _, rfl, rfl, .inl ⟨_, rfl, _, rfl, _, _, rfl, rfl, (by show (0 : Int) < 2305843009213693907; decide), ?_⟩⟩
    refine ⟨4, rfl, by decide, by decide, for_range (n := 4) (fun i σ H' => ∃ (m : Int) (v : Option V), σ = [some (.int s), some (.int l), some (.int 2305843009213693907), some (.int m), v] ∧ 0 ≤ m ∧ m < 2305843009213693907 ∧ H' = H)
      ⟨_, none, rfl, Int.emod_nonneg _ (by decide), Int.emod_lt_of_pos _ (by decide), rfl⟩ ?_ ?_⟩
    · rintro i σ H' hi ⟨m, v, rfl, m0, m1, rfl⟩
      refine ⟨_, rfl, _, rfl, _, _, rfl, rfl, .inl ⟨by omega, by omega⟩, _, rfl, _, _, rfl, rfl, .inr ⟨by omega, by omega⟩, _, _, rfl, rfl, _, rfl, _, _, rfl, rfl, .inl ⟨by decide, by decide⟩, _, _, rfl, rfl, _, rfl, _, _, rfl, rfl,
        .inl ⟨_, rfl, _, rfl, _, _, rfl, rfl, (by show (0 : Int) < 2305843009213693907; decide), ?_⟩⟩
      exact ⟨_, _, rfl, Int.emod_nonneg _ (by decide), Int.emod_lt_of_pos _ (by decide), rfl⟩
    · rintro σ H' ⟨m, v, rfl, m0, m1, rfl⟩
      refine ⟨_, rfl, _, rfl, _, _, rfl, rfl, .inl ⟨by omega, by omega⟩, _, rfl, _, _, rfl, rfl, .inl ⟨by omega, by omega⟩, _, rfl, _, _, rfl, rfl, .inl ⟨_, rfl, _, rfl, _, _, rfl, rfl, (by show (0 : Int) < 2305843009213693907; decide), ?_⟩⟩
      exact ⟨_, _, rfl, rfl, k _⟩

theorem sc_pot_of : FnScope ["script", "cells", "place", "cell"] ["script"] (defScope s_pot_of) := ⟨rfl, rfl, rfl, by decide +kernel, rfl, by decide +kernel, by decide +kernel⟩
theorem cal_pot_of (D : Def1 K mg "_law_pot_of" s_pot_of) (T : Glb mg) : Cal P w K mg base 1 "_law_pot_of" (spPotOf K) := by
  refine mkCal D sc_pot_of (fun _ _ _ _ _ _ us hl => match us, hl with | [_], _ => rfl) (fun vs H Q E h => ?_) (fun f cdv A outer s H vs Q E hr h => ?_)
  · obtain ⟨a, ns, rfl, _⟩ := h
    rfl
  · obtain ⟨a, ns, rfl, hS, hlen, k⟩ := h
    refine ⟨_, pss_cons (ps_setLc (i := 1) (own := [("cell", 3)]) (g := gName 3) (tt := tYes) (by rfl) sc_pot_of.nd rfl rfl (sw_true rfl rfl rfl (by decide +kernel)) (pi_list (pe_slice sl_list (pv 0) po_none (po_some pe_int)))
        (blkOk_by (own := [("cell", 3)]) (N := ["script", "cells", "place", "cell"]) (sc := defScope s_pot_of) (by decide +kernel)) (fun _ _ _ _ _ => pg_name (i := 3) sc_pot_of.nd rfl (Or.inl rfl)) (fun _ _ _ _ _ => pts_nil)
        (fun _ _ _ _ _ => pe_callB call_abs (by rfl) T.abs (by decide +kernel) (pa_cons (pv 3) pa_nil)))
      (pss_cons (ps_for PassesOwn.never rfl (pi_enum (by rfl) T.enumerate (pa_cons (pe_slice sl_list (pv 0) (po_some pe_int) (po_some pe_int)) pa_nil)) (pg_tup rfl (pgs_cons (pg_name (i := 2) sc_pot_of.nd rfl (.inl rfl)) (pgs_cons (pg_name (i := 3) sc_pot_of.nd rfl (.inl rfl)) pgs_nil)))
        (pss_one (ps_asg (pe_op op_add (pe_ix ix_list (pv 1) (pe_op op_mod (pv 2) pe_int) (fun _ _ => rfl)) (pe_callB call_abs (by rfl) T.abs (by decide +kernel) (pa_cons (pv 3) pa_nil))) (pg_sub (pv 1) (pe_op op_mod (pv 2) pe_int) set_list))))
      (pss_one (ps_ret (pe_lst (pa_cons (pv 1) (pa_cons pe_int (pa_cons pe_int (pa_cons pe_int pa_nil)))))))), ?_⟩
    refine ⟨_, rfl, 17, rfl, a, _, rfl, hS, fun q nq => ⟨q, rfl, ⟨_, SqL.of upd_same⟩, fun D nD => ?_⟩⟩
    have e17 : cutV (ns.map V.int) none (some 17) = (ns.take 17).map V.int := by
      rw [cut_to (by decide), List.map_take]
      rfl
    have sq : Same H (upd H q (.lst (cutV (ns.map V.int) none (some 17)))) := same_upd nq
    have nDq : D ≠ q := fun z => by
      rw [z, upd_same] at nD
      cases nD
    have nD0 : H D = none := sq.free nD
    refine lc_list (K := K) (a := q) (xs := (ns.take 17).map V.int) (fun i H' => Same H H' ∧ H' q = some (.lst ((ns.take 17).map V.int)) ∧ ∃ ms : List Int, H' D = some (.lst (ms.map V.int)) ∧ ms.length = i)
      ⟨same_mut sq nD0, by rw [upd_ne nDq.symm, upd_same, e17], [], upd_same, rfl⟩ (fun i H' _ h => SqL.of h.2.1) ?_ ?_
    · rintro i x H' hx ⟨sH, hq, ms, hD, hm⟩
      obtain ⟨z, rfl, hz⟩ := map_item hx
      have hi : i < 17 := by
        have := (List.getElem?_eq_some_iff.mp hx).1
        rw [List.length_map, List.length_take] at this
        omega
      refine ⟨rfl, _, rfl, z, rfl, _, hD, ?_, same_mut sH nD0, ?_, ms ++ [if z < 0 then -z else z], ?_, ?_⟩
      · rw [List.length_map, hm]
        exact small1000 (by omega)
      · rw [upd_ne nDq.symm]
        exact hq
      · rw [upd_same, List.map_append]
        rfl
      · rw [List.length_append, List.length_singleton, hm]
    · rintro H1 ⟨sH, hq, ms, hD, hm⟩
      rw [List.length_map, List.length_take] at hm
      refine ⟨_, rfl, 17, rfl, 60, rfl, a, _, rfl, sH.seq hS, fun r nr => ⟨r, _, rfl, SqL.of upd_same, ?_⟩⟩
      have e60 : cutV (ns.map V.int) (some 17) (some 60) = ((ns.drop 17).take 43).map V.int := by
        rw [cut_from_to (by decide) (by decide), List.map_take, List.map_drop]
        rfl
      have sr : Same H1 (upd H1 r (.lst (cutV (ns.map V.int) (some 17) (some 60)))) := same_upd nr
      have nrD : D ≠ r := ne_of_none hD nr
      refine for_enum (K := K) (a := r) (xs := ((ns.drop 17).take 43).map V.int) (fun i σ H' => ∃ (v2 v3 : Option V) (ms : List Int), σ = [some (.ref a), some (.ref D), v2, v3] ∧ Same H H' ∧ H' r = some (.lst (((ns.drop 17).take 43).map V.int)) ∧ H' D = some (.lst (ms.map V.int)) ∧ ms.length = min 17 ns.length)
        ⟨none, none, ms, rfl, sH.trans sr, by rw [upd_same, e60], by rw [upd_ne nrD]; exact hD, hm⟩ (fun i σ H' ⟨_, _, _, _, _, h, _⟩ => SqL.of h) ?_ ?_
      · rintro i x σ H' t hx nt ⟨v2, v3, ms, rfl, sH', hr', hD', hm'⟩
        obtain ⟨z, rfl, hz⟩ := map_item hx
        have hl : 17 < ns.length := by
          have := (List.getElem?_eq_some_iff.mp hz).1
          rw [List.length_take, List.length_drop] at this
          omega
        have ml : ms.length = 17 := by omega
        have ntD : D ≠ t := ne_of_none hD' nt
        have ntr : r ≠ t := ne_of_none hr' nt
        obtain ⟨y, hy⟩ := atI_ints (ns := ms) (k := (i : Int) % 17) (Int.emod_nonneg _ (by decide)) (by rw [ml]; exact Int.emod_lt_of_pos _ (by decide))
        refine ⟨t, _, rfl, .inl (.inl upd_same), rfl, _, _, rfl, _, _, rfl, rfl, ?_⟩
        refine ⟨_, rfl, _, rfl, _, _, rfl, rfl, (by show (0 : Int) < 17; decide), D, ms.map V.int, _, .int y, rfl, rfl, SqL.of (by rw [upd_ne ntD]; exact hD'), hy, _, rfl, z, rfl, y, _, rfl, rfl, ?_⟩
        refine ⟨_, rfl, _, rfl, _, _, rfl, rfl, (by show (0 : Int) < 17; decide), D, ms.map V.int, _, _, rfl, rfl, (by rw [upd_ne ntD]; exact hD'), ixN_lt (Int.emod_nonneg _ (by decide)) (by rw [List.length_map, ml]; exact Int.emod_lt_of_pos _ (by decide)), ?_⟩
        refine ⟨_, _, ms.set ((i : Int) % 17).toNat (y + if z < 0 then -z else z), rfl, same_mut (sH'.trans (same_upd nt)) nD0, ?_, ?_, ?_⟩
        · rw [upd_ne nrD.symm, upd_ne ntr]
          exact hr'
        · rw [upd_same, List.map_set]
        · rw [List.length_set]
          exact hm'
      · rintro σ H' ⟨v2, v3, ms, rfl, sH', hr', hD', hm'⟩
        refine ⟨_, rfl, (by show 4 ≤ sizeLine; decide), fun l nl => ?_⟩
        exact k l D _ (sH'.trans (same_upd nl)) (sH'.free nl) ⟨(ne_of_none hD' nl).symm, ⟨0, 0, 0, upd_same⟩, ms, by rw [upd_ne (ne_of_none hD' nl)]; exact hD', by omega⟩

theorem sc_below : FnScope ["pot", "bound", "cells", "place", "amount", "found"] ["pot", "bound"] (defScope s_below) := ⟨rfl, rfl, rfl, by decide +kernel, rfl, by decide +kernel, by decide +kernel⟩
theorem cal_below (D : Def1 K mg "_law_below" s_below) (T : Glb mg) (CK : Cal P w K mg base 1 "_law_kneaded" spKneaded) : Cal P w K mg base 2 "_law_below" spBelow := by
  refine mkCal D sc_below (fun _ _ _ _ _ _ us hl => match us, hl with | [_, _], _ => rfl) (fun vs H Q E h => ?_) (fun f cdv A outer s H vs Q E hr h => ?_)
  · obtain ⟨p, c, n, rfl, _⟩ := h
    rfl
  · obtain ⟨p, c, n, rfl, hP, n0, n1, k⟩ := h
    have hu := hu_of hr
    refine ⟨_, pss_cons (ps_if (pt_cmpR op_lt (pe_ix ix_list (pv 0) pe_int (fun _ _ => rfl)) (pv 1) (nomark _))
        (pss_cons (ps_par (i := 2) (j := 3) (by rfl) sc_below.nd rfl rfl (by decide) rfl rfl (pa_cons (pe_ix ix_list (pv 0) pe_int (fun _ _ => rfl)) (pa_cons (pe_ix ix_list (pv 0) pe_int (fun _ _ => rfl)) pa_nil)) (by rfl))
        (pss_cons (ps_set (i := 4) sc_below.nd rfl (.inl rfl) (pe_ifExp (pt_cmpR (op_neD hr.units) (pv 2) (pe_lst pa_nil) (nomark _))
            (pe_ix ix_list (pv 2) (pe_op op_modN (pv 3) (pe_callB call_len_seq (by rfl) T.len PySem.boot_len (pa_cons (pv 2) pa_nil))) (fun _ _ => rfl)) pe_int))
        (pss_cons (ps_if (PW.pt (pw_or (pt_cmpR op_ge (pv 3) (pe_callB call_len_seq (by rfl) T.len PySem.boot_len (pa_cons (pv 2) pa_nil)) (nomark _)) (pw_or1 (pt_cmpR op_lt (pv 4) (pe_op op_pow pe_int pe_int) (nomark _)))))
            (pss_one (ps_set (i := 4) sc_below.nd rfl (.inl rfl) (pe_cal CK hr (by decide) (pa_cons (pe_op op_mod (pe_callTy call_int1 (by rfl) T.int (by decide +kernel) (pa_cons (pv 4) pa_nil)) pe_int) (pa_cons (pv 3) pa_nil))))) pss_nil)
        (pss_cons (ps_asg (pe_op op_add (pv 3) pe_int) (pg_sub (pv 0) pe_int set_list))
        (pss_cons (ps_asg (pv 4) (pg_sub (pv 0) pe_int set_list))
        (pss_one (ps_asg (pv 4) (pg_sub (pv 0) pe_int set_list)))))))) pss_nil)
      (pss_cons (ps_set (i := 5) sc_below.nd rfl (.inl rfl) (pe_op op_mod (pe_callTy call_int1 (by rfl) T.int (by decide +kernel) (pa_cons (pe_ix ix_list (pv 0) pe_int (fun _ _ => rfl)) pa_nil)) (pv 1)))
      (pss_cons (ps_asg (pe_op op_fdivN (pe_ix ix_list (pv 0) pe_int (fun _ _ => rfl)) (pv 1)) (pg_sub (pv 0) pe_int set_list))
      (pss_cons (ps_asg (pe_op op_fdivN (pe_ix ix_list (pv 0) pe_int (fun _ _ => rfl)) (pv 1)) (pg_sub (pv 0) pe_int set_list))
      (pss_one (ps_ret (pv 5)))))), ?_⟩
    -- the end, from any pot
    have tail : ∀ (v2 v3 v4 : Option V) (H1 : Hp), Ext p c H H1 → ∀ (t : TS), t = tSeq (tAsg (tOp (rI (fun _ j => 0 < j) fun i j => V.int (i % j)) (tCB (fun xs H Q => (∃ i, xs = [V.int i] ∧ Q (.int i) H) ∨ ∃ k, xs = [V.bl k] ∧ Q (.int (if k then 1 else 0)) H) (tCons (tOp (rIxL K) (tVar 0) (tC (.int 2))) tNil)) (tVar 1)) (gName 5))
        (tSeq (tAsg (tOp (rI CDivN fun i j => V.int (i.fdiv j)) (tOp (rIxL K) (tVar 0) (tC (.int 2))) (tVar 1)) (gSub (tVar 0) (tC (.int 2)) rSetL)) (tSeq (tAsg (tOp (rI CDivN fun i j => V.int (i.fdiv j)) (tOp (rIxL K) (tVar 0) (tC (.int 3))) (tVar 1)) (gSub (tVar 0) (tC (.int 3)) rSetL)) (tRet (tVar 5)))) →
        t { nx := fun _ H' => Q .non H', rt := Q } [some (.ref p), some (.int n), v2, v3, v4, none] H1 := by
      rintro v2 v3 v4 H1 e t rfl
      obtain ⟨npc, ⟨i, a, b, hp⟩, _⟩ := id e.pot
      refine ⟨_, rfl, p, _, 2, .int a, rfl, rfl, SqL.of hp, atI_nat (j := 2) rfl, .inl ⟨_, rfl, _, rfl, _, _, rfl, rfl, n0, ?_⟩⟩
      refine ⟨_, rfl, p, _, 2, .int a, rfl, rfl, SqL.of hp, atI_nat (j := 2) rfl, _, rfl, _, _, rfl, rfl, ⟨by omega, by omega⟩, ?_⟩
      refine ⟨_, rfl, p, _, 2, 2, rfl, rfl, hp, rfl, ?_⟩
      refine ⟨_, rfl, p, _, 3, .int b, rfl, rfl, SqL.of upd_same, atI_nat (j := 3) rfl, _, rfl, _, _, rfl, rfl, ⟨by omega, by omega⟩, ?_⟩
      refine ⟨_, rfl, p, _, 3, 3, rfl, rfl, upd_same, rfl, ?_⟩
      refine ⟨_, rfl, k _ _ (Int.emod_nonneg _ (by omega)) (Int.emod_lt_of_pos _ n0) ?_⟩
      exact pot_put hP (pot_put hP e)
    obtain ⟨npc, ⟨i, a, b, hp⟩, ns, hc, hl⟩ := id hP
    refine ⟨_, rfl, p, _, 3, .int b, rfl, rfl, SqL.of hp, atI_nat (j := 3) rfl, _, rfl, _, _, rfl, rfl, _, rfl, ?_⟩
    refine ite2 (fun _ => ?_) (fun _ => tail _ _ _ H hP.ref _ rfl)
    refine ⟨_, rfl, p, _, 0, .ref c, rfl, rfl, SqL.of hp, atI_nat (j := 0) rfl, _, rfl, p, _, 1, .int i, rfl, rfl, SqL.of hp, atI_nat (j := 1) rfl, _, _, rfl, ?_⟩
    refine ⟨_, rfl, Nat.zero_le _, fun q nq => ⟨_, _, .lst (SqL.of (by rw [upd_ne (ne_of_none hc nq)]; exact hc)) (dp_ints ns), .lst (SqL.of upd_same) .nil, shaped_ints ns, rfl, _, rfl, ?_⟩⟩
    rw [eqv_ints_nil]
    have e1 : Ext p c H (upd H q (.lst [])) := hP.ref.new nq
    have hc1 : (upd H q (.lst [])) c = some (.lst (ns.map V.int)) := by rw [upd_ne (ne_of_none hc nq)]; exact hc
    have hp1 : (upd H q (.lst [])) p = some (.lst [.ref c, .int i, .int a, .int b]) := by rw [upd_ne (ne_of_none hp nq)]; exact hp
    refine ite2 (fun hn => ?wayA) (fun hn => ?wayB)
    case' wayA =>
      have hn2 : 0 < ns.length := List.length_pos_iff.mpr fun z => by
        rw [z] at hn
        exact absurd hn (by decide)
      obtain ⟨z, hz⟩ := atI_ints (ns := ns) (k := Int.fmod i (((ns.map V.int).length : Nat) : Int)) (Int.fmod_nonneg_of_pos _ (by rw [List.length_map]; omega)) (by
        rw [List.length_map]
        exact Int.fmod_lt_of_pos _ (by omega))
      refine ⟨_, rfl, _, rfl, _, rfl, c, _, rfl, .inl (SqL.of hc1), _, _, rfl, rfl, (by rw [List.length_map]; show ((ns.length : Nat) : Int) ≠ 0; omega), c, _, _, .int z, rfl, rfl, SqL.of hc1, hz, ?_⟩
    all_goals
      refine ⟨_, rfl, _, rfl, c, _, rfl, .inl (SqL.of hc1), _, _, rfl, rfl, _, rfl, ?_⟩
      refine ite2 (fun _ => iteT ?_) (fun _ => ⟨_, rfl, _, _, rfl, rfl, ⟨by decide, by decide, by decide⟩, _, _, rfl, rfl, _, rfl, ite2 (fun _ => ?_) (fun _ => ?_)⟩)
      all_goals try refine ⟨_, rfl, .inl ⟨_, rfl, _, _, rfl, rfl, (by show (0 : Int) < 982451629; decide), _, rfl, _, _, rfl, fun r => ?_⟩⟩
      all_goals
        refine ⟨_, rfl, _, _, rfl, rfl, _, rfl, p, _, 1, 1, rfl, rfl, hp1, rfl, ?_⟩
        refine ⟨_, rfl, _, rfl, p, _, 2, 2, rfl, rfl, upd_same, rfl, ?_⟩
        refine ⟨_, rfl, _, rfl, p, _, 3, 3, rfl, rfl, upd_same, rfl, ?_⟩
        exact tail _ _ _ _ (pot_put hP (pot_put hP (pot_put hP e1))) _ rfl
end
end Lk

/-! K31n -/
set_option Elab.async false
set_option linter.all false
set_option maxRecDepth 100000
set_option maxHeartbeats 4000000
namespace Lk
open PySem PySem.Spec PyProof.Rows L2
section
variable {P : Program} {w : World} {K : PySem.W.Frag} {mg : Str → Option Value} {base : Heap}
theorem sc_pick : FnScope ["pot", "items"] ["pot", "items"] (defScope s_pick) := ⟨rfl, rfl, rfl, by decide +kernel, rfl, by decide +kernel, by decide +kernel⟩
theorem cal_pick (D : Def1 K mg "_law_pick" s_pick) (T : Glb mg) (CB : Cal P w K mg base 2 "_law_below" spBelow) : Cal P w K mg base 3 "_law_pick" (spPick K) := by
  refine mkCal D sc_pick (fun _ _ _ _ _ _ us hl => match us, hl with | [_, _], _ => rfl) (fun vs H Q E h => ?_) (fun f cdv A outer s H vs Q E hr h => ?_)
  · obtain ⟨p, c, l, xs, rfl, _⟩ := h
    rfl
  · obtain ⟨p, c, l, xs, rfl, hP, hS, nl, h0, h1, k⟩ := h
    refine ⟨_, pss_one (ps_ret (pe_ix ix_list (pv 1) (pe_cal CB hr (by decide) (pa_cons (pv 0) (pa_cons (pe_callB call_len_seq (by rfl) T.len PySem.boot_len (pa_cons (pv 1) pa_nil)) pa_nil))) (fun _ _ => rfl))), ?_⟩
    refine ⟨_, rfl, _, rfl, _, rfl, l, xs, rfl, .inl hS, p, c, _, rfl, hP, by omega, by omega, fun r H' r0 r1 e => ?_⟩
    obtain ⟨v, hv, hg⟩ := atI_lt (xs := xs) r0 r1
    exact ⟨l, xs, r, v, rfl, rfl, e.seq nl hS, hv, k v H' (List.mem_of_getElem? hg) e⟩
theorem sc_some_name : FnScope ["pot", "head", "tail", "lap"] ["pot"] (defScope s_some_name) := ⟨rfl, rfl, rfl, by decide +kernel, rfl, by decide +kernel, by decide +kernel⟩
theorem cal_some_name (D : Def1 K mg "_law_some_name" s_some_name) (T : Glb mg) (CB : Cal P w K mg base 2 "_law_below" spBelow) (CP : Cal P w K mg base 3 "_law_pick" (spPick K)) : Cal P w K mg base 4 "_law_some_name" spName := by
  refine mkCal D sc_some_name (fun _ _ _ _ _ _ us hl => match us, hl with | [_], _ => rfl) (fun vs H Q E h => ?_) (fun f cdv A outer s H vs Q E hr h => ?_)
  · obtain ⟨p, c, rfl, _⟩ := h
    rfl
  · obtain ⟨p, c, rfl, hP, k⟩ := h
    refine ⟨_, pss_cons (ps_set (i := 1) sc_some_name.nd rfl (.inl rfl) (pe_join pe_str (pe_lc (own := [("lap", 3)]) (g := gName 3) (tt := tYes) (by rfl) sc_some_name.nd (pi_range1 (by rfl) T.range (pa_cons (pe_cal CB hr (by decide) (pa_cons (pv 0) (pa_cons pe_int pa_nil))) pa_nil))
          (blkOk_by (own := [("lap", 3)]) (N := ["pot", "head", "tail", "lap"]) (sc := defScope s_some_name) (by decide +kernel)) (fun _ _ _ _ _ => pg_name (i := 3) sc_some_name.nd rfl (Or.inl rfl)) (fun _ _ _ _ _ => pts_nil)
          (fun _ _ _ _ _ => pe_cal CP hr (by decide) (pa_cons (pv 0) (pa_cons (pe_lst (pa_cons pe_str (pa_cons pe_str (pa_cons pe_str (pa_cons pe_str pa_nil))))) pa_nil))))))
      (pss_cons (ps_set (i := 2) sc_some_name.nd rfl (.inl rfl) (pe_join pe_str (pe_lc (own := [("lap", 3)]) (g := gName 3) (tt := tYes) (by rfl) sc_some_name.nd (pi_range1 (by rfl) T.range (pa_cons (pe_cal CB hr (by decide) (pa_cons (pv 0) (pa_cons pe_int pa_nil))) pa_nil))
          (blkOk_by (own := [("lap", 3)]) (N := ["pot", "head", "tail", "lap"]) (sc := defScope s_some_name) (by decide +kernel)) (fun _ _ _ _ _ => pg_name (i := 3) sc_some_name.nd rfl (Or.inl rfl)) (fun _ _ _ _ _ => pts_nil)
          (fun _ _ _ _ _ => pe_cal CP hr (by decide) (pa_cons (pv 0) (pa_cons (pe_lst (pa_cons pe_str (pa_cons pe_str (pa_cons pe_str (pa_cons pe_str pa_nil))))) pa_nil))))))
      (pss_one (ps_ret (pe_ifExp (pt_cmpR op_ne (pe_op op_add_str (pv 1) (pv 2)) pe_str (nomark _)) (pe_op op_add_str (pv 1) (pv 2)) (pe_cal CP hr (by decide) (pa_cons (pv 0) (pa_cons (pe_lst (pa_cons pe_str (pa_cons pe_str (pa_cons pe_str pa_nil)))) pa_nil))))))), ?_⟩
    have hU : ∀ y : Str, y ∈ ([("A" : Str), "A", "B", "Z"] : List Str) → (TL.tl y).length ≤ 1 ∧ ∀ c ∈ TL.tl y, Up c := by decide +kernel
    have hL : ∀ y : Str, y ∈ ([("c" : Str), "o", "o", "s"] : List Str) → (TL.tl y).length ≤ 1 ∧ ∀ c ∈ TL.tl y, Lo c := by decide +kernel
    have e0 : TL.tl ("" : Str) = [] := by decide +kernel
    refine set_read ?_
    refine word_read (K := K) (σ := [some (.ref p), none, none, none]) (n := 4) (iv := 3) (p := p) (c := c) (letters := [("A" : Str), "A", "B", "Z"]) ?hL (by decide) (by decide) (fun y h => (hU y h).1) (by rfl) (fun _ => by rfl) (fun _ => by rfl) hP (by decide) (by decide) fun hs H1 mh lh e1 => ?_
    case hL => exact fun σ H Q q => q
    refine set_read ?_
    refine word_read (K := K) (σ := [some (.ref p), some (.str (Txt.join "" hs)), none, none]) (n := 4) (iv := 3) (p := p) (c := c) (letters := [("c" : Str), "o", "o", "s"]) ?hL (by decide) (by decide) (fun y h => (hL y h).1) (by rfl) (fun _ => by rfl) (fun _ => by rfl) e1.pot (by decide) (by decide) fun ts H2 mt lt e2 => ?_
    case hL => exact fun σ H Q q => q
    have e := e1.trans e2
    have th : TL.tl (Txt.join "" hs) = (hs.map TL.tl).flatten := tl_join0 e0 hs
    have tt : TL.tl (Txt.join "" ts) = (ts.map TL.tl).flatten := tl_join0 e0 ts
    have lh1 := flat_len (k := 1) (ys := hs) fun y h => (hU y (mh y h)).1
    have lt1 := flat_len (k := 1) (ys := ts) fun y h => (hL y (mt y h)).1
    have ll : (Txt.join "" hs).length + (Txt.join "" ts).length ≤ sizeLine := by
      rw [TL.len_tl, TL.len_tl, th, tt]
      exact Nat.le_of_lt (small1000 (by omega))
    refine ⟨_, rfl, _, rfl, _, _, rfl, rfl, ll, rfl, _, rfl, ?_⟩
    refine ite2 (fun hne => ?_) (fun hne => ?_)
    · refine ⟨_, rfl, _, rfl, _, _, rfl, rfl, ll, k _ (hs.map TL.tl).flatten (ts.map TL.tl).flatten H2 ⟨by rw [TL.tl_append, th, tt], flat_all fun y h => (hU y (mh y h)).2, flat_all fun y h => (hL y (mt y h)).2, fun z => ?_, by omega, by omega⟩ e⟩
      have z2 : Txt.join "" hs ++ Txt.join "" ts = ("" : Str) := TL.ext_tl (by rw [TL.tl_append, th, tt, z, e0])
      rw [z2] at hne
      exact absurd hne (by decide)
    · refine ⟨_, rfl, (by show 3 ≤ sizeLine; decide), fun l nl => ?_⟩
      refine ⟨p, c, l, _, rfl, e.pot.same (same_upd nl), SqL.of upd_same, e.pot.nep nl, by decide, by decide, fun v H3 hv e3 => ?_⟩
      have e4 := e.trans (Ext.pre (same_upd nl) e3)
      have h3 : v = .str "A" ∨ v = .str "o" ∨ v = .str "Z" := by simpa using hv
      rcases h3 with rfl | rfl | rfl
      · exact k _ [65] [] _ ⟨by decide +kernel, by decide, by decide, by decide, by decide, by decide⟩ e4
      · exact k _ [] [111] _ ⟨by decide +kernel, by decide, by decide, by decide, by decide, by decide⟩ e4
      · exact k _ [90] [] _ ⟨by decide +kernel, by decide, by decide, by decide, by decide, by decide⟩ e4
end
end Lk

/-! K31h -/
set_option Elab.async false
set_option linter.all false
set_option maxRecDepth 100000
set_option maxHeartbeats 4000000
namespace Lk
open PySem PySem.Spec PyProof.Rows L2
inductive Src
  | pat (b e : Str)
  | nm (x : Str)
def Src.d : Src → PyData
  | .pat b e => .tuple [.str b, .str e]
  | .nm x => .str x
/-- the drawn sources -/
def SrcOk : Src → Prop
  | .pat b e => b ∈ (["", "A", "B", "AB"] : List Str) ∧ e ∈ (["", "c", "o", "s", "co"] : List Str) ∧ ¬ (b = "" ∧ e = "")
  | .nm x => x ∈ (["A", "Ac", "Bo", "s", "Ao"] : List Str)
section
variable {P : Program} {w : World} {K : PySem.W.Frag} {mg : Str → Option Value} {base : Heap}
def spWhole (K : PySem.W.Frag) : Sp := fun vs H Q _ => ∃ b e : Str, vs = [.str b, .str e] ∧ b.length + e.length ≤ 1000 ∧ ∀ p H' b' e', Same H H' → H' p = some (.tup [.str b', .str e']) → ((b' = b ∧ e' = e ∧ ¬ (b = "" ∧ e = "")) ∨ (b' = "" ∧ e' = "c")) → Q (.ref p) H'
theorem sc_whole : FnScope ["begin", "end"] ["begin", "end"] (defScope s_whole) := ⟨rfl, rfl, rfl, by decide +kernel, rfl, by decide +kernel, by decide +kernel⟩
theorem cal_whole (D : Def1 K mg "_law_whole" s_whole) : Cal P w K mg base 1 "_law_whole" (spWhole K) := by
  refine mkCal D sc_whole (fun _ _ _ _ _ _ us hl => match us, hl with | [_, _], _ => rfl) (fun vs H Q E h => ?_) (fun f cdv A outer s H vs Q E hr h => ?_)
  · obtain ⟨b, e, rfl, _⟩ := h
    rfl
  · obtain ⟨b, e, rfl, l, k⟩ := h
    refine ⟨_, pss_one (ps_ret (pe_ifExp (pt_cmpR op_ne (pe_op op_add_str (pv 0) (pv 1)) pe_str (nomark _)) (pe_tup (pa_cons (pv 0) (pa_cons (pv 1) pa_nil))) (pe_tup (pa_cons pe_str (pa_cons pe_str pa_nil))))), ?_⟩
    refine ⟨_, rfl, _, rfl, b, e, rfl, rfl, Nat.le_trans l (by decide), rfl, _, rfl, ?_⟩
    have eb : b ++ e = "" ↔ (b = "" ∧ e = "") := by
      rw [← tl_nil_iff, TL.tl_append, List.append_eq_nil_iff, tl_nil_iff, tl_nil_iff]
    refine ite2 (fun hne => ?_) (fun hne => ?_)
    · refine ⟨_, rfl, _, rfl, (by show 2 ≤ sizeLine; decide), fun p np => k p _ b e (same_upd np) upd_same (.inl ⟨rfl, rfl, fun z => ?_⟩)⟩
      rw [eb.mpr z] at hne
      exact absurd hne (by decide)
    · exact ⟨(by show 2 ≤ sizeLine; decide), fun p np => k p _ "" "c" (same_upd np) upd_same (.inr ⟨rfl, rfl⟩)⟩
def spSrc (K : PySem.W.Frag) : Sp := fun vs H Q _ => ∃ (p c : Addr), vs = [.ref p] ∧ PotAt p c H ∧ ∀ (v : V) (s : Src) (H' : Hp), SrcOk s → Ext p c H H' → Th K H' v s.d → Q v H'
theorem sc_some_source : FnScope ["pot"] ["pot"] (defScope s_some_source) := ⟨rfl, rfl, rfl, by decide +kernel, rfl, by decide +kernel, by decide +kernel⟩
theorem cal_some_source (D : Def1 K mg "_law_some_source" s_some_source) (CB : Cal P w K mg base 2 "_law_below" spBelow) (CP : Cal P w K mg base 3 "_law_pick" (spPick K)) (CW : Cal P w K mg base 1 "_law_whole" (spWhole K)) : Cal P w K mg base 4 "_law_some_source" (spSrc K) := by
  refine mkCal D sc_some_source (fun _ _ _ _ _ _ us hl => match us, hl with | [_], _ => rfl) (fun vs H Q E h => ?_) (fun f cdv A outer s H vs Q E hr h => ?_)
  · obtain ⟨p, c, rfl, _⟩ := h
    rfl
  · obtain ⟨p, c, rfl, hP, k⟩ := h
    refine ⟨_, pss_cons (ps_if (pt_cmpR op_eq (pe_cal CB hr (by decide) (pa_cons (pv 0) (pa_cons pe_int pa_nil))) pe_int (nomark _)) (pss_one (ps_ret (pe_cal CP hr (by decide) (pa_cons (pv 0) (pa_cons (pe_lst (pa_cons pe_str (pa_cons pe_str (pa_cons pe_str (pa_cons pe_str (pa_cons pe_str pa_nil)))))) pa_nil))))) pss_nil)
      (pss_one (ps_ret (pe_cal CW hr (by decide) (pa_cons (pe_cal CP hr (by decide) (pa_cons (pv 0) (pa_cons (pe_lst (pa_cons pe_str (pa_cons pe_str (pa_cons pe_str (pa_cons pe_str (pa_cons pe_str pa_nil)))))) pa_nil)))
        (pa_cons (pe_cal CP hr (by decide) (pa_cons (pv 0) (pa_cons (pe_lst (pa_cons pe_str (pa_cons pe_str (pa_cons pe_str (pa_cons pe_str (pa_cons pe_str (pa_cons pe_str pa_nil))))))) pa_nil))) pa_nil))))), ?_⟩
    refine ⟨_, rfl, p, c, 5, rfl, hP, by decide, by decide, fun r H1 r0 r1 e1 => ⟨rfl, _, rfl, ?_⟩⟩
    have one : ∀ {H : Hp} {v : V} {x : Str}, Th K H v (.str x) → v = .str x := fun h => by
      cases h
      rfl
    refine ite2 (fun _ => ?_) (fun _ => ?_)
    · refine pick_new (K := K) (p := p) (c := c) (i := 0) (mk_cons mk_str (mk_cons mk_str (mk_cons mk_str (mk_cons mk_str (mk_cons mk_str mk_nil))))) rfl (by show 0 < 5; decide) (by show 5 ≤ 1000; decide) e1.pot rfl fun v d H2 hd ht e2 => ?_
      obtain ⟨x, hx, rfl⟩ : ∃ x, x ∈ (["A", "Ac", "Bo", "s", "Ao"] : List Str) ∧ d = .str x := by
        simp only [List.mem_cons, List.mem_nil_iff, or_false] at hd
        rcases hd with rfl | rfl | rfl | rfl | rfl <;> exact ⟨_, by simp, rfl⟩
      exact k v (.nm x) H2 hx (e1.trans e2) ht
    · refine pick_new (K := K) (p := p) (c := c) (i := 0) (mk_cons mk_str (mk_cons mk_str (mk_cons mk_str (mk_cons mk_str (mk_cons mk_str mk_nil))))) rfl (by show 0 < 5; decide) (by show 5 ≤ 1000; decide) e1.pot rfl fun v d H2 hd ht e2 => ?_
      obtain ⟨b, hb, rfl⟩ : ∃ x, x ∈ (["", "A", "B", "AB"] : List Str) ∧ d = .str x := by
        simp only [List.mem_cons, List.mem_nil_iff, or_false] at hd
        rcases hd with rfl | rfl | rfl | rfl | rfl <;> exact ⟨_, by simp, rfl⟩
      obtain rfl := one ht
      refine pick_new (K := K) (p := p) (c := c) (i := 0) (mk_cons mk_str (mk_cons mk_str (mk_cons mk_str (mk_cons mk_str (mk_cons mk_str (mk_cons mk_str mk_nil)))))) rfl (by show 0 < 6; decide) (by show 6 ≤ 1000; decide) e2.pot rfl fun v2 d2 H3 hd2 ht2 e3 => ?_
      obtain ⟨e, he, rfl⟩ : ∃ x, x ∈ (["", "c", "o", "s", "co"] : List Str) ∧ d2 = .str x := by
        simp only [List.mem_cons, List.mem_nil_iff, or_false] at hd2
        rcases hd2 with rfl | rfl | rfl | rfl | rfl | rfl <;> exact ⟨_, by simp, rfl⟩
      obtain rfl := one ht2
      have l1 : ∀ x : Str, x ∈ (["", "A", "B", "AB"] : List Str) → x.length ≤ 2 := by decide +kernel
      have l2 : ∀ x : Str, x ∈ (["", "c", "o", "s", "co"] : List Str) → x.length ≤ 2 := by decide +kernel
      have l3 := l1 b hb
      have l4 := l2 e he
      refine ⟨b, e, rfl, by omega, fun q H4 b' e' s4 hq how => ?_⟩
      refine k (.ref q) (.pat b' e') H4 ?_ (((e1.trans e2).trans e3).same s4) (.tup (.inl (.inl hq)) (.cons (.str _) (.cons (.str _) .nil)))
      rcases how with ⟨rfl, rfl, n⟩ | ⟨rfl, rfl⟩
      · exact ⟨hb, he, n⟩
      · exact ⟨by simp, by simp, by decide⟩
structure Rl where
  lab : Str
  b : Str
  e : Str
  ss : List Src
def Rl.d (r : Rl) : PyData := .tuple [.str r.lab, .tuple [.str r.b, .str r.e], .tuple (r.ss.map Src.d)]
structure RlOk (most : Nat) (r : Rl) : Prop where
  lab : r.lab ∈ (["cc", "as", "link"] : List Str)
  b : r.b ∈ (["", "A", "B"] : List Str)
  e : r.e ∈ (["o", "c", "", "s"] : List Str)
  ne : ¬ (r.b = "" ∧ r.e = "")
  ss : ∀ s ∈ r.ss, SrcOk s
  len : r.ss.length ≤ most
theorem src_flat (s : Src) : noLst s.d = true ∧ noPot s.d = true := by
  cases s <;> exact ⟨rfl, rfl⟩
theorem srcs_flat : ∀ ss : List Src, noLstAll (ss.map Src.d) = true ∧ noPotAll (ss.map Src.d) = true
  | [] => ⟨rfl, rfl⟩
  | s :: r => ⟨by rw [List.map_cons, noLstAll, (src_flat s).1, (srcs_flat r).1]; rfl, by rw [List.map_cons, noPotAll, (src_flat s).2, (srcs_flat r).2]; rfl⟩
theorem rl_flat (r : Rl) : noLst r.d = true ∧ noPot r.d = true := by
  obtain ⟨a, b⟩ := srcs_flat r.ss
  refine ⟨?_, ?_⟩
  · simp [Rl.d, noLst, noLstAll, a]
  · simp [Rl.d, noPot, noPotAll, b]
def spRule (K : PySem.W.Frag) : Sp := fun vs H Q _ => ∃ (p c : Addr) (m : Nat), vs = [.ref p, .int (m : Int)] ∧ m ≤ 100 ∧ PotAt p c H ∧ ∀ (v : V) (r : Rl) (H' : Hp), RlOk m r → Ext p c H H' → Th K H' v r.d → Q v H'
theorem sc_some_rule : FnScope ["pot", "most", "pattern", "sources", "lap"] ["pot", "most"] (defScope s_some_rule) := ⟨rfl, rfl, rfl, by decide +kernel, rfl, by decide +kernel, by decide +kernel⟩
theorem cal_some_rule (D : Def1 K mg "_law_some_rule" s_some_rule) (G : Glb mg) (ht : mg "tuple" = none) (CB : Cal P w K mg base 2 "_law_below" spBelow) (CP : Cal P w K mg base 3 "_law_pick" (spPick K)) (CW : Cal P w K mg base 1 "_law_whole" (spWhole K)) (CS : Cal P w K mg base 4 "_law_some_source" (spSrc K)) :
    Cal P w K mg base 5 "_law_some_rule" (spRule K) := by
  refine mkCal D sc_some_rule (fun _ _ _ _ _ _ us hl => match us, hl with | [_, _], _ => rfl) (fun vs H Q E h => ?_) (fun f cdv A outer s H vs Q E hr h => ?_)
  · obtain ⟨p, c, m, rfl, _⟩ := h
    rfl
  · obtain ⟨p, c, m, rfl, hm, hP, k⟩ := h
    refine ⟨_, pss_cons (ps_set (i := 2) sc_some_rule.nd rfl (.inl rfl) (pe_cal CW hr (by decide) (pa_cons (pe_cal CP hr (by decide) (pa_cons (pv 0) (pa_cons (pe_lst (pa_cons pe_str (pa_cons pe_str (pa_cons pe_str (pa_cons pe_str (pa_cons pe_str pa_nil)))))) pa_nil)))
        (pa_cons (pe_cal CP hr (by decide) (pa_cons (pv 0) (pa_cons (pe_lst (pa_cons pe_str (pa_cons pe_str (pa_cons pe_str (pa_cons pe_str (pa_cons pe_str pa_nil)))))) pa_nil))) pa_nil))))
      (pss_cons (ps_set (i := 3) sc_some_rule.nd rfl (.inl rfl) (pe_callTy call_tuple_of (by rfl) ht (by decide +kernel) (pa_cons (pe_lc (own := [("lap", 4)]) (g := gName 4) (tt := tYes) (by rfl) sc_some_rule.nd (pi_range1 (by rfl) G.range (pa_cons (pe_cal CB hr (by decide) (pa_cons (pv 0) (pa_cons (pe_op op_add (pv 1) pe_int) pa_nil))) pa_nil))
          (blkOk_by (own := [("lap", 4)]) (N := ["pot", "most", "pattern", "sources", "lap"]) (sc := defScope s_some_rule) (by decide +kernel)) (fun _ _ _ _ _ => pg_name (i := 4) sc_some_rule.nd rfl (Or.inl rfl)) (fun _ _ _ _ _ => pts_nil)
          (fun _ _ _ _ _ => pe_cal CS hr (by decide) (pa_cons (pv 0) pa_nil))) pa_nil)))
      (pss_one (ps_ret (pe_tup (pa_cons (pe_cal CP hr (by decide) (pa_cons (pv 0) (pa_cons (pe_lst (pa_cons pe_str (pa_cons pe_str (pa_cons pe_str pa_nil)))) pa_nil))) (pa_cons (pv 2) (pa_cons (pv 3) pa_nil))))))), ?_⟩
    have one : ∀ {H : Hp} {v : V} {x : Str}, Th K H v (.str x) → v = .str x := fun h => by
      cases h
      rfl
    refine set_read ?_
    refine pick_new (K := K) (p := p) (c := c) (i := 0) (mk_cons mk_str (mk_cons mk_str (mk_cons mk_str (mk_cons mk_str (mk_cons mk_str mk_nil))))) rfl (by show 0 < 5; decide) (by show 5 ≤ 1000; decide) hP rfl fun v d H1 hd ht1 e1 => ?_
    obtain ⟨b, hb, rfl⟩ : ∃ x, x ∈ (["", "A", "B"] : List Str) ∧ d = .str x := by
      simp only [List.mem_cons, List.mem_nil_iff, or_false] at hd
      rcases hd with rfl | rfl | rfl | rfl | rfl <;> exact ⟨_, by simp, rfl⟩
    obtain rfl := one ht1
    refine pick_new (K := K) (p := p) (c := c) (i := 0) (mk_cons mk_str (mk_cons mk_str (mk_cons mk_str (mk_cons mk_str (mk_cons mk_str mk_nil))))) rfl (by show 0 < 5; decide) (by show 5 ≤ 1000; decide) e1.pot rfl fun v2 d2 H2 hd2 ht2 e2 => ?_
    obtain ⟨e, he, rfl⟩ : ∃ x, x ∈ (["o", "c", "", "s"] : List Str) ∧ d2 = .str x := by
      simp only [List.mem_cons, List.mem_nil_iff, or_false] at hd2
      rcases hd2 with rfl | rfl | rfl | rfl | rfl <;> exact ⟨_, by simp, rfl⟩
    obtain rfl := one ht2
    have l1 : ∀ x : Str, x ∈ (["", "A", "B"] : List Str) → x.length ≤ 2 := by decide +kernel
    have l2 : ∀ x : Str, x ∈ (["o", "c", "", "s"] : List Str) → x.length ≤ 2 := by decide +kernel
    have l3 := l1 b hb
    have l4 := l2 e he
    refine ⟨b, e, rfl, by omega, fun q H3 b' e' s3 hq how => ?_⟩
    have ok : b' ∈ (["", "A", "B"] : List Str) ∧ e' ∈ (["o", "c", "", "s"] : List Str) ∧ ¬ (b' = "" ∧ e' = "") := by
      rcases how with ⟨rfl, rfl, n⟩ | ⟨rfl, rfl⟩
      · exact ⟨hb, he, n⟩
      · exact ⟨by simp, by simp, by decide⟩
    have x3 := (e1.trans e2).same s3
    have tq : Th K H3 (.ref q) (.tuple [.str b', .str e']) := .tup (.inl (.inl hq)) (.cons (.str _) (.cons (.str _) .nil))
    refine ⟨_, rfl, _, rfl, _, _, rfl, rfl, ?_⟩
    refine ⟨p, c, (m : Int) + 1, rfl, x3.pot, by omega, by omega, fun r H4 r0 r1 e4 => ⟨r, rfl, by omega, by omega, fun L nL => ?_⟩⟩
    refine grow (K := K) (p := p) (c := c) (σ := [some (.ref p), some (.int (m : Int)), some (.ref q), none, none]) (te := tCall (spSrc K) [] E0 (tCons (tVar 0) tNil)) (α := Src) (f := Src.d) (Ok := SrcOk) (n := r.toNat) (iv := 4) src_flat e4.pot nL (by omega) (fun _ => rfl) (fun x H' R hp q => ⟨_, rfl, p, c, rfl, hp, fun v s H2 ok e th => q v s H2 ok e th⟩) fun vs as H5 hD ta ok2 len e5 => ?_
    refine ⟨L, vs, rfl, .inl ⟨SqL.of hD, fun t nt => ?_⟩⟩
    have s6 : Same H5 (upd H5 t (.tup vs)) := same_upd nt
    have t6 : Th K (upd H5 t (.tup vs)) (.ref t) (.tuple (as.map Src.d)) := .tup (.inl (.inl upd_same)) (thAll_same s6 ta)
    generalize upd H5 t (.tup vs) = H6 at s6 t6 ⊢
    have x6 : Ext p c H H6 := ((x3.trans e4).trans e5).same s6
    have q6 : Th K H6 (.ref q) (.tuple [.str b', .str e']) := th_same s6 (th_ext e4.pot e5 (th_ext x3.pot e4 tq rfl) rfl)
    refine pick_new (K := K) (p := p) (c := c) (i := 0) (mk_cons mk_str (mk_cons mk_str (mk_cons mk_str mk_nil))) rfl (by show 0 < 3; decide) (by show 3 ≤ 1000; decide) x6.pot rfl fun v3 d3 H7 hd3 ht3 e7 => ?_
    obtain ⟨lab, hlab, rfl⟩ : ∃ x, x ∈ (["cc", "as", "link"] : List Str) ∧ d3 = .str x := by
      simp only [List.mem_cons, List.mem_nil_iff, or_false] at hd3
      rcases hd3 with rfl | rfl | rfl <;> exact ⟨_, by simp, rfl⟩
    obtain rfl := one ht3
    have q7 := th_ext x6.pot e7 q6 rfl
    have t7 := th_ext x6.pot e7 t6 (by simpa only [noPot] using (srcs_flat as).2)
    refine ⟨_, rfl, _, rfl, (by show 3 ≤ sizeLine; decide), fun z nz => ?_⟩
    have s8 : Same H7 (upd H7 z (.tup [.str lab, .ref q, .ref t])) := same_upd nz
    exact k (.ref z) ⟨lab, b', e', as⟩ _ ⟨hlab, ok.1, ok.2.1, ok.2.2, ok2, by rw [len]; omega⟩ ((x6.trans e7).same s8) (.tup (.inl (.inl upd_same)) (.cons (.str lab) (.cons (th_same s8 q7) (.cons (th_same s8 t7) .nil))))
def spBook (K : PySem.W.Frag) : Sp := fun vs H Q _ => ∃ (p c : Addr) (n m : Nat), vs = [.ref p, .int (n : Int), .int (m : Int)] ∧ n ≤ 100 ∧ m ≤ 100 ∧ PotAt p c H ∧ ∀ (q : Addr) (vs : List V) (rs : List Rl) (H' : Hp), (∀ r ∈ rs, RlOk m r) → rs.length ≤ n → Ext p c H H' → H' q = some (.tup vs) → ThAll K H' vs (rs.map Rl.d) → Q (.ref q) H'
theorem sc_some_book : FnScope ["pot", "many", "most", "lap"] ["pot", "many", "most"] (defScope s_some_book) := ⟨rfl, rfl, rfl, by decide +kernel, rfl, by decide +kernel, by decide +kernel⟩
theorem cal_some_book (D : Def1 K mg "_law_some_book" s_some_book) (G : Glb mg) (ht : mg "tuple" = none) (CB : Cal P w K mg base 2 "_law_below" spBelow) (CR : Cal P w K mg base 5 "_law_some_rule" (spRule K)) : Cal P w K mg base 6 "_law_some_book" (spBook K) := by
  refine mkCal D sc_some_book (fun _ _ _ _ _ _ us hl => match us, hl with | [_, _, _], _ => rfl) (fun vs H Q E h => ?_) (fun f cdv A outer s H vs Q E hr h => ?_)
  · obtain ⟨p, c, n, m, rfl, _⟩ := h
    rfl
  · obtain ⟨p, c, n, m, rfl, hn, hm, hP, k⟩ := h
    refine ⟨_, pss_one (ps_ret (pe_callTy call_tuple_of (by rfl) ht (by decide +kernel) (pa_cons (pe_lc (own := [("lap", 3)]) (g := gName 3) (tt := tYes) (by rfl) sc_some_book.nd (pi_range1 (by rfl) G.range (pa_cons (pe_cal CB hr (by decide) (pa_cons (pv 0) (pa_cons (pe_op op_add (pv 1) pe_int) pa_nil))) pa_nil))
          (blkOk_by (own := [("lap", 3)]) (N := ["pot", "many", "most", "lap"]) (sc := defScope s_some_book) (by decide +kernel)) (fun _ _ _ _ _ => pg_name (i := 3) sc_some_book.nd rfl (Or.inl rfl)) (fun _ _ _ _ _ => pts_nil)
          (fun _ _ _ _ _ => pe_cal CR hr (by decide) (pa_cons (pv 0) (pa_cons (pv 2) pa_nil)))) pa_nil))), ?_⟩
    refine ⟨_, rfl, _, rfl, _, _, rfl, rfl, ?_⟩
    refine ⟨p, c, (n : Int) + 1, rfl, hP, by omega, by omega, fun r H4 r0 r1 e4 => ⟨r, rfl, by omega, by omega, fun L nL => ?_⟩⟩
    refine grow (K := K) (p := p) (c := c) (σ := [some (.ref p), some (.int (n : Int)), some (.int (m : Int)), none]) (te := tCall (spRule K) [] E0 (tCons (tVar 0) (tCons (tVar 2) tNil))) (α := Rl) (f := Rl.d) (Ok := RlOk m) (n := r.toNat) (iv := 3) rl_flat e4.pot nL (by omega) (fun _ => rfl) (fun x H' R hp q => ⟨_, rfl, _, rfl, p, c, m, rfl, hm, hp, fun v s H2 ok e th => q v s H2 ok e th⟩) fun vs as H5 hD ta ok2 len e5 => ?_
    exact ⟨L, vs, rfl, .inl ⟨SqL.of hD, fun t nt => k t vs as _ ok2 (by omega) ((e4.trans e5).same (same_upd nt)) upd_same (thAll_same (same_upd nt) ta)⟩⟩
end
end Lk

/-! K31f -/
set_option Elab.async false
set_option linter.all false
set_option maxRecDepth 100000
set_option maxHeartbeats 4000000
namespace Lk
open PySem PySem.Spec PyProof.Rows L2
open Classical in
/-- the stem of a name by the ends of a pattern -/
noncomputable def stemO (b e z : Str) : Option Str := if h : ∃ m : Str, TL.tl z = TL.tl b ++ TL.tl m ++ TL.tl e then some (choose h) else none
theorem stemO_some {b e z m : Str} (h : TL.tl z = TL.tl b ++ TL.tl m ++ TL.tl e) : stemO b e z = some m := by
  have x : ∃ m : Str, TL.tl z = TL.tl b ++ TL.tl m ++ TL.tl e := ⟨m, h⟩
  unfold stemO
  rw [dif_pos x]
  exact congrArg some (TL.ext_tl (List.append_cancel_left (List.append_cancel_right ((Classical.choose_spec x).symm.trans h))))
theorem stemO_none {b e z : Str} (h : ¬ ∃ m : Str, TL.tl z = TL.tl b ++ TL.tl m ++ TL.tl e) : stemO b e z = none := dif_neg h
theorem stemO_eq {b e z m : Str} (h : stemO b e z = some m) : TL.tl z = TL.tl b ++ TL.tl m ++ TL.tl e := by
  apply Classical.byContradiction
  intro n
  by_cases x : ∃ m : Str, TL.tl z = TL.tl b ++ TL.tl m ++ TL.tl e
  · obtain ⟨m', hm⟩ := x
    rw [stemO_some hm] at h
    cases h
    exact n hm
  · rw [stemO_none x] at h
    cases h
theorem stemO_len {b e z m : Str} (h : stemO b e z = some m) : m.length ≤ z.length := by
  have l := congrArg List.length (stemO_eq h)
  rw [List.length_append, List.length_append, ← TL.len_tl, ← TL.len_tl, ← TL.len_tl, ← TL.len_tl] at l
  omega
def vO : Option Str → V
  | some m => .str m
  | none => .non
/-- both answers of a stem at once -/
theorem sw_go {Q : VK} {H : Hp} {b e z : Str} (k : Q (vO (stemO b e z)) H) : (∀ m : Str, TL.tl z = TL.tl b ++ TL.tl m ++ TL.tl e → Q (.str m) H) ∧ ((¬ ∃ m : Str, TL.tl z = TL.tl b ++ TL.tl m ++ TL.tl e) → Q .non H) :=
  ⟨fun m h => by rw [stemO_some h] at k; exact k, fun h => by rw [stemO_none h] at k; exact k⟩
/-- the name that a source is with a stem -/
def Src.put (m : Str) : Src → Str
  | .pat b e => b ++ m ++ e
  | .nm x => x
noncomputable def Rl.to (r : Rl) (z : Str) : Option (List Str) := (stemO r.b r.e z).map fun m => r.ss.map (Src.put m)
def SrcLen : Src → Prop
  | .pat b e => b.length ≤ 3 ∧ e.length ≤ 3
  | .nm x => x.length ≤ 6
structure RlLen (r : Rl) : Prop where
  b : ∀ c ∈ TL.tl r.b, upB c = true
  e : ∀ c ∈ TL.tl r.e, loB c = true
  lb : r.b.length ≤ 3
  le : r.e.length ≤ 3
  ls : r.ss.length ≤ 3
  each : ∀ s ∈ r.ss, SrcLen s
theorem rl_len {r : Rl} (h : dRule r.d = true) : RlLen r := by
  have h2 : (dLabel (.str r.lab) && (dPat (.tuple [.str r.b, .str r.e]) && (decide ((r.ss.map Src.d).length ≤ 3) && (r.ss.map Src.d).all dSrc1))) = true := h
  rw [Bool.and_eq_true, Bool.and_eq_true, Bool.and_eq_true, decide_eq_true_eq, List.length_map, List.all_eq_true] at h2
  obtain ⟨_, hp, hl, hs⟩ := h2
  obtain ⟨a1, a2, a3, a4⟩ := pat_ends hp
  refine ⟨a1, a2, a3, a4, hl, fun s m => ?_⟩
  have q := hs _ (List.mem_map.mpr ⟨s, m, rfl⟩)
  unfold dSrc1 at q
  cases s with
  | pat b e =>
    have q2 : (dPat (.tuple [.str b, .str e]) || (false && decide (0 ≤ 6))) = true := q
    rw [Bool.false_and, Bool.or_false] at q2
    obtain ⟨_, _, b3, b4⟩ := pat_ends q2
    exact ⟨b3, b4⟩
  | nm x =>
    have q2 : (false || (dName (.str x) && decide (x.length ≤ 6))) = true := q
    rw [Bool.false_or, Bool.and_eq_true, decide_eq_true_eq] at q2
    exact q2.2
theorem book_len {rs : List Rl} (h : dBook (.tuple (rs.map Rl.d)) = true) : rs.length ≤ 6 ∧ ∀ r ∈ rs, RlLen r := by
  have h2 : (decide ((rs.map Rl.d).length ≤ 6) && (rs.map Rl.d).all dRule) = true := h
  rw [Bool.and_eq_true, decide_eq_true_eq, List.length_map, List.all_eq_true] at h2
  exact ⟨h2.1, fun r m => rl_len (h2.2 _ (List.mem_map.mpr ⟨r, m, rfl⟩))⟩
section
variable {P : Program} {w : World} {K : PySem.W.Frag} {mg : Str → Option Value} {base : Heap}
theorem th_pair {H : Hp} {v : V} {b e : Str} (h : Th K H v (.tuple [.str b, .str e])) : ∃ q, v = .ref q ∧ SqT K H q [.str b, .str e] := by
  cases h with
  | tup hs ha =>
    cases ha with
    | cons h1 t =>
      cases t with
      | cons h2 t =>
        cases t
        cases h1
        cases h2
        exact ⟨_, rfl, hs⟩
theorem th_rule {H : Hp} {v : V} {r : Rl} (h : Th K H v r.d) : ∃ q p s xs, v = .ref q ∧ SqT K H q [.str r.lab, .ref p, .ref s] ∧ SqT K H p [.str r.b, .str r.e] ∧ SqT K H s xs ∧ ThAll K H xs (r.ss.map Src.d) := by
  unfold Rl.d at h
  cases h with
  | tup hs ha =>
    cases ha with
    | cons h1 t =>
      cases t with
      | cons h2 t =>
        cases t with
        | cons h3 t =>
          cases t
          cases h1
          obtain ⟨p, rfl, hp⟩ := th_pair h2
          cases h3 with
          | tup hs3 ha3 => exact ⟨_, p, _, _, rfl, hs, hp, hs3, ha3⟩
theorem th_src {H : Hp} {v : V} {s : Src} (h : Th K H v s.d) : (∃ x, s = .nm x ∧ v = .str x) ∨ ∃ q b e, s = .pat b e ∧ v = .ref q ∧ SqT K H q [.str b, .str e] := by
  cases s with
  | pat b e =>
    obtain ⟨q, rfl, hq⟩ := th_pair h
    exact .inr ⟨q, b, e, rfl, rfl, hq⟩
  | nm x =>
    cases h
    exact .inl ⟨x, rfl, rfl⟩
/-- [filled(source, within) for source in sources] -/
theorem fills_read {σ : L2.St} {H : Hp} {a : Addr} {xs : List V} {ss : List Src} {m : Str} {j jm iv : Nat} {Q : VK} (hv : σ[j]? = some (some (.ref a))) (hs : SqT K H a xs) (ha : ThAll K H xs (ss.map Src.d)) (small : ss.length ≤ 1000) (len : ∀ s ∈ ss, SrcLen s) (lm : m.length ≤ 1000000)
    (wp : ∀ x : V, wipe ((wipe σ [iv]).set iv (some x)) [iv] = wipe σ [iv]) (hi : ∀ x : V, ((wipe σ [iv]).set iv (some x))[iv]? = some (some x)) (hm : ∀ x : V, ((wipe σ [iv]).set iv (some x))[jm]? = some (some (.str m)))
    (k : ∀ D H', H D = none → Same H H' → H' D = some (.lst ((ss.map (Src.put m)).map V.str)) → Q (.ref D) H') :
    tLc (iTup K (tVar j)) (gName iv) tYes (tCall (spFill K) [] E0 (tCons (tVar iv) (tCons (tVar jm) tNil))) [iv] σ H Q := by
  have hl := thAll_len ha
  rw [List.length_map] at hl
  refine ⟨_, hv, a, rfl, ⟨_, hs⟩, fun D nD => ?_⟩
  refine lc_tup (K := K) (a := a) (xs := xs) (fun i H' => H' D = some (.lst (((ss.take i).map (Src.put m)).map V.str)) ∧ Same H H') ⟨upd_same, same_upd nD⟩ (fun i H' _ h => Same.seqT h.2 hs) ?_ ?_
  · rintro i x H' hx ⟨hD, s⟩
    obtain ⟨d, hd, th⟩ := th_at ha hx
    rw [List.getElem?_map, Option.map_eq_some_iff] at hd
    obtain ⟨c, hc, rfl⟩ := hd
    have lc := len c (List.mem_of_getElem? hc)
    have hlt : i < ss.length := (List.getElem?_eq_some_iff.mp hc).1
    have fin : ∃ acc, H' D = some (.lst acc) ∧ acc.length < sizeLine ∧ (upd H' D (.lst (acc ++ [V.str (c.put m)]))) D = some (.lst (((ss.take (i + 1)).map (Src.put m)).map V.str)) ∧ Same H (upd H' D (.lst (acc ++ [V.str (c.put m)]))) := by
      refine ⟨_, hD, ?_, ?_, same_mut s nD⟩
      · rw [List.length_map, List.length_map, List.length_take, sizeLine_eq]
        omega
      · rw [upd_same, List.take_add_one, hc, List.map_append, List.map_append]
        rfl
    refine ⟨wp x, _, hi x, _, hm x, x, m, rfl, lm, ?_⟩
    rcases th_src (th_same s th) with ⟨y, rfl, rfl⟩ | ⟨q, b, e, rfl, rfl, hq⟩
    · exact .inl ⟨y, rfl, fin⟩
    · exact .inr ⟨q, b, e, rfl, hq, Nat.le_trans lc.1 (by decide), Nat.le_trans lc.2 (by decide), fin⟩
  · rintro H' ⟨hD, s⟩
    rw [hl, List.take_length] at hD
    exact k D H' nD s hD
/-- the rows of the rules that fit a name and are not spent -/
noncomputable def rowOf (z : Str) (ns : List Nat) (c : Rl × Nat) : Option (Nat × List Str) := if c.2 ∈ ns then none else (c.1.to z).map fun ss => (c.2, ss)
noncomputable def fitD (rs : List Rl) (z : Str) (ns : List Nat) : List (Nat × List Str) := rs.zipIdx.filterMap (rowOf z ns)
theorem row_no {z : Str} {ns : List Nat} {r : Rl} {i : Nat} (h : stemO r.b r.e z = none ∨ i ∈ ns) : rowOf z ns (r, i) = none := by
  unfold rowOf Rl.to
  by_cases c : i ∈ ns
  · exact if_pos c
  · rw [if_neg c, h.resolve_right c]
    rfl
theorem row_yes {z : Str} {ns : List Nat} {r : Rl} {i : Nat} {m : Str} (h : stemO r.b r.e z = some m) (n : i ∉ ns) : rowOf z ns (r, i) = some (i, r.ss.map (Src.put m)) := by
  unfold rowOf Rl.to
  rw [if_neg n, h]
  rfl
theorem fm_step {α β : Type} {f : α → Option β} {l : List α} {i : Nat} {x : α} (h : l[i]? = some x) : (l.take (i + 1)).filterMap f = (l.take i).filterMap f ++ (f x).toList := by
  rw [List.take_add_one, h, List.filterMap_append]
  cases e : f x with
  | none => simp [List.filterMap_cons, e]
  | some y => simp [List.filterMap_cons, e]
theorem in_ints {i : Nat} : ∀ {ns : List Nat}, inV (V.int (i : Int)) (ns.map fun n : Nat => V.int (n : Int)) = decide (i ∈ ns)
  | [] => rfl
  | n :: ns => by
    have z := in_ints (i := i) (ns := ns)
    unfold inV at z ⊢
    rw [List.map_cons, List.any_cons, z]
    have e : eqV (V.int (n : Int)) (V.int (i : Int)) = decide (i = n) := by
      show decide ((n : Int) = (i : Int)) = _
      rw [Bool.eq_iff_iff, decide_eq_true_iff, decide_eq_true_iff]
      omega
    rw [e, Bool.eq_iff_iff, Bool.or_eq_true, decide_eq_true_iff, decide_eq_true_iff, decide_eq_true_iff, List.mem_cons]
theorem flat_ints {ns : List Nat} : (ns.map fun n : Nat => V.int (n : Int)).all flatV = true := by
  rw [List.all_eq_true]
  intro v m
  obtain ⟨n, _, rfl⟩ := List.mem_map.mp m
  rfl
/-- a row as it lies on the heap: its pair, its list, its number, its names -/
abbrev Cell := Addr × Addr × Nat × List Str
def CellOk (H : Hp) (c : Cell) : Prop := H c.1 = some (.tup [.int (c.2.2.1 : Int), .ref c.2.1]) ∧ H c.2.1 = some (.lst (c.2.2.2.map V.str))
theorem CellOk.same {H H' : Hp} {c : Cell} (h : CellOk H c) (s : Same H H') : CellOk H' c := ⟨s _ _ h.1, s _ _ h.2⟩
def spFit (K : PySem.W.Frag) : Sp := fun vs H Q _ => ∃ (q : Addr) (xs : List V) (rs : List Rl) (z : Str) (t : Addr) (ns : List Nat), vs = [.ref q, .str z, .ref t] ∧ SqT K H q xs ∧ ThAll K H xs (rs.map Rl.d) ∧ dBook (.tuple (rs.map Rl.d)) = true ∧ z.length ≤ 1000 ∧ SqT K H t (ns.map fun n : Nat => V.int (n : Int)) ∧
  ∀ (p : Addr) (L : List Cell) (H' : Hp), Same H H' → H' p = some (.lst (L.map fun c => V.ref c.1)) → (∀ c ∈ L, CellOk H' c) → L.map (·.2.2) = fitD rs z ns → Q (.ref p) H'
theorem sc_p_fitted : FnScope ["book", "name", "spent", "found", "number", "rule", "_", "pattern", "sources", "within", "source"] ["book", "name", "spent"] (defScope s_p_fitted) := ⟨rfl, rfl, rfl, by decide +kernel, rfl, by decide +kernel, by decide +kernel⟩
theorem cal_p_fitted (D : Def1 K mg "fitted" s_p_fitted) (G : Glb mg) (CW : Cal P w K mg base 1 "stem_within" (spSW K)) (CF : Cal P w K mg base 1 "filled" (spFill K)) : Cal P w K mg base 2 "fitted" (spFit K) := by
  refine mkCal D sc_p_fitted (fun _ _ _ _ _ _ us hl => match us, hl with | [_, _, _], _ => rfl) (fun vs H Q E h => ?_) (fun f cdv A outer s H vs Q E hr h => ?_)
  · obtain ⟨q, xs, rs, z, t, ns, rfl, _⟩ := h
    rfl
  · obtain ⟨q, xs, rs, z, t, ns, rfl, hq, ha, hB, lz, ht, k⟩ := h
    refine ⟨_, (pss_cons (ps_set (i := 3) sc_p_fitted.nd rfl (.inl rfl) (pe_lst pa_nil))
    (pss_cons (ps_for PassesOwn.never rfl (pi_enT (by rfl) G.enumerate (pa_cons (pv 0) pa_nil)) (pg_tup rfl (pgs_cons (pg_name (i := 4) sc_p_fitted.nd rfl (.inl rfl)) (pgs_cons (pg_name (i := 5) sc_p_fitted.nd rfl (.inl rfl)) pgs_nil)))
    (pss_cons (ps_asg (pv 5) (pg_tup rfl (pgs_cons (pg_name (i := 6) sc_p_fitted.nd rfl (.inl rfl)) (pgs_cons (pg_name (i := 7) sc_p_fitted.nd rfl (.inl rfl)) (pgs_cons (pg_name (i := 8) sc_p_fitted.nd rfl (.inl rfl)) pgs_nil)))))
    (pss_cons (ps_set (i := 9) sc_p_fitted.nd rfl (.inr rfl) (pe_cal CW hr (by decide) (pa_cons (pv 7) (pa_cons (pv 1) pa_nil))))
    (pss_one (ps_if (PW.pt (pw_and (pt_cmpR op_notN (pv 9) pe_non (nomark _)) (pw_and1 (pt_cmpR op_notIn_seq (pv 4) (pv 2) (by rfl))))) (pss_one (ps_expr (pe_bm PySem.F.plainAttrs_list PySem.F.slot_list_append PySem.F.type_list_append mt_append (pv 3) (pa_cons (pe_tup (pa_cons (pv 4) (pa_cons (pe_lc (own := [("source", 10)]) (g := gName 10) (tt := tYes) (by rfl) sc_p_fitted.nd (pi_tup (pv 8)) (blkOk_by (own := [("source", 10)]) (N := ["book", "name", "spent", "found", "number", "rule", "_", "pattern", "sources", "within", "source"]) (sc := defScope s_p_fitted) (by decide +kernel)) (fun _ _ _ _ _ => pg_name (i := 10) sc_p_fitted.nd rfl (Or.inl rfl)) (fun _ _ _ _ _ => pts_nil) (fun _ _ _ _ _ => (pe_cal CF hr (by decide) (pa_cons (pv 10) (pa_cons (pv 9) pa_nil))))) pa_nil))) pa_nil)))) pss_nil)))))
    (pss_one (ps_ret (pv 3))))), ?_⟩
    obtain ⟨many, len⟩ := book_len hB
    have hl := thAll_len ha
    rw [List.length_map] at hl
    refine ⟨(by show 0 ≤ sizeLine; decide), fun D nD => ?_⟩
    refine ⟨_, rfl, q, _, rfl, Same.seqT (same_upd nD) hq, for_enT (K := K) (a := q) (xs := xs) (fun i σ H' => ∃ v4 v5 v6 v7 v8 v9 v10 : Option V, σ = [some (.ref q), some (.str z), some (.ref t), some (.ref D), v4, v5, v6, v7, v8, v9, v10] ∧ Same H H' ∧
      ∃ L : List Cell, H' D = some (.lst (L.map fun c => V.ref c.1)) ∧ (∀ c ∈ L, CellOk H' c ∧ c.2.1 ≠ D ∧ c.1 ≠ D) ∧ L.map (·.2.2) = ((rs.zipIdx).take i).filterMap (rowOf z ns))
      ⟨_, _, _, _, _, _, _, rfl, same_upd nD, [], upd_same, (fun _ m => nomatch m), rfl⟩ (fun i σ H' ⟨_, _, _, _, _, _, _, _, s, _⟩ => Same.seqT s hq) ?_ ?_⟩
    · rintro i x σ H' T hx nT ⟨v4, v5, v6, v7, v8, v9, v10, rfl, sH, L, hD, cells, eL⟩
      obtain ⟨d, hd, th⟩ := th_at ha hx
      rw [List.getElem?_map, Option.map_eq_some_iff] at hd
      obtain ⟨r, hr2, rfl⟩ := hd
      have R := len r (List.mem_of_getElem? hr2)
      have hz : (rs.zipIdx)[i]? = some (r, i) := by rw [List.getElem?_zipIdx, hr2]; simp
      have hlt : i < rs.length := (List.getElem?_eq_some_iff.mp hr2).1
      have nTD : D ≠ T := ne_of_none hD nT
      have s1 : Same H' (upd H' T (.tup [.int (i : Int), x])) := same_upd nT
      refine ⟨T, _, rfl, .inl (.inl upd_same), rfl, _, _, rfl, _, _, rfl, rfl, ?_⟩
      generalize upd H' T (.tup [.int (i : Int), x]) = H1 at s1 ⊢
      have sH1 := sH.trans s1
      have hD1 := s1 _ _ hD
      obtain ⟨a, p, s, ys, rfl, ha3, hp, hs, hys⟩ := th_rule (th_same sH1 th)
      refine ⟨_, rfl, a, _, rfl, ha3, rfl, _, _, rfl, _, _, rfl, _, _, rfl, rfl, ?_⟩
      refine ⟨_, rfl, _, rfl, p, r.b, r.e, z, rfl, hp, R.b, R.e, Nat.le_trans R.lb (by decide), Nat.le_trans R.le (by decide), Nat.le_trans lz (by decide), ?_⟩
      have cells1 : ∀ c ∈ L, CellOk H1 c ∧ c.2.1 ≠ D ∧ c.1 ≠ D := fun c m => ⟨(cells c m).1.same s1, (cells c m).2⟩
      have skip : stemO r.b r.e z = none ∨ i ∈ ns → L.map (·.2.2) = ((rs.zipIdx).take (i + 1)).filterMap (rowOf z ns) := fun h => by
        rw [fm_step hz, row_no h, ← eL]
        simp
      cases hst : stemO r.b r.e z with
      | none =>
        refine ⟨fun m hm => ?_, fun _ => ?_⟩
        · rw [stemO_some hm] at hst
          cases hst
        · refine ⟨_, rfl, rfl, _, rfl, ?_⟩
          refine iteF' rfl ?_
          exact ⟨_, _, _, _, _, _, _, rfl, sH1, L, hD1, cells1, skip (.inl hst)⟩
      | some m =>
        refine ⟨fun m' hm => ?_, fun no => absurd ⟨m, stemO_eq hst⟩ no⟩
        rw [stemO_some hm] at hst
        obtain rfl := Option.some.inj hst
        replace hst := stemO_some hm
        refine ⟨_, rfl, rfl, _, rfl, iteT' rfl ?_⟩
        refine ⟨_, rfl, _, rfl, t, _, rfl, .inr (Same.seqT sH1 ht), rfl, flat_ints, _, rfl, ?_⟩
        by_cases hin : i ∈ ns
        · refine iteF' ?_ ?_
          · show (!inV (V.int (i : Int)) _) = false
            rw [in_ints, decide_eq_true hin]
            rfl
          · exact ⟨_, _, _, _, _, _, _, rfl, sH1, L, hD1, cells1, skip (.inr hin)⟩
        · refine iteT' ?_ ?_
          · show (!inV (V.int (i : Int)) _) = true
            rw [in_ints, decide_eq_false hin]
            rfl
          · have lm := stemO_len hst
            refine ⟨_, rfl, .inl ⟨rfl, _, SqL.of hD1⟩, ?_⟩
            refine ⟨_, rfl, ?_⟩
            refine fills_read (K := K) (a := s) (xs := ys) (ss := r.ss) (m := m') rfl hs hys (Nat.le_trans R.ls (by decide)) R.each (by omega) (fun _ => rfl) (fun _ => rfl) (fun _ => rfl) fun l H2 nl s2 hl2 => ?_
            refine ⟨(by show 2 ≤ sizeLine; decide), fun p2 np2 => ?_⟩
            have s3 : Same H2 (upd H2 p2 (.tup [.int (i : Int), .ref l])) := same_upd np2
            have at2 : upd H2 p2 (.tup [.int (i : Int), .ref l]) p2 = some (.tup [.int (i : Int), .ref l]) := upd_same
            have hl3 := s3 _ _ hl2
            have hD3 := s3 _ _ (s2 _ _ hD1)
            have s13 := s2.trans s3
            generalize upd H2 p2 (.tup [.int (i : Int), .ref l]) = H3 at s3 at2 hl3 hD3 s13 ⊢
            have nlD : l ≠ D := fun z => by
              rw [z, hD1] at nl
              cases nl
            have np2D : p2 ≠ D := fun z => by
              rw [z, hD3] at at2
              cases at2
            have few : L.length ≤ 6 := by
              have z1 := congrArg List.length eL
              have z2 := List.length_filterMap_le (rowOf z ns) ((rs.zipIdx).take i)
              rw [List.length_map] at z1
              rw [List.length_take, List.length_zipIdx] at z2
              omega
            refine ⟨D, _, _, rfl, rfl, hD3, by rw [List.length_map, sizeLine_eq]; omega, ?_⟩
            refine ⟨_, _, _, _, _, _, _, rfl, same_mut (sH1.trans s13) nD, L ++ [(p2, l, i, r.ss.map (Src.put m'))], by rw [upd_same, List.map_append]; rfl, fun c mc => ?_, ?_⟩
            · have ok : CellOk H3 c ∧ c.2.1 ≠ D ∧ c.1 ≠ D := by
                rcases List.mem_append.mp mc with mc | mc
                · exact ⟨(cells1 c mc).1.same s13, (cells1 c mc).2⟩
                · rw [List.mem_singleton.mp mc]
                  exact ⟨⟨at2, hl3⟩, nlD, np2D⟩
              refine ⟨⟨?_, ?_⟩, ok.2⟩
              · rw [upd_ne ok.2.2]
                exact ok.1.1
              · rw [upd_ne ok.2.1]
                exact ok.1.2
            · rw [fm_step hz, row_yes hst hin, List.map_append, eL]
              rfl
    · rintro σ H' ⟨v4, v5, v6, v7, v8, v9, v10, rfl, sH, L, hD, cells, eL⟩
      rw [hl, List.take_of_length_le (by rw [List.length_zipIdx]; exact Nat.le_refl _)] at eL
      exact ⟨_, rfl, k D L H' sH hD (fun c m => (cells c m).1) eL⟩
theorem bulkAll_le {c : Nat} : ∀ {ds : List PyData}, (∀ d ∈ ds, d.bulk ≤ c) → PyData.bulkAll ds ≤ ds.length * (c + 1)
  | [], _ => by simp [PyData.bulkAll]
  | d :: ds, h => by
    have z := bulkAll_le fun e m => h e (List.mem_cons_of_mem _ m)
    have y := h d List.mem_cons_self
    rw [PyData.bulkAll, List.length_cons, Nat.add_mul]
    omega
theorem rl_bulk {r : Rl} (h : dRule r.d = true) : r.d.bulk ≤ 100 := by
  have L := rl_len h
  have h2 : ((decide (1 ≤ r.lab.length) && (decide (r.lab.length ≤ 8) && (TL.tl r.lab).all loB)) && (dPat (.tuple [.str r.b, .str r.e]) && dSrcs (.tuple (r.ss.map Src.d)))) = true := h
  rw [Bool.and_eq_true, Bool.and_eq_true, Bool.and_eq_true, decide_eq_true_eq, decide_eq_true_eq] at h2
  have l8 := h2.1.2.1
  have b := L.lb
  have e := L.le
  have s : PyData.bulkAll (r.ss.map Src.d) ≤ (r.ss.map Src.d).length * (8 + 1) := bulkAll_le fun d m => by
    obtain ⟨s, ms, rfl⟩ := List.mem_map.mp m
    have q := L.each s ms
    cases s with
    | pat b e =>
      have q2 : b.length ≤ 3 ∧ e.length ≤ 3 := q
      show b.length + 1 + (e.length + 1 + 0) ≤ 8
      omega
    | nm x =>
      have q2 : x.length ≤ 6 := q
      show x.length ≤ 8
      omega
  rw [List.length_map] at s
  have n := L.ls
  show r.lab.length + 1 + ((r.b.length + 1 + (r.e.length + 1 + 0)) + 1 + (PyData.bulkAll (r.ss.map Src.d) + 1 + 0)) ≤ 100
  omega
theorem book_bulk {rs : List Rl} (h : dBook (.tuple (rs.map Rl.d)) = true) : (PyData.tuple (rs.map Rl.d)).bulk ≤ 1000000 := by
  have h2 : (decide ((rs.map Rl.d).length ≤ 6) && (rs.map Rl.d).all dRule) = true := h
  rw [Bool.and_eq_true, decide_eq_true_eq, List.all_eq_true] at h2
  have s : PyData.bulkAll (rs.map Rl.d) ≤ (rs.map Rl.d).length * (100 + 1) := bulkAll_le fun d m => by
    have q := h2.2 d m
    obtain ⟨r, _, rfl⟩ := List.mem_map.mp m
    exact rl_bulk q
  show PyData.bulkAll (rs.map Rl.d) ≤ 1000000
  have n := h2.1
  omega
def spNeedB (K : PySem.W.Frag) : Sp := fun vs H Q _ => ∃ (q : Addr) (xs : List V) (rs : List Rl), vs = [.ref q] ∧ SqT K H q xs ∧ ThAll K H xs (rs.map Rl.d) ∧ dBook (.tuple (rs.map Rl.d)) = true ∧ ∀ H', Same H H' → Q .non H'
theorem sc_p_need_book : FnScope ["thing"] ["thing"] (defScope s_p_need_book) := ⟨rfl, rfl, rfl, by decide +kernel, rfl, by decide +kernel, by decide +kernel⟩
theorem cal_p_need_book (D : Def1 K mg "need_book" s_p_need_book) (C1 : Cal P w K mg base 6 "is_book" (spOneS K dBook)) : Cal P w K mg base 7 "need_book" (spNeedB K) := by
  refine mkCal D sc_p_need_book (fun _ _ _ _ _ _ us hl => match us, hl with | [_], _ => rfl) (fun vs H Q E h => ?_) (fun f cdv A outer s H vs Q E hr h => ?_)
  · obtain ⟨q, xs, rs, rfl, _⟩ := h
    rfl
  · obtain ⟨q, xs, rs, rfl, hq, ha, hB, k⟩ := h
    refine ⟨_, pss_one (ps_if (pt_not (pt_val (pe_cal C1 hr (by decide) (pa_cons (pv 0) pa_nil)))) (pss_one ps_never) pss_nil), ?_⟩
    exact ⟨_, rfl, .ref q, _, rfl, .tup hq ha, book_bulk hB, fun H' s => ⟨_, rfl, iteF' (by rw [hB]; rfl) (k H' s)⟩⟩
end
end Lk

/-! K31k -/
set_option Elab.async false
set_option linter.all false
set_option maxRecDepth 100000
set_option maxHeartbeats 4000000
namespace Lk
open PySem PySem.Spec PyProof.Rows L2
section
variable {P : Program} {w : World} {K : PySem.W.Frag} {mg : Str → Option Value} {base : Heap}
/-- the sources of a rule for a name, none if it doesn't fit -/
noncomputable def Rl.of (r : Rl) (z : Str) : List Str := (r.to z).getD []
theorem of_none {r : Rl} {z : Str} (h : stemO r.b r.e z = none) : r.of z = [] := by
  unfold Rl.of Rl.to
  rw [h]
  rfl
theorem of_some {r : Rl} {z m : Str} (h : stemO r.b r.e z = some m) : r.of z = r.ss.map (Src.put m) := by
  unfold Rl.of Rl.to
  rw [h]
  rfl
theorem of_few {r : Rl} (R : RlLen r) (z : Str) : (r.of z).length ≤ 3 := by
  cases h : stemO r.b r.e z with
  | none =>
    rw [of_none h]
    exact Nat.zero_le _
  | some m =>
    rw [of_some h, List.length_map]
    exact R.ls
theorem put_len {s : Src} (L : SrcLen s) {m : Str} : (s.put m).length ≤ m.length + 6 := by
  cases s with
  | pat b e =>
    have q : b.length ≤ 3 ∧ e.length ≤ 3 := L
    show (b ++ m ++ e).length ≤ _
    rw [len_add, len_add]
    omega
  | nm x =>
    have q : x.length ≤ 6 := L
    show x.length ≤ _
    omega
theorem of_len {r : Rl} (R : RlLen r) {z y : Str} (h : y ∈ r.of z) : y.length ≤ z.length + 6 := by
  cases e : stemO r.b r.e z with
  | none =>
    rw [of_none e] at h
    cases h
  | some m =>
    rw [of_some e] at h
    obtain ⟨s, hs, rfl⟩ := List.mem_map.mp h
    have a := put_len (R.each s hs) (m := m)
    have b := stemO_len e
    omega
theorem flatS_len {r : Rl} (R : RlLen r) : ∀ zs : List Str, (zs.flatMap r.of).length ≤ 3 * zs.length
  | [] => Nat.zero_le _
  | z :: zs => by
    have a := flatS_len R zs
    have b := of_few R z
    rw [List.flatMap_cons, List.length_append, List.length_cons]
    omega
end
theorem gN_eq {i : Nat} {x y : V} {σ : L2.St} {H : Hp} {q : L2.St → Hp → Prop} (e : x = y) (h : gName i y σ H q) : gName i x σ H q := e ▸ h
theorem units1 {n : Nat} (h : n + 64 < cLine) : n + 1 < cLine := by omega
/-! the keys of a dict whose values are all True -/
def insK (ks : List Str) (y : Str) : List Str := if y ∈ ks then ks else ks ++ [y]
def dk (ks : List Str) : List (Key × V) := ks.map fun y => ((Sum.inr y : Key), V.bl true)
theorem dk_put {ks : List Str} {y : Str} : putK (dk ks) (Sum.inr y) (V.bl true) = dk (insK ks y) := by
  unfold putK insK
  by_cases h : y ∈ ks
  · have e : ((dk ks).any fun kv => decide (kv.1 = (Sum.inr y : Key))) = true := by
      rw [List.any_eq_true]
      exact ⟨(Sum.inr y, V.bl true), List.mem_map.mpr ⟨y, h, rfl⟩, decide_eq_true rfl⟩
    rw [if_pos e, if_pos h]
    unfold dk
    rw [List.map_map]
    refine List.map_congr_left fun x _ => ?_
    show (if (Sum.inr x : Key) = Sum.inr y then ((Sum.inr x : Key), V.bl true) else (Sum.inr x, V.bl true)) = _
    split <;> rfl
  · have e : ¬ ((dk ks).any fun kv => decide (kv.1 = (Sum.inr y : Key))) = true := by
      rw [List.any_eq_true]
      rintro ⟨p, hp, e⟩
      obtain ⟨x, hx, rfl⟩ := List.mem_map.mp hp
      have z : (Sum.inr x : Key) = Sum.inr y := of_decide_eq_true e
      injection z with z
      exact h (z ▸ hx)
    rw [if_neg e, if_neg h]
    unfold dk
    rw [List.map_append]
    rfl
theorem dk_merge : ∀ {ls ks : List Str}, mergeK (dk ks) (dk ls) = dk (ls.foldl insK ks)
  | [], _ => rfl
  | y :: ls, ks => by
    have z : mergeK (dk ks) (dk (y :: ls)) = mergeK (putK (dk ks) (Sum.inr y) (V.bl true)) (dk ls) := rfl
    rw [z, dk_put, dk_merge]
    rfl
theorem dk_len (ks : List Str) : (dk ks).length = ks.length := List.length_map ..
theorem ins_len (ks : List Str) (y : Str) : ks.length ≤ (insK ks y).length ∧ (insK ks y).length ≤ ks.length + 1 := by
  unfold insK
  split
  · omega
  · rw [List.length_append, List.length_singleton]
    omega
theorem insl_len : ∀ (ls ks : List Str), ks.length ≤ (ls.foldl insK ks).length
  | [], _ => Nat.le_refl _
  | y :: ls, ks => Nat.le_trans (ins_len ks y).1 (insl_len ls (insK ks y))
theorem insl_part (ls ks : List Str) (j : Nat) : ((ls.take j).foldl insK ks).length ≤ (ls.foldl insK ks).length := by
  conv => rhs; rw [← List.take_append_drop j ls, List.foldl_append]
  exact insl_len _ _
theorem mem_ins1 {ks : List Str} {y x : Str} : x ∈ insK ks y ↔ x ∈ ks ∨ x = y := by
  unfold insK
  split
  · rename_i h
    exact ⟨.inl, fun z => z.elim id fun e => e ▸ h⟩
  · rw [List.mem_append, List.mem_singleton]
theorem mem_insl {x : Str} : ∀ {ls ks : List Str}, x ∈ ls.foldl insK ks ↔ x ∈ ks ∨ x ∈ ls
  | [], ks => by simp
  | y :: ls, ks => by
    rw [List.foldl_cons, mem_insl, mem_ins1, List.mem_cons, or_assoc]
theorem nd_ins1 {ks : List Str} (h : ks.Nodup) (y : Str) : (insK ks y).Nodup := by
  unfold insK
  split
  · exact h
  · rename_i n
    rw [List.nodup_append]
    exact ⟨h, List.nodup_cons.mpr ⟨(fun z => nomatch z), List.nodup_nil⟩, fun a ha b hb e => n (by rw [List.mem_singleton.mp hb] at e; exact e ▸ ha)⟩
theorem nd_insl : ∀ {ls ks : List Str}, ks.Nodup → (ls.foldl insK ks).Nodup
  | [], _, h => h
  | y :: ls, _, h => nd_insl (ls := ls) (nd_ins1 h y)
/-! ### what is gathered: just the names that chains come to -/
/-- a chain, its rules the last one first, and the name that it comes to -/
inductive Chain (rs : List Rl) (z0 : Str) : List Nat → Str → Prop
  | start : Chain rs z0 [] z0
  | step {ks : List Nat} {z y : Str} {k : Nat} {r : Rl} : Chain rs z0 ks z → rs[k]? = some r → k ∉ ks → y ∈ r.of z → Chain rs z0 (k :: ks) y
section
variable {rs : List Rl} {z0 : Str}
theorem chain_lt {ks : List Nat} {y : Str} (h : Chain rs z0 ks y) : (∀ k ∈ ks, k < rs.length) ∧ ks.Nodup := by
  induction h with
  | start => exact ⟨(fun _ m => nomatch m), List.nodup_nil⟩
  | step c hr n _ ih =>
    refine ⟨fun j m => ?_, List.nodup_cons.mpr ⟨n, ih.2⟩⟩
    rcases List.mem_cons.mp m with e | m
    · rw [e]
      exact (List.getElem?_eq_some_iff.mp hr).1
    · exact ih.1 j m
end
/-- the names that chains come to all stand in a short list -/
structure Short (rs : List Rl) (z : Str) (L0 : List Str) : Prop where
  in_ : ∀ ks y, Chain rs z ks y → y ∈ L0
  few : L0.length ≤ 4000
  short : ∀ y ∈ L0, y.length ≤ 1000
end Lk

/-! K31m -/
set_option Elab.async false
set_option linter.all false
set_option maxRecDepth 100000
set_option maxHeartbeats 4000000
namespace Lk
open PySem PySem.Spec PyProof.Rows L2
/-! ### the law's walk of the chains, as lists -/
def srt (l : List Nat) : List Nat := l.mergeSort fun a b => decide (a ≤ b)
theorem srt_perm (l : List Nat) : (srt l).Perm l := List.mergeSort_perm _ _
theorem srt_nil : srt [] = [] := List.eq_nil_of_length_eq_zero (srt_perm []).length_eq
theorem srt_le (l : List Nat) : (srt l).Pairwise (· ≤ ·) := by
  have z := List.pairwise_mergeSort (le := fun a b : Nat => decide (a ≤ b)) (fun a b c h1 h2 => by simp at h1 h2 ⊢; omega) (fun a b => by simp; omega) l
  exact z.imp fun h => of_decide_eq_true h
theorem srt_eq {l m : List Nat} (h : m.Perm l) (s : m.Pairwise (· ≤ ·)) : m = srt l :=
  List.Perm.eq_of_pairwise (le := (· ≤ ·)) (fun a b _ _ h1 h2 => Nat.le_antisymm h1 h2) s (srt_le l) (h.trans (srt_perm l).symm)
theorem srt_same {l m : List Nat} (h : l.Perm m) : srt l = srt m := srt_eq ((srt_perm l).trans h) (srt_le l)
theorem mem_srt {l : List Nat} {k : Nat} : k ∈ srt l ↔ k ∈ l := (srt_perm l).mem_iff
abbrev Place := Str × List Nat
def Succ (rs : List Rl) (p p' : Place) : Prop := ∃ k r, rs[k]? = some r ∧ k ∉ p.2 ∧ p'.1 ∈ r.of p.1 ∧ p'.2 = srt (p.2 ++ [k])
def Snds (rs : List Rl) (z0 : Str) (p : Place) : Prop := ∃ ks, Chain rs z0 ks p.1 ∧ p.2 = srt ks
theorem snds_succ {rs : List Rl} {z0 : Str} {p p' : Place} (h : Snds rs z0 p) (s : Succ rs p p') : Snds rs z0 p' := by
  obtain ⟨ks, c, e⟩ := h
  obtain ⟨k, r, hr, n, hy, e2⟩ := s
  refine ⟨k :: ks, .step c hr (fun m => n (by rw [e, mem_srt]; exact m)) hy, ?_⟩
  rw [e2, e]
  refine srt_same ?_
  have z1 : (srt ks ++ [k]).Perm (k :: srt ks) := List.perm_append_singleton k _
  exact z1.trans ((srt_perm ks).cons k)
/-- what stands at each step of the walk; p0: the place that is gone through, its rules below i are done -/
structure LK (rs : List Rl) (z0 : Str) (fs : List Str) (rest seen : List Place) (op : Place → Prop) : Prop where
  snd : ∀ p ∈ seen, Snds rs z0 p
  sub : ∀ p ∈ rest, p ∈ seen
  st : (z0, []) ∈ seen
  f1 : ∀ y ∈ fs, ∃ p ∈ seen, p.1 = y
  f2 : ∀ p ∈ seen, p.1 ∈ fs
  clo : ∀ p ∈ seen, p ∈ rest ∨ op p ∨ ∀ p', Succ rs p p' → p' ∈ seen
section
variable {rs : List Rl} {z0 : Str} {fs : List Str} {rest seen : List Place} {op : Place → Prop}
theorem LK.start : LK rs z0 [z0] [(z0, [])] [(z0, [])] (fun _ => False) := by
  refine ⟨fun p m => ?_, fun p m => m, List.mem_singleton.mpr rfl, fun y m => ⟨_, List.mem_singleton.mpr rfl, (List.mem_singleton.mp m).symm⟩, fun p m => ?_, fun p m => .inl m⟩
  · rw [List.mem_singleton.mp m]
    exact ⟨[], .start, srt_nil.symm⟩
  · rw [List.mem_singleton.mp m]
    exact List.mem_singleton.mpr rfl
/-- one more name, its place seen or new -/
theorem LK.more (h : LK rs z0 fs rest seen op) {p : Place} (s : Snds rs z0 p) : LK rs z0 (fs ++ [p.1]) (if p ∈ seen then rest else rest ++ [p]) (if p ∈ seen then seen else seen ++ [p]) op := by
  by_cases m : p ∈ seen
  · rw [if_pos m, if_pos m]
    refine ⟨h.snd, h.sub, h.st, fun y my => ?_, fun q mq => List.mem_append_left _ (h.f2 q mq), h.clo⟩
    rcases List.mem_append.mp my with my | my
    · exact h.f1 y my
    · exact ⟨p, m, (List.mem_singleton.mp my).symm⟩
  · rw [if_neg m, if_neg m]
    refine ⟨fun q mq => ?_, fun q mq => ?_, List.mem_append_left _ h.st, fun y my => ?_, fun q mq => ?_, fun q mq => ?_⟩
    · rcases List.mem_append.mp mq with mq | mq
      · exact h.snd q mq
      · rw [List.mem_singleton.mp mq]
        exact s
    · rcases List.mem_append.mp mq with mq | mq
      · exact List.mem_append_left _ (h.sub q mq)
      · exact List.mem_append_right _ mq
    · rcases List.mem_append.mp my with my | my
      · obtain ⟨q, a, b⟩ := h.f1 y my
        exact ⟨q, List.mem_append_left _ a, b⟩
      · exact ⟨p, List.mem_append_right _ (List.mem_singleton.mpr rfl), (List.mem_singleton.mp my).symm⟩
    · rcases List.mem_append.mp mq with mq | mq
      · exact List.mem_append_left _ (h.f2 q mq)
      · rw [List.mem_singleton.mp mq]
        exact List.mem_append_right _ (List.mem_singleton.mpr rfl)
    · rcases List.mem_append.mp mq with mq | mq
      · rcases h.clo q mq with z | z | z
        · exact .inl (List.mem_append_left _ z)
        · exact .inr (.inl z)
        · exact .inr (.inr fun p' s' => List.mem_append_left _ (z p' s'))
      · exact .inl (List.mem_append_right _ mq)
/-- a place is taken from the rest -/
theorem LK.pop {p0 : Place} (h : LK rs z0 fs (rest ++ [p0]) seen (fun _ => False)) : LK rs z0 fs rest seen (fun p => p = p0) := by
  refine ⟨h.snd, fun q m => h.sub q (List.mem_append_left _ m), h.st, h.f1, h.f2, fun q m => ?_⟩
  rcases h.clo q m with z | z | z
  · rcases List.mem_append.mp z with z | z
    · exact .inl z
    · exact .inr (.inl (List.mem_singleton.mp z))
  · exact z.elim
  · exact .inr (.inr z)
/-- and is done -/
theorem LK.done {p0 : Place} (h : LK rs z0 fs rest seen (fun p => p = p0)) (all : ∀ p', Succ rs p0 p' → p' ∈ seen) : LK rs z0 fs rest seen (fun _ => False) := by
  refine ⟨h.snd, h.sub, h.st, h.f1, h.f2, fun q m => ?_⟩
  rcases h.clo q m with z | z | z
  · exact .inl z
  · exact .inr (.inr (z ▸ all))
  · exact .inr (.inr z)
theorem LK.end_ (h : LK rs z0 fs [] seen (fun _ => False)) (y : Str) : y ∈ fs ↔ ∃ ks, Chain rs z0 ks y := by
  constructor
  · intro m
    obtain ⟨p, mp, rfl⟩ := h.f1 y m
    obtain ⟨ks, c, _⟩ := h.snd p mp
    exact ⟨ks, c⟩
  · rintro ⟨ks, c⟩
    have all : (y, srt ks) ∈ seen := by
      induction c with
      | start =>
        rw [srt_nil]
        exact h.st
      | @step ks z y k r c hr n hy ih =>
        rcases h.clo _ ih with z | z | z
        · cases z
        · exact z.elim
        · have q := z (y, srt (srt ks ++ [k])) ⟨k, r, hr, (fun m => n (mem_srt.mp m)), hy, rfl⟩
          have e : srt (srt ks ++ [k]) = srt (k :: ks) := srt_same ((List.perm_append_singleton k _).trans ((srt_perm ks).cons k))
          rw [e] at q
          exact q
    exact h.f2 _ all
end
/-! how many chains go on from a place, with so many rules left -/
def wgt (m : Nat) : Nat → Nat
  | 0 => 1
  | j + 1 => 1 + (j + 1) * m * wgt m j
def left (n : Nat) (ns : List Nat) : Nat := n - ns.length
def load (m n : Nat) (rest : List Place) : Nat := (rest.map fun p => wgt m (left n p.2)).sum
theorem load_app (m n : Nat) (a b : List Place) : load m n (a ++ b) = load m n a + load m n b := by
  unfold load
  rw [List.map_append, List.sum_append]
theorem wgt_pos (m j : Nat) : 1 ≤ wgt m j := by
  cases j with
  | zero => exact Nat.le_refl _
  | succ j =>
    show 1 ≤ 1 + _
    omega
end Lk

/-! K31l -/
set_option Elab.async false
set_option linter.all false
set_option maxRecDepth 100000
set_option maxHeartbeats 4000000
namespace Lk
open PySem PySem.Spec PyProof.Rows L2
section
variable {P : Program} {w : World} {K : PySem.W.Frag} {mg : Str → Option Value} {base : Heap}
def spLStem (K : PySem.W.Frag) : Sp := fun vs H Q _ => ∃ (q : Addr) (b e z : Str), vs = [.ref q, .str z] ∧ SqT K H q [.str b, .str e] ∧ b.length ≤ 1000000 ∧ e.length ≤ 1000000 ∧ z.length ≤ 1000000 ∧
  (∀ m : Str, TL.tl z = TL.tl b ++ TL.tl m ++ TL.tl e → Q (.str m) H) ∧ ((¬ ∃ m : Str, TL.tl z = TL.tl b ++ TL.tl m ++ TL.tl e) → Q .non H)
theorem sc_stem : FnScope ["pattern", "name", "begin", "end", "middle"] ["pattern", "name"] (defScope s_stem) := ⟨rfl, rfl, rfl, by decide +kernel, rfl, by decide +kernel, by decide +kernel⟩
theorem cal_stem (D : Def1 K mg "_law_stem" s_stem) (G : Glb mg) : Cal P w K mg base 1 "_law_stem" (spLStem K) := by
  refine mkCal D sc_stem (fun _ _ _ _ _ _ us hl => match us, hl with | [_, _], _ => rfl) (fun vs H Q E h => ?_) (fun f cdv A outer s H vs Q E hr h => ?_)
  · obtain ⟨q, b, e, z, rfl, _⟩ := h
    rfl
  · obtain ⟨q, b, e, z, rfl, hq, lb, le, lz, yes, no⟩ := h
    refine ⟨_, pss_cons (ps_asg (pv 0) (pg_tup rfl (pgs_cons (pg_name (i := 2) sc_stem.nd rfl (.inl rfl)) (pgs_cons (pg_name (i := 3) sc_stem.nd rfl (.inl rfl)) pgs_nil))))
      (pss_cons (ps_if (pt_cmpR op_lt (pe_callB call_len_str (by rfl) G.len PySem.boot_len (pa_cons (pv 1) pa_nil)) (pe_op op_add (pe_callB call_len_str (by rfl) G.len PySem.boot_len (pa_cons (pv 2) pa_nil)) (pe_callB call_len_str (by rfl) G.len PySem.boot_len (pa_cons (pv 3) pa_nil))) (nomark _)) (pss_one (ps_ret pe_non)) pss_nil)
      (pss_cons (ps_set (i := 4) sc_stem.nd rfl (.inl rfl) (pe_slice sl_str (pv 1) (po_some (pe_callB call_len_str (by rfl) G.len PySem.boot_len (pa_cons (pv 2) pa_nil))) (po_some (pe_op op_sub (pe_callB call_len_str (by rfl) G.len PySem.boot_len (pa_cons (pv 1) pa_nil)) (pe_callB call_len_str (by rfl) G.len PySem.boot_len (pa_cons (pv 3) pa_nil))))))
      (pss_one (ps_ret (pe_ifExp (pt_cmpR op_eq (pe_op op_add_str (pe_op op_add_str (pv 2) (pv 4)) (pv 3)) (pv 1) (nomark _)) (pv 4) pe_non))))), ?_⟩
    have big : ∀ n : Nat, n ≤ 4000000 → n ≤ sizeLine := fun n h => Nat.le_trans h (by decide)
    refine ⟨_, rfl, q, _, rfl, hq, rfl, _, _, rfl, _, _, rfl, rfl, ?_⟩
    refine ⟨_, rfl, z, rfl, big _ (by omega), _, rfl, b, rfl, big _ (by omega), _, rfl, e, rfl, big _ (by omega), _, _, rfl, rfl, _, _, rfl, rfl, _, rfl, ?_⟩
    refine ite2 (fun hlt => ?_) (fun hge => ?_)
    · refine no ?_
      rintro ⟨m, hm⟩
      have l := congrArg List.length hm
      rw [List.length_append, List.length_append, ← TL.len_tl, ← TL.len_tl, ← TL.len_tl, ← TL.len_tl] at l
      have h2 := of_decide_eq_true hlt
      omega
    have hge2 : ¬ ((z.length : Int) < (b.length : Int) + (e.length : Int)) := fun y => hge (decide_eq_true y)
    refine ⟨_, rfl, _, rfl, b, rfl, big _ (by omega), _, rfl, _, rfl, z, rfl, big _ (by omega), _, rfl, e, rfl, big _ (by omega), _, _, rfl, rfl, _, rfl, z, rfl, big _ (by omega), ?_⟩
    have lc := cutS_length z (some (b.length : Int)) (some ((z.length : Int) - (e.length : Int)))
    generalize hM : cutS z (some (b.length : Int)) (some ((z.length : Int) - (e.length : Int))) = M at lc ⊢
    refine ⟨_, rfl, _, rfl, b, M, rfl, rfl, big _ (by omega), _, rfl, b ++ M, e, rfl, rfl, big _ (by rw [len_add]; omega), _, rfl, rfl, _, rfl, ?_⟩
    refine ite2 (fun eq => ?_) (fun ne => ?_)
    · have h2 := V.str.inj (of_decide_eq_true eq)
      exact ⟨_, rfl, yes M (by rw [← h2, TL.tl_append, TL.tl_append])⟩
    · refine no ?_
      rintro ⟨m, hm⟩
      have c := cut_mid hm
      rw [← TL.len_tl, ← TL.len_tl, hM] at c
      have em : M = m := TL.ext_tl c
      exact ne (decide_eq_true (congrArg V.str (TL.ext_tl (by rw [TL.tl_append, TL.tl_append, em, hm]))))
theorem sc_put : FnScope ["source", "middle"] ["source", "middle"] (defScope s_put) := ⟨rfl, rfl, rfl, by decide +kernel, rfl, by decide +kernel, by decide +kernel⟩
theorem cal_put (D : Def1 K mg "_law_put" s_put) (T : Glc mg) : Cal P w K mg base 1 "_law_put" (spFill K) := by
  refine mkCal D sc_put (fun _ _ _ _ _ _ us hl => match us, hl with | [_, _], _ => rfl) (fun vs H Q E h => ?_) (fun f cdv A outer s H vs Q E hr h => ?_)
  · obtain ⟨v, m, rfl, _⟩ := h
    rfl
  · obtain ⟨v, m, rfl, lm, how⟩ := h
    refine ⟨_, pss_one (ps_ret (pe_ifExp (pt_val (pe_isi (T := "str") (pv 0) T.isinst T.str (by decide +kernel))) (pv 0) (pe_op op_add_str (pe_op op_add_str (pe_ix ix_tup (pv 0) pe_int (fun _ _ => rfl)) (pv 1)) (pe_ix ix_tup (pv 0) pe_int (fun _ _ => rfl))))), ?_⟩
    have big : ∀ n : Nat, n ≤ 4000000 → n ≤ sizeLine := fun n h => Nat.le_trans h (by decide)
    rcases how with ⟨x, rfl, k⟩ | ⟨q, b, e, rfl, hq, lb, le, k⟩
    · exact ⟨_, rfl, .str x, _, _, _, _, rfl, .ty _, th_ty (.str x : Th K H (.str x) (.str x)), kit_str (.str x), _, rfl, iteT ⟨_, rfl, k⟩⟩
    · have th : Th K H (.ref q) (.tuple [.str b, .str e]) := .tup hq (.cons (.str b) (.cons (.str e) .nil))
      refine ⟨_, rfl, .ref q, _, _, _, _, rfl, .ty _, th_ty th, kit_str (.tuple [.str b, .str e]), _, rfl, iteF ?_⟩
      exact ⟨_, rfl, q, _, 0, .str b, rfl, rfl, hq, atI_nat (j := 0) rfl, _, rfl, b, m, rfl, rfl, big _ (by omega), _, rfl, q, _, 1, .str e, rfl, rfl, hq, atI_nat (j := 1) rfl, b ++ m, e, rfl, rfl, big _ (by rw [len_add]; omega), k⟩
end
end Lk

/-! K31v -/
set_option Elab.async false
set_option linter.all false
set_option maxRecDepth 100000
set_option maxHeartbeats 4000000
namespace Lk
open PySem PySem.Spec PyProof.Rows L2
theorem units65 {k : Nat} {A : Around} (h : Room k A) : A.units + 65 < cLine := by
  have := h.un
  omega
def PAt (H : Hp) (a : Addr) (p : Place) : Prop := ∃ t, H a = some (.tup [.str p.1, .ref t]) ∧ H t = some (.tup (p.2.map fun n : Nat => V.int (n : Int)))
theorem PAt.on {H H' : Hp} {a : Addr} {p : Place} (h : PAt H a p) (s : Same H H') : PAt H' a p := by
  obtain ⟨t, h1, h2⟩ := h
  exact ⟨t, s _ _ h1, s _ _ h2⟩
theorem PAt.mut {H : Hp} {a D : Addr} {p : Place} {ys : List V} {o : HO} (h : PAt H a p) (hD : H D = some (.lst ys)) : PAt (upd H D o) a p := by
  obtain ⟨t, h1, h2⟩ := h
  have n1 : a ≠ D := fun e => by
    rw [e, hD] at h1
    cases h1
  have n2 : t ≠ D := fun e => by
    rw [e, hD] at h2
    cases h2
  exact ⟨t, (upd_ne n1).trans h1, (upd_ne n2).trans h2⟩
/-! a place as data -/
def pD (p : Place) : PyData := .tuple [.str p.1, .tuple (p.2.map fun n : Nat => PyData.int (n : Int))]
theorem eqv_ints : ∀ xs ys : List Nat, PyData.eqvAll (xs.map fun n : Nat => PyData.int (n : Int)) (ys.map fun n : Nat => PyData.int (n : Int)) = decide (xs = ys)
  | [], [] => rfl
  | [], _ :: _ => rfl
  | _ :: _, [] => rfl
  | x :: xs, y :: ys => by
    rw [List.map_cons, List.map_cons, PyData.eqvAll, eqv_ints xs ys]
    have e : PyData.eqv (PyData.int (x : Int)) (PyData.int (y : Int)) = decide (x = y) := by
      rw [PyData.eqv, Bool.eq_iff_iff, beq_iff_eq, decide_eq_true_iff]
      omega
    rw [e, Bool.eq_iff_iff, Bool.and_eq_true, decide_eq_true_iff, decide_eq_true_iff, decide_eq_true_iff, List.cons.injEq]
theorem eqv_pD (p q : Place) : PyData.eqv (pD p) (pD q) = decide (p = q) := by
  obtain ⟨x, xs⟩ := p
  obtain ⟨y, ys⟩ := q
  unfold pD
  rw [PyData.eqv, PyData.eqvAll, PyData.eqvAll, PyData.eqvAll, PyData.eqv, PyData.eqv, eqv_ints, Bool.and_true, Bool.eq_iff_iff, Bool.and_eq_true, decide_eq_true_iff, decide_eq_true_iff, beq_iff_eq, Prod.mk.injEq]
theorem any_pD (p : Place) (L : List (Addr × Place)) : ((L.map fun c => pD c.2).any fun z => PyData.eqv z (pD p)) = decide (p ∈ L.map (·.2)) := by
  rw [Bool.eq_iff_iff, decide_eq_true_iff, List.any_eq_true]
  constructor
  · rintro ⟨d, m, e⟩
    obtain ⟨c, mc, rfl⟩ := List.mem_map.mp m
    rw [eqv_pD, decide_eq_true_iff] at e
    exact List.mem_map.mpr ⟨c, mc, e⟩
  · intro m
    obtain ⟨c, mc, e⟩ := List.mem_map.mp m
    exact ⟨pD c.2, List.mem_map.mpr ⟨c, mc, rfl⟩, by rw [eqv_pD, decide_eq_true_iff]; exact e⟩
theorem lay_ints : ∀ ns : List Nat, PyData.canLayAll0 (ns.map fun n : Nat => PyData.int (n : Int)) = true ∧ PyData.depthAll (ns.map fun n : Nat => PyData.int (n : Int)) = 0
  | [] => ⟨rfl, rfl⟩
  | n :: ns => by
    obtain ⟨a, b⟩ := lay_ints ns
    refine ⟨?_, ?_⟩
    · rw [List.map_cons, PyData.canLayAll0, a, Bool.and_true]
      rfl
    · rw [List.map_cons, PyData.depthAll, b]
      rfl
theorem lay_pD {p : Place} (h : PyData.strOk p.1 = true) : (pD p).canLay0 = true ∧ (pD p).depth = 2 := by
  obtain ⟨a, b⟩ := lay_ints p.2
  refine ⟨?_, ?_⟩
  · have e : (PyData.str p.1).canLay0 = true := h
    unfold pD
    rw [PyData.canLay0, PyData.canLayAll0, PyData.canLayAll0, PyData.canLayAll0, e, PyData.canLay0, a]
    rfl
  · unfold pD
    rw [PyData.depth, PyData.depthAll, PyData.depthAll, PyData.depthAll, PyData.depth, PyData.depth, b]
    rfl
theorem lay_pDs : ∀ {L : List (Addr × Place)}, (∀ c ∈ L, PyData.strOk c.2.1 = true) → PyData.canLayAll0 (L.map fun c => pD c.2) = true ∧ PyData.depthAll (L.map fun c => pD c.2) ≤ 2
  | [], _ => ⟨rfl, Nat.zero_le _⟩
  | c :: L, h => by
    obtain ⟨a, b⟩ := lay_pDs fun d m => h d (List.mem_cons_of_mem _ m)
    obtain ⟨a1, b1⟩ := lay_pD (h c List.mem_cons_self)
    refine ⟨?_, ?_⟩
    · rw [List.map_cons, PyData.canLayAll0, a, a1]
      rfl
    · rw [List.map_cons, PyData.depthAll, b1]
      omega
theorem shaped_pD {p : Place} (h : PyData.strOk p.1 = true) : SeqAt.shaped (pD p) = true := by
  obtain ⟨a, b⟩ := lay_pD h
  unfold SeqAt.shaped
  rw [a, b]
  rfl
theorem shaped_pDs {L : List (Addr × Place)} (h : ∀ c ∈ L, PyData.strOk c.2.1 = true) : SeqAt.shaped (.list (L.map fun c => pD c.2)) = true := by
  obtain ⟨a, b⟩ := lay_pDs h
  unfold SeqAt.shaped
  rw [PyData.canLay0, a, Bool.true_and, decide_eq_true_eq, PyData.depth]
  omega
theorem dp_nats {K : PySem.W.Frag} {H : Hp} : ∀ ns : List Nat, DpAll K H (ns.map fun n : Nat => V.int (n : Int)) (ns.map fun n : Nat => PyData.int (n : Int))
  | [] => .nil
  | n :: ns => .cons (.int _) (dp_nats ns)
theorem PAt.dp {K : PySem.W.Frag} {H : Hp} {a : Addr} {p : Place} (h : PAt H a p) : Dp K H (.ref a) (pD p) := by
  obtain ⟨t, h1, h2⟩ := h
  exact .tup (SqT.of h1) (.cons (.str _) (.cons (.tup (SqT.of h2) (dp_nats _)) .nil))
theorem dp_places {K : PySem.W.Frag} {H : Hp} : ∀ {L : List (Addr × Place)}, (∀ c ∈ L, PAt H c.1 c.2) → DpAll K H (L.map fun c => V.ref c.1) (L.map fun c => pD c.2)
  | [], _ => .nil
  | c :: L, h => .cons (h c List.mem_cons_self).dp (dp_places fun d m => h d (List.mem_cons_of_mem _ m))
/-- the three lists of the walk, on the heap -/
structure KA (H0 H : Hp) (F R S : Addr) (fs : List Str) (Lr Ls : List (Addr × Place)) : Prop where
  same : Same H0 H
  f : H F = some (.lst (fs.map V.str))
  r : H R = some (.lst (Lr.map fun c => V.ref c.1))
  s : H S = some (.lst (Ls.map fun c => V.ref c.1))
  nF : H0 F = none
  nR : H0 R = none
  nS : H0 S = none
  FR : F ≠ R
  FS : F ≠ S
  RS : R ≠ S
  pr : ∀ c ∈ Lr, PAt H c.1 c.2
  ps : ∀ c ∈ Ls, PAt H c.1 c.2
section
variable {H0 H H' : Hp} {F R S : Addr} {fs : List Str} {Lr Ls : List (Addr × Place)}
theorem KA.on (A : KA H0 H F R S fs Lr Ls) (s : Same H H') : KA H0 H' F R S fs Lr Ls :=
  ⟨A.same.trans s, s _ _ A.f, s _ _ A.r, s _ _ A.s, A.nF, A.nR, A.nS, A.FR, A.FS, A.RS, fun c m => (A.pr c m).on s, fun c m => (A.ps c m).on s⟩
theorem KA.putF (A : KA H0 H F R S fs Lr Ls) (fs' : List Str) : KA H0 (upd H F (.lst (fs'.map V.str))) F R S fs' Lr Ls :=
  ⟨same_mut A.same A.nF, upd_same, (upd_ne A.FR.symm).trans A.r, (upd_ne A.FS.symm).trans A.s, A.nF, A.nR, A.nS, A.FR, A.FS, A.RS, fun c m => (A.pr c m).mut A.f, fun c m => (A.ps c m).mut A.f⟩
theorem KA.putS (A : KA H0 H F R S fs Lr Ls) (L : List (Addr × Place)) (h : ∀ c ∈ L, PAt H c.1 c.2) : KA H0 (upd H S (.lst (L.map fun c => V.ref c.1))) F R S fs Lr L :=
  ⟨same_mut A.same A.nS, (upd_ne A.FS).trans A.f, (upd_ne A.RS).trans A.r, upd_same, A.nF, A.nR, A.nS, A.FR, A.FS, A.RS, fun c m => (A.pr c m).mut A.s, fun c m => (h c m).mut A.s⟩
theorem KA.putR (A : KA H0 H F R S fs Lr Ls) (L : List (Addr × Place)) (h : ∀ c ∈ L, PAt H c.1 c.2) : KA H0 (upd H R (.lst (L.map fun c => V.ref c.1))) F R S fs L Ls :=
  ⟨same_mut A.same A.nR, (upd_ne A.FR).trans A.f, upd_same, (upd_ne A.RS.symm).trans A.s, A.nF, A.nR, A.nS, A.FR, A.FS, A.RS, fun c m => (h c m).mut A.r, fun c m => (A.ps c m).mut A.r⟩
end
end Lk

/-! K31o -/
set_option Elab.async false
set_option linter.all false
set_option maxRecDepth 100000
set_option maxHeartbeats 4000000
namespace Lk
open PySem PySem.Spec PyProof.Rows L2
theorem nodup_len {α : Type} : ∀ {l m : List α}, l.Nodup → (∀ x ∈ l, x ∈ m) → l.length ≤ m.length
  | [], _, _, _ => Nat.zero_le _
  | x :: l, m, nd, sub => by
    obtain ⟨n1, n2⟩ := List.nodup_cons.mp nd
    obtain ⟨a, b, e⟩ := List.append_of_mem (sub x List.mem_cons_self)
    have z : l.length ≤ (a ++ b).length := nodup_len n2 fun y my => by
      have q := sub y (List.mem_cons_of_mem _ my)
      rw [e] at q
      rcases List.mem_append.mp q with q | q
      · exact List.mem_append.mpr (.inl q)
      · rcases List.mem_cons.mp q with q | q
        · rw [q] at my
          exact absurd my n1
        · exact List.mem_append.mpr (.inr q)
    rw [e]
    simp only [List.length_append, List.length_cons] at z ⊢
    omega
section
variable {P : Program} {w : World} {K : PySem.W.Frag} {mg : Str → Option Value} {base : Heap}
/-- the law's own ascending tuple of the different ones -/
def spLOrd (K : PySem.W.Frag) : Sp := fun vs H Q _ => ∃ (l : Addr) (ss : List Str), vs = [.ref l] ∧ SqL K H l (ss.map V.str) ∧ ss.length ≤ 4000 ∧ (∀ y ∈ ss, y.length ≤ sizeLine) ∧
  ∀ (cs : List Str) (p : Addr) (H' : Hp), Same H H' → H' p = some (.tup (cs.map V.str)) → IsAsc cs ss → Q (.ref p) H'
theorem sc_ordered : FnScope ["row", "name", "size"] ["row"] (defScope s_ordered) := ⟨rfl, rfl, rfl, by decide +kernel, rfl, by decide +kernel, by decide +kernel⟩
theorem cal_ordered (D : Def1 K mg "_law_ordered" s_ordered) (tt : mg "tuple" = none) (ts : mg "sorted" = none) (te : mg "set" = none) (tl : mg "len" = none) : Cal P w K mg base 1 "_law_ordered" (spLOrd K) := by
  refine mkCal D sc_ordered (fun _ _ _ _ _ _ us hl => match us, hl with | [_], _ => rfl) (fun vs H Q E h => ?_) (fun f cdv A outer s H vs Q E hr h => ?_)
  · obtain ⟨l, ss, rfl, _⟩ := h
    rfl
  · obtain ⟨l, ss, rfl, hl, few, small, k⟩ := h
    refine ⟨_, pss_one (ps_ret (pe_callTy call_tuple_of (by rfl) tt (by decide +kernel) (pa_cons
      (pe_lc (own := [("size", 2), ("name", 1)]) (g := gTup K 2 (gCons (gName 2) (gCons (gName 1) gNil))) (tt := tYes) (by rfl) sc_ordered.nd
        (pi_list (pe_callB (call_sortedPr rfl hr.units) (by rfl) ts (by decide +kernel) (pa_cons (pe_callTy (call_setPr rfl hr.units) (by rfl) te (by decide +kernel) (pa_cons
          (pe_lc (own := [("name", 1)]) (g := gName 1) (tt := tYes) (by rfl) sc_ordered.nd (pi_list (pv 0))
            (blkOk_by (own := [("name", 1)]) (N := ["row", "name", "size"]) (sc := defScope s_ordered) (by decide +kernel)) (fun _ _ _ _ _ => pg_name (i := 1) sc_ordered.nd rfl (Or.inl rfl)) (fun _ _ _ _ _ => pts_nil)
            (fun _ _ _ _ _ => pe_tup (pa_cons (pe_callB call_len_str (by rfl) tl PySem.boot_len (pa_cons (pv 1) pa_nil)) (pa_cons (pv 1) pa_nil)))) pa_nil)) pa_nil)))
        (blkOk_by (own := [("size", 2), ("name", 1)]) (N := ["row", "name", "size"]) (sc := defScope s_ordered) (by decide +kernel))
        (fun _ _ _ _ _ => pg_tup rfl (pgs_cons (pg_name (i := 2) sc_ordered.nd rfl (Or.inl rfl)) (pgs_cons (pg_name (i := 1) sc_ordered.nd rfl (Or.inl rfl)) pgs_nil))) (fun _ _ _ _ _ => pts_nil)
        (fun _ _ _ _ _ => pv 1)) pa_nil))), ?_⟩
    refine ⟨.ref l, rfl, l, rfl, ⟨_, hl⟩, fun D nD => ?_⟩
    have step : ∀ i, i < ss.length → ss.take (i + 1) = ss.take i ++ [ss[i]!] := fun i hi => by
      rw [List.take_add_one, List.getElem?_eq_getElem hi, List.getElem!_eq_getElem?_getD, List.getElem?_eq_getElem hi]
      rfl
    refine lc_list (K := K) (a := l) (xs := ss.map V.str) (fun i H' => Same H H' ∧ ∃ L : List (Addr × Str), H' D = some (.lst (L.map fun p => V.ref p.1)) ∧ L.map (·.2) = ss.take i ∧ ∀ p ∈ L, H' p.1 = some (.tup (vP p.2)))
      ⟨same_upd nD, [], upd_same, rfl, fun p m => nomatch m⟩ (fun i H' _ h => h.1.seq hl) ?_ ?_
    · rintro i x H' hx ⟨sH, L, hD, eL, ht⟩
      have hi : i < ss.length := by
        have z := (List.getElem?_eq_some_iff.mp hx).1
        rwa [List.length_map] at z
      rw [List.getElem?_map, List.getElem?_eq_getElem hi] at hx
      obtain rfl : V.str ss[i] = x := Option.some.inj hx
      have lenL : L.length ≤ i := by
        have z := congrArg List.length eL
        rw [List.length_map, List.length_take] at z
        omega
      refine ⟨rfl, _, rfl, ss[i], rfl, small _ (List.getElem_mem hi), _, rfl, (by show 2 ≤ sizeLine; decide), fun b nb => ?_⟩
      have sb := same_upd (o := .tup (vP ss[i])) nb
      have nbD : b ≠ D := fun z => by
        rw [z, hD] at nb
        cases nb
      refine ⟨_, sb _ _ hD, by rw [List.length_map]; exact (by rw [sizeLine_eq]; omega), same_mut (sH.trans sb) nD, L ++ [(b, ss[i])], by rw [upd_same, List.map_append]; rfl, ?_, fun p hp => ?_⟩
      · rw [step i hi, List.map_append, eL, List.getElem!_eq_getElem?_getD, List.getElem?_eq_getElem hi]
        rfl
      · rcases List.mem_append.mp hp with m | m
        · have np : p.1 ≠ D := fun z => by
            have q := ht p m
            rw [z, hD] at q
            cases q
          rw [upd_ne np]
          exact sb _ _ (ht p m)
        · rw [List.mem_singleton.mp m]
          exact (upd_ne nbD).trans upd_same
    · rintro H1 ⟨sH, L, hD, eL, ht⟩
      rw [List.length_map, List.take_length] at eL
      have lenL : L.length = ss.length := by rw [← eL, List.length_map]
      refine ⟨D, L, rfl, SqL.of hD, fun p m => SqT.of (ht p m), by omega, fun p us np nd mem => ?_⟩
      refine ⟨p, L, us, rfl, upd_same, fun q m => Same.seqT (same_upd np) (SqT.of (ht q m)), fun p2 M np2 sub pm pw => ?_⟩
      have s2 : Same H1 (upd (upd H1 p (SetPr P w L p us)) p2 (.lst (M.map fun m => V.ref m.1))) := (same_upd np).trans (same_upd np2)
      have hp2 : upd (upd H1 p (SetPr P w L p us)) p2 (.lst (M.map fun m => V.ref m.1)) p2 = some (.lst (M.map fun m => V.ref m.1)) := upd_same
      refine ⟨p2, rfl, ⟨_, SqL.of hp2⟩, fun D2 nD2 => ?_⟩
      have asc : IsAsc (M.map (·.2)) ss := ⟨pm.nodup_iff.mpr nd, fun x => by rw [pm.mem_iff, mem x, eL], pw⟩
      have htM : ∀ m ∈ M, upd (upd H1 p (SetPr P w L p us)) p2 (.lst (M.map fun m => V.ref m.1)) m.1 = some (.tup (vP m.2)) := fun m hm => s2 _ _ (ht m (sub m hm))
      have lenM : M.length ≤ 4000 := by
        have z1 := pm.length_eq
        have z2 : us.length ≤ (L.map (·.2)).length := nodup_len nd fun x m => (mem x).mp m
        rw [List.length_map] at z1 z2
        omega
      let H2 : Hp := upd (upd H1 p (SetPr P w L p us)) p2 (.lst (M.map fun m => V.ref m.1))
      have nD2 : H2 D2 = none := nD2
      have htM : ∀ m ∈ M, H2 m.1 = some (.tup (vP m.2)) := htM
      have sH2 : Same H H2 := sH.trans s2
      refine lc_list (K := K) (a := p2) (xs := M.map fun m => V.ref m.1) (fun i H' => Same H2 H' ∧ H' D2 = some (.lst (((M.map (·.2)).take i).map V.str)))
        ⟨same_upd nD2, upd_same⟩ (fun i H' _ h => h.1.seq (SqL.of hp2)) ?_ ?_
      · rintro i x H' hx ⟨sH', hD2⟩
        obtain ⟨m, hm, rfl⟩ := Option.map_eq_some_iff.mp ((List.getElem?_map ..).symm.trans hx)
        have hi : i < M.length := (List.getElem?_eq_some_iff.mp hm).1
        have mm : m ∈ M := List.mem_of_getElem? hm
        refine ⟨m.1, vP m.2, rfl, SqT.of (sH' _ _ (htM m mm)), rfl, _, _, rfl, _, _, rfl, rfl, rfl, _, rfl, _, hD2, ?_, same_mut sH' nD2, ?_⟩
        · rw [List.length_map, List.length_take, List.length_map]
          exact (by rw [sizeLine_eq]; omega)
        · rw [upd_same, List.take_add_one, List.getElem?_map, hm, List.map_append]
          rfl
      · rintro H3 ⟨sH3, hD2⟩
        rw [List.length_map] at hD2
        have e : (M.map (·.2)).take M.length = M.map (·.2) := List.take_of_length_le (by rw [List.length_map]; exact Nat.le_refl _)
        rw [e] at hD2
        exact ⟨D2, _, rfl, .inl ⟨SqL.of hD2, fun t nt => k _ t _ ((sH2.trans sH3).trans (same_upd nt)) upd_same asc⟩⟩
end
end Lk

/-! K31w -/
set_option Elab.async false
set_option linter.all false
set_option maxRecDepth 100000
set_option maxHeartbeats 4000000
namespace Lk
open PySem PySem.Spec PyProof.Rows L2
/-- the rules below i that are not spent -/
def cnt (ns : List Nat) (i : Nat) : Nat := ((List.range i).filter fun k => decide (k ∉ ns)).length
theorem cnt_in {ns : List Nat} {i : Nat} (h : i ∈ ns) : cnt ns (i + 1) = cnt ns i := by
  unfold cnt
  rw [List.range_succ, List.filter_append, List.length_append]
  simp [h]
theorem cnt_out {ns : List Nat} {i : Nat} (h : i ∉ ns) : cnt ns (i + 1) = cnt ns i + 1 := by
  unfold cnt
  rw [List.range_succ, List.filter_append, List.length_append]
  simp [h]
theorem cnt_all {ns : List Nat} {n : Nat} (nd : ns.Nodup) (lt : ∀ k ∈ ns, k < n) : cnt ns n + ns.length ≤ n := by
  have z : ((List.range n).filter fun k => decide (k ∉ ns)) ++ ns |>.Nodup := by
    rw [List.nodup_append]
    refine ⟨List.Pairwise.filter _ List.nodup_range, nd, fun a ha b hb e => ?_⟩
    have q := (List.mem_filter.mp ha).2
    rw [decide_eq_true_eq] at q
    exact q (e ▸ hb)
  have y := nodup_len (m := List.range n) z fun x m => by
    rcases List.mem_append.mp m with m | m
    · exact (List.mem_filter.mp m).1
    · exact List.mem_range.mpr (lt x m)
  rw [List.length_append, List.length_range] at y
  exact y
/-- within a turn: p0 is gone through; n0 names were found before it, Lr0 waited; at most x names more by now -/
structure Mid (rs : List Rl) (z0 : Str) (p0 : Place) (n0 : Nat) (Lr0 : List (Addr × Place)) (fs : List Str) (Lr Ls : List (Addr × Place)) (x : Nat) : Prop where
  lk : LK rs z0 fs (Lr.map (·.2)) (Ls.map (·.2)) (fun p => p = p0)
  most : fs.length ≤ n0 + x
  new : ∃ Ln, Lr = Lr0 ++ Ln ∧ Ln.length + n0 ≤ fs.length ∧ ∀ c ∈ Ln, c.2.2.length = p0.2.length + 1
  ls : Ls.length ≤ fs.length
  rl : Lr.length ≤ Ls.length
theorem cnt_le (ns : List Nat) (i : Nat) : cnt ns i ≤ i := by
  unfold cnt
  have z := List.length_filter_le (fun k => decide (k ∉ ns)) (List.range i)
  rwa [List.length_range] at z
theorem load_ge (m n : Nat) : ∀ rest : List Place, rest.length ≤ load m n rest
  | [] => Nat.le_refl _
  | p :: rest => by
    have z := load_ge m n rest
    have y := wgt_pos m (left n p.2)
    have e : load m n (p :: rest) = wgt m (left n p.2) + load m n rest := by
      unfold load
      rw [List.map_cons, List.sum_cons]
    rw [e, List.length_cons]
    omega
section
variable {rs : List Rl} {z0 : Str} {p0 : Place} {n0 x : Nat} {Lr0 Lr Ls : List (Addr × Place)} {fs : List Str}
theorem Mid.le (h : Mid rs z0 p0 n0 Lr0 fs Lr Ls x) {y : Nat} (le : x ≤ y) : Mid rs z0 p0 n0 Lr0 fs Lr Ls y := ⟨h.lk, Nat.le_trans h.most (by omega), h.new, h.ls, h.rl⟩
theorem Mid.old (h : Mid rs z0 p0 n0 Lr0 fs Lr Ls x) {p : Place} (s : Snds rs z0 p) (m : p ∈ Ls.map (·.2)) : Mid rs z0 p0 n0 Lr0 (fs ++ [p.1]) Lr Ls (x + 1) := by
  have k := h.lk.more s
  rw [if_pos m, if_pos m] at k
  obtain ⟨Ln, a, b, c⟩ := h.new
  have q := h.most
  have q2 := h.ls
  exact ⟨k, by rw [List.length_append, List.length_singleton]; omega, ⟨Ln, a, by rw [List.length_append]; omega, c⟩, by rw [List.length_append]; omega, h.rl⟩
theorem Mid.fresh (h : Mid rs z0 p0 n0 Lr0 fs Lr Ls x) {p : Place} {a : Addr} (s : Snds rs z0 p) (m : p ∉ Ls.map (·.2)) (e : p.2.length = p0.2.length + 1) : Mid rs z0 p0 n0 Lr0 (fs ++ [p.1]) (Lr ++ [(a, p)]) (Ls ++ [(a, p)]) (x + 1) := by
  have k := h.lk.more s
  rw [if_neg m, if_neg m] at k
  obtain ⟨Ln, e1, b, c⟩ := h.new
  have q := h.most
  have q2 := h.ls
  have q3 := h.rl
  refine ⟨by rw [List.map_append, List.map_append]; exact k, by rw [List.length_append, List.length_singleton]; omega, ⟨Ln ++ [(a, p)], by rw [e1, List.append_assoc], by rw [List.length_append, List.length_append, List.length_singleton, List.length_singleton]; omega, fun d md => ?_⟩, by rw [List.length_append, List.length_append, List.length_singleton, List.length_singleton]; omega, by rw [List.length_append, List.length_append, List.length_singleton]; omega⟩
  rcases List.mem_append.mp md with md | md
  · exact c d md
  · rw [List.mem_singleton.mp md]
    exact e
/-- the sizes behind a turn -/
theorem load_turn {m n : Nat} (h : Mid rs z0 p0 n0 Lr0 fs Lr Ls x) (hx : x ≤ left n p0.2 * m) (hB : n0 + (load m n (Lr0.map (·.2)) + wgt m (left n p0.2)) ≤ wgt m n + (Lr0.length + 1)) :
    fs.length + load m n (Lr.map (·.2)) ≤ wgt m n + Lr.length ∧ load m n (Lr.map (·.2)) < load m n (Lr0.map (·.2)) + wgt m (left n p0.2) := by
  obtain ⟨Ln, rfl, b, c⟩ := h.new
  have most := h.most
  rw [List.map_append, load_app, List.length_append]
  have w1 : load m n (Ln.map (·.2)) = Ln.length * wgt m (left n p0.2 - 1) := by
    clear h b most hB hx
    induction Ln with
    | nil => simp [load]
    | cons d Ln ih =>
      have e := c d List.mem_cons_self
      have z := ih fun q mq => c q (List.mem_cons_of_mem _ mq)
      have e2 : left n d.2.2 = left n p0.2 - 1 := by
        unfold left
        rw [e]
        omega
      have e3 : load m n ((d :: Ln).map (·.2)) = wgt m (left n d.2.2) + load m n (Ln.map (·.2)) := by
        unfold load
        rw [List.map_cons, List.map_cons, List.sum_cons]
      rw [e3, z, e2, List.length_cons, Nat.add_mul, Nat.one_mul, Nat.add_comm]
  rw [w1]
  have le : Ln.length ≤ x := by omega
  cases hj : left n p0.2 with
  | zero =>
    rw [hj] at hx hB
    have x0 : x = 0 := by
      rw [Nat.zero_mul] at hx
      omega
    have l0 : Ln.length = 0 := by omega
    rw [l0, Nat.zero_mul]
    have e : wgt m 0 = 1 := rfl
    rw [e] at hB ⊢
    omega
  | succ j =>
    rw [hj] at hx hB
    have e : wgt m (j + 1) = 1 + (j + 1) * m * wgt m j := rfl
    rw [e] at hB ⊢
    show _ + (_ + Ln.length * wgt m j) ≤ _ ∧ _ + Ln.length * wgt m j < _
    have p := wgt_pos m j
    generalize wgt m j = w at p hB ⊢
    generalize (j + 1) * m = y at hx hB ⊢
    have t1 : Ln.length * w ≤ y * w := Nat.mul_le_mul_right _ (by omega)
    have t2 : (fs.length - n0) + Ln.length * (w - 1) ≤ y * w := by
      have u1 : Ln.length * (w - 1) ≤ y * (w - 1) := Nat.mul_le_mul_right _ (by omega)
      have u2 : y * w = y + y * (w - 1) := by
        obtain ⟨v, rfl⟩ : ∃ v, w = v + 1 := ⟨w - 1, by omega⟩
        rw [Nat.mul_add, Nat.add_sub_cancel]
        omega
      omega
    have t3 : Ln.length * w = Ln.length + Ln.length * (w - 1) := by
      obtain ⟨v, rfl⟩ : ∃ v, w = v + 1 := ⟨w - 1, by omega⟩
      rw [Nat.mul_add, Nat.add_sub_cancel]
      omega
    constructor
    · omega
    · omega
end
end Lk

/-! K31x -/
set_option Elab.async false
set_option linter.all false
set_option maxRecDepth 100000
set_option maxHeartbeats 4000000
namespace Lk
open PySem PySem.Spec PyProof.Rows L2
section
/-- the test says no, at most the pot has moved -/
def NoT (p c : Addr) (t : TT) (σ : L2.St) (H : Hp) : Prop := ∀ Q2 : Bool → Hp → Prop, (∀ H', Ext p c H H' → Q2 false H') → t σ H Q2
theorem no_ifS {p c : Addr} {t : TT} {ts r : TS} {σ : L2.St} {D : Ends} {H : Hp} (h : NoT p c t σ H) (k : ∀ H', Ext p c H H' → r D σ H') : tSeq (tIfS t ts tNext) r D σ H := h _ fun H' e => iteF (k H' e)
theorem no_if {p c : Addr} {t : TT} {ts : TS} {σ : L2.St} {D : Ends} {H : Hp} (h : NoT p c t σ H) (k : ∀ H', Ext p c H H' → D.nx σ H') : tIfS t ts tNext D σ H := h _ fun H' e => iteF (k H' e)
theorem no_or {p c : Addr} {t u : TT} {σ : L2.St} {H : Hp} (h1 : NoT p c t σ H) (h2 : ∀ H1, Ext p c H H1 → NoT p c u σ H1) : NoT p c (tOr t u) σ H := fun _ q => h1 _ fun H1 e1 => iteF (h2 H1 e1 _ fun H' e => q H' (e1.trans e))
theorem nx_open {x : V} {i : Nat} {q : L2.St → Hp → Prop} {rt : VK} {bk ct : L2.St → Hp → Prop} {σ : L2.St} {H : Hp} (h : gName i x σ H q) : gName i x σ H (Ends.nx { nx := q, rt := rt, bk := bk, ct := ct }) := h
theorem next_read {x : V} {i : Nat} {te : TE} {g : TG} {r : TS} {D : Ends} {σ : L2.St} {H : Hp} (h : te (σ.set i (some x)) H fun y H1 => g y (σ.set i (some x)) H1 (r D)) : gName i x σ H (tSeq (tAsg te g) r D) := h
theorem next_if {x : V} {i : Nat} {t : TT} {ts r : TS} {D : Ends} {σ : L2.St} {H : Hp} (h : tSeq (tIfS t ts tNext) r D (σ.set i (some x)) H) : gName i x σ H (tSeq (tIfS t ts tNext) r D) := h
theorem next_if1 {x : V} {i : Nat} {t : TT} {ts : TS} {D : Ends} {σ : L2.St} {H : Hp} (h : tIfS t ts tNext D (σ.set i (some x)) H) : gName i x σ H (tIfS t ts tNext D) := h
end
section
variable {P : Program} {w : World} {K : PySem.W.Frag} {mg : Str → Option Value} {base : Heap}
theorem put_read {σ : L2.St} {H : Hp} {v : V} {m : Str} {c : Src} {i j : Nat} {Q : VK} (hi : σ[i]? = some (some v)) (hj : σ[j]? = some (some (.str m))) (th : Th K H v c.d) (L : SrcLen c) (lm : m.length ≤ 1000000) (k : Q (.str (c.put m)) H) :
    tCall (spFill K) [] E0 (tCons (tVar i) (tCons (tVar j) tNil)) σ H Q := by
  refine ⟨_, hi, _, hj, v, m, rfl, lm, ?_⟩
  rcases th_src th with ⟨y, rfl, rfl⟩ | ⟨q, b, e, rfl, rfl, hq⟩
  · exact .inl ⟨y, rfl, k⟩
  · have l : b.length ≤ 3 ∧ e.length ≤ 3 := L
    exact .inr ⟨q, b, e, rfl, hq, by omega, by omega, k⟩
theorem cat_read {σ : L2.St} {H : Hp} {t0 : Addr} {ns : List Nat} {n i j : Nat} {Q : VK} (hi : σ[i]? = some (some (.ref t0))) (hj : σ[j]? = some (some (.int (n : Int)))) (h0 : H t0 = some (.tup (ns.map fun n : Nat => V.int (n : Int)))) (small : ns.length ≤ 1000)
    (q : ∀ u H', Same H H' → H' u = some (.tup ((ns ++ [n]).map fun n : Nat => V.int (n : Int))) → Q (.ref u) H') : tOp (rCatA K) (tVar i) (tTup (tCons (tVar j) tNil)) σ H Q := by
  refine ⟨_, hi, _, hj, (by show 1 ≤ sizeLine; decide), fun t1 n1 => ?_⟩
  have s1 : Same H (upd H t1 (.tup [.int (n : Int)])) := same_upd n1
  refine ⟨t0, t1, _, _, rfl, rfl, SqT.of (s1 _ _ h0), SqT.of upd_same, by rw [List.length_map, sizeLine_eq]; show ns.length + 1 ≤ _; omega, fun e => ?_, fun _ e => ?_, fun _ _ p np => ?_⟩
  · have e2 : ns = [] := List.map_eq_nil_iff.mp e
    refine q t1 _ s1 ?_
    rw [upd_same, e2]
    rfl
  · cases e
  · refine q p _ (s1.trans (same_upd np)) ?_
    rw [upd_same, List.map_append]
    rfl
theorem nat_out {ns' : List Int} {l : List Nat} (pm : ns'.Perm (l.map fun n : Nat => (n : Int))) (pw : ns'.Pairwise (· ≤ ·)) : ns' = (srt l).map fun n : Nat => (n : Int) := by
  have e1 : ns' = (ns'.map Int.toNat).map fun n : Nat => (n : Int) := by
    rw [List.map_map]
    refine ((List.map_congr_left fun x mx => ?_).trans (List.map_id _)).symm
    obtain ⟨k, _, e⟩ := List.mem_map.mp (pm.mem_iff.mp mx)
    show ((x.toNat : Nat) : Int) = x
    omega
  have e2 : (ns'.map Int.toNat).Perm l := by
    have z := pm.map Int.toNat
    rw [List.map_map] at z
    have e3 : l.map (Int.toNat ∘ fun n : Nat => (n : Int)) = l := (List.map_congr_left fun x _ => (by show ((x : Int)).toNat = x; omega)).trans (List.map_id _)
    rw [e3] at z
    exact z
  have e4 : (ns'.map Int.toNat).Pairwise (· ≤ ·) := by
    rw [List.pairwise_map]
    exact pw.imp fun {a b} h => by omega
  rw [e1, srt_eq e2 e4]
  rw [srt_same e2] at *
theorem place_read {σ : L2.St} {H : Hp} {v : V} {m : Str} {c : Src} {t0 : Addr} {ns : List Nat} {n iS iM iP iN : Nat} {Q : VK} (hS : σ[iS]? = some (some v)) (hM : σ[iM]? = some (some (.str m))) (hP : σ[iP]? = some (some (.ref t0))) (hN : σ[iN]? = some (some (.int (n : Int))))
    (th : Th K H v c.d) (L : SrcLen c) (lm : m.length ≤ 1000000) (h0 : H t0 = some (.tup (ns.map fun n : Nat => V.int (n : Int)))) (small : ns.length ≤ 1000) (q : ∀ a H', Same H H' → PAt H' a (c.put m, srt (ns ++ [n])) → Q (.ref a) H') :
    tTup (tCons (tCall (spFill K) [] E0 (tCons (tVar iS) (tCons (tVar iM) tNil))) (tCons (tCB (fun xs H Q => ∃ p ys, xs = [.ref p] ∧ ((SqL K H p ys ∧ ∀ l, H l = none → Q (.ref l) (upd H l (.tup ys))) ∨ (SqT K H p ys ∧ Q (.ref p) H)))
      (tCons (tCB (rSortT K) (tCons (tOp (rCatA K) (tVar iP) (tTup (tCons (tVar iN) tNil))) tNil)) tNil)) tNil)) σ H Q := by
  refine put_read hS hM th L lm ?_
  refine cat_read hP hN h0 small fun u H1 s1 hu => ?_
  refine ⟨u, (ns ++ [n]).map fun n : Nat => (n : Int), rfl, SqT.of (by rw [hu, List.map_map]; rfl), fun ns' p pm pw np => ?_⟩
  have e := nat_out pm pw
  subst e
  have s2 : Same H1 (upd H1 p (.lst (((srt (ns ++ [n])).map fun n : Nat => (n : Int)).map V.int))) := same_upd np
  refine ⟨p, _, rfl, .inl ⟨SqL.of upd_same, fun t nt => ?_⟩⟩
  generalize upd H1 p (.lst (((srt (ns ++ [n])).map fun n : Nat => (n : Int)).map V.int)) = H2 at s2 nt ⊢
  refine ⟨(by show 2 ≤ sizeLine; decide), fun a na => ?_⟩
  refine q a _ (((s1.trans s2).trans (same_upd nt)).trans (same_upd na)) ⟨t, upd_same, ?_⟩
  have ne : t ≠ a := fun z => by
    rw [← z, upd_same] at na
    cases na
  rw [upd_ne ne, upd_same, List.map_map]
  rfl
def spLKin (K : PySem.W.Frag) : Sp := fun vs H Q _ => ∃ (q : Addr) (xs : List V) (rs : List Rl) (z : Str) (m : Nat), vs = [.ref q, .str z] ∧ SqT K H q xs ∧ ThAll K H xs (rs.map Rl.d) ∧ dBook (.tuple (rs.map Rl.d)) = true ∧ (∀ r ∈ rs, r.ss.length ≤ m) ∧ m ≤ 3 ∧ wgt m rs.length ≤ 1200 ∧
  (∀ ks y, Chain rs z ks y → PyData.strOk y = true ∧ y.length ≤ 1000) ∧ ∀ (cs fs : List Str) (p : Addr) (H' : Hp), Same H H' → H' p = some (.tup (cs.map V.str)) → IsAsc cs fs → (∀ y, y ∈ fs ↔ ∃ ks, Chain rs z ks y) → Q (.ref p) H'
theorem sc_kin : FnScope ["book", "name", "found", "rest", "seen", "here", "spent", "number", "rule", "middle", "source", "place"] ["book", "name"] (defScope s_kin) := ⟨rfl, rfl, rfl, by decide +kernel, rfl, by decide +kernel, by decide +kernel⟩
theorem cal_kin (D : Def1 K mg "_law_kin" s_kin) (G : Glb mg) (T : Glc mg) (gs : mg "sorted" = none) (CS : Cal P w K mg base 1 "_law_stem" (spLStem K)) (CP : Cal P w K mg base 1 "_law_put" (spFill K)) (CO : Cal P w K mg base 1 "_law_ordered" (spLOrd K)) : Cal P w K mg base 2 "_law_kin" (spLKin K) := by
  refine mkCal D sc_kin (fun _ _ _ _ _ _ us hl => match us, hl with | [_, _], _ => rfl) (fun vs H Q E h => ?_) (fun f cdv A outer s H vs Q E hr h => ?_)
  · obtain ⟨q, xs, rs, z, m, rfl, _⟩ := h
    rfl
  · obtain ⟨q, xs, rs, z, m, rfl, hq, ha, hB, hm, m3, hw, tx, k⟩ := h
    refine ⟨_, (pss_cons (ps_par (i := 2) (j := 3) (by rfl) sc_kin.nd rfl rfl (by decide) rfl rfl (pa_cons (pe_lst (pa_cons (pv 1) pa_nil)) (pa_cons (pe_lst (pa_cons (pe_tup (pa_cons (pv 1) (pa_cons (pe_tup pa_nil) pa_nil))) pa_nil)) pa_nil)) (by rfl))
    (pss_cons (ps_set (i := 4) sc_kin.nd rfl (.inl rfl) (pe_lst (pa_cons (pe_tup (pa_cons (pv 1) (pa_cons (pe_tup pa_nil) pa_nil))) pa_nil)))
    (pss_cons (ps_while PassesOwn.never (pt_cmpR (op_neNil hr.units) (pv 3) (pe_lst pa_nil) (nomark _))
    (pss_cons (ps_asg (pe_bm0 PySem.F.plainAttrs_list PySem.F.slot_list_pop PySem.F.type_list_pop mt_pop (pv 3)) (pg_tup rfl (pgs_cons (pg_name (i := 5) sc_kin.nd rfl (.inl rfl)) (pgs_cons (pg_name (i := 6) sc_kin.nd rfl (.inl rfl)) pgs_nil))))
    (pss_one (ps_for PassesOwn.never rfl (pi_enT (by rfl) G.enumerate (pa_cons (pv 0) pa_nil)) (pg_tup rfl (pgs_cons (pg_name (i := 7) sc_kin.nd rfl (.inl rfl)) (pgs_cons (pg_name (i := 8) sc_kin.nd rfl (.inl rfl)) pgs_nil)))
    (pss_cons (ps_set (i := 9) sc_kin.nd rfl (.inl rfl) (pe_cal CS hr (by decide) (pa_cons (pe_ix ix_tup (pv 8) pe_int (fun _ _ => rfl)) (pa_cons (pv 5) pa_nil))))
    (pss_one (ps_if (PW.pt (pw_and (pt_cmpR op_notN (pv 9) pe_non (nomark _)) (pw_and1 (pt_cmpR op_notIn_seq (pv 7) (pv 6) (by rfl))))) (pss_one (ps_for PassesOwn.never rfl (pi_tup (pe_ix ix_tup (pv 8) pe_int (fun _ _ => rfl))) (pg_name (i := 10) sc_kin.nd rfl (.inl rfl))
    (pss_cons (ps_set (i := 11) sc_kin.nd rfl (.inl rfl) (pe_tup (pa_cons (pe_cal CP hr (by decide) (pa_cons (pv 10) (pa_cons (pv 9) pa_nil))) (pa_cons (pe_callTy call_tuple_of (by rfl) T.tuple (by decide +kernel) (pa_cons (pe_callB (call_sortT hr.units) (by rfl) gs (by decide +kernel) (pa_cons (pe_op op_catA (pv 6) (pe_tup (pa_cons (pv 7) pa_nil))) pa_nil)) pa_nil)) pa_nil))))
    (pss_cons (ps_expr (pe_bm PySem.F.plainAttrs_list PySem.F.slot_list_append PySem.F.type_list_append mt_append (pv 2) (pa_cons (pe_ix ix_tup (pv 11) pe_int (fun _ _ => rfl)) pa_nil)))
    (pss_one (ps_if (pt_cmpR (op_notInD (units65 hr)) (pv 11) (pv 4) (by rfl)) (pss_cons (ps_expr (pe_bm PySem.F.plainAttrs_list PySem.F.slot_list_append PySem.F.type_list_append mt_append (pv 4) (pa_cons (pv 11) pa_nil)))
    (pss_one (ps_expr (pe_bm PySem.F.plainAttrs_list PySem.F.slot_list_append PySem.F.type_list_append mt_append (pv 3) (pa_cons (pv 11) pa_nil))))) pss_nil)))))) pss_nil)))))))
    (pss_one (ps_ret (pe_cal CO hr (by decide) (pa_cons (pv 2) pa_nil))))))), ?_⟩
    obtain ⟨many, len⟩ := book_len hB
    have hl := thAll_len ha
    rw [List.length_map] at hl
    refine ⟨_, rfl, (by show 1 ≤ sizeLine; decide), fun F nF => ?_⟩
    have s1 : Same H (upd H F (.lst [.str z])) := same_upd nF
    have f1 : upd H F (.lst [.str z]) F = some (.lst [.str z]) := upd_same
    generalize upd H F (.lst [.str z]) = H1 at s1 f1 ⊢
    refine ⟨_, rfl, (by show 0 ≤ sizeLine; decide), fun t1 nt1 => ⟨(by show 2 ≤ sizeLine; decide), fun a1 na1 => ?_⟩⟩
    have p1 : PAt (upd (upd H1 t1 (.tup [])) a1 (.tup [.str z, .ref t1])) a1 (z, []) := ⟨t1, upd_same, same_upd na1 _ _ upd_same⟩
    have s2 : Same H1 (upd (upd H1 t1 (.tup [])) a1 (.tup [.str z, .ref t1])) := (same_upd nt1).trans (same_upd na1)
    generalize upd (upd H1 t1 (.tup [])) a1 (.tup [.str z, .ref t1]) = H2 at p1 s2 ⊢
    refine ⟨(by show 1 ≤ sizeLine; decide), fun R nR => ?_⟩
    have s3 : Same H2 (upd H2 R (.lst [.ref a1])) := same_upd nR
    have r3 : upd H2 R (.lst [.ref a1]) R = some (.lst [.ref a1]) := upd_same
    generalize upd H2 R (.lst [.ref a1]) = H3 at s3 r3 ⊢
    refine ⟨_, _, rfl, ?_⟩
    refine ⟨_, rfl, (by show 0 ≤ sizeLine; decide), fun t2 nt2 => ⟨(by show 2 ≤ sizeLine; decide), fun a2 na2 => ?_⟩⟩
    have p4 : PAt (upd (upd H3 t2 (.tup [])) a2 (.tup [.str z, .ref t2])) a2 (z, []) := ⟨t2, upd_same, same_upd na2 _ _ upd_same⟩
    have s4 : Same H3 (upd (upd H3 t2 (.tup [])) a2 (.tup [.str z, .ref t2])) := (same_upd nt2).trans (same_upd na2)
    generalize upd (upd H3 t2 (.tup [])) a2 (.tup [.str z, .ref t2]) = H4 at p4 s4 ⊢
    refine ⟨(by show 1 ≤ sizeLine; decide), fun S nS => ?_⟩
    have s5 : Same H4 (upd H4 S (.lst [.ref a2])) := same_upd nS
    have f4 := s4 _ _ (s3 _ _ (s2 _ _ f1))
    have A0 : KA H (upd H4 S (.lst [.ref a2])) F R S [z] [(a1, (z, []))] [(a2, (z, []))] := by
      refine ⟨(((s1.trans s2).trans s3).trans s4).trans s5, s5 _ _ f4, s5 _ _ (s4 _ _ r3), upd_same, nF, (s1.trans s2).free nR, ((((s1.trans s2).trans s3).trans s4)).free nS, ne_of_none (s2 _ _ f1) nR, ne_of_none f4 nS, ne_of_none (s4 _ _ r3) nS, fun c mc => ?_, fun c mc => ?_⟩
      · rw [List.mem_singleton.mp mc]
        exact p1.on ((s3.trans s4).trans s5)
      · rw [List.mem_singleton.mp mc]
        exact p4.on s5
    generalize upd H4 S (.lst [.ref a2]) = H5 at A0 ⊢
    have l0 : load m rs.length [(z, [])] = wgt m rs.length := by
      show wgt m (left rs.length []) + 0 = _
      rw [Nat.add_zero]
      rfl
    refine ⟨fun g σ H' => ∃ (fs : List Str) (Lr Ls : List (Addr × Place)) (v5 v6 v7 v8 v9 v10 v11 : Option V), σ = [some (.ref q), some (.str z), some (.ref F), some (.ref R), some (.ref S), v5, v6, v7, v8, v9, v10, v11] ∧ KA H H' F R S fs Lr Ls ∧
      LK rs z fs (Lr.map (·.2)) (Ls.map (·.2)) (fun _ => False) ∧ fs.length + load m rs.length (Lr.map (·.2)) ≤ wgt m rs.length + Lr.length ∧ Ls.length ≤ fs.length ∧ Lr.length ≤ Ls.length ∧ load m rs.length (Lr.map (·.2)) = g, ⟨_, _, _, _, _, _, _, _, _, _, _, rfl, A0, LK.start, ?_, Nat.le_refl _, Nat.le_refl _, rfl⟩, ?_⟩
    · show 1 + load m rs.length [(z, [])] ≤ _ + 1
      rw [l0]
      omega
    · rintro g σ H6 ⟨fs, Lr, Ls, v5, v6, v7, v8, v9, v10, v11, rfl, A, lk, size, lsn, rln, hg⟩
      refine ⟨_, rfl, (by show 0 ≤ sizeLine; decide), fun e0 ne0 => ?_⟩
      have Ae := A.on (same_upd (o := .lst []) ne0)
      have he : upd H6 e0 (.lst []) e0 = some (.lst []) := upd_same
      generalize upd H6 e0 (.lst []) = H7 at Ae he ⊢
      refine ⟨R, e0, _, rfl, rfl, SqL.of Ae.r, SqL.of he, _, rfl, ?_⟩
      rcases List.eq_nil_or_concat Lr with rfl | ⟨Lr0, c0, eLr⟩
      · refine iteF' rfl ?_
        have few : fs.length ≤ 1200 := by
          have z1 : load m rs.length (([] : List (Addr × Place)).map (·.2)) = 0 := rfl
          rw [z1] at size
          have z2 : ([] : List (Addr × Place)).length = 0 := rfl
          rw [z2] at size
          omega
        have ends := lk.end_
        refine ⟨_, rfl, F, fs, rfl, SqL.of Ae.f, (Nat.le_trans few (by decide)), fun y my => ?_, fun cs p H8 s8 hp asc => k cs fs p H8 (Ae.same.trans s8) hp asc ends⟩
        obtain ⟨ks, c⟩ := (ends y).mp my
        exact Nat.le_trans (tx ks y c).2 (by decide)
      · rw [List.concat_eq_append] at eLr
        subst eLr
        refine iteT' (by simp) ⟨fun σ' H' => ∃ g' < g, ∃ (fs : List Str) (Lr Ls : List (Addr × Place)) (v5 v6 v7 v8 v9 v10 v11 : Option V), σ' = [some (.ref q), some (.str z), some (.ref F), some (.ref R), some (.ref S), v5, v6, v7, v8, v9, v10, v11] ∧ KA H H' F R S fs Lr Ls ∧
          LK rs z fs (Lr.map (·.2)) (Ls.map (·.2)) (fun _ => False) ∧ fs.length + load m rs.length (Lr.map (·.2)) ≤ wgt m rs.length + Lr.length ∧ Ls.length ≤ fs.length ∧ Lr.length ≤ Ls.length ∧ load m rs.length (Lr.map (·.2)) = g', fun σ' H' h => h, ?_⟩
        have load0 : load m rs.length ((Lr0 ++ [c0]).map (·.2)) = load m rs.length (Lr0.map (·.2)) + wgt m (left rs.length c0.2.2) := by
          rw [List.map_append, load_app]
          show _ + (_ + 0) = _
          rw [Nat.add_zero]
        have size0 : fs.length + (load m rs.length (Lr0.map (·.2)) + wgt m (left rs.length c0.2.2)) ≤ wgt m rs.length + (Lr0.length + 1) := by
          rw [← load0]
          have y := size
          rw [List.length_append] at y
          exact y
        have few : fs.length ≤ 1200 := by
          have y1 := load_ge m rs.length ((Lr0 ++ [c0]).map (·.2))
          rw [List.length_map] at y1
          omega
        have snd0 : Snds rs z c0.2 := lk.snd _ (lk.sub _ (List.mem_map.mpr ⟨c0, List.mem_append_right _ (List.mem_singleton.mpr rfl), rfl⟩))
        obtain ⟨ks0, ch0, es0⟩ := id snd0
        have lim := chain_lt ch0
        have nd0 : c0.2.2.Nodup := by
          rw [es0]
          exact (srt_perm ks0).nodup_iff.mpr lim.2
        have lt0 : ∀ k ∈ c0.2.2, k < rs.length := fun k mk => lim.1 k (by rw [es0, mem_srt] at mk; exact mk)
        have call := cnt_all nd0 lt0
        have ly := (tx ks0 c0.2.1 ch0).2
        have lkp : LK rs z fs (Lr0.map (·.2)) (Ls.map (·.2)) (fun p => p = c0.2) := LK.pop (by
          have y := lk
          rw [List.map_append] at y
          exact y)
        have A1 := Ae.putR Lr0 (fun c mc => Ae.pr c (List.mem_append_left _ mc))
        have pc := (Ae.pr c0 (List.mem_append_right _ (List.mem_singleton.mpr rfl))).mut Ae.r (o := .lst (Lr0.map fun c => V.ref c.1))
        refine ⟨_, rfl, .inl ⟨rfl, _, SqL.of Ae.r⟩, R, _, .ref c0.1, rfl, rfl, Ae.r, by simp, ?_⟩
        have el : ((Lr0 ++ [c0]).map fun c => V.ref c.1).dropLast = Lr0.map fun c => V.ref c.1 := by simp
        rw [el]
        generalize upd H7 R (.lst (Lr0.map fun c => V.ref c.1)) = H8 at A1 pc ⊢
        obtain ⟨t0, hc1, hc2⟩ := pc
        refine ⟨c0.1, _, rfl, SqT.of hc1, rfl, _, _, rfl, _, _, rfl, rfl, ?_⟩
        refine ⟨_, rfl, q, _, rfl, Same.seqT A1.same hq, for_enT (K := K) (a := q) (xs := xs) (fun i σ H' => ∃ (fs' : List Str) (Lr Ls : List (Addr × Place)) (v7 v8 v9 v10 v11 : Option V), σ = [some (.ref q), some (.str z), some (.ref F), some (.ref R), some (.ref S), some (.str c0.2.1), some (.ref t0), v7, v8, v9, v10, v11] ∧
          KA H H' F R S fs' Lr Ls ∧ Mid rs z c0.2 fs.length Lr0 fs' Lr Ls (cnt c0.2.2 i * m) ∧ H' t0 = some (.tup (c0.2.2.map fun n : Nat => V.int (n : Int))) ∧
          ∀ k r y, k < i → rs[k]? = some r → k ∉ c0.2.2 → y ∈ r.of c0.2.1 → (y, srt (c0.2.2 ++ [k])) ∈ Ls.map (·.2))
          ⟨fs, Lr0, Ls, _, _, _, _, _, rfl, A1, ⟨lkp, Nat.le_add_right _ _, ⟨[], (List.append_nil _).symm, by show 0 + _ ≤ _; omega, (fun _ mc => nomatch mc)⟩, lsn, by rw [List.length_append] at rln; omega⟩, hc2, fun k r y lt => absurd lt (Nat.not_lt_zero _)⟩
          (fun i σ H' ⟨_, _, _, _, _, _, _, _, _, a, _⟩ => Same.seqT a.same hq) ?_ ?_⟩
        · rintro i x σ H9 T hx nT ⟨fs1, Lr1, Ls1, w7, w8, w9, w10, w11, rfl, B, mid, ht0, old⟩
          obtain ⟨d, hd, th⟩ := th_at ha hx
          rw [List.getElem?_map, Option.map_eq_some_iff] at hd
          obtain ⟨r, hr2, rfl⟩ := hd
          have RL := len r (List.mem_of_getElem? hr2)
          have hi : i < rs.length := (List.getElem?_eq_some_iff.mp hr2).1
          obtain ⟨a, p, s, ys, rfl, ha3, hp, hs, hys⟩ := th_rule th
          refine ⟨T, _, rfl, .inl (.inl upd_same), rfl, _, _, rfl, _, _, rfl, rfl, ?_⟩
          have B1 := B.on (same_upd (o := .tup [.int (i : Int), .ref a]) nT)
          have ht1 := same_upd (o := .tup [.int (i : Int), .ref a]) nT _ _ ht0
          generalize upd H9 T (.tup [.int (i : Int), .ref a]) = H10 at B1 ht1 ⊢
          refine ⟨_, rfl, a, _, 1, _, rfl, rfl, Same.seqT B1.same ha3, atI_nat (j := 1) rfl, _, rfl, p, r.b, r.e, c0.2.1, rfl, Same.seqT B1.same hp, Nat.le_trans RL.lb (by decide), Nat.le_trans RL.le (by decide), Nat.le_trans ly (by decide), ?_⟩
          have up1 : cnt c0.2.2 i * m ≤ cnt c0.2.2 (i + 1) * m := Nat.mul_le_mul_right _ (by
            by_cases hin : i ∈ c0.2.2
            · rw [cnt_in hin]
              exact Nat.le_refl _
            · rw [cnt_out hin]
              omega)
          have skip : (stemO r.b r.e c0.2.1 = none ∨ i ∈ c0.2.2) → ∀ k r y, k < i + 1 → rs[k]? = some r → k ∉ c0.2.2 → y ∈ r.of c0.2.1 → (y, srt (c0.2.2 ++ [k])) ∈ Ls1.map (·.2) := fun hno k r' y lt hr n hy => by
            by_cases e : k = i
            · subst e
              rw [hr2] at hr
              cases hr
              rcases hno with h0 | h0
              · rw [of_none h0] at hy
                cases hy
              · exact absurd h0 n
            · exact old k r' y (by omega) hr n hy
          cases hst : stemO r.b r.e c0.2.1 with
          | none =>
            refine ⟨fun m' hm' => ?_, fun _ => ?_⟩
            · rw [stemO_some hm'] at hst
              cases hst
            · refine ⟨_, rfl, rfl, _, rfl, iteF' rfl ?_⟩
              exact ⟨fs1, Lr1, Ls1, _, _, _, _, _, rfl, B1, mid.le up1, ht1, skip (.inl hst)⟩
          | some mm =>
            refine ⟨fun m' hm' => ?_, fun no => absurd ⟨mm, stemO_eq hst⟩ no⟩
            rw [stemO_some hm'] at hst
            obtain rfl := Option.some.inj hst
            replace hst := stemO_some hm'
            have lm := stemO_len hst
            refine ⟨_, rfl, rfl, _, rfl, iteT' rfl ?_⟩
            refine ⟨_, rfl, _, rfl, t0, _, rfl, .inr (SqT.of ht1), rfl, flat_ints, _, rfl, ?_⟩
            by_cases hin : i ∈ c0.2.2
            · refine iteF' ?_ ?_
              · show (!inV (V.int (i : Int)) _) = false
                rw [in_ints, decide_eq_true hin]
                rfl
              · exact ⟨fs1, Lr1, Ls1, _, _, _, _, _, rfl, B1, mid.le up1, ht1, skip (.inr hin)⟩
            · refine iteT' ?_ ?_
              · show (!inV (V.int (i : Int)) _) = true
                rw [in_ints, decide_eq_false hin]
                rfl
              · have hlen : ys.length = r.ss.length := by
                  have y := thAll_len hys
                  rwa [List.length_map] at y
                have mle := hm r (List.mem_of_getElem? hr2)
                refine ⟨_, rfl, a, _, 2, _, rfl, rfl, Same.seqT B1.same ha3, atI_nat (j := 2) rfl, s, rfl, ⟨_, Same.seqT B1.same hs⟩, for_tup (K := K) (a := s) (xs := ys) (fun j σ H' => ∃ (fs' : List Str) (Lr Ls : List (Addr × Place)) (v10 v11 : Option V), σ = [some (.ref q), some (.str z), some (.ref F), some (.ref R), some (.ref S), some (.str c0.2.1), some (.ref t0), some (.int (i : Int)), some (.ref a), some (.str m'), v10, v11] ∧
                  KA H H' F R S fs' Lr Ls ∧ Mid rs z c0.2 fs.length Lr0 fs' Lr Ls (cnt c0.2.2 i * m + j) ∧ H' t0 = some (.tup (c0.2.2.map fun n : Nat => V.int (n : Int))) ∧
                  (∀ k r y, k < i → rs[k]? = some r → k ∉ c0.2.2 → y ∈ r.of c0.2.1 → (y, srt (c0.2.2 ++ [k])) ∈ Ls.map (·.2)) ∧ ∀ c ∈ r.ss.take j, (c.put m', srt (c0.2.2 ++ [i])) ∈ Ls.map (·.2))
                  ⟨fs1, Lr1, Ls1, _, _, rfl, B1, mid, ht1, old, fun c mc => by rw [List.take_zero] at mc; cases mc⟩ (fun _ _ _ _ ⟨_, _, _, _, _, _, a, _⟩ => Same.seqT a.same hs) ?_ ?_⟩
                · rintro j u σ H11 hu ⟨fs2, Lr2, Ls2, v10, v11, rfl, C, mid2, ht2, old2, got⟩
                  obtain ⟨d, hd3, th3⟩ := th_at hys hu
                  rw [List.getElem?_map, Option.map_eq_some_iff] at hd3
                  obtain ⟨c, hc3, rfl⟩ := hd3
                  have mc := List.mem_of_getElem? hc3
                  have jlt : j < r.ss.length := (List.getElem?_eq_some_iff.mp hc3).1
                  have sn : Snds rs z (c.put m', srt (c0.2.2 ++ [i])) := snds_succ snd0 ⟨i, r, hr2, hin, by rw [of_some hst]; exact List.mem_map.mpr ⟨c, mc, rfl⟩, rfl⟩
                  have sp : c0.2.2.length ≤ 6 := by omega
                  refine next_read ?_
                  refine place_read (K := K) (c := c) (ns := c0.2.2) (n := i) rfl rfl rfl rfl (th_same C.same th3) (RL.each c mc) (Nat.le_trans lm (Nat.le_trans ly (by decide))) ht2 (by omega) fun pa H12 s12 hpa => ?_
                  have C1 := C.on s12
                  have bound : fs2.length ≤ 3000 := by
                    have b1 := mid2.most
                    have b2 := cnt_le c0.2.2 i
                    have b3 : cnt c0.2.2 i * m ≤ 6 * 3 := Nat.mul_le_mul (by omega) m3
                    have b4 := RL.ls
                    omega
                  have bound2 := mid2.ls
                  have bound3 := mid2.rl
                  obtain ⟨t5, g1, g2⟩ := id hpa
                  refine ⟨_, rfl, .inl ⟨rfl, _, SqL.of C1.f⟩, _, rfl, pa, _, 0, _, rfl, rfl, SqT.of g1, atI_nat (j := 0) rfl, F, _, _, rfl, rfl, C1.f, by rw [List.length_map, sizeLine_eq]; omega, ?_⟩
                  have ef : fs2.map V.str ++ [V.str (c.put m')] = (fs2 ++ [c.put m']).map V.str := by
                    rw [List.map_append]
                    rfl
                  rw [ef]
                  have C2 := C1.putF (fs2 ++ [c.put m'])
                  have hpa2 := hpa.mut C1.f (o := .lst ((fs2 ++ [c.put m']).map V.str))
                  have t0F : t0 ≠ F := fun e => by
                    have y := s12 _ _ ht2
                    rw [e, C1.f] at y
                    cases y
                  have ht3 := (upd_ne (H := H12) (o := .lst ((fs2 ++ [c.put m']).map V.str)) t0F).trans (s12 _ _ ht2)
                  generalize upd H12 F (.lst ((fs2 ++ [c.put m']).map V.str)) = H13 at C2 hpa2 ht3 ⊢
                  have okT : ∀ e ∈ Ls2, PyData.strOk e.2.1 = true := fun e me => by
                    obtain ⟨ks, ch, _⟩ := mid2.lk.snd e.2 (List.mem_map.mpr ⟨e, me, rfl⟩)
                    exact (tx ks e.2.1 ch).1
                  have okP : PyData.strOk (c.put m') = true := by
                    obtain ⟨ks, ch, _⟩ := sn
                    exact (tx ks _ ch).1
                  refine ⟨_, rfl, _, rfl, pD (c.put m', srt (c0.2.2 ++ [i])), Ls2.map fun c => pD c.2, hpa2.dp, .lst (SqL.of C2.s) (dp_places C2.ps), shaped_pD okP, shaped_pDs okT, _, rfl, ?_⟩
                  have grows : ∀ {L : List (Addr × Place)}, (c.put m', srt (c0.2.2 ++ [i])) ∈ L.map (·.2) → (∀ e ∈ r.ss.take j, (e.put m', srt (c0.2.2 ++ [i])) ∈ L.map (·.2)) → ∀ e ∈ r.ss.take (j + 1), (e.put m', srt (c0.2.2 ++ [i])) ∈ L.map (·.2) := fun {L} h1 h2 e me => by
                    rw [List.take_add_one, hc3] at me
                    rcases List.mem_append.mp me with me | me
                    · exact h2 e me
                    · have z1 : e = c := by simpa using me
                      rw [z1]
                      exact h1
                  by_cases seen : (c.put m', srt (c0.2.2 ++ [i])) ∈ Ls2.map (·.2)
                  · refine iteF' (by rw [any_pD, decide_eq_true seen]; rfl) ?_
                    exact ⟨_, Lr2, Ls2, _, _, rfl, C2, mid2.old sn seen, ht3, old2, grows seen got⟩
                  · refine iteT' (by rw [any_pD, decide_eq_false seen]; rfl) ?_
                    refine ⟨_, rfl, .inl ⟨rfl, _, SqL.of C2.s⟩, _, rfl, S, _, _, rfl, rfl, C2.s, by rw [List.length_map, sizeLine_eq]; omega, ?_⟩
                    have es : (Ls2.map fun c => V.ref c.1) ++ [V.ref pa] = (Ls2 ++ [(pa, (c.put m', srt (c0.2.2 ++ [i])))]).map fun c => V.ref c.1 := by
                      rw [List.map_append]
                      rfl
                    rw [es]
                    have C3 := C2.putS (Ls2 ++ [(pa, (c.put m', srt (c0.2.2 ++ [i])))]) fun e me => by
                      rcases List.mem_append.mp me with me | me
                      · exact C2.ps e me
                      · rw [List.mem_singleton.mp me]
                        exact hpa2
                    have hpa3 := hpa2.mut C2.s (o := .lst ((Ls2 ++ [(pa, (c.put m', srt (c0.2.2 ++ [i])))]).map fun c => V.ref c.1))
                    have t0S : t0 ≠ S := fun e => by
                      have y := ht3
                      rw [e, C2.s] at y
                      cases y
                    have ht4 := (upd_ne (H := H13) (o := .lst ((Ls2 ++ [(pa, (c.put m', srt (c0.2.2 ++ [i])))]).map fun c => V.ref c.1)) t0S).trans ht3
                    generalize upd H13 S (.lst ((Ls2 ++ [(pa, (c.put m', srt (c0.2.2 ++ [i])))]).map fun c => V.ref c.1)) = H14 at C3 hpa3 ht4 ⊢
                    refine ⟨_, rfl, .inl ⟨rfl, _, SqL.of C3.r⟩, _, rfl, R, _, _, rfl, rfl, C3.r, by rw [List.length_map, sizeLine_eq]; omega, ?_⟩
                    have er : (Lr2.map fun c => V.ref c.1) ++ [V.ref pa] = (Lr2 ++ [(pa, (c.put m', srt (c0.2.2 ++ [i])))]).map fun c => V.ref c.1 := by
                      rw [List.map_append]
                      rfl
                    rw [er]
                    have C4 := C3.putR (Lr2 ++ [(pa, (c.put m', srt (c0.2.2 ++ [i])))]) fun e me => by
                      rcases List.mem_append.mp me with me | me
                      · exact C3.pr e me
                      · rw [List.mem_singleton.mp me]
                        exact hpa3
                    have t0R : t0 ≠ R := fun e => by
                      have y := ht4
                      rw [e, C3.r] at y
                      cases y
                    have ht5 := (upd_ne (H := H14) (o := .lst ((Lr2 ++ [(pa, (c.put m', srt (c0.2.2 ++ [i])))]).map fun c => V.ref c.1)) t0R).trans ht4
                    have wider : ∀ {p : Place}, p ∈ Ls2.map (·.2) → p ∈ (Ls2 ++ [(pa, (c.put m', srt (c0.2.2 ++ [i])))]).map (·.2) := fun h => by
                      rw [List.map_append]
                      exact List.mem_append_left _ h
                    refine ⟨_, _, _, _, _, rfl, C4, mid2.fresh sn seen ?_, ht5, fun k r y lt hr n hy => wider (old2 k r y lt hr n hy), grows ?_ fun e me => wider (got e me)⟩
                    · show (srt (c0.2.2 ++ [i])).length = _
                      rw [(srt_perm _).length_eq, List.length_append]
                      rfl
                    · rw [List.map_append]
                      exact List.mem_append_right _ (List.mem_singleton.mpr rfl)
                · rintro σ H11 ⟨fs2, Lr2, Ls2, v10, v11, rfl, C, mid2, ht2, old2, got⟩
                  rw [hlen, List.take_length] at got
                  rw [hlen] at mid2
                  refine ⟨fs2, Lr2, Ls2, _, _, _, _, _, rfl, C, mid2.le ?_, ht2, fun k r' y lt hr n hy => ?_⟩
                  · rw [cnt_out hin, Nat.add_mul, Nat.one_mul]
                    omega
                  · by_cases e : k = i
                    · subst e
                      rw [hr2] at hr
                      cases hr
                      rw [of_some hst] at hy
                      obtain ⟨c, mc, rfl⟩ := List.mem_map.mp hy
                      exact got c mc
                    · exact old2 k r' y (by omega) hr n hy
        · rintro σ H9 ⟨fs1, Lr1, Ls1, w7, w8, w9, w10, w11, rfl, B, mid, ht0, old⟩
          rw [hl] at mid old
          have hx : cnt c0.2.2 rs.length * m ≤ left rs.length c0.2.2 * m := Nat.mul_le_mul_right _ (by
            unfold left
            omega)
          obtain ⟨b1, b2⟩ := load_turn mid hx size0
          refine ⟨_, ?_, fs1, Lr1, Ls1, _, _, _, _, _, _, _, rfl, B, mid.lk.done fun p' s' => ?_, b1, mid.ls, mid.rl, rfl⟩
          · rw [← hg, load0]
            exact b2
          · obtain ⟨y, l⟩ := p'
            obtain ⟨k, r, hr, n, hy, e⟩ := s'
            have e2 : l = srt (c0.2.2 ++ [k]) := e
            subst e2
            exact old k r y (List.getElem?_eq_some_iff.mp hr).1 hr n hy
end
end Lk

/-! K31y -/
set_option Elab.async false
set_option linter.all false
set_option maxRecDepth 100000
set_option maxHeartbeats 4000000
namespace Lk
open PySem PySem.Spec PyProof.Rows L2
/-! ### drawn books: they are books, and few short names come by their chains -/
theorem ok_iff {x : Str} : PyData.strOk x = true ↔ ∀ c ∈ TL.tl x, c < 0x110000 := by
  unfold PyData.strOk
  rw [← Array.all_toList, List.all_eq_true]
  exact ⟨fun h c m => of_decide_eq_true (h c m), fun h c m => decide_eq_true (h c m)⟩
def SrcTx : Src → Prop
  | .pat b e => PyData.strOk b = true ∧ PyData.strOk e = true
  | .nm x => PyData.strOk x = true
def RlTx (r : Rl) : Prop := ∀ s ∈ r.ss, SrcTx s
theorem of_tx {r : Rl} (T : RlTx r) {z y : Str} (hz : PyData.strOk z = true) (h : y ∈ r.of z) : PyData.strOk y = true := by
  cases e : stemO r.b r.e z with
  | none =>
    rw [of_none e] at h
    cases h
  | some m =>
    rw [of_some e] at h
    obtain ⟨s, hs, rfl⟩ := List.mem_map.mp h
    have t := T s hs
    have ez := stemO_eq e
    have okm : ∀ c ∈ TL.tl m, c < 0x110000 := fun c mc => ok_iff.mp hz c (by rw [ez]; exact List.mem_append_left _ (List.mem_append_right _ mc))
    cases s with
    | pat b e =>
      have q : PyData.strOk b = true ∧ PyData.strOk e = true := t
      refine ok_iff.mpr fun c mc => ?_
      have mc2 : c ∈ TL.tl (b ++ m ++ e) := mc
      rw [TL.tl_append, TL.tl_append] at mc2
      rcases List.mem_append.mp mc2 with mc2 | mc2
      · rcases List.mem_append.mp mc2 with mc2 | mc2
        · exact ok_iff.mp q.1 c mc2
        · exact okm c mc2
      · exact ok_iff.mp q.2 c mc2
    | nm x => exact t
theorem chain_tx {rs : List Rl} {z : Str} (T : ∀ r ∈ rs, RlTx r) (L : ∀ r ∈ rs, RlLen r) (hz : PyData.strOk z = true) {ks : List Nat} {y : Str} (c : Chain rs z ks y) : PyData.strOk y = true ∧ y.length ≤ z.length + 6 * ks.length := by
  induction c with
  | start => exact ⟨hz, Nat.le_add_right _ _⟩
  | step c hr n hy ih =>
    have mr := List.mem_of_getElem? hr
    have a := of_len (L _ mr) hy
    exact ⟨of_tx (T _ mr) ih.1 hy, by rw [List.length_cons]; omega⟩
theorem chain_few {rs : List Rl} {z : Str} {ks : List Nat} {y : Str} (c : Chain rs z ks y) : ks.length ≤ rs.length := by
  have h := chain_lt c
  have q := nodup_len (m := List.range rs.length) h.2 fun k m => List.mem_range.mpr (h.1 k m)
  rwa [List.length_range] at q
/-! all chains with so many rules -/
noncomputable def nextsK (rs : List Rl) (c : List Nat × Str) (k : Nat) : List (List Nat × Str) := if k ∈ c.1 then [] else match rs[k]? with
  | some r => (r.of c.2).map fun y => (k :: c.1, y)
  | none => []
noncomputable def lv (rs : List Rl) (z : Str) : Nat → List (List Nat × Str)
  | 0 => [([], z)]
  | c + 1 => (lv rs z c).flatMap fun p => (List.range rs.length).flatMap (nextsK rs p)
theorem lv_of {rs : List Rl} {z : Str} {ks : List Nat} {y : Str} (c : Chain rs z ks y) : (ks, y) ∈ lv rs z ks.length := by
  induction c with
  | start => exact List.mem_singleton.mpr rfl
  | @step ks z y k r c hr n hy ih =>
    refine List.mem_flatMap.mpr ⟨(ks, z), ih, List.mem_flatMap.mpr ⟨k, List.mem_range.mpr (List.getElem?_eq_some_iff.mp hr).1, ?_⟩⟩
    show (k :: ks, y) ∈ nextsK rs (ks, z) k
    unfold nextsK
    rw [if_neg n, hr]
    exact List.mem_map.mpr ⟨y, hy, rfl⟩
theorem of_le (r : Rl) (z : Str) : (r.of z).length ≤ r.ss.length := by
  cases e : stemO r.b r.e z with
  | none =>
    rw [of_none e]
    exact Nat.zero_le _
  | some m =>
    rw [of_some e, List.length_map]
    exact Nat.le_refl _
theorem nexts_len {rs : List Rl} {m : Nat} (hm : ∀ r ∈ rs, r.ss.length ≤ m) (p : List Nat × Str) : ∀ i, ((List.range i).flatMap (nextsK rs p)).length ≤ cnt p.1 i * m
  | 0 => Nat.zero_le _
  | i + 1 => by
    have ih := nexts_len hm p i
    rw [List.range_succ, List.flatMap_append, List.length_append]
    have one : ([i].flatMap (nextsK rs p)) = nextsK rs p i := by simp
    rw [one]
    by_cases h : i ∈ p.1
    · have e : nextsK rs p i = [] := if_pos h
      rw [e, cnt_in h]
      exact ih
    · rw [cnt_out h, Nat.add_mul, Nat.one_mul]
      have e : (nextsK rs p i).length ≤ m := by
        unfold nextsK
        rw [if_neg h]
        split
        · rename_i r hr
          rw [List.length_map]
          exact Nat.le_trans (of_le r p.2) (hm r (List.mem_of_getElem? hr))
        · exact Nat.zero_le _
      omega
theorem lv_in {rs : List Rl} {z : Str} : ∀ (c : Nat) (p : List Nat × Str), p ∈ lv rs z c → p.1.length = c ∧ Chain rs z p.1 p.2
  | 0, p, h => by
    rw [List.mem_singleton.mp h]
    exact ⟨rfl, .start⟩
  | c + 1, p, h => by
    obtain ⟨q, hq, h2⟩ := List.mem_flatMap.mp h
    obtain ⟨k, _, h3⟩ := List.mem_flatMap.mp h2
    obtain ⟨e, ch⟩ := lv_in c q hq
    unfold nextsK at h3
    split at h3
    · cases h3
    · rename_i n
      split at h3
      · rename_i r hr
        obtain ⟨y, hy, rfl⟩ := List.mem_map.mp h3
        exact ⟨by show _ + 1 = _; rw [e], .step ch hr n hy⟩
      · cases h3
theorem flat_le {α β : Type} {f : α → List β} {b : Nat} : ∀ {l : List α}, (∀ x ∈ l, (f x).length ≤ b) → (l.flatMap f).length ≤ l.length * b
  | [], _ => Nat.zero_le _
  | x :: l, h => by
    have a := flat_le fun y m => h y (List.mem_cons_of_mem _ m)
    have c := h x List.mem_cons_self
    rw [List.flatMap_cons, List.length_append, List.length_cons, Nat.add_mul, Nat.one_mul]
    omega
/-- at most so many chains with c rules -/
def most (n m : Nat) : Nat → Nat
  | 0 => 1
  | c + 1 => most n m c * ((n - c) * m)
theorem lv_len {rs : List Rl} {z : Str} {m : Nat} (hm : ∀ r ∈ rs, r.ss.length ≤ m) : ∀ c, (lv rs z c).length ≤ most rs.length m c
  | 0 => Nat.le_refl _
  | c + 1 => by
    have ih := lv_len (z := z) hm c
    have one : ∀ p ∈ lv rs z c, ((List.range rs.length).flatMap (nextsK rs p)).length ≤ (rs.length - c) * m := fun p mp => by
      obtain ⟨e, ch⟩ := lv_in c p mp
      have lim := chain_lt ch
      have q := cnt_all lim.2 lim.1
      exact Nat.le_trans (nexts_len hm p rs.length) (Nat.mul_le_mul_right _ (by omega))
    exact Nat.le_trans (flat_le one) (Nat.mul_le_mul_right _ ih)
noncomputable def allN (rs : List Rl) (z : Str) : List Str := (List.range (rs.length + 1)).flatMap fun c => (lv rs z c).map (·.2)
theorem all_in {rs : List Rl} {z : Str} {ks : List Nat} {y : Str} (c : Chain rs z ks y) : y ∈ allN rs z :=
  List.mem_flatMap.mpr ⟨ks.length, List.mem_range.mpr (Nat.lt_succ_of_le (chain_few c)), List.mem_map.mpr ⟨_, lv_of c, rfl⟩⟩
def sumM (n m : Nat) : Nat → Nat
  | 0 => 0
  | c + 1 => sumM n m c + most n m c
theorem all_len {rs : List Rl} {z : Str} {m : Nat} (hm : ∀ r ∈ rs, r.ss.length ≤ m) : ∀ i, ((List.range i).flatMap fun c => (lv rs z c).map (·.2)).length ≤ sumM rs.length m i
  | 0 => Nat.le_refl _
  | i + 1 => by
    have ih := all_len (z := z) hm i
    have l := lv_len (z := z) hm i
    rw [List.range_succ, List.flatMap_append, List.length_append]
    have one : ([i].flatMap fun c => (lv rs z c).map (·.2)) = (lv rs z i).map (·.2) := by simp
    rw [one, List.length_map]
    show _ ≤ sumM rs.length m i + most rs.length m i
    omega
/-- what the law draws: up to four rules with two sources, or three with three -/
theorem small_books : ∀ n m, (n ≤ 4 ∧ m = 2) ∨ (n ≤ 3 ∧ m = 3) → sumM n m (n + 1) ≤ 4000 ∧ wgt m n ≤ 1200 ∧ m ≤ 3 := by
  rintro n m (⟨h, rfl⟩ | ⟨h, rfl⟩)
  · rcases n with _ | _ | _ | _ | _ | n
    all_goals first | decide | omega
  · rcases n with _ | _ | _ | _ | n
    all_goals first | decide | omega
theorem ok_draw {most : Nat} {r : Rl} (h : RlOk most r) (m3 : most ≤ 3) : dRule r.d = true ∧ RlTx r := by
  have hl : ∀ x ∈ (["cc", "as", "link"] : List Str), dLabel (.str x) = true := by decide +kernel
  have hp : ∀ b ∈ (["", "A", "B"] : List Str), ∀ e ∈ (["o", "c", "", "s"] : List Str), ¬ (b = "" ∧ e = "") → dPat (.tuple [.str b, .str e]) = true := by decide +kernel
  have h1 : ∀ b ∈ (["", "A", "B", "AB"] : List Str), ∀ e ∈ (["", "c", "o", "s", "co"] : List Str), ¬ (b = "" ∧ e = "") → dSrc1 (.tuple [.str b, .str e]) = true ∧ PyData.strOk b = true ∧ PyData.strOk e = true := by decide +kernel
  have h2 : ∀ x ∈ (["A", "Ac", "Bo", "s", "Ao"] : List Str), dSrc1 (.str x) = true ∧ PyData.strOk x = true := by decide +kernel
  refine ⟨?_, fun s ms => ?_⟩
  · show (dLabel (.str r.lab) && (dPat (.tuple [.str r.b, .str r.e]) && (decide ((r.ss.map Src.d).length ≤ 3) && (r.ss.map Src.d).all dSrc1))) = true
    rw [hl _ h.lab, hp _ h.b _ h.e h.ne, Bool.true_and, Bool.true_and, Bool.and_eq_true, decide_eq_true_eq, List.length_map, List.all_eq_true]
    refine ⟨Nat.le_trans h.len m3, fun d m => ?_⟩
    obtain ⟨s, ms, rfl⟩ := List.mem_map.mp m
    have q := h.ss s ms
    cases s with
    | pat b e =>
      obtain ⟨q1, q2, q3⟩ : b ∈ (["", "A", "B", "AB"] : List Str) ∧ e ∈ (["", "c", "o", "s", "co"] : List Str) ∧ ¬ (b = "" ∧ e = "") := q
      exact (h1 b q1 e q2 q3).1
    | nm x => exact (h2 x q).1
  · have q := h.ss s ms
    cases s with
    | pat b e =>
      obtain ⟨q1, q2, q3⟩ : b ∈ (["", "A", "B", "AB"] : List Str) ∧ e ∈ (["", "c", "o", "s", "co"] : List Str) ∧ ¬ (b = "" ∧ e = "") := q
      exact (h1 b q1 e q2 q3).2
    | nm x => exact (h2 x q).2
/-- all that the calls ask of a drawn book and a name -/
theorem drawn {n m : Nat} {rs : List Rl} {z : Str} (hn : (n = 4 ∧ m = 2) ∨ (n = 3 ∧ m = 3)) (ok : ∀ r ∈ rs, RlOk m r) (le : rs.length ≤ n) (hz : PyData.strOk z = true) (lz : z.length ≤ 900) :
    dBook (.tuple (rs.map Rl.d)) = true ∧ Short rs z (allN rs z) ∧ (∀ r ∈ rs, r.ss.length ≤ m) ∧ m ≤ 3 ∧ wgt m rs.length ≤ 1200 ∧ ∀ ks y, Chain rs z ks y → PyData.strOk y = true ∧ y.length ≤ 1000 := by
  have hm : ∀ r ∈ rs, r.ss.length ≤ m := fun r mr => (ok r mr).len
  obtain ⟨s1, s2, s3⟩ := small_books rs.length m (by omega)
  have dr : ∀ r ∈ rs, dRule r.d = true ∧ RlTx r := fun r mr => ok_draw (ok r mr) s3
  have book : dBook (.tuple (rs.map Rl.d)) = true := by
    show (decide ((rs.map Rl.d).length ≤ 6) && (rs.map Rl.d).all dRule) = true
    rw [Bool.and_eq_true, decide_eq_true_eq, List.length_map, List.all_eq_true]
    refine ⟨by omega, fun d md => ?_⟩
    obtain ⟨r, mr, rfl⟩ := List.mem_map.mp md
    exact (dr r mr).1
  have len := (book_len book).2
  have tx : ∀ ks y, Chain rs z ks y → PyData.strOk y = true ∧ y.length ≤ 1000 := fun ks y c => by
    have q := chain_tx (fun r mr => (dr r mr).2) len hz c
    have f := chain_few c
    exact ⟨q.1, by omega⟩
  refine ⟨book, ⟨fun ks y c => all_in c, Nat.le_trans (all_len hm _) s1, fun y my => ?_⟩, hm, s3, s2, tx⟩
  obtain ⟨c, _, m2⟩ := List.mem_flatMap.mp my
  obtain ⟨p, mp, rfl⟩ := List.mem_map.mp m2
  exact (tx p.1 p.2 (lv_in c p mp).2).2
end Lk

/-! K31g -/
set_option Elab.async false
set_option linter.all false
set_option maxRecDepth 100000
set_option maxHeartbeats 4000000
namespace Lk
open PySem PySem.Spec PyProof.Rows L2
/-! ### the ways, as data -/
def allO : List (Option PyData) → Option (List PyData)
  | [] => some []
  | none :: _ => none
  | some d :: r => (allO r).map (d :: ·)
theorem allO_some : ∀ {l : List (Option PyData)} {ds : List PyData}, allO l = some ds ↔ l = ds.map some
  | [], ds => by
    cases ds with
    | nil => exact ⟨fun _ => rfl, fun _ => rfl⟩
    | cons d ds => exact ⟨(fun h => nomatch (Option.some.inj h)), (fun h => nomatch h)⟩
  | none :: r, ds => by
    cases ds with
    | nil => exact ⟨(fun h => nomatch h), (fun h => nomatch h)⟩
    | cons d ds => exact ⟨fun h => (nomatch h), fun h => by rw [List.map_cons] at h; injection h with h _; cases h⟩
  | some d :: r, ds => by
    show (allO r).map (d :: ·) = some ds ↔ _
    rw [Option.map_eq_some_iff]
    constructor
    · rintro ⟨es, h, rfl⟩
      rw [allO_some.mp h, List.map_cons]
    · intro h
      cases ds with
      | nil => cases h
      | cons e es =>
        rw [List.map_cons] at h
        injection h with h1 h2
        injection h1 with h1
        exact ⟨es, allO_some.mpr h2, by rw [h1]⟩
theorem allO_none : ∀ {l : List (Option PyData)}, allO l = none ↔ none ∈ l
  | [] => ⟨(fun h => nomatch h), (fun h => nomatch h)⟩
  | none :: r => ⟨fun _ => List.mem_cons_self, fun _ => rfl⟩
  | some d :: r => by
    show (allO r).map (d :: ·) = none ↔ _
    rw [Option.map_eq_none_iff, allO_none, List.mem_cons]
    exact ⟨.inr, fun h => h.resolve_left (fun z => nomatch z)⟩
def leafD (z : Str) : PyData := .tuple [.str z]
def nodeD (z lab : Str) (ds : List PyData) : PyData := .tuple (.str z :: .str lab :: ds)
noncomputable def labO (rs : List Rl) (k : Nat) : Str := match rs[k]? with
  | some r => r.lab
  | none => ""
abbrev WRow := Nat × List Str
/-- the rules that are tried, in order -/
noncomputable def tryL (rs : List Rl) (F : List Str) (z : Str) (sp : List Nat) : List WRow := (fitD rs z sp).filter (fun c => decide (∀ s ∈ c.2, s ∈ F)) ++ fitD rs z sp
noncomputable def wayM (rs : List Rl) (F : List Str) : Nat → Str → List Nat → Option PyData
  | 0, z, _ => if z ∈ F then some (leafD z) else none
  | n + 1, z, sp => if z ∈ F then some (leafD z) else (tryL rs F z sp).findSome? fun c => (allO (c.2.map fun s => wayM rs F n s (c.1 :: sp))).map (nodeD z (labO rs c.1))
/-- the way of a name without the spent rules -/
noncomputable def way (rs : List Rl) (F : List Str) (z : Str) (sp : List Nat) : Option PyData := wayM rs F (rs.length - sp.length) z sp
theorem fit_perm {rs : List Rl} {z : Str} {sp sp' : List Nat} (h : ∀ k, k ∈ sp ↔ k ∈ sp') : fitD rs z sp = fitD rs z sp' := by
  unfold fitD
  congr 1
  funext c
  unfold rowOf
  by_cases e : c.2 ∈ sp
  · rw [if_pos e, if_pos ((h _).mp e)]
  · rw [if_neg e, if_neg (fun z => e ((h _).mpr z))]
theorem try_perm {rs : List Rl} {F : List Str} {z : Str} {sp sp' : List Nat} (h : ∀ k, k ∈ sp ↔ k ∈ sp') : tryL rs F z sp = tryL rs F z sp' := by
  unfold tryL
  rw [fit_perm h]
theorem wayM_perm {rs : List Rl} {F : List Str} : ∀ (n : Nat) {z : Str} {sp sp' : List Nat}, (∀ k, k ∈ sp ↔ k ∈ sp') → wayM rs F n z sp = wayM rs F n z sp'
  | 0, _, _, _, _ => rfl
  | n + 1, z, sp, sp', h => by
    unfold wayM
    rw [try_perm h]
    congr 2
    funext c
    congr 2
    refine List.map_congr_left fun s _ => wayM_perm n fun k => ?_
    rw [List.mem_cons, List.mem_cons, h]
theorem way_perm {rs : List Rl} {F : List Str} {z : Str} {sp sp' : List Nat} (h : sp.Perm sp') : way rs F z sp = way rs F z sp' := by
  unfold way
  rw [h.length_eq]
  exact wayM_perm _ fun k => h.mem_iff
theorem fit_row {rs : List Rl} {z : Str} {sp : List Nat} {c : WRow} (h : c ∈ fitD rs z sp) : ∃ r, rs[c.1]? = some r ∧ c.1 ∉ sp ∧ (∃ m, stemO r.b r.e z = some m ∧ c.2 = r.ss.map (Src.put m)) ∧ c.2 = r.of z := by
  obtain ⟨p, hp, e⟩ := List.mem_filterMap.mp h
  obtain ⟨r, i⟩ := p
  have z1 := List.mem_zipIdx_iff_getElem?.mp hp
  by_cases hi : i ∈ sp
  · rw [row_no (.inr hi)] at e
    cases e
  · cases hst : stemO r.b r.e z with
    | none =>
      rw [row_no (.inl hst)] at e
      cases e
    | some m =>
      rw [row_yes hst hi] at e
      cases e
      exact ⟨r, z1, hi, ⟨m, hst, rfl⟩, (of_some hst).symm⟩
theorem mem_full {n : Nat} {sp : List Nat} (nd : sp.Nodup) (lt : ∀ k ∈ sp, k < n) (h : n ≤ sp.length) {k : Nat} (hk : k < n) : k ∈ sp := by
  apply Classical.byContradiction
  intro no
  have z := nodup_len (l := k :: sp) (m := List.range n) (List.nodup_cons.mpr ⟨no, nd⟩) fun j m => by
    rcases List.mem_cons.mp m with e | m
    · rw [e]
      exact List.mem_range.mpr hk
    · exact List.mem_range.mpr (lt j m)
  rw [List.length_cons, List.length_range] at z
  omega
theorem fit_full {rs : List Rl} {z : Str} {sp : List Nat} (nd : sp.Nodup) (lt : ∀ k ∈ sp, k < rs.length) (h : rs.length ≤ sp.length) : fitD rs z sp = [] := by
  cases e : fitD rs z sp with
  | nil => rfl
  | cons c l =>
    obtain ⟨r, hr, n, _⟩ := fit_row (show c ∈ fitD rs z sp by rw [e]; exact List.mem_cons_self)
    exact absurd (mem_full nd lt h (List.getElem?_eq_some_iff.mp hr).1) n
theorem way_in {rs : List Rl} {F : List Str} {z : Str} {sp : List Nat} (h : z ∈ F) : way rs F z sp = some (leafD z) := by
  unfold way
  cases rs.length - sp.length with
  | zero => exact if_pos h
  | succ n => exact if_pos h
/-- what a row gives -/
noncomputable def rowW (rs : List Rl) (F : List Str) (z : Str) (sp : List Nat) (c : WRow) : Option PyData := (allO (c.2.map fun s => way rs F s (c.1 :: sp))).map (nodeD z (labO rs c.1))
theorem way_out {rs : List Rl} {F : List Str} {z : Str} {sp : List Nat} (nd : sp.Nodup) (lt : ∀ k ∈ sp, k < rs.length) (h : z ∉ F) : way rs F z sp = (tryL rs F z sp).findSome? (rowW rs F z sp) := by
  cases e : rs.length - sp.length with
  | zero =>
    have f := fit_full (z := z) nd lt (by omega)
    unfold way tryL
    rw [e, f]
    exact if_neg h
  | succ n =>
    unfold way
    rw [e]
    show (if z ∈ F then _ else _) = _
    rw [if_neg h]
    congr 1
    funext c
    unfold rowW way
    congr 2
    refine List.map_congr_left fun s _ => ?_
    have e2 : rs.length - (c.1 :: sp).length = n := by
      rw [List.length_cons]
      omega
    rw [e2]
theorem row_ready {rs : List Rl} {F : List Str} {z : Str} {sp : List Nat} {c : WRow} (h : ∀ s ∈ c.2, s ∈ F) : rowW rs F z sp c = some (nodeD z (labO rs c.1) (c.2.map leafD)) := by
  unfold rowW
  have e : c.2.map (fun s => way rs F s (c.1 :: sp)) = (c.2.map leafD).map some := by
    rw [List.map_map]
    exact List.map_congr_left fun s m => way_in (h s m)
  rw [allO_some.mpr e]
  rfl
/-- one with all its sources there, the first such one -/
theorem way_ready {rs : List Rl} {F : List Str} {z : Str} {sp : List Nat} (nd : sp.Nodup) (lt : ∀ k ∈ sp, k < rs.length) (h : z ∉ F) {i : Nat} {c : WRow} (hc : (fitD rs z sp)[i]? = some c) (no : ∀ d ∈ (fitD rs z sp).take i, ¬ ∀ s ∈ d.2, s ∈ F) (hr : ∀ s ∈ c.2, s ∈ F) :
    way rs F z sp = some (nodeD z (labO rs c.1) (c.2.map leafD)) := by
  rw [way_out nd lt h]
  unfold tryL
  have e : fitD rs z sp = (fitD rs z sp).take i ++ c :: (fitD rs z sp).drop (i + 1) := by
    have q := (List.getElem?_eq_some_iff.mp hc)
    obtain ⟨q1, q2⟩ := q
    rw [← q2, List.getElem_cons_drop, List.take_append_drop]
  have f : ((fitD rs z sp).take i).filter (fun c => decide (∀ s ∈ c.2, s ∈ F)) = [] := by
    rw [List.filter_eq_nil_iff]
    intro d md q
    exact no d md (of_decide_eq_true q)
  have g : (fitD rs z sp).filter (fun c => decide (∀ s ∈ c.2, s ∈ F)) = c :: ((fitD rs z sp).drop (i + 1)).filter (fun c => decide (∀ s ∈ c.2, s ∈ F)) := by
    conv => lhs; rw [e]
    rw [List.filter_append, f, List.nil_append, List.filter_cons, if_pos (decide_eq_true hr)]
  rw [g, List.cons_append, List.findSome?_cons, row_ready hr]
/-- none with all its sources there: they are tried once -/
theorem way_once {rs : List Rl} {F : List Str} {z : Str} {sp : List Nat} (nd : sp.Nodup) (lt : ∀ k ∈ sp, k < rs.length) (h : z ∉ F) (no : ∀ d ∈ fitD rs z sp, ¬ ∀ s ∈ d.2, s ∈ F) : way rs F z sp = (fitD rs z sp).findSome? (rowW rs F z sp) := by
  rw [way_out nd lt h]
  unfold tryL
  have f : (fitD rs z sp).filter (fun c => decide (∀ s ∈ c.2, s ∈ F)) = [] := by
    rw [List.filter_eq_nil_iff]
    intro d md q
    exact no d md (of_decide_eq_true q)
  rw [f, List.nil_append]
theorem first_at {α β : Type} {f : α → Option β} {L : List α} {i : Nat} {c : α} {d : β} (hc : L[i]? = some c) (no : (L.take i).findSome? f = none) (hd : f c = some d) : L.findSome? f = some d := by
  have e : L = L.take i ++ c :: L.drop (i + 1) := by
    obtain ⟨q1, q2⟩ := List.getElem?_eq_some_iff.mp hc
    rw [← q2, List.getElem_cons_drop, List.take_append_drop]
  rw [e, List.findSome?_append, no, List.findSome?_cons, hd]
  rfl
theorem first_no {α β : Type} {f : α → Option β} {L : List α} {i : Nat} {c : α} (hc : L[i]? = some c) (no : (L.take i).findSome? f = none) (hd : f c = none) : (L.take (i + 1)).findSome? f = none := by
  rw [List.take_add_one, hc, List.findSome?_append, no]
  show ([c] : List α).findSome? f = none
  rw [List.findSome?_cons, hd]
  rfl
/-- a way: what it is made of -/
inductive IsW (rs : List Rl) (F : List Str) : Nat → Str → List Nat → PyData → Prop
  | leaf {n : Nat} {z : Str} {sp : List Nat} : z ∈ F → IsW rs F n z sp (leafD z)
  | node {n : Nat} {z : Str} {sp : List Nat} {c : WRow} {ds : List PyData} : z ∉ F → c ∈ fitD rs z sp → ds.length = c.2.length → (∀ (i : Nat) (s : Str) (d : PyData), c.2[i]? = some s → ds[i]? = some d → way rs F s (c.1 :: sp) = some d) → (∀ (i : Nat) (s : Str) (d : PyData), c.2[i]? = some s → ds[i]? = some d → IsW rs F n s (c.1 :: sp) d) → IsW rs F (n + 1) z sp (nodeD z (labO rs c.1) ds)
theorem isW_mono {rs : List Rl} {F : List Str} {n m : Nat} {z : Str} {sp : List Nat} {d : PyData} (h : IsW rs F n z sp d) (le : n ≤ m) : IsW rs F m z sp d := by
  induction h generalizing m with
  | leaf h => exact .leaf h
  | node h1 h2 h3 h4 h5 ih =>
    cases m with
    | zero => omega
    | succ m => exact .node h1 h2 h3 h4 fun i s d a b => ih i s d a b (by omega)
theorem way_isW {rs : List Rl} {F : List Str} : ∀ (n : Nat) {z : Str} {sp : List Nat} {d : PyData}, sp.Nodup → (∀ k ∈ sp, k < rs.length) → rs.length ≤ sp.length + n → way rs F z sp = some d → IsW rs F n z sp d := by
  intro n
  induction n with
  | zero =>
    intro z sp d nd lt le h
    by_cases hz : z ∈ F
    · rw [way_in hz] at h
      cases h
      exact .leaf hz
    · rw [way_out nd lt hz] at h
      unfold tryL at h
      rw [fit_full nd lt (by omega)] at h
      cases h
  | succ n ih =>
    intro z sp d nd lt le h
    by_cases hz : z ∈ F
    · rw [way_in hz] at h
      cases h
      exact .leaf hz
    · rw [way_out nd lt hz] at h
      obtain ⟨c, mc, e⟩ := List.exists_of_findSome?_eq_some h
      have mc2 : c ∈ fitD rs z sp := by
        rcases List.mem_append.mp mc with m | m
        · exact (List.mem_filter.mp m).1
        · exact m
      unfold rowW at e
      obtain ⟨ds, hd, rfl⟩ := Option.map_eq_some_iff.mp e
      have q := allO_some.mp hd
      obtain ⟨r, hr, no, _⟩ := fit_row mc2
      have len : ds.length = c.2.length := by
        have y := congrArg List.length q
        rw [List.length_map, List.length_map] at y
        exact y.symm
      have each : ∀ (i : Nat) (s : Str) (d : PyData), c.2[i]? = some s → ds[i]? = some d → way rs F s (c.1 :: sp) = some d := fun i s d hs hd => by
        have y := congrArg (fun l => l[i]?) q
        simp only [List.getElem?_map, hs, hd, Option.map_some] at y
        exact Option.some.inj y
      refine .node hz mc2 len each fun i s d hs hd => ih (List.nodup_cons.mpr ⟨no, nd⟩) (fun k mk => ?_) (by rw [List.length_cons]; omega) (each i s d hs hd)
      rcases List.mem_cons.mp mk with e | mk
      · rw [e]
        exact (List.getElem?_eq_some_iff.mp hr).1
      · exact lt k mk
end Lk

/-! K31r -/
set_option Elab.async false
set_option linter.all false
set_option maxRecDepth 100000
set_option maxHeartbeats 4000000
namespace Lk
open PySem PySem.Spec PyProof.Rows L2
/-! ### the program's search -/
def flds (q d1 kd : Addr) : List (Str × V) := putF "known" (.ref kd) (putF "there" (.ref d1) (putF "book" (.ref q) []))
theorem kbt : ¬ (("book" : Str) = "there") := by decide +kernel
theorem kbk : ¬ (("book" : Str) = "known") := by decide +kernel
theorem ktk : ¬ (("there" : Str) = "known") := by decide +kernel
theorem flds_known (q d1 kd : Addr) : (flds q d1 kd).lookup ("known" : Str) = some (.ref kd) := by
  unfold flds
  rw [lookup_putF, if_pos rfl]
theorem flds_there (q d1 kd : Addr) : (flds q d1 kd).lookup ("there" : Str) = some (.ref d1) := by
  unfold flds
  rw [lookup_putF, if_neg ktk, lookup_putF, if_pos rfl]
theorem flds_book (q d1 kd : Addr) : (flds q d1 kd).lookup ("book" : Str) = some (.ref q) := by
  unfold flds
  rw [lookup_putF, if_neg kbk, lookup_putF, if_neg kbt, lookup_putF, if_pos rfl]
theorem flds_no (q d1 kd : Addr) {m : Str} (h1 : ¬ m = "known") (h2 : ¬ m = "there") (h3 : ¬ m = "book") : (flds q d1 kd).lookup m = none := by
  unfold flds
  rw [lookup_putF, if_neg h1, lookup_putF, if_neg h2, lookup_putF, if_neg h3]
  all_goals rfl
structure SCls (K : PySem.W.Frag) (C : Addr) : Prop where
  cl : Cls K C
  nB : NoAttr K C "book"
  nT : NoAttr K C "there"
  nK : NoAttr K C "known"
/-- what a value tells: a way, or None -/
def RW (K : PySem.W.Frag) (H : Hp) (v : V) : Option PyData → Prop
  | none => v = .non
  | some d => Th K H v d ∧ onlyT d = true
theorem RW.tups {K : PySem.W.Frag} {H H' : Hp} {v : V} {o : Option PyData} (h : RW K H v o) (t : Tups H H') : RW K H' v o := by
  cases o with
  | none => exact h
  | some d => exact ⟨th_tups t h.1 h.2, h.2⟩
/-- the places that are asked for: few, of short names -/
structure OkR (rs : List Rl) (Ok : Place → Prop) : Prop where
  bk : dBook (.tuple (rs.map Rl.d)) = true
  tx : ∀ p, Ok p → PyData.strOk p.1 = true ∧ p.1.length ≤ 1000
  nd : ∀ p, Ok p → p.2.Nodup ∧ ∀ k ∈ p.2, k < rs.length
  cl : ∀ p p', Ok p → Succ rs p p' → Ok p'
  fin : ∃ L : List Place, L.length ≤ 100000 ∧ ∀ p, Ok p → p ∈ L
structure SAt (P : Program) (w : World) (K : PySem.W.Frag) (C : Addr) (H : Hp) (o q d1 kd : Addr) (rs : List Rl) (F : List Str) (Ok : Place → Prop) : Prop where
  ob : ∃ dx, H o = some (.ins C dx (flds q d1 kd))
  bk : ∃ xs, SqT K H q xs ∧ ThAll K H xs (rs.map Rl.d)
  th : H d1 = some (.dK (dk F))
  ne : d1 ≠ kd
  kn : ∃ kvs, NAt P w H kd kvs ∧ (kvs.map (·.1)).Nodup ∧ ∀ p v, (p, v) ∈ kvs → Ok p ∧ RW K H v (way rs F p.1 p.2)
theorem book_onlyT {rs : List Rl} : onlyTs (rs.map Rl.d) = true := onlyTs_all.mpr fun d m => by
  obtain ⟨r, _, rfl⟩ := List.mem_map.mp m
  have z : onlyTs (r.ss.map Src.d) = true := onlyTs_all.mpr fun d m => by
    obtain ⟨s, _, rfl⟩ := List.mem_map.mp m
    cases s <;> rfl
  simp [Rl.d, onlyT, onlyTs, z]
section
variable {P : Program} {w : World} {K : PySem.W.Frag} {C o q d1 kd : Addr} {H H' : Hp} {rs : List Rl} {F : List Str} {Ok : Place → Prop}
theorem SAt.nkd (S : SAt P w K C H o q d1 kd rs F Ok) : (∀ ys, H kd ≠ some (.tup ys)) ∧ (∀ ob u, H kd ≠ some (.frz ob u)) ∧ (∀ c dx fs, H kd ≠ some (.ins c dx fs)) ∧ (∀ ys, H kd ≠ some (.lst ys)) ∧ ∃ u, H kd = some u := by
  obtain ⟨kvs, g, _⟩ := S.kn
  refine ⟨fun ys => g.notup, fun ob u => g.nofrz, ?_⟩
  obtain ⟨_, ⟨_, e⟩ | ⟨xs, e, _⟩⟩ := g
  · rw [e]
    exact ⟨(fun _ _ _ z => nomatch z), (fun _ z => nomatch z), _, rfl⟩
  · rw [e]
    exact ⟨(fun _ _ _ z => nomatch z), (fun _ z => nomatch z), _, rfl⟩
theorem SAt.tups (S : SAt P w K C H o q d1 kd rs F Ok) (b : But kd H H') : Tups H H' := b.tups S.nkd.1 S.nkd.2.1
theorem SAt.step (S : SAt P w K C H o q d1 kd rs F Ok) (b : But kd H H') (kn : ∃ kvs, NAt P w H' kd kvs ∧ (kvs.map (·.1)).Nodup ∧ ∀ p v, (p, v) ∈ kvs → Ok p ∧ RW K H' v (way rs F p.1 p.2)) : SAt P w K C H' o q d1 kd rs F Ok := by
  have t := S.tups b
  obtain ⟨dx, ob⟩ := S.ob
  obtain ⟨xs, h1, h2⟩ := S.bk
  exact ⟨⟨dx, b _ _ ob fun z => S.nkd.2.2.1 _ _ _ (z ▸ ob)⟩, ⟨xs, t.seqT h1, thAll_tups t h2 book_onlyT⟩, b _ _ S.th S.ne, S.ne, kn⟩
theorem SAt.same (S : SAt P w K C H o q d1 kd rs F Ok) (s : Same H H') : SAt P w K C H' o q d1 kd rs F Ok := by
  obtain ⟨kvs, g, nd, each⟩ := S.kn
  exact S.step (Same.but s) ⟨kvs, g.same (fun u h => s _ _ h) (fun b ys h => s _ _ h), nd, fun p v m => ⟨(each p v m).1, (each p v m).2.tups (Same.tups s)⟩⟩
theorem dk_val {F : List Str} {z : Str} : (valV (dk F) (Sum.inr z : Key)).isSome = decide (z ∈ F) := by
  rw [← valV_any, Bool.eq_iff_iff, List.any_eq_true, decide_eq_true_iff]
  constructor
  · rintro ⟨p, hp, e⟩
    obtain ⟨y, hy, rfl⟩ := List.mem_map.mp hp
    have e2 : (Sum.inr y : Key) = Sum.inr z := of_decide_eq_true e
    injection e2 with e2
    exact e2 ▸ hy
  · intro h
    exact ⟨_, List.mem_map.mpr ⟨z, h, rfl⟩, decide_eq_true rfl⟩
theorem ok_few (O : OkR rs Ok) {kvs : List (NK × V)} (nd : (kvs.map (·.1)).Nodup) (each : ∀ p v, (p, v) ∈ kvs → Ok p) : kvs.length ≤ 100000 := by
  obtain ⟨L, l, h⟩ := O.fin
  have z := nodup_len nd fun p m => by
    obtain ⟨e, he, rfl⟩ := List.mem_map.mp m
    exact h _ (each e.1 e.2 he)
  rw [List.length_map] at z
  omega
end
def spOneMore (K : PySem.W.Frag) : Sp := fun vs H Q _ => ∃ (t : Addr) (ns : List Nat) (k : Nat), vs = [.ref t, .int (k : Int)] ∧ SqT K H t (ns.map fun n : Nat => V.int (n : Int)) ∧ ns.length ≤ 1000 ∧
  ∀ p H', Same H H' → H p = none → H' p = some (.tup ((srt (ns ++ [k])).map fun n : Nat => V.int (n : Int))) → Q (.ref p) H'
end Lk

/-! K31c -/
set_option Elab.async false
set_option linter.all false
set_option maxRecDepth 100000
set_option maxHeartbeats 4000000
namespace Lk
open PySem PySem.Spec PyProof.Rows L2
section
variable {P : Program} {w : World} {K : PySem.W.Frag} {C o q d1 kd D : Addr} {H H' : Hp} {rs : List Rl} {F : List Str} {Ok : Place → Prop}
theorem upd_tups {ys : List V} {u : HO} (h : H D = some (.lst ys)) : Tups H (upd H D u) :=
  ⟨fun b xs e => by rw [upd_ne (ne_of e h (fun z => nomatch z))]; exact e, fun b ob u' e => by rw [upd_ne (ne_of e h (fun z => nomatch z))]; exact e⟩
theorem SAt.mut (S : SAt P w K C H o q d1 kd rs F Ok) {ys : List V} {u : HO} (h : H D = some (.lst ys)) : SAt P w K C (upd H D u) o q d1 kd rs F Ok := by
  have t := upd_tups (u := u) h
  obtain ⟨dx, ob⟩ := S.ob
  obtain ⟨xs, h1, h2⟩ := S.bk
  obtain ⟨kvs, g, nd, each⟩ := S.kn
  have nD : kd ≠ D := fun z => S.nkd.2.2.2.1 ys (z ▸ h)
  refine ⟨⟨dx, by rw [upd_ne (ne_of ob h (fun z => nomatch z))]; exact ob⟩, ⟨xs, t.seqT h1, thAll_tups t h2 book_onlyT⟩, by rw [upd_ne (ne_of S.th h (fun z => nomatch z))]; exact S.th, S.ne, kvs, g.same (fun u' e => by rw [upd_ne nD]; exact e) t.1, nd, fun p v m => ⟨(each p v m).1, (each p v m).2.tups t⟩⟩
theorem way_tup {z : Str} {sp : List Nat} (nd : sp.Nodup) (lt : ∀ k ∈ sp, k < rs.length) {d : PyData} (h : way rs F z sp = some d) : ∃ ds, d = .tuple ds := by
  by_cases hz : z ∈ F
  · rw [way_in hz] at h
    cases h
    exact ⟨_, rfl⟩
  · rw [way_out nd lt hz] at h
    obtain ⟨c, mc, e⟩ := List.exists_of_findSome?_eq_some h
    unfold rowW at e
    obtain ⟨ds, hd, rfl⟩ := Option.map_eq_some_iff.mp e
    exact ⟨_, rfl⟩
theorem rw_non (O : OkR rs Ok) {v : V} {z : Str} {ns : List Nat} (ok : Ok (z, ns)) (h : RW K H v (way rs F z ns)) : decide (v = .non) = (way rs F z ns).isNone := by
  cases e : way rs F z ns with
  | none =>
    rw [e] at h
    have h2 : v = .non := h
    rw [h2]
    rfl
  | some d =>
    rw [e] at h
    obtain ⟨ds, rfl⟩ := way_tup (O.nd _ ok).1 (O.nd _ ok).2 e
    obtain ⟨h1, _⟩ := h
    cases h1
    rfl
theorem find_none {ss : List Str} {ns : List Nat} (h : ss.find? (fun s => (way rs F s ns).isNone) = none) : ∀ s ∈ ss, ∃ d, way rs F s ns = some d := fun s m => by
  have z := List.find?_eq_none.mp h s m
  cases e : way rs F s ns with
  | none =>
    rw [e] at z
    exact absurd rfl z
  | some d => exact ⟨d, rfl⟩
theorem find_some {ss : List Str} {ns : List Nat} {s : Str} (h : ss.find? (fun s => (way rs F s ns).isNone) = some s) : s ∈ ss ∧ way rs F s ns = none := by
  refine ⟨List.mem_of_find?_eq_some h, ?_⟩
  have z := List.find?_some h
  cases e : way rs F s ns with
  | none => rfl
  | some d =>
    rw [e] at z
    cases z
end
section
variable {P : Program} {w : World} {K : PySem.W.Frag} {mg : Str → Option Value} {base : Heap} {C : Addr}
theorem sc_onemore : FnScope ["spent", "number"] ["spent", "number"] (defScope s_p_with_one_more) := ⟨rfl, rfl, rfl, by decide +kernel, rfl, by decide +kernel, by decide +kernel⟩
theorem cal_onemore (D : Def1 K mg "with_one_more" s_p_with_one_more) (T : Glc mg) (gs : mg "sorted" = none) : Cal P w K mg base 1 "with_one_more" (spOneMore K) := by
  refine mkCal D sc_onemore (fun _ _ _ _ _ _ us hl => match us, hl with | [_, _], _ => rfl) (fun vs H Q E h => ?_) (fun f cdv A outer s H vs Q E hr h => ?_)
  · obtain ⟨t, ns, k, rfl, _⟩ := h
    rfl
  · obtain ⟨t, ns, k, rfl, ht, few, kk⟩ := h
    refine ⟨_, (pss_one (ps_ret (pe_callTy call_tuple_of (by rfl) T.tuple (by decide +kernel) (pa_cons (pe_callB (call_sortT hr.units) (by rfl) gs (by decide +kernel) (pa_cons (pe_tup (StX.pa_star (pv 0) (pa_cons (pv 1) pa_nil))) pa_nil)) pa_nil)))), ?_⟩
    refine ⟨_, rfl, t, _, rfl, .inl ht, _, rfl, ?_⟩
    have e1 : (ns.map fun n : Nat => V.int (n : Int)) ++ ([V.int (k : Int)] ++ []) = ((ns ++ [k]).map fun n : Nat => (n : Int)).map V.int := by
      rw [List.map_append, List.map_append, List.map_map]
      rfl
    refine ⟨by rw [List.length_append, List.length_map, sizeLine_eq]; show ns.length + 1 ≤ _; omega, fun u nu => ?_⟩
    refine ⟨u, (ns ++ [k]).map fun n : Nat => (n : Int), rfl, SqT.of (by rw [upd_same]; exact congrArg (fun l => some (HO.tup l)) e1), fun ns' p pm pw np => ?_⟩
    have e := nat_out pm pw
    subst e
    refine ⟨p, _, rfl, .inl ⟨SqL.of upd_same, fun b nb => ?_⟩⟩
    refine kk b _ (((same_upd nu).trans (same_upd np)).trans (same_upd nb)) ?_ ?_
    · exact (same_upd nu).free ((same_upd np).free nb)
    · rw [upd_same, List.map_map]
      rfl
end
end Lk

/-! K31d -/
set_option Elab.async false
set_option linter.all false
set_option maxRecDepth 100000
set_option maxHeartbeats 4000000
namespace Lk
open PySem PySem.Spec PyProof.Rows L2
/-- which rows have all their sources there -/
def rdy (F : List Str) (c : Cell) : Bool := decide (∀ s ∈ c.2.2.2, s ∈ F)
theorem rdy_filter {F : List Str} {L : List Cell} : (L.filter (rdy F)).map (·.2.2) = (L.map (·.2.2)).filter fun c => decide (∀ s ∈ c.2, s ∈ F) := by
  rw [List.filter_map]
  rfl
theorem filter_step {α : Type} {p : α → Bool} {l : List α} {i : Nat} {x : α} (h : l[i]? = some x) : (l.take (i + 1)).filter p = (l.take i).filter p ++ if p x = true then [x] else [] := by
  rw [List.take_add_one, h, List.filter_append]
  congr 1
  show ([x] : List α).filter p = _
  rw [List.filter_cons]
  rfl
theorem CellOk.but {kd : Addr} {H H' : Hp} {c : Cell} (h : CellOk H c) (b : But kd H H') (n1 : c.1 ≠ kd) (n2 : c.2.1 ≠ kd) : CellOk H' c := ⟨b _ _ h.1 n1, b _ _ h.2 n2⟩
theorem snoc_all {K : PySem.W.Frag} {H : Hp} {vs : List V} {ds : List PyData} {v : V} {d : PyData} (h : ThAll K H vs ds) (h2 : Th K H v d) : ThAll K H (vs ++ [v]) (ds ++ [d]) := by
  induction vs generalizing ds with
  | nil =>
    cases h
    exact .cons h2 .nil
  | cons x xs ih =>
    cases h with
    | cons a b => exact .cons a (ih b)
end Lk

/-! K31i -/
set_option Elab.async false
set_option linter.all false
set_option maxRecDepth 100000
set_option maxHeartbeats 4000000
namespace Lk
open PySem PySem.Spec PyProof.Rows L2
section
variable {P : Program} {w : World} {K : PySem.W.Frag} {mg : Str → Option Value} {base : Heap} {C : Addr}
theorem ins_nodup : ∀ {F ks : List Str}, F.Nodup → (∀ y ∈ F, y ∉ ks) → F.foldl insK ks = ks ++ F
  | [], ks, _, _ => (List.append_nil ks).symm
  | y :: F, ks, h, n => by
    obtain ⟨h1, h2⟩ := List.nodup_cons.mp h
    have e : insK ks y = ks ++ [y] := if_neg (n y List.mem_cons_self)
    rw [List.foldl_cons, e, ins_nodup h2 fun x m => ?_, List.append_assoc]
    · rfl
    · rw [List.mem_append, List.mem_singleton]
      rintro (z | z)
      · exact n x (List.mem_cons_of_mem _ m) z
      · exact h1 (z ▸ m)
theorem dk_take {F : List Str} {i : Nat} {y : Str} (h : F.Nodup) (hy : F[i]? = some y) : putK (dk (F.take i)) (Sum.inr y) (V.bl true) = dk (F.take (i + 1)) := by
  rw [dk_put]
  congr 1
  have n : y ∉ F.take i := fun m => by
    obtain ⟨j, hj, e⟩ := List.getElem_of_mem m
    rw [List.length_take] at hj
    rw [List.getElem_take] at e
    have e2 : F[j]? = some y := by rw [← e]; exact List.getElem?_eq_getElem (by omega)
    have := (List.getElem?_inj (List.getElem?_eq_some_iff.mp e2).1 h).mp (e2.trans hy.symm)
    omega
  unfold insK
  rw [if_neg n, List.take_add_one, hy]
  rfl
theorem dc_files {σ : L2.St} {H : Hp} {f : Addr} {F : List Str} {iv : Nat} {ti : TE} {Q : VK} (hi : ∀ R : VK, R (.ref f) H → ti σ H R) (hf : SqT K H f (F.map V.str)) (nd : F.Nodup) (few : F.length ≤ 1000000)
    (wp : ∀ x : V, wipe ((wipe σ [iv]).set iv (some x)) [iv] = wipe σ [iv]) (hv : ∀ x : V, ((wipe σ [iv]).set iv (some x))[iv]? = some (some x)) (k : ∀ D H', H D = none → Same H H' → H' D = some (.dK (dk F)) → Q (.ref D) H') :
    tDc (iTup K ti) (gName iv) tYes (tVar iv) (tC (.bl true)) [iv] σ H Q := by
  refine hi _ ⟨f, rfl, ⟨_, hf⟩, fun D nD => ?_⟩
  refine dc_tup (K := K) (a := f) (xs := F.map V.str) (fun i H' => Same H H' ∧ H' D = some (.dK (dk (F.take i)))) ⟨same_upd nD, by rw [upd_same]; rfl⟩ (fun i H' _ h => Same.seqT h.1 hf) ?_ ?_
  · rintro i x H' hx ⟨s, hD⟩
    obtain ⟨y, hy, rfl⟩ := Option.map_eq_some_iff.mp ((List.getElem?_map ..).symm.trans hx)
    refine ⟨wp _, _, hv _, dk (F.take i), Sum.inr y, rfl, hD, ?_, same_mut s nD, ?_⟩
    · rw [dk_len, List.length_take, sizeLine_eq]
      omega
    · rw [upd_same, dk_take nd hy]
  · rintro H' ⟨s, hD⟩
    rw [List.length_map, List.take_length] at hD
    exact k D H' nD s hD
theorem nxD_open {q : L2.St → Hp → Prop} {rt : VK} {bk ct : L2.St → Hp → Prop} {σ : L2.St} {H : Hp} (h : q σ H) : Ends.nx { nx := q, rt := rt, bk := bk, ct := ct } σ H := h
theorem seq_fld {K : PySem.W.Frag} {ta tv : TE} {f : Str} {r : TS} {D : Ends} {σ : L2.St} {H : Hp} (h : tv σ H fun y H1 => ta σ H1 fun x H2 => ∃ a C dx fs, x = .ref a ∧ H2 a = some (.ins C dx fs) ∧ Cls K C ∧ NoAttr K C f ∧ fs.length < 1000 ∧ r D σ (upd H2 a (.ins C dx (putF f y fs)))) :
    tSeq (sFld K ta tv f) r D σ H := h
end
end Lk

/-! K31e -/
set_option Elab.async false
set_option linter.all false
set_option maxRecDepth 100000
set_option maxHeartbeats 4000000
namespace Lk
open PySem PySem.Spec PyProof.Rows L2
section
variable {P : Program} {w : World} {K : PySem.W.Frag} {mg : Str → Option Value} {base : Heap}
def ded : List Str → List Str
  | [] => []
  | x :: r => if x ∈ r then ded r else x :: ded r
theorem ded_mem : ∀ {ss : List Str} {y : Str}, y ∈ ded ss ↔ y ∈ ss
  | [], y => Iff.rfl
  | x :: r, y => by
    unfold ded
    split
    · rename_i h
      rw [ded_mem, List.mem_cons]
      exact ⟨.inr, fun z => z.elim (fun e => e ▸ h) id⟩
    · rw [List.mem_cons, List.mem_cons, ded_mem]
theorem ded_nodup : ∀ ss : List Str, (ded ss).Nodup
  | [] => List.nodup_nil
  | x :: r => by
    unfold ded
    split
    · exact ded_nodup r
    · rename_i h
      exact List.nodup_cons.mpr ⟨fun z => h (ded_mem.mp z), ded_nodup r⟩
def ascL (ss : List Str) : List Str := ((ded ss).mergeSort leT).mergeSort leL
theorem ascL_is (ss : List Str) : IsAsc (ascL ss) ss := asc_of (ded_nodup ss) (fun _ => ded_mem) (List.mergeSort_perm _ _) (List.pairwise_mergeSort leT_trans leT_total _)
def strD : PyData → Str
  | .str x => x
  | _ => ""
def dFiles : PyData → Bool
  | .tuple ds => decide (ds.length ≤ 60) && (ds.all dName && decide (ds.map strD = ascL (ds.map strD)))
  | _ => false
theorem names_strs : ∀ {ds : List PyData}, ds.all dName = true → ds = (ds.map strD).map PyData.str
  | [], _ => rfl
  | d :: r, h => by
    rw [List.all_cons, Bool.and_eq_true] at h
    have e : d = .str (strD d) := by
      cases d with
      | str x => rfl
      | _ => exact Bool.noConfusion h.1
    rw [List.map_cons, List.map_cons, ← names_strs h.2, ← e]
theorem strs_vs {H : Hp} : ∀ {xs : List V} {ss : List Str}, ThAll K H xs (ss.map PyData.str) → xs = ss.map V.str
  | [], [], _ => rfl
  | _ :: _, _ :: _, .cons (.str x) t => by rw [List.map_cons, strs_vs t]
theorem eqv_strs : ∀ ss cs : List Str, PyData.eqvAll (ss.map PyData.str) (cs.map PyData.str) = decide (ss = cs)
  | [], [] => rfl
  | [], _ :: _ => rfl
  | _ :: _, [] => rfl
  | x :: r, y :: t => by
    have e : PyData.eqvAll ((x :: r).map PyData.str) ((y :: t).map PyData.str) = ((x == y) && PyData.eqvAll (r.map PyData.str) (t.map PyData.str)) := by
      rw [List.map_cons, List.map_cons, PyData.eqvAll]
      rfl
    rw [e, eqv_strs r t, Bool.eq_iff_iff, Bool.and_eq_true, beq_iff_eq, decide_eq_true_iff, decide_eq_true_iff, List.cons.injEq]
theorem name_ok {x : Str} (h : dName (.str x) = true) : PyData.strOk x = true := by
  refine ok_of_all fun c hc => ?_
  have h2 : (!(TL.tl x).isEmpty && ((TL.tl x).dropWhile upB).all loB) = true := h
  rw [Bool.and_eq_true, List.all_eq_true] at h2
  rw [← List.takeWhile_append_dropWhile (p := upB) (l := TL.tl x)] at hc
  rcases List.mem_append.mp hc with hc | hc
  · have := List.all_eq_true.mp (List.all_takeWhile (p := upB) (l := TL.tl x)) c hc
    simp only [upB, Bool.and_eq_true, decide_eq_true_eq] at this
    omega
  · have := h2.2 c hc
    simp only [loB, Bool.and_eq_true, decide_eq_true_eq] at this
    omega
theorem shaped_tstrs {ss : List Str} (h : ∀ x ∈ ss, PyData.strOk x = true) : SeqAt.shaped (.tuple (ss.map PyData.str)) = true := by
  have h1 : ∀ l : List Str, (∀ x ∈ l, PyData.strOk x = true) → PyData.canLayAll0 (l.map PyData.str) = true ∧ PyData.depthAll (l.map PyData.str) = 0 := fun l => by
    induction l with
    | nil => exact fun _ => ⟨rfl, rfl⟩
    | cons x r ih =>
      intro h
      obtain ⟨a, b⟩ := ih fun y hy => h y (List.mem_cons_of_mem _ hy)
      refine ⟨?_, ?_⟩
      · rw [List.map_cons, PyData.canLayAll0, a, Bool.and_true]
        exact h x List.mem_cons_self
      · rw [List.map_cons, PyData.depthAll, b]
        rfl
  obtain ⟨a, b⟩ := h1 ss h
  unfold SeqAt.shaped
  rw [PyData.canLay0, a, PyData.depth, b]
  rfl
theorem dp_tstrs {H : Hp} : ∀ ss : List Str, DpAll K H (ss.map V.str) (ss.map PyData.str)
  | [] => .nil
  | x :: r => .cons (.str x) (dp_tstrs r)
theorem sc_p_are_files : FnScope ["thing", "name"] ["thing"] (defScope s_p_are_files) := ⟨rfl, rfl, rfl, by decide +kernel, rfl, by decide +kernel, by decide +kernel⟩
theorem cal_p_are_files (D : Def1 K mg "are_files" s_p_are_files) (T : Glc mg) (G : Glb mg) (B : Glk mg) (F : Con1 mg "MOST_FILES" (.int 60)) (C1 : Cal P w K mg base 1 "is_name" (spIsName K)) (C2 : Cal P w K mg base 1 "ascending" (spAsc K)) : Cal P w K mg base 2 "are_files" (spOneS K dFiles) := by
  refine mkCal D sc_p_are_files (fun _ _ _ _ _ _ us hl => match us, hl with | [_], _ => rfl) (fun vs H Q E h => ?_) (fun f cdv A outer s H vs Q E hr h => ?_)
  · obtain ⟨v, d, rfl, _⟩ := h
    rfl
  · obtain ⟨v, d, rfl, ht, hb, k⟩ := h
    refine ⟨_, pss_cons (ps_if (PW.pt (pw_or (pt_not (pt_val (pe_isi (T := "tuple") (pv 0) T.isinst T.tuple (by decide +kernel)))) (pw_or1 (pt_cmpR op_gt (pe_callB call_len_seq (by rfl) G.len PySem.boot_len (pa_cons (pv 0) pa_nil)) (pe_con1 F) (nomark _))))) (pss_one (ps_ret pe_bl)) pss_nil)
      (pss_one (ps_ret (pe_and (pe_callB (cr_all rfl) (by rfl) B.all (by decide +kernel) (pa_cons (pe_lc (own := [("name", 1)]) (g := gName 1) (tt := tYes) (by rfl) sc_p_are_files.nd (pi_tup (pv 0))
        (blkOk_by (own := [("name", 1)]) (N := ["thing", "name"]) (sc := defScope s_p_are_files) (by decide +kernel)) (fun _ _ _ _ _ => pg_name (i := 1) sc_p_are_files.nd rfl (Or.inl rfl)) (fun _ _ _ _ _ => pts_nil)
        (fun _ _ _ _ _ => pe_cal C1 hr (by decide) (pa_cons (pv 1) pa_nil))) pa_nil)) (pe_one (pe_cmpR (op_eqD hr.units) (pv 0) (pe_cal C2 hr (by decide) (pa_cons (pv 0) pa_nil)) (nomark _)))))), ?_⟩
    refine ⟨_, rfl, v, _, _, _, _, rfl, .ty _, th_ty ht, kit_tup d, _, rfl, ?_⟩
    cases e : isTup d with
    | false =>
      have z : dFiles d = false := by
        cases d with
        | tuple ds => cases e
        | _ => rfl
      rw [z] at k
      exact iteT (iteT (k H (Same.refl H)))
    | true =>
      obtain ⟨a, xs, ds, rfl, rfl, hs, ha⟩ := th_tup ht e
      have hl := thAll_len ha
      have ed : dFiles (.tuple ds) = (decide (ds.length ≤ 60) && (ds.all dName && decide (ds.map strD = ascL (ds.map strD)))) := rfl
      refine iteF ⟨_, rfl, a, xs, rfl, .inr hs, _, _, rfl, rfl, _, rfl, ?_⟩
      refine ite2 (fun h1 => ?_) (fun h1 => ?_)
      · have g : ¬ ds.length ≤ 60 := by
          have := of_decide_eq_true h1
          omega
        rw [ed, decide_eq_false g, Bool.false_and] at k
        exact k H (Same.refl H)
      · have g : ds.length ≤ 60 := by
          apply Classical.byContradiction
          intro z
          exact h1 (decide_eq_true (by omega))
        rw [ed, decide_eq_true g, Bool.true_and] at k
        refine all_read (n := 2) rfl hs ha (by omega) (fun _ => rfl) (fun x d H' R hd th s q => ⟨_, rfl, x, d, rfl, th, Nat.le_trans (bulk_in hd) hb, q H' (Same.refl H')⟩) fun H1 s1 => ⟨_, rfl, ?_⟩
        cases e2 : ds.all dName with
        | false =>
          rw [e2, Bool.false_and] at k
          exact iteF (k H1 s1)
        | true =>
          rw [e2, Bool.true_and] at k
          have en := names_strs e2
          generalize ds.map strD = ss at en k
          subst en
          have ex := strs_vs ha
          subst ex
          have ok : ∀ x ∈ ss, PyData.strOk x = true := fun x hx => name_ok (List.all_eq_true.mp e2 _ (List.mem_map.mpr ⟨x, hx, rfl⟩))
          rw [List.length_map] at g
          have small : ∀ y ∈ ss, y.length ≤ sizeLine := fun y hy => by
            have h2 := bulk_in (List.mem_map.mpr ⟨y, hy, rfl⟩ : PyData.str y ∈ ss.map PyData.str)
            have h3 : (PyData.str y).bulk ≤ 1000000 := Nat.le_trans h2 hb
            exact Nat.le_trans h3 (by decide)
          refine iteT ⟨_, rfl, _, rfl, a, ss, rfl, .inr (Same.seqT s1 hs), by show ss.length + 1 < 4096; omega, small, fun cs p H2 s2 hp asc => ?_⟩
          have ec : cs = ascL ss := asc.uniq (ascL_is ss)
          have okc : ∀ x ∈ cs, PyData.strOk x = true := fun x hx => ok x ((asc.mem x).mp hx)
          refine ⟨.tuple (ss.map .str), .tuple (cs.map .str), .tup (Same.seqT (s1.trans s2) hs) (dp_tstrs ss), .tup (.inl (.inl hp)) (dp_tstrs cs), shaped_tstrs ok, shaped_tstrs okc, ?_⟩
          have ev : PyData.eqv (.tuple (ss.map .str)) (.tuple (cs.map .str)) = decide (ss = ascL ss) := by
            rw [← ec]
            exact eqv_strs ss cs
          rw [ev]
          exact k H2 (s1.trans s2)
end
end Lk

/-! K31j -/
set_option Elab.async false
set_option linter.all false
set_option maxRecDepth 100000
set_option maxHeartbeats 4000000
namespace Lk
open PySem PySem.Spec PyProof.Rows L2
section
variable {P : Program} {w : World} {K : PySem.W.Frag} {mg : Str → Option Value} {base : Heap} {C : Addr}
/-- the names of files, ascending -/
structure Fl (F : List Str) : Prop where
  ok : dFiles (.tuple (F.map PyData.str)) = true
  len : ∀ y ∈ F, y.length ≤ 1000
theorem Fl.few {F : List Str} (h : Fl F) : F.length ≤ 60 := by
  have z := h.ok
  unfold dFiles at z
  simp only [Bool.and_eq_true, decide_eq_true_eq, List.length_map] at z
  exact z.1
theorem strD_map (F : List Str) : (F.map PyData.str).map strD = F := by
  rw [List.map_map]
  exact (List.map_congr_left fun x _ => rfl).trans (List.map_id _)
theorem Fl.asc {F : List Str} (h : Fl F) : F = ascL F := by
  have z := h.ok
  unfold dFiles at z
  simp only [Bool.and_eq_true, decide_eq_true_eq, List.length_map, strD_map] at z
  exact z.2.2
theorem Fl.nd {F : List Str} (h : Fl F) : F.Nodup := by
  rw [h.asc]
  exact (ascL_is F).1
theorem Fl.bulk {F : List Str} (h : Fl F) : (PyData.tuple (F.map PyData.str)).bulk ≤ 1000000 := by
  have s : PyData.bulkAll (F.map PyData.str) ≤ (F.map PyData.str).length * (1000 + 1) := bulkAll_le fun d m => by
    obtain ⟨y, my, rfl⟩ := List.mem_map.mp m
    exact h.len y my
  rw [List.length_map] at s
  have few := h.few
  show PyData.bulkAll (F.map PyData.str) ≤ 1000000
  omega
theorem th_strs2 {H : Hp} : ∀ ss : List Str, ThAll K H (ss.map V.str) (ss.map PyData.str)
  | [] => .nil
  | x :: r => .cons (.str x) (th_strs2 r)
def spNeedF (K : PySem.W.Frag) : Sp := fun vs H Q _ => ∃ (f : Addr) (F : List Str), vs = [.ref f] ∧ SqT K H f (F.map V.str) ∧ Fl F ∧ ∀ H', Same H H' → Q .non H'
theorem sc_p_need_files : FnScope ["thing"] ["thing"] (defScope s_p_need_files) := ⟨rfl, rfl, rfl, by decide +kernel, rfl, by decide +kernel, by decide +kernel⟩
theorem cal_p_need_files (D : Def1 K mg "need_files" s_p_need_files) (C1 : Cal P w K mg base 2 "are_files" (spOneS K dFiles)) : Cal P w K mg base 3 "need_files" (spNeedF K) := by
  refine mkCal D sc_p_need_files (fun _ _ _ _ _ _ us hl => match us, hl with | [_], _ => rfl) (fun vs H Q E h => ?_) (fun f cdv A outer s H vs Q E hr h => ?_)
  · obtain ⟨f, F, rfl, _⟩ := h
    rfl
  · obtain ⟨f, F, rfl, hf, hF, k⟩ := h
    refine ⟨_, pss_one (ps_if (pt_not (pt_val (pe_cal C1 hr (by decide) (pa_cons (pv 0) pa_nil)))) (pss_one ps_never) pss_nil), ?_⟩
    exact ⟨_, rfl, .ref f, _, rfl, .tup hf (th_strs2 F), hF.bulk, fun H' s => ⟨_, rfl, iteF' (by rw [hF.ok]; rfl) (k H' s)⟩⟩
def spThings (K : PySem.W.Frag) : Sp := fun vs H Q _ => ∃ (q f : Addr) (xs : List V) (rs : List Rl) (F : List Str) (z : Str), vs = [.ref q, .ref f, .str z] ∧ SqT K H q xs ∧ ThAll K H xs (rs.map Rl.d) ∧ dBook (.tuple (rs.map Rl.d)) = true ∧ SqT K H f (F.map V.str) ∧ Fl F ∧ z.length ≤ 1000 ∧ dName (.str z) = true ∧ ∀ H', Same H H' → Q .non H'
theorem sc_p_things : FnScope ["book", "files", "name"] ["book", "files", "name"] (defScope s_p_need_things) := ⟨rfl, rfl, rfl, by decide +kernel, rfl, by decide +kernel, by decide +kernel⟩
theorem cal_p_things (D : Def1 K mg "need_things" s_p_need_things) (CB : Cal P w K mg base 7 "need_book" (spNeedB K)) (CF : Cal P w K mg base 3 "need_files" (spNeedF K)) (CN : Cal P w K mg base 2 "need_name" (spNeed0 K)) : Cal P w K mg base 8 "need_things" (spThings K) := by
  refine mkCal D sc_p_things (fun _ _ _ _ _ _ us hl => match us, hl with | [_, _, _], _ => rfl) (fun vs H Q E h => ?_) (fun f cdv A outer s H vs Q E hr h => ?_)
  · obtain ⟨q, f, xs, rs, F, z, rfl, _⟩ := h
    rfl
  · obtain ⟨q, f, xs, rs, F, z, rfl, hq, hx, hB, hf, hF, lz, nz, k⟩ := h
    refine ⟨_, pss_cons (ps_expr (pe_cal CB hr (by decide) (pa_cons (pv 0) pa_nil))) (pss_cons (ps_expr (pe_cal CF hr (by decide) (pa_cons (pv 1) pa_nil))) (pss_one (ps_expr (pe_cal CN hr (by decide) (pa_cons (pv 2) pa_nil))))), ?_⟩
    refine ⟨_, rfl, q, xs, rs, rfl, hq, hx, hB, fun H1 s1 => ?_⟩
    refine ⟨_, rfl, f, F, rfl, Same.seqT s1 hf, hF, fun H2 s2 => ?_⟩
    exact ⟨_, rfl, z, rfl, Nat.le_trans lz (by decide), nz, k H2 (s1.trans s2)⟩
/-- what the calls ask of a book, files and a name -/
structure Asks (K : PySem.W.Frag) (H : Hp) (q f : Addr) (rs : List Rl) (F : List Str) (z : Str) (Ok : Place → Prop) : Prop where
  bk : ∃ xs, SqT K H q xs ∧ ThAll K H xs (rs.map Rl.d)
  fl : SqT K H f (F.map V.str)
  fok : Fl F
  nz : dName (.str z) = true
  ok : OkR rs Ok
  st : Ok (z, [])
theorem Asks.same {H H' : Hp} {q f : Addr} {rs : List Rl} {F : List Str} {z : Str} {Ok : Place → Prop} (A : Asks K H q f rs F z Ok) (s : Same H H') : Asks K H' q f rs F z Ok := by
  obtain ⟨xs, h1, h2⟩ := A.bk
  exact ⟨⟨xs, Same.seqT s h1, thAll_same s h2⟩, Same.seqT s A.fl, A.fok, A.nz, A.ok, A.st⟩
end
end Lk

/-! K31A -/
set_option Elab.async false
set_option linter.all false
set_option maxRecDepth 100000
set_option maxHeartbeats 4000000
namespace Lk
open PySem PySem.Spec PyProof.Rows L2
/-! ### what a way makes -/
def wName : PyData → Str
  | .tuple (.str z :: _) => z
  | _ => ""
def wKids : PyData → List PyData
  | .tuple (_ :: _ :: ds) => ds
  | _ => []
inductive WD : Nat → PyData → Prop
  | leaf {n : Nat} {z : Str} : WD n (leafD z)
  | node {n : Nat} {z lab : Str} {ds : List PyData} : ds.length ≤ 3 → (∀ d ∈ ds, WD n d) → WD (n + 1) (nodeD z lab ds)
theorem isW_wd {rs : List Rl} {F : List Str} (L : ∀ r ∈ rs, RlLen r) {n : Nat} {z : Str} {sp : List Nat} {d : PyData} (h : IsW rs F n z sp d) : WD n d := by
  induction h with
  | leaf _ => exact .leaf
  | @node n z sp c ds h1 h2 h3 h4 h5 ih =>
    obtain ⟨r, hr, _, _, e⟩ := fit_row h2
    refine .node (by rw [h3, e]; exact of_few (L r (List.mem_of_getElem? hr)) z) fun d md => ?_
    obtain ⟨i, hi, e2⟩ := List.getElem_of_mem md
    have hd : ds[i]? = some d := by rw [← e2]; exact List.getElem?_eq_getElem hi
    have hc : c.2[i]? = some (c.2[i]'(by omega)) := List.getElem?_eq_getElem (by omega)
    exact ih i _ d hc hd
structure WShape (n : Nat) (d : PyData) (z : Str) (rest : List PyData) : Prop where
  e : d = .tuple (.str z :: rest)
  nm : wName d = z
  kids : wKids d = rest.drop 1
  few : (rest.drop 1).length ≤ 3
  each : ∀ x ∈ rest.drop 1, ∃ m, n = m + 1 ∧ WD m x
  short : rest.length ≤ 4
theorem WD.shape {n : Nat} {d : PyData} (h : WD n d) : ∃ z rest, WShape n d z rest := by
  cases h with
  | leaf =>
    rename_i z
    exact ⟨z, [], rfl, rfl, rfl, Nat.zero_le _, (fun _ m => nomatch m), Nat.zero_le _⟩
  | node h1 h2 =>
    rename_i m z lab ds
    exact ⟨z, .str lab :: ds, rfl, rfl, rfl, h1, fun x mx => ⟨m, rfl, h2 x mx⟩, by rw [List.length_cons]; omega⟩
abbrev St2 := List Str × List Str
def add2 (z : Str) (st : St2) : St2 := if z ∈ st.1 then st else (st.1 ++ [z], st.2 ++ [z])
def mk2 : Nat → PyData → St2 → St2
  | 0, d, st => if wName d ∈ st.1 then st else add2 (wName d) st
  | n + 1, d, st => if wName d ∈ st.1 then st else add2 (wName d) ((wKids d).foldl (fun s e => mk2 n e s) st)
theorem add2_len (z : Str) (st : St2) : (add2 z st).1.length ≤ st.1.length + 1 ∧ (add2 z st).2.length ≤ st.2.length + 1 := by
  unfold add2
  split
  · omega
  · rw [List.length_append, List.length_append]
    exact ⟨Nat.le_refl _, Nat.le_refl _⟩
theorem pow4 (n : Nat) : 1 ≤ 4 ^ n := Nat.pow_pos (by decide)
theorem fold2_len {f : PyData → St2 → St2} {b : Nat} (hf : ∀ e s, (f e s).1.length ≤ s.1.length + b ∧ (f e s).2.length ≤ s.2.length + b) : ∀ (ds : List PyData) (st : St2), (ds.foldl (fun s e => f e s) st).1.length ≤ st.1.length + ds.length * b ∧ (ds.foldl (fun s e => f e s) st).2.length ≤ st.2.length + ds.length * b
  | [], st => ⟨by simp, by simp⟩
  | d :: ds, st => by
    have a := hf d st
    have c := fold2_len hf ds (f d st)
    rw [List.foldl_cons, List.length_cons, Nat.add_mul, Nat.one_mul]
    omega
def wid : Nat → PyData → Nat
  | 0, _ => 1
  | n + 1, d => 1 + ((wKids d).map (wid n)).sum
theorem fold2_sum {n : Nat} (hf : ∀ e s, (mk2 n e s).1.length ≤ s.1.length + wid n e ∧ (mk2 n e s).2.length ≤ s.2.length + wid n e) : ∀ (ds : List PyData) (st : St2), (ds.foldl (fun s e => mk2 n e s) st).1.length ≤ st.1.length + (ds.map (wid n)).sum ∧ (ds.foldl (fun s e => mk2 n e s) st).2.length ≤ st.2.length + (ds.map (wid n)).sum
  | [], st => ⟨by simp, by simp⟩
  | d :: ds, st => by
    have a := hf d st
    have c := fold2_sum hf ds (mk2 n d st)
    rw [List.foldl_cons, List.map_cons, List.sum_cons]
    omega
theorem mk2_len : ∀ (n : Nat) (d : PyData) (st : St2), (mk2 n d st).1.length ≤ st.1.length + wid n d ∧ (mk2 n d st).2.length ≤ st.2.length + wid n d
  | 0, d, st => by
    unfold mk2 wid
    split
    · omega
    · exact add2_len _ _
  | n + 1, d, st => by
    unfold mk2 wid
    split
    · omega
    · have a := add2_len (wName d) ((wKids d).foldl (fun s e => mk2 n e s) st)
      have b := fold2_sum (mk2_len n) (wKids d) st
      omega
theorem sum_le3 {b : Nat} {f : PyData → Nat} : ∀ {ds : List PyData}, (∀ d ∈ ds, f d ≤ b) → (ds.map f).sum ≤ ds.length * b
  | [], _ => Nat.zero_le _
  | d :: ds, h => by
    have a := h d List.mem_cons_self
    have c := sum_le3 fun e m => h e (List.mem_cons_of_mem _ m)
    rw [List.map_cons, List.sum_cons, List.length_cons, Nat.add_mul, Nat.one_mul]
    omega
theorem wid_le {n : Nat} {d : PyData} (h : WD n d) : wid n d ≤ 4 ^ n := by
  induction h with
  | @leaf n z =>
    cases n with
    | zero => exact Nat.le_refl _
    | succ n => exact pow4 _
  | @node n z lab ds h1 h2 ih =>
    have s : (ds.map (wid n)).sum ≤ ds.length * 4 ^ n := sum_le3 ih
    have p := pow4 n
    have m : ds.length * 4 ^ n ≤ 3 * 4 ^ n := Nat.mul_le_mul_right _ h1
    show 1 + (ds.map (wid n)).sum ≤ 4 ^ (n + 1)
    rw [Nat.pow_succ]
    omega
def But2 (a b : Addr) (H H' : Hp) : Prop := ∀ q o, H q = some o → q ≠ a → q ≠ b → H' q = some o
theorem But2.trans {a b : Addr} {H H1 H2 : Hp} (x : But2 a b H H1) (y : But2 a b H1 H2) : But2 a b H H2 := fun q o h n1 n2 => y q o (x q o h n1 n2) n1 n2
theorem Same.but2 {a b : Addr} {H H' : Hp} (s : Same H H') : But2 a b H H' := fun q o h _ _ => s q o h
theorem But2.tups {a b : Addr} {H H' : Hp} (x : But2 a b H H') (h1 : ∀ ys, H a ≠ some (.tup ys)) (h2 : ∀ o u, H a ≠ some (.frz o u)) (g1 : ∀ ys, H b ≠ some (.tup ys)) (g2 : ∀ o u, H b ≠ some (.frz o u)) : Tups H H' :=
  ⟨fun c xs h => x _ _ h (fun z => h1 xs (z ▸ h)) fun z => g1 xs (z ▸ h), fun c o u h => x _ _ h (fun z => h2 o u (z ▸ h)) fun z => g2 o u (z ▸ h)⟩
theorem cut_from {xs : List V} {i : Int} (h : 0 ≤ i) : cutV xs (some i) none = xs.drop i.toNat := by
  unfold cutV
  rw [sIx_some h, HT.sIx_none]
  by_cases hi : i.toNat ≤ xs.length
  · rw [Nat.min_eq_left hi]
    exact List.take_of_length_le (by rw [List.length_drop]; omega)
  · rw [List.drop_eq_nil_of_le (by omega : xs.length ≤ min i.toNat xs.length), List.drop_eq_nil_of_le (by omega), List.take_nil]
theorem th_drop {K : PySem.W.Frag} {H : Hp} : ∀ {vs : List V} {ds : List PyData} (n : Nat), ThAll K H vs ds → ThAll K H (vs.drop n) (ds.drop n)
  | _, _, 0, h => h
  | _, _, n + 1, .nil => .nil
  | _, _, n + 1, .cons _ t => th_drop n t
section
variable {K : PySem.W.Frag} {n : Nat} {d : PyData} {z : Str} {rest : List PyData} {H : Hp} {v : V}
theorem th_way (h : Th K H v d) (w : WShape n d z rest) : ∃ a vs, v = .ref a ∧ SqT K H a (.str z :: vs) ∧ ThAll K H vs rest := by
  obtain ⟨e, _⟩ := w
  subst e
  cases h with
  | tup hs ha =>
    cases ha with
    | cons h1 t =>
      cases h1
      exact ⟨_, _, rfl, hs, t⟩
theorem rest_onlyT (w : WShape n d z rest) (o : onlyT d = true) : onlyTs (rest.drop 1) = true := by
  rw [w.e] at o
  have o2 : onlyTs (.str z :: rest) = true := o
  exact onlyTs_all.mpr fun x m => onlyTs_all.mp o2 x (List.mem_cons_of_mem _ (List.mem_of_mem_drop m))
end
def spMake (K : PySem.W.Frag) (m : Nat) : Sp := fun vs H Q _ => ∃ (v : V) (d : PyData) (n : Nat) (a l : Addr) (ks ms : List Str), vs = [v, .ref a, .ref l] ∧ Th K H v d ∧ onlyT d = true ∧ WD n d ∧ n < m ∧ H a = some (.dK (dk ks)) ∧ H l = some (.lst (ms.map V.str)) ∧
  ks.length + wid n d ≤ 900000 ∧ ms.length + wid n d ≤ 900000 ∧ ∀ H', But2 a l H H' → H' a = some (.dK (dk (mk2 n d (ks, ms)).1)) → H' l = some (.lst ((mk2 n d (ks, ms)).2.map V.str)) → Q .non H'
def spLMade (K : PySem.W.Frag) (ret : Bool) (m : Nat) : Sp := fun vs H Q _ => ∃ (v : V) (d : PyData) (n : Nat) (a l : Addr) (ks ms : List Str), vs = [v, .ref a, .ref l] ∧ Th K H v d ∧ onlyT d = true ∧ WD n d ∧ n < m ∧ H a = some (.lst (ks.map V.str)) ∧ H l = some (.lst (ms.map V.str)) ∧ a ≠ l ∧
  ks.length + wid n d ≤ 900000 ∧ ms.length + wid n d ≤ 900000 ∧ ∀ H', But2 a l H H' → H' a = some (.lst ((mk2 n d (ks, ms)).1.map V.str)) → H' l = some (.lst ((mk2 n d (ks, ms)).2.map V.str)) → Q (if ret then .ref l else .non) H'
theorem in_strs {z : Str} {ks : List Str} : inV (V.str z) (ks.map V.str) = decide (z ∈ ks) := by
  unfold inV
  rw [Bool.eq_iff_iff, List.any_eq_true, decide_eq_true_iff]
  constructor
  · rintro ⟨x, mx, e⟩
    obtain ⟨y, my, rfl⟩ := List.mem_map.mp mx
    have e2 : y = z := of_decide_eq_true (show decide (y = z) = true from e)
    exact e2 ▸ my
  · intro m
    exact ⟨_, List.mem_map.mpr ⟨z, m, rfl⟩, decide_eq_true rfl⟩
theorem flat_strs {ks : List Str} : (ks.map V.str).all flatV = true := by
  rw [List.all_eq_true]
  intro v m
  obtain ⟨n, _, rfl⟩ := List.mem_map.mp m
  rfl
theorem part_sum {n : Nat} {ds : List PyData} {i : Nat} : ((ds.take i).map (wid n)).sum + ((ds.drop i).map (wid n)).sum = (ds.map (wid n)).sum := by
  rw [← List.sum_append, ← List.map_append, List.take_append_drop]
end Lk

/-! K31C -/
set_option Elab.async false
set_option linter.all false
set_option maxRecDepth 100000
set_option maxHeartbeats 4000000
namespace Lk
open PySem PySem.Spec PyProof.Rows L2
section
variable {P : Program} {w : World} {K : PySem.W.Frag} {mg : Str → Option Value} {base : Heap}
theorem way_wd {rs : List Rl} {F : List Str} {z : Str} {ns : List Nat} {Ok : Place → Prop} (O : OkR rs Ok) (ok : Ok (z, srt ns)) {d : PyData} (h : way rs F z ns = some d) : IsW rs F 6 z ns d ∧ WD 6 d := by
  have p := srt_perm ns
  obtain ⟨nd, lt⟩ := O.nd _ ok
  have i := way_isW 6 (p.nodup_iff.mp nd) (fun k mk => lt k (p.mem_iff.mpr mk)) (by have := (book_len O.bk).1; omega) h
  exact ⟨i, isW_wd (book_len O.bk).2 i⟩
end
end Lk

/-! K31D -/
set_option Elab.async false
set_option linter.all false
set_option maxRecDepth 100000
set_option maxHeartbeats 4000000
namespace Lk
open PySem PySem.Spec PyProof.Rows L2
/-! ### ways: they may be compared -/
theorem canLay_all : ∀ {ds : List PyData}, PyData.canLayAll0 ds = true ↔ ∀ d ∈ ds, d.canLay0 = true
  | [] => ⟨(fun _ _ m => nomatch m), (fun _ => rfl)⟩
  | d :: ds => by
    rw [PyData.canLayAll0, Bool.and_eq_true, canLay_all]
    exact ⟨fun h e m => (List.mem_cons.mp m).elim (fun z => z ▸ h.1) (h.2 e), fun h => ⟨h d List.mem_cons_self, fun e m => h e (List.mem_cons_of_mem _ m)⟩⟩
theorem depth_all {b : Nat} : ∀ {ds : List PyData}, (∀ d ∈ ds, d.depth ≤ b) → PyData.depthAll ds ≤ b
  | [], _ => Nat.zero_le _
  | d :: ds, h => by
    have a := h d List.mem_cons_self
    have c := depth_all fun e m => h e (List.mem_cons_of_mem _ m)
    rw [PyData.depthAll]
    omega
theorem lay_tuple {ds : List PyData} {b : Nat} (h : ∀ d ∈ ds, d.canLay0 = true ∧ d.depth ≤ b) : (PyData.tuple ds).canLay0 = true ∧ (PyData.tuple ds).depth ≤ b + 1 := by
  refine ⟨?_, ?_⟩
  · rw [PyData.canLay0]
    exact canLay_all.mpr fun d m => (h d m).1
  · rw [PyData.depth]
    have := depth_all (b := b) fun d m => (h d m).2
    omega
theorem shaped_of {d : PyData} {b : Nat} (h : d.canLay0 = true ∧ d.depth ≤ b) (hb : b ≤ 64) : SeqAt.shaped d = true := by
  unfold SeqAt.shaped
  rw [h.1, Bool.true_and, decide_eq_true_eq]
  omega
theorem lab_ok {x : Str} (h : dLabel (.str x) = true) : PyData.strOk x = true := by
  refine ok_of_all fun c hc => ?_
  have h2 : (decide (1 ≤ x.length) && (decide (x.length ≤ 8) && (TL.tl x).all loB)) = true := h
  rw [Bool.and_eq_true, Bool.and_eq_true, List.all_eq_true] at h2
  have := h2.2.2 c hc
  simp only [loB, Bool.and_eq_true, decide_eq_true_eq] at this
  omega
theorem rule_lab {rs : List Rl} (h : dBook (.tuple (rs.map Rl.d)) = true) {r : Rl} (m : r ∈ rs) : dLabel (.str r.lab) = true := by
  have h2 : (decide ((rs.map Rl.d).length ≤ 6) && (rs.map Rl.d).all dRule) = true := h
  rw [Bool.and_eq_true, List.all_eq_true] at h2
  have h3 : (dLabel (.str r.lab) && (dPat (.tuple [.str r.b, .str r.e]) && (decide ((r.ss.map Src.d).length ≤ 3) && (r.ss.map Src.d).all dSrc1))) = true := h2.2 _ (List.mem_map.mpr ⟨r, m, rfl⟩)
  rw [Bool.and_eq_true] at h3
  exact h3.1
theorem srt_cons {ns : List Nat} {k : Nat} : srt (srt ns ++ [k]) = srt (k :: ns) := srt_same ((List.perm_append_singleton k _).trans ((srt_perm ns).cons k))
theorem srt_snoc {ns : List Nat} {k : Nat} : srt (ns ++ [k]) = srt (k :: ns) := srt_same (List.perm_append_singleton k _)
theorem ok_succ {rs : List Rl} {Ok : Place → Prop} (O : OkR rs Ok) {z : Str} {sp : List Nat} (ok : Ok (z, srt sp)) {c : WRow} (h : c ∈ fitD rs z sp) {s : Str} (m : s ∈ c.2) : Ok (s, srt (c.1 :: sp)) := by
  obtain ⟨r, hr, no, _, e⟩ := fit_row h
  exact O.cl (z, srt sp) _ ok ⟨c.1, r, hr, fun x => no (mem_srt.mp x), by rw [← e]; exact m, srt_cons.symm⟩
theorem isW_lay {rs : List Rl} {F : List Str} {Ok : Place → Prop} (O : OkR rs Ok) {n : Nat} {z : Str} {sp : List Nat} {d : PyData} (h : IsW rs F n z sp d) : Ok (z, srt sp) → d.canLay0 = true ∧ d.depth ≤ n + 1 := by
  induction h with
  | @leaf n z sp _ =>
    intro ok
    have y := lay_tuple (ds := [.str z]) (b := n) fun d m => by
      rw [List.mem_singleton.mp m]
      exact ⟨(O.tx _ ok).1, Nat.zero_le _⟩
    exact y
  | @node n z sp c ds h1 h2 h3 h4 h5 ih =>
    intro ok
    obtain ⟨r, hr, _, _, _⟩ := fit_row h2
    refine lay_tuple (b := n + 1) fun d m => ?_
    rcases List.mem_cons.mp m with e | m
    · rw [e]
      exact ⟨(O.tx _ ok).1, Nat.zero_le _⟩
    · rcases List.mem_cons.mp m with e | m
      · rw [e]
        refine ⟨?_, Nat.zero_le _⟩
        have e2 : labO rs c.1 = r.lab := by
          unfold labO
          rw [hr]
        rw [e2]
        exact lab_ok (rule_lab O.bk (List.mem_of_getElem? hr))
      · obtain ⟨i, hi, e2⟩ := List.getElem_of_mem m
        have hd : ds[i]? = some d := by rw [← e2]; exact List.getElem?_eq_getElem hi
        have hc : c.2[i]? = some (c.2[i]'(by omega)) := List.getElem?_eq_getElem (by omega)
        exact ih i _ d hc hd (ok_succ O ok h2 (List.mem_of_getElem? hc))
/-- a way, or None, as data -/
def wayD : Option PyData → PyData
  | none => .none
  | some d => d
theorem RW.th {K : PySem.W.Frag} {H : Hp} {v : V} {o : Option PyData} (h : RW K H v o) : Th K H v (wayD o) := by
  cases o with
  | none =>
    have e : v = .non := h
    rw [e]
    exact .non
  | some d => exact h.1
theorem way_lay {rs : List Rl} {F : List Str} {Ok : Place → Prop} (O : OkR rs Ok) {z : Str} {ns : List Nat} (ok : Ok (z, srt ns)) : (wayD (way rs F z ns)).canLay0 = true ∧ (wayD (way rs F z ns)).depth ≤ 7 := by
  cases h : way rs F z ns with
  | none => exact ⟨rfl, Nat.zero_le _⟩
  | some d => exact isW_lay O (way_wd O ok h).1 ok
theorem way_shaped {rs : List Rl} {F : List Str} {Ok : Place → Prop} (O : OkR rs Ok) {z : Str} {ns : List Nat} (ok : Ok (z, srt ns)) : SeqAt.shaped (wayD (way rs F z ns)) = true := shaped_of (way_lay O ok) (by decide)
theorem eqv_self {d : PyData} (h : SeqAt.shaped d = true) : PyData.eqv d d = true := by
  exact SeqAt.eqv_refl d (SeqAt.canLay_of_shaped h)
end Lk

/-! K31E -/
set_option Elab.async false
set_option linter.all false
set_option maxRecDepth 100000
set_option maxHeartbeats 4000000
namespace Lk
open PySem PySem.Spec PyProof.Rows L2
section
variable {K : PySem.W.Frag}
theorem fills_readX {σ : L2.St} {H : Hp} {a : Addr} {xs : List V} {ss : List Src} {m : Str} {jm iv : Nat} {tx : TE} {Q : VK} (hv : ∀ R : VK, R (.ref a) H → tx σ H R) (hs : SqT K H a xs) (ha : ThAll K H xs (ss.map Src.d)) (small : ss.length ≤ 1000) (len : ∀ s ∈ ss, SrcLen s) (lm : m.length ≤ 1000000)
    (wp : ∀ x : V, wipe ((wipe σ [iv]).set iv (some x)) [iv] = wipe σ [iv]) (hi : ∀ x : V, ((wipe σ [iv]).set iv (some x))[iv]? = some (some x)) (hm : ∀ x : V, ((wipe σ [iv]).set iv (some x))[jm]? = some (some (.str m)))
    (k : ∀ D H', H D = none → Same H H' → H' D = some (.lst ((ss.map (Src.put m)).map V.str)) → Q (.ref D) H') :
    tLc (iTup K tx) (gName iv) tYes (tCall (spFill K) [] E0 (tCons (tVar iv) (tCons (tVar jm) tNil))) [iv] σ H Q := by
  have hl := thAll_len ha
  rw [List.length_map] at hl
  refine hv _ ⟨a, rfl, ⟨_, hs⟩, fun D nD => ?_⟩
  refine lc_tup (K := K) (a := a) (xs := xs) (fun i H' => H' D = some (.lst (((ss.take i).map (Src.put m)).map V.str)) ∧ Same H H') ⟨upd_same, same_upd nD⟩ (fun i H' _ h => Same.seqT h.2 hs) ?_ ?_
  · rintro i x H' hx ⟨hD, s⟩
    obtain ⟨d, hd, th⟩ := th_at ha hx
    rw [List.getElem?_map, Option.map_eq_some_iff] at hd
    obtain ⟨c, hc, rfl⟩ := hd
    have hlt : i < ss.length := (List.getElem?_eq_some_iff.mp hc).1
    refine ⟨wp x, put_read (c := c) (hi x) (hm x) (th_same s th) (len c (List.mem_of_getElem? hc)) lm ⟨_, hD, ?_, ?_, same_mut s nD⟩⟩
    · rw [List.length_map, List.length_map, List.length_take, sizeLine_eq]
      omega
    · rw [upd_same, List.take_add_one, hc, List.map_append, List.map_append]
      rfl
  · rintro H' ⟨hD, s⟩
    rw [hl, List.take_length] at hD
    exact k D H' nD s hD
end
/-- a row of the law's, as it lies on the heap: its tuple, its list, its number and names, its label -/
abbrev LCell := Addr × Addr × WRow × Str
def LCellOk (H : Hp) (c : LCell) : Prop := H c.1 = some (.tup [.int (c.2.2.1.1 : Int), .str c.2.2.2, .ref c.2.1]) ∧ H c.2.1 = some (.lst (c.2.2.1.2.map V.str))
theorem LCellOk.same {H H' : Hp} {c : LCell} (h : LCellOk H c) (s : Same H H') : LCellOk H' c := ⟨s _ _ h.1, s _ _ h.2⟩
def spLWay (K : PySem.W.Frag) (m : Nat) : Sp := fun vs H Q _ => ∃ (q f t : Addr) (rs : List Rl) (F : List Str) (z : Str) (ns : List Nat) (Ok : Place → Prop), vs = [.ref q, .ref f, .str z, .ref t] ∧ (∃ xs, SqT K H q xs ∧ ThAll K H xs (rs.map Rl.d)) ∧ SqT K H f (F.map V.str) ∧ OkR rs Ok ∧
  H t = some (.tup (ns.map fun n : Nat => V.int (n : Int))) ∧ Ok (z, srt ns) ∧ rs.length + 1 ≤ ns.length + m ∧ ∀ (v : V) (H' : Hp), Same H H' → RW K H' v (way rs F z ns) → Q v H'
/-- (name, label) + what is made of the ways -/
theorem cat_end {K : PySem.W.Frag} {H : Hp} {t1 b : Addr} {z lab : Str} {vs : List V} {ds : List PyData} {Q : VK} (h1 : SqT K H t1 [.str z, .str lab]) (h2 : SqT K H b vs) (ta : ThAll K H vs ds) (ot : onlyTs ds = true) (few : vs.length ≤ 3)
    (k : ∀ v H', Same H H' → Th K H' v (nodeD z lab ds) ∧ onlyT (nodeD z lab ds) = true → Q v H') : rCatA K (.ref t1) (.ref b) H Q := by
  have oo : onlyT (nodeD z lab ds) = true := by
    show onlyTs _ = true
    simp [onlyTs, onlyT, ot]
  refine ⟨t1, b, _, _, rfl, rfl, h1, h2, by rw [sizeLine_eq]; show 2 + vs.length ≤ _; omega, (fun e => nomatch e), fun _ e => ?_, fun _ _ p np => ?_⟩
  · subst e
    cases ta
    exact k _ H (Same.refl H) ⟨.tup h1 (.cons (.str z) (.cons (.str lab) .nil)), oo⟩
  · exact k _ _ (same_upd np) ⟨.tup (SqT.of upd_same) (.cons (.str z) (.cons (.str lab) (thAll_tups (Same.tups (same_upd np)) ta ot))), oo⟩
theorem eqv_none (o : Option PyData) (h : ∀ d, o = some d → ∃ ds, d = .tuple ds) : PyData.eqv (wayD o) .none = o.isNone := by
  cases o with
  | none => rfl
  | some d =>
    obtain ⟨ds, rfl⟩ := h d rfl
    rfl
section
variable {P : Program} {w : World} {K : PySem.W.Frag} {mg : Str → Option Value} {base : Heap}
theorem sc_way : FnScope ["book", "files", "name", "spent", "rows", "number", "rule", "middle", "label", "sources", "ways", "source"] ["book", "files", "name", "spent"] (defScope s_way) := ⟨rfl, rfl, rfl, by decide +kernel, rfl, by decide +kernel, by decide +kernel⟩
set_option maxHeartbeats 0
theorem cal_lway1 {m j : Nat} (hj : 1 ≤ j) (D : Def1 K mg "_law_way" s_way) (G : Glb mg) (T : Glc mg) (CS : Cal P w K mg base 1 "_law_stem" (spLStem K)) (CP : Cal P w K mg base 1 "_law_put" (spFill K)) (CW : Cal P w K mg base j "_law_way" (spLWay K m)) :
    Cal P w K mg base (j + 1) "_law_way" (spLWay K (m + 1)) := by
  refine mkCal D sc_way (fun _ _ _ _ _ _ us hl => match us, hl with | [_, _, _, _], _ => rfl) (fun vs H Q E h => ?_) (fun f cdv A outer s H vs Q E hr h => ?_)
  · obtain ⟨q, f, t, rs, F, z, ns, Ok, rfl, _⟩ := h
    rfl
  · obtain ⟨q, f, t, rs, F, z, ns, Ok, rfl, ⟨xb, hq, hx⟩, hf, O, ht, okp, le, k⟩ := h
    refine ⟨_, (pss_cons (ps_if (pt_cmpR op_in_seq (pv 2) (pv 1) (by rfl)) (pss_one (ps_ret (pe_tup (pa_cons (pv 2) pa_nil)))) pss_nil)
    (pss_cons (ps_set (i := 4) sc_way.nd rfl (.inl rfl) (pe_lst pa_nil))
    (pss_cons (ps_for PassesOwn.never rfl (pi_enT (by rfl) G.enumerate (pa_cons (pv 0) pa_nil)) (pg_tup rfl (pgs_cons (pg_name (i := 5) sc_way.nd rfl (.inr rfl)) (pgs_cons (pg_name (i := 6) sc_way.nd rfl (.inl rfl)) pgs_nil)))
    (pss_cons (ps_set (i := 7) sc_way.nd rfl (.inr rfl) (pe_cal CS hr (by omega) (pa_cons (pe_ix ix_tup (pv 6) pe_int (fun _ _ => rfl)) (pa_cons (pv 2) pa_nil))))
    (pss_one (ps_if (PW.pt (pw_and (pt_cmpR op_notN (pv 7) pe_non (nomark _)) (pw_and1 (pt_cmpR op_notIn_seq (pv 5) (pv 3) (by rfl))))) (pss_one (ps_expr (pe_bm PySem.F.plainAttrs_list PySem.F.slot_list_append PySem.F.type_list_append mt_append (pv 4) (pa_cons (pe_tup (pa_cons (pv 5) (pa_cons (pe_ix ix_tup (pv 6) pe_int (fun _ _ => rfl)) (pa_cons (pe_lc (own := [("source", 11)]) (g := gName 11) (tt := tYes) (by rfl) sc_way.nd (pi_tup (pe_ix ix_tup (pv 6) pe_int (fun _ _ => rfl))) (blkOk_by (own := [("source", 11)]) (N := ["book", "files", "name", "spent", "rows", "number", "rule", "middle", "label", "sources", "ways", "source"]) (sc := defScope s_way) (by decide +kernel)) (fun _ _ _ _ _ => pg_name (i := 11) sc_way.nd rfl (Or.inl rfl)) (fun _ _ _ _ _ => pts_nil) (fun _ _ _ _ _ => (pe_cal CP hr (by omega) (pa_cons (pv 11) (pa_cons (pv 7) pa_nil))))) pa_nil)))) pa_nil)))) pss_nil))))
    (pss_cons (ps_for PassesOwn.never rfl (pi_list (pv 4)) (pg_tup rfl (pgs_cons (pg_name (i := 5) sc_way.nd rfl (.inr rfl)) (pgs_cons (pg_name (i := 8) sc_way.nd rfl (.inl rfl)) (pgs_cons (pg_name (i := 9) sc_way.nd rfl (.inl rfl)) pgs_nil))))
    (pss_one (ps_if (pt_cmpR (op_eqNil hr.units) (pe_lc (own := [("source", 11)]) (g := gName 11) (by rfl) sc_way.nd (pi_list (pv 9)) (blkOk_by (own := [("source", 11)]) (N := ["book", "files", "name", "spent", "rows", "number", "rule", "middle", "label", "sources", "ways", "source"]) (sc := defScope s_way) (by decide +kernel)) (fun _ _ _ _ _ => pg_name (i := 11) sc_way.nd rfl (Or.inl rfl)) (fun _ _ _ _ _ => pts_one (pt_cmpR (show OpR _ (compareOp .NotIn) (rIn K true) from op_notIn_seq) (pv 11) (pv 1) (by rfl))) (fun _ _ _ _ _ => (pv 11))) (pe_lst pa_nil) (nomark _)) (pss_one (ps_ret (pe_op op_catA (pe_tup (pa_cons (pv 2) (pa_cons (pv 8) pa_nil))) (pe_callTy call_tuple_of (by rfl) T.tuple (by decide +kernel) (pa_cons (pe_lc (own := [("source", 11)]) (g := gName 11) (tt := tYes) (by rfl) sc_way.nd (pi_list (pv 9)) (blkOk_by (own := [("source", 11)]) (N := ["book", "files", "name", "spent", "rows", "number", "rule", "middle", "label", "sources", "ways", "source"]) (sc := defScope s_way) (by decide +kernel)) (fun _ _ _ _ _ => pg_name (i := 11) sc_way.nd rfl (Or.inl rfl)) (fun _ _ _ _ _ => pts_nil) (fun _ _ _ _ _ => (pe_tup (pa_cons (pv 11) pa_nil)))) pa_nil))))) pss_nil)))
    (pss_cons (ps_for PassesOwn.never rfl (pi_list (pv 4)) (pg_tup rfl (pgs_cons (pg_name (i := 5) sc_way.nd rfl (.inr rfl)) (pgs_cons (pg_name (i := 8) sc_way.nd rfl (.inl rfl)) (pgs_cons (pg_name (i := 9) sc_way.nd rfl (.inl rfl)) pgs_nil))))
    (pss_cons (ps_setLc (i := 10) (own := [("source", 11)]) (g := gName 11) (tt := tYes) (by rfl) sc_way.nd rfl rfl (sw_true rfl rfl rfl (by decide +kernel)) (pi_list (pv 9)) (blkOk_by (own := [("source", 11)]) (N := ["book", "files", "name", "spent", "rows", "number", "rule", "middle", "label", "sources", "ways", "source"]) (sc := defScope s_way) (by decide +kernel)) (fun _ _ _ _ _ => pg_name (i := 11) sc_way.nd rfl (Or.inl rfl)) (fun _ _ _ _ _ => pts_nil) (fun _ _ _ _ _ => (pe_cal CW hr (by omega) (pa_cons (pv 0) (pa_cons (pv 1) (pa_cons (pv 11) (pa_cons (pe_op (show OpR _ (binaryOp .Add) (rCatA K) from op_catA) (pv 3) (pe_tup (pa_cons (pv 5) pa_nil))) pa_nil)))))))
    (pss_one (ps_if (pt_cmpR (op_notInD (units65 hr)) pe_non (pv 10) (by rfl)) (pss_one (ps_ret (pe_op op_catA (pe_tup (pa_cons (pv 2) (pa_cons (pv 8) pa_nil))) (pe_callTy call_tuple_of (by rfl) T.tuple (by decide +kernel) (pa_cons (pv 10) pa_nil))))) pss_nil))))
    (pss_one (ps_ret pe_non))))))), ?_⟩
    obtain ⟨nd0, lt0⟩ := O.nd _ okp
    have pm := srt_perm ns
    have nd : ns.Nodup := pm.nodup_iff.mp nd0
    have lt : ∀ k ∈ ns, k < rs.length := fun k mk => lt0 k (pm.mem_iff.mpr mk)
    have lz : z.length ≤ 1000 := (O.tx _ okp).2
    have many := (book_len O.bk).1
    have blen := (book_len O.bk).2
    have lns : ns.length ≤ 6 := by
      have y := nodup_len (l := ns) (m := List.range rs.length) nd fun k m => List.mem_range.mpr (lt k m)
      rw [List.length_range] at y
      omega
    refine ⟨_, rfl, _, rfl, f, _, rfl, .inr hf, rfl, flat_strs, _, rfl, ?_⟩
    by_cases hz : z ∈ F
    · refine iteT' ?_ ?_
      · show inV (V.str z) _ = true
        rw [in_strs, decide_eq_true hz]
      refine ⟨_, rfl, (by show 1 ≤ sizeLine; decide), fun p np => ?_⟩
      refine k (.ref p) _ (same_upd np) ?_
      rw [way_in hz]
      exact ⟨.tup (SqT.of upd_same) (.cons (.str z) .nil), rfl⟩
    refine iteF' ?_ ?_
    · show inV (V.str z) _ = false
      rw [in_strs, decide_eq_false hz]
    refine ⟨(by show 0 ≤ sizeLine; decide), fun D nD => ?_⟩
    have hl := thAll_len hx
    rw [List.length_map] at hl
    refine ⟨_, rfl, q, _, rfl, Same.seqT (same_upd nD) hq, for_enT (K := K) (a := q) (xs := xb) (fun i σ H' => ∃ v5 v6 v7 : Option V, σ = [some (.ref q), some (.ref f), some (.str z), some (.ref t), some (.ref D), v5, v6, v7, none, none, none, none] ∧ Same H H' ∧
      ∃ L : List LCell, H' D = some (.lst (L.map fun c => V.ref c.1)) ∧ (∀ c ∈ L, LCellOk H' c ∧ c.2.1 ≠ D ∧ c.1 ≠ D ∧ c.2.2.2 = labO rs c.2.2.1.1) ∧ L.map (·.2.2.1) = ((rs.zipIdx).take i).filterMap (rowOf z ns))
      ⟨_, _, _, rfl, same_upd nD, [], upd_same, (fun _ m => nomatch m), rfl⟩ (fun i σ H' ⟨_, _, _, _, s, _⟩ => Same.seqT s hq) ?_ ?_⟩
    · rintro i x σ H' T' hx2 nT ⟨v5, v6, v7, rfl, sH, L, hD, cells, eL⟩
      obtain ⟨d, hd, th⟩ := th_at hx hx2
      rw [List.getElem?_map, Option.map_eq_some_iff] at hd
      obtain ⟨r, hr2, rfl⟩ := hd
      have R := blen r (List.mem_of_getElem? hr2)
      have hzi : (rs.zipIdx)[i]? = some (r, i) := by rw [List.getElem?_zipIdx, hr2]; simp
      have hlt : i < rs.length := (List.getElem?_eq_some_iff.mp hr2).1
      have s1 : Same H' (upd H' T' (.tup [.int (i : Int), x])) := same_upd nT
      refine ⟨T', _, rfl, .inl (.inl upd_same), rfl, _, _, rfl, _, _, rfl, rfl, ?_⟩
      generalize upd H' T' (.tup [.int (i : Int), x]) = H1 at s1 ⊢
      have sH1 := sH.trans s1
      have hD1 := s1 _ _ hD
      obtain ⟨a, p, s, ys, rfl, ha3, hp, hs, hys⟩ := th_rule (th_same sH1 th)
      refine ⟨_, rfl, a, _, 1, _, rfl, rfl, ha3, atI_nat (j := 1) rfl, _, rfl, p, r.b, r.e, z, rfl, hp, Nat.le_trans R.lb (by decide), Nat.le_trans R.le (by decide), Nat.le_trans lz (by decide), ?_⟩
      have cells1 : ∀ c ∈ L, LCellOk H1 c ∧ c.2.1 ≠ D ∧ c.1 ≠ D ∧ c.2.2.2 = labO rs c.2.2.1.1 := fun c m => ⟨(cells c m).1.same s1, (cells c m).2⟩
      have skip : stemO r.b r.e z = none ∨ i ∈ ns → L.map (·.2.2.1) = ((rs.zipIdx).take (i + 1)).filterMap (rowOf z ns) := fun h => by
        rw [fm_step hzi, row_no h, ← eL]
        simp
      cases hst : stemO r.b r.e z with
      | none =>
        refine ⟨fun m' hm' => ?_, fun _ => ?_⟩
        · rw [stemO_some hm'] at hst
          cases hst
        · refine ⟨_, rfl, rfl, _, rfl, iteF' rfl ?_⟩
          exact ⟨_, _, _, rfl, sH1, L, hD1, cells1, skip (.inl hst)⟩
      | some mm =>
        refine ⟨fun m' hm' => ?_, fun no => absurd ⟨mm, stemO_eq hst⟩ no⟩
        rw [stemO_some hm'] at hst
        obtain rfl := Option.some.inj hst
        replace hst := stemO_some hm'
        refine ⟨_, rfl, rfl, _, rfl, iteT' rfl ?_⟩
        refine ⟨_, rfl, _, rfl, t, _, rfl, .inr (SqT.of (sH1 _ _ ht)), rfl, flat_ints, _, rfl, ?_⟩
        by_cases hin : i ∈ ns
        · refine iteF' ?_ ?_
          · show (!inV (V.int (i : Int)) _) = false
            rw [in_ints, decide_eq_true hin]
            rfl
          · exact ⟨_, _, _, rfl, sH1, L, hD1, cells1, skip (.inr hin)⟩
        · refine iteT' ?_ ?_
          · show (!inV (V.int (i : Int)) _) = true
            rw [in_ints, decide_eq_false hin]
            rfl
          · have lm := stemO_len hst
            refine ⟨_, rfl, .inl ⟨rfl, _, SqL.of hD1⟩, ?_⟩
            refine ⟨_, rfl, _, rfl, a, _, 0, _, rfl, rfl, ha3, atI_nat (j := 0) rfl, ?_⟩
            refine fills_readX (K := K) (σ := [some (.ref q), some (.ref f), some (.str z), some (.ref t), some (.ref D), some (.int (i : Int)), some (.ref a), some (.str m'), none, none, none, none]) (a := s) (xs := ys) (ss := r.ss) (m := m') (jm := 7) (iv := 11) (fun R h => ⟨_, rfl, a, _, 2, _, rfl, rfl, ha3, atI_nat (j := 2) rfl, h⟩) hs hys (Nat.le_trans R.ls (by decide)) R.each (by omega) (fun _ => rfl) (fun _ => rfl) (fun _ => rfl) fun l H2 nl s2 hl2 => ?_
            refine ⟨(by show 3 ≤ sizeLine; decide), fun p2 np2 => ?_⟩
            have s3 : Same H2 (upd H2 p2 (.tup [.int (i : Int), .str r.lab, .ref l])) := same_upd np2
            have at2 : upd H2 p2 (.tup [.int (i : Int), .str r.lab, .ref l]) p2 = some (.tup [.int (i : Int), .str r.lab, .ref l]) := upd_same
            have hl3 := s3 _ _ hl2
            have hD3 := s3 _ _ (s2 _ _ hD1)
            have s13 := s2.trans s3
            generalize upd H2 p2 (.tup [.int (i : Int), .str r.lab, .ref l]) = H3 at s3 at2 hl3 hD3 s13 ⊢
            have nlD : l ≠ D := fun z => by
              rw [z, hD1] at nl
              cases nl
            have np2D : p2 ≠ D := fun z => by
              rw [z, hD3] at at2
              cases at2
            have few : L.length ≤ 6 := by
              have z1 := congrArg List.length eL
              have z2 := List.length_filterMap_le (rowOf z ns) ((rs.zipIdx).take i)
              rw [List.length_map] at z1
              rw [List.length_take, List.length_zipIdx] at z2
              omega
            have eapp : (L.map fun c => V.ref c.1) ++ [V.ref p2] = (L ++ [(p2, l, (i, r.ss.map (Src.put m')), r.lab)]).map fun c => V.ref c.1 := by
              rw [List.map_append]
              rfl
            refine ⟨D, _, _, rfl, rfl, hD3, by rw [List.length_map, sizeLine_eq]; omega, ?_⟩
            rw [eapp]
            refine ⟨_, _, _, rfl, same_mut (sH1.trans s13) nD, _, upd_same, fun c mc => ?_, ?_⟩
            · rcases List.mem_append.mp mc with mc | mc
              · obtain ⟨g, n1, n2, e⟩ := cells1 c mc
                have g3 := g.same s13
                exact ⟨⟨(upd_ne n2).trans g3.1, (upd_ne n1).trans g3.2⟩, n1, n2, e⟩
              · rw [List.mem_singleton.mp mc]
                refine ⟨⟨(upd_ne np2D).trans at2, (upd_ne nlD).trans hl3⟩, nlD, np2D, ?_⟩
                show r.lab = labO rs i
                unfold labO
                rw [hr2]
            · rw [fm_step hzi, row_yes hst hin, List.map_append, eL]
              rfl
    · rintro σ H1 ⟨v5, v6, v7, rfl, s1, L, hD, cells, eL⟩
      have eL2 : L.map (·.2.2.1) = fitD rs z ns := by
        rw [eL, hl]
        unfold fitD
        congr 1
        exact List.take_of_length_le (by rw [List.length_zipIdx]; exact Nat.le_refl _)
      have few : L.length ≤ 6 := by
        have z1 := congrArg List.length eL2
        have z2 := List.length_filterMap_le (rowOf z ns) rs.zipIdx
        rw [List.length_map] at z1
        rw [List.length_zipIdx] at z2
        unfold fitD at z1
        omega
      have inL : ∀ c ∈ L, c.2.2.1 ∈ fitD rs z ns := fun c mc => by
        rw [← eL2]
        exact List.mem_map.mpr ⟨c, mc, rfl⟩
      have short : ∀ c ∈ L, c.2.2.1.2.length ≤ 3 := fun c mc => by
        obtain ⟨r, hr2, _, _, e⟩ := fit_row (inL c mc)
        rw [e]
        exact of_few (blen r (List.mem_of_getElem? hr2)) z
      have at_ : ∀ {i : Nat} {c : LCell}, L[i]? = some c → (fitD rs z ns)[i]? = some c.2.2.1 := fun {i c} h => by
        rw [← eL2, List.getElem?_map, h]
        rfl
      have hq1 := Same.seqT s1 hq
      have hx1 := thAll_same s1 hx
      have hf1 := Same.seqT s1 hf
      have ht1 := s1 _ _ ht
      refine ⟨_, rfl, D, rfl, ⟨_, SqL.of hD⟩, ?_⟩
      refine for_list (K := K) (a := D) (xs := L.map fun c => V.ref c.1) (fun i σ H' => ∃ v5 v6 v7 v8 v9 : Option V, σ = [some (.ref q), some (.ref f), some (.str z), some (.ref t), some (.ref D), v5, v6, v7, v8, v9, none, none] ∧ Same H1 H' ∧ ∀ d ∈ (fitD rs z ns).take i, ¬ ∀ s ∈ d.2, s ∈ F)
        ⟨_, _, _, _, _, rfl, Same.refl H1, fun d m => by rw [List.take_zero] at m; cases m⟩ (fun i σ H' _ ⟨_, _, _, _, _, _, s, _⟩ => SqL.of (s _ _ hD)) ?_ ?_
      · rintro i x σ H2 hx2 ⟨v5, v6, v7, v8, v9, rfl, s2, no⟩
        obtain ⟨c, hc, rfl⟩ := Option.map_eq_some_iff.mp ((List.getElem?_map ..).symm.trans hx2)
        have mc := List.mem_of_getElem? hc
        obtain ⟨g, _, _, elb⟩ := cells c mc
        obtain ⟨g1, g2⟩ := g.same s2
        have sc3 := short c mc
        refine ⟨c.1, _, rfl, SqT.of g1, rfl, _, _, rfl, _, _, rfl, _, _, rfl, rfl, ?_⟩
        refine ⟨_, rfl, c.2.1, rfl, ⟨_, SqL.of g2⟩, fun D2 nD2 => ?_⟩
        refine lc_list (K := K) (a := c.2.1) (xs := c.2.2.1.2.map V.str) (fun j H' => Same H2 H' ∧ H' D2 = some (.lst (((c.2.2.1.2.take j).filter fun s => decide (s ∉ F)).map V.str))) ⟨same_upd nD2, upd_same⟩ (fun j H' _ h => h.1.seq (SqL.of g2)) ?_ ?_
        · rintro j y H3 hy ⟨s3, hD2⟩
          obtain ⟨s, hs, rfl⟩ := Option.map_eq_some_iff.mp ((List.getElem?_map ..).symm.trans hy)
          have hf3 := Same.seqT (s2.trans s3) hf1
          refine ⟨rfl, _, rfl, _, rfl, f, _, rfl, .inr hf3, rfl, flat_strs, _, rfl, ?_⟩
          have step := filter_step (p := fun s => decide (s ∉ F)) hs
          by_cases hin : s ∈ F
          · refine iteF' ?_ ⟨s3, ?_⟩
            · show (!inV (V.str s) _) = false
              rw [in_strs, decide_eq_true hin]
              rfl
            · rw [step, if_neg (by simpa using hin), List.append_nil]
              exact hD2
          · refine iteT' ?_ ?_
            · show (!inV (V.str s) _) = true
              rw [in_strs, decide_eq_false hin]
              rfl
            · refine ⟨_, rfl, _, hD2, ?_, same_mut s3 nD2, ?_⟩
              · have := List.length_filter_le (fun s => decide (s ∉ F)) (c.2.2.1.2.take j)
                rw [List.length_take] at this
                rw [List.length_map, sizeLine_eq]
                omega
              · rw [upd_same, step, if_pos (by simpa using hin), List.map_append]
                rfl
        · rintro H3 ⟨s3, hD2⟩
          rw [List.length_map, List.take_length] at hD2
          refine ⟨(by show 0 ≤ sizeLine; decide), fun E nE => ?_⟩
          have s4 := s3.trans (same_upd (o := .lst []) nE)
          have hD24 := same_upd (o := .lst []) nE _ _ hD2
          refine ⟨D2, E, _, rfl, rfl, SqL.of hD24, SqL.of upd_same, _, rfl, ?_⟩
          have s24 := s2.trans s4
          have g24 := s4 _ _ g2
          generalize upd H3 E (.lst []) = H4 at s4 s24 g24
          have yes : ((c.2.2.1.2.filter fun s => decide (s ∉ F)).map V.str).isEmpty = true ↔ ∀ s ∈ c.2.2.1.2, s ∈ F := by
            rw [List.isEmpty_iff, List.map_eq_nil_iff, List.filter_eq_nil_iff]
            exact ⟨fun h s m => by have := h s m; simpa using this, fun h s m => by simpa using h s m⟩
          by_cases hall : ∀ s ∈ c.2.2.1.2, s ∈ F
          · refine iteT' (yes.mpr hall) ?_
            refine ⟨_, rfl, _, rfl, (by show 2 ≤ sizeLine; decide), fun t1 nt1 => ?_⟩
            have s5 := same_upd (o := .tup [.str z, .str c.2.2.2]) nt1
            have ht5 : upd H4 t1 (.tup [.str z, .str c.2.2.2]) t1 = some (.tup [.str z, .str c.2.2.2]) := upd_same
            have s25 := s24.trans s5
            have g25 := s5 _ _ g24
            generalize upd H4 t1 (.tup [.str z, .str c.2.2.2]) = H5 at s5 ht5 s25 g25
            refine ⟨_, rfl, c.2.1, rfl, ⟨_, SqL.of g25⟩, fun D3 nD3 => ?_⟩
            refine lc_list (K := K) (a := c.2.1) (xs := c.2.2.1.2.map V.str) (fun j H' => Same H5 H' ∧ ∃ vs, H' D3 = some (.lst vs) ∧ ThAll K H' vs ((c.2.2.1.2.take j).map leafD)) ⟨same_upd nD3, [], upd_same, .nil⟩ (fun j H' _ h => h.1.seq (SqL.of g25)) ?_ ?_
            · rintro j y H6 hy ⟨s6, vs, hD3, ta⟩
              obtain ⟨s, hs, rfl⟩ := Option.map_eq_some_iff.mp ((List.getElem?_map ..).symm.trans hy)
              refine ⟨rfl, _, rfl, (by show 1 ≤ sizeLine; decide), fun p np => ?_⟩
              have s7 := same_upd (o := .tup [.str s]) np
              have hp7 : upd H6 p (.tup [.str s]) p = some (.tup [.str s]) := upd_same
              have hD7 := s7 _ _ hD3
              have ta7 := thAll_same s7 ta
              have s67 := s6.trans s7
              generalize upd H6 p (.tup [.str s]) = H7 at s7 hp7 hD7 ta7 s67
              have lv := thAll_len ta7
              rw [List.length_map, List.length_take] at lv
              have t8 := upd_tups (u := .lst (vs ++ [.ref p])) hD7
              have o7 : onlyTs ((c.2.2.1.2.take j).map leafD) = true := onlyTs_all.mpr fun d m => by
                obtain ⟨s, _, rfl⟩ := List.mem_map.mp m
                rfl
              refine ⟨vs, hD7, by rw [sizeLine_eq]; omega, same_mut s67 nD3, _, upd_same, ?_⟩
              rw [List.take_add_one, hs, List.map_append]
              exact snoc_all (thAll_tups t8 ta7 o7) (th_tups t8 (.tup (SqT.of hp7) (.cons (.str s) .nil) : Th K H7 (.ref p) (leafD s)) rfl)
            · rintro H6 ⟨s6, vs, hD3, ta⟩
              rw [List.length_map, List.take_length] at ta
              refine ⟨D3, vs, rfl, .inl ⟨SqL.of hD3, fun b nb => ?_⟩⟩
              have s7 := same_upd (o := .tup vs) nb
              have hb : upd H6 b (.tup vs) b = some (.tup vs) := upd_same
              have ta7 := thAll_same s7 ta
              have s57 := s6.trans s7
              generalize upd H6 b (.tup vs) = H7 at s7 hb ta7 s57
              have lv := thAll_len ta7
              rw [List.length_map] at lv
              refine cat_end (SqT.of (s57 _ _ ht5)) (SqT.of hb) ta7 (onlyTs_all.mpr fun d m => by obtain ⟨s, _, rfl⟩ := List.mem_map.mp m; rfl) (by omega) fun v H8 s8 hv => ?_
              refine k v H8 ((s1.trans (s25.trans s57)).trans s8) ?_
              rw [way_ready nd lt hz (at_ hc) no hall, ← elb]
              exact hv
          · refine iteF' (by rw [Bool.eq_false_iff]; exact fun z => hall (yes.mp z)) ?_
            refine ⟨_, _, _, _, _, rfl, s24, fun d m => ?_⟩
            rw [List.take_add_one, at_ hc] at m
            rcases List.mem_append.mp m with m | m
            · exact no d m
            · have e : d = c.2.2.1 := by simpa using m
              rw [e]
              exact hall
      · rintro σ H2 ⟨v5, v6, v7, v8, v9, rfl, s2, no⟩
        have no2 : ∀ d ∈ fitD rs z ns, ¬ ∀ s ∈ d.2, s ∈ F := fun d m => no d (by
          rw [List.length_map, ← List.length_map (f := fun c : LCell => c.2.2.1), eL2, List.take_length]
          exact m)
        have once := way_once nd lt hz no2
        have hq2 := Same.seqT s2 hq1
        have hx2 := thAll_same s2 hx1
        have hf2 := Same.seqT s2 hf1
        have ht2 := s2 _ _ ht1
        have hD2 := s2 _ _ hD
        refine ⟨_, rfl, D, rfl, ⟨_, SqL.of hD2⟩, ?_⟩
        refine for_list (K := K) (a := D) (xs := L.map fun c => V.ref c.1) (fun i σ H' => ∃ v5 v6 v7 v8 v9 v10 : Option V, σ = [some (.ref q), some (.ref f), some (.str z), some (.ref t), some (.ref D), v5, v6, v7, v8, v9, v10, none] ∧ Same H2 H' ∧ ((fitD rs z ns).take i).findSome? (rowW rs F z ns) = none)
          ⟨_, _, _, _, _, _, rfl, Same.refl H2, rfl⟩ (fun i σ H' _ ⟨_, _, _, _, _, _, _, s, _⟩ => SqL.of (s _ _ hD2)) ?_ ?_
        · rintro i x σ H3 hx3 ⟨v5, v6, v7, v8, v9, v10, rfl, s3, non⟩
          obtain ⟨c, hc, rfl⟩ := Option.map_eq_some_iff.mp ((List.getElem?_map ..).symm.trans hx3)
          have mc := List.mem_of_getElem? hc
          obtain ⟨g, _, _, elb⟩ := cells c mc
          obtain ⟨g1, g2⟩ := g.same (s2.trans s3)
          have sc3 := short c mc
          refine ⟨c.1, _, rfl, SqT.of g1, rfl, _, _, rfl, _, _, rfl, _, _, rfl, rfl, ?_⟩
          have okn : ∀ s ∈ c.2.2.1.2, Ok (s, srt (ns ++ [c.2.2.1.1])) := fun s ms => by
            rw [srt_snoc]
            exact ok_succ O okp (inL c mc) ms
          have perm : (ns ++ [c.2.2.1.1]).Perm (c.2.2.1.1 :: ns) := List.perm_append_singleton _ _
          have le2 : rs.length + 1 ≤ (ns ++ [c.2.2.1.1]).length + m := by
            rw [List.length_append]
            show _ ≤ _ + 1 + m
            omega
          refine ⟨_, rfl, c.2.1, rfl, ⟨_, SqL.of g2⟩, fun D3 nD3 => ?_⟩
          refine lc_list (K := K) (a := c.2.1) (xs := c.2.2.1.2.map V.str) (fun j H' => Same H3 H' ∧ ∃ vs os, H' D3 = some (.lst vs) ∧ ThAll K H' vs (os.map wayD) ∧ onlyTs (os.map wayD) = true ∧ os = (c.2.2.1.2.take j).map fun s => way rs F s (ns ++ [c.2.2.1.1]))
            ⟨same_upd nD3, [], [], upd_same, .nil, rfl, rfl⟩ (fun j H' _ h => h.1.seq (SqL.of g2)) ?_ ?_
          · rintro j y H4 hy ⟨s4, vs, os, hD3, ta, ot, eos⟩
            obtain ⟨s, hs, rfl⟩ := Option.map_eq_some_iff.mp ((List.getElem?_map ..).symm.trans hy)
            have ms := List.mem_of_getElem? hs
            refine ⟨rfl, _, rfl, _, rfl, _, rfl, ?_⟩
            have s34 := s3.trans s4
            refine cat_read (K := K) (t0 := t) (ns := ns) (n := c.2.2.1.1) (i := 3) (j := 5) rfl rfl (s34 _ _ ht2) (by omega) fun u H5 s5 hu => ?_
            have s35 := s34.trans s5
            refine ⟨q, f, u, rs, F, s, ns ++ [c.2.2.1.1], Ok, rfl, ⟨xb, Same.seqT s35 hq2, thAll_same s35 hx2⟩, Same.seqT s35 hf2, O, hu, okn s ms, le2, fun v H6 s6 rw6 => ?_⟩
            have hD6 := s6 _ _ (s5 _ _ hD3)
            have ta6 := thAll_same (s5.trans s6) ta
            have t7 := upd_tups (u := .lst (vs ++ [v])) hD6
            have lv := thAll_len ta6
            rw [List.length_map, eos, List.length_map, List.length_take] at lv
            have ov : onlyT (wayD (way rs F s (ns ++ [c.2.2.1.1]))) = true := by
              revert rw6
              cases way rs F s (ns ++ [c.2.2.1.1]) with
              | none => exact fun _ => rfl
              | some d => exact fun h => h.2
            refine ⟨vs, hD6, by rw [sizeLine_eq]; omega, same_mut (s4.trans (s5.trans s6)) nD3, _, os ++ [way rs F s (ns ++ [c.2.2.1.1])], upd_same, ?_, ?_, ?_⟩
            · rw [List.map_append]
              exact snoc_all (thAll_tups t7 ta6 ot) (th_tups t7 rw6.th ov)
            · rw [List.map_append]
              exact onlyTs_all.mpr fun e me => by
                rcases List.mem_append.mp me with me | me
                · exact onlyTs_all.mp ot e me
                · rw [List.mem_singleton.mp me]
                  exact ov
            · rw [List.take_add_one, hs, List.map_append, eos]
              rfl
          · rintro H4 ⟨s4, vs, os, hD3, ta, ot, eos⟩
            rw [List.length_map, List.take_length] at eos
            have lay : ∀ d ∈ os.map wayD, d.canLay0 = true ∧ d.depth ≤ 7 := fun d md => by
              rw [eos, List.map_map] at md
              obtain ⟨s, ms, rfl⟩ := List.mem_map.mp md
              exact way_lay O (okn s ms)
            have sh : SeqAt.shaped (.list (os.map wayD)) = true := by
              have y := lay_tuple lay
              exact shaped_of (d := .list (os.map wayD)) (b := 8) ⟨y.1, y.2⟩ (by decide)
            refine ⟨_, rfl, .none, os.map wayD, .non, th_dp (.lst (SqL.of hD3) ta) (by have y := lay_tuple lay; exact y.1), rfl, sh, _, rfl, ?_⟩
            have each : ∀ o ∈ os, PyData.eqv (wayD o) .none = o.isNone := fun o mo => eqv_none o fun d e => by
              subst e
              rw [eos] at mo
              obtain ⟨s, ms, e⟩ := List.mem_map.mp mo
              exact way_tup ((srt_perm _).nodup_iff.mp (O.nd _ (okn s ms)).1) (fun k mk => (O.nd _ (okn s ms)).2 k (mem_srt.mpr mk)) e
            have isn : ((os.map wayD).any fun z => PyData.eqv z .none) = true ↔ none ∈ os := by
              rw [List.any_map, List.any_eq_true]
              constructor
              · rintro ⟨o, mo, e⟩
                have e2 : PyData.eqv (wayD o) .none = true := e
                rw [each o mo] at e2
                cases o with
                | none => exact mo
                | some d => cases e2
              · intro mo
                exact ⟨none, mo, rfl⟩
            have erow : rowW rs F z ns c.2.2.1 = (allO os).map (nodeD z c.2.2.2) := by
              unfold rowW
              rw [eos, elb]
              congr 2
              exact List.map_congr_left fun s _ => (way_perm perm).symm
            by_cases hno : none ∈ os
            · refine iteF' (by rw [isn.mpr hno]; rfl) ?_
              refine ⟨_, _, _, _, _, _, rfl, s3.trans s4, first_no (at_ hc) non ?_⟩
              rw [erow, allO_none.mpr hno]
              rfl
            · refine iteT' (by rw [Bool.eq_false_iff.mpr fun z => hno (isn.mp z)]; rfl) ?_
              obtain ⟨ds, hds⟩ : ∃ ds, allO os = some ds := by
                cases e : allO os with
                | none => exact absurd (allO_none.mp e) hno
                | some ds => exact ⟨ds, rfl⟩
              have eds := allO_some.mp hds
              have edm : os.map wayD = ds := by
                rw [eds, List.map_map]
                exact (List.map_congr_left fun d _ => rfl).trans (List.map_id _)
              rw [edm] at ta ot
              refine ⟨_, rfl, _, rfl, (by show 2 ≤ sizeLine; decide), fun t1 nt1 => ?_⟩
              have s5 := same_upd (o := .tup [.str z, .str c.2.2.2]) nt1
              have ht5 : upd H4 t1 (.tup [.str z, .str c.2.2.2]) t1 = some (.tup [.str z, .str c.2.2.2]) := upd_same
              have hD5 := s5 _ _ hD3
              have ta5 := thAll_same s5 ta
              have s45 := s4.trans s5
              generalize upd H4 t1 (.tup [.str z, .str c.2.2.2]) = H5 at s5 ht5 hD5 ta5 s45
              refine ⟨_, rfl, D3, vs, rfl, .inl ⟨SqL.of hD5, fun b nb => ?_⟩⟩
              have s6 := same_upd (o := .tup vs) nb
              have hb : upd H5 b (.tup vs) b = some (.tup vs) := upd_same
              have ta6 := thAll_same s6 ta5
              have ht6 := s6 _ _ ht5
              have s46 := s45.trans s6
              generalize upd H5 b (.tup vs) = H6 at s6 hb ta6 ht6 s46
              have lv := thAll_len ta6
              have lds := congrArg List.length eds
              rw [eos, List.length_map, List.length_map] at lds
              refine cat_end (SqT.of ht6) (SqT.of hb) ta6 ot (by omega) fun v H8 s8 hv => ?_
              refine k v H8 ((s1.trans (s2.trans (s3.trans s46))).trans s8) ?_
              rw [once, first_at (at_ hc) non (d := nodeD z c.2.2.2 ds) (by rw [erow, hds]; rfl)]
              exact hv
        · rintro σ H3 ⟨v5, v6, v7, v8, v9, v10, rfl, s3, non⟩
          have e : (L.map fun c => V.ref c.1).length = (fitD rs z ns).length := by
            rw [← eL2, List.length_map, List.length_map]
          rw [e, List.take_length] at non
          refine k .non H3 (s1.trans (s2.trans s3)) ?_
          rw [once, non]
          rfl
theorem cal_lway (D : Def1 K mg "_law_way" s_way) (G : Glb mg) (T : Glc mg) (CS : Cal P w K mg base 1 "_law_stem" (spLStem K)) (CP : Cal P w K mg base 1 "_law_put" (spFill K)) : ∀ m, Cal P w K mg base (m + 1) "_law_way" (spLWay K m)
  | 0 => cal_never (ps := ["book", "files", "name", "spent"]) D (fun _ _ _ _ _ _ us hl => match us, hl with | [_, _, _, _], _ => rfl) fun vs H Q E h => by
    obtain ⟨q, f, t, rs, F, z, ns, Ok, _, _, _, O, _, okp, le, _⟩ := h
    obtain ⟨nd, lt⟩ := O.nd _ okp
    have y := nodup_len (l := srt ns) (m := List.range rs.length) nd fun k m => List.mem_range.mpr (lt k m)
    rw [List.length_range, (srt_perm ns).length_eq] at y
    omega
  | m + 1 => cal_lway1 (by omega) D G T CS CP (cal_lway D G T CS CP m)
end
end Lk

/-! K31F -/
set_option Elab.async false
set_option linter.all false
set_option maxRecDepth 100000
set_option maxHeartbeats 4000000
namespace Lk
open PySem PySem.Spec PyProof.Rows L2
/-! ### columns -/
def spColumn : Sp := fun vs H Q _ => ∃ at' many : Nat, vs = [.int (at' : Int), .int (many : Int)] ∧ at' < many ∧ many ≤ 12 ∧ Q (.int ((bits (2 ^ many) fun s => s.testBit at' : Nat) : Int)) H
section
variable {P : Program} {w : World} {K : PySem.W.Frag} {mg : Str → Option Value} {base : Heap}
theorem sc_p_column : FnScope ["at", "many", "turn", "found", "place"] ["at", "many"] (defScope s_p_column) := ⟨rfl, rfl, rfl, by decide +kernel, rfl, by decide +kernel, by decide +kernel⟩
theorem pow12 {p : Nat} (h : p ≤ 12) : 2 ^ p ≤ 4096 := Nat.pow_le_pow_right (by decide) h
theorem nex_for {x : V} {i : Nat} {w : TI} {g : TG} {tb r : TS} {D : Ends} {σ : L2.St} {H : Hp} (h : tFor w g tb { D with nx := r D } (σ.set i (some x)) H) : gName i x σ H (tSeq (tFor w g tb) r D) := h
set_option maxHeartbeats 0
theorem cal_column (D : Def1 K mg "column" s_p_column) (G : Glb mg) : Cal P w K mg base 1 "column" spColumn := by
  refine mkCal D sc_p_column (fun _ _ _ _ _ _ us hl => match us, hl with | [_, _], _ => rfl) (fun vs H Q E h => ?_) (fun f cdv A outer s H vs Q E hr h => ?_)
  · obtain ⟨a, m, rfl, _⟩ := h
    rfl
  · obtain ⟨a, m, rfl, lt, le, k⟩ := h
    refine ⟨_, (pss_cons (ps_set (i := 2) sc_p_column.nd rfl (.inl rfl) (pe_op op_shlM pe_int (pv 0)))
    (pss_cons (ps_set (i := 3) sc_p_column.nd rfl (.inl rfl) (pe_op op_shlM (pe_op op_sub (pe_op op_shlM pe_int (pv 2)) pe_int) (pv 2)))
    (pss_cons (ps_for PassesOwn.never rfl (pi_range2 (by rfl) G.range (pa_cons (pe_op op_add (pv 0) pe_int) (pa_cons (pv 1) pa_nil))) (pg_name (i := 4) sc_p_column.nd rfl (.inl rfl))
    (pss_one (ps_aug (i := 3) sc_p_column.nd rfl (.inl rfl) (pe_op op_shlM (pv 3) (pe_op op_shlM pe_int (pv 4))) ip_or)))
    (pss_one (ps_ret (pv 3)))))), ?_⟩
    have pa := pow12 (show a ≤ 12 by omega)
    refine ⟨_, rfl, 1, a, rfl, rfl, ⟨1, by decide, by omega⟩, ?_⟩
    refine nx_open (next_read ?_)
    have e1 : 1 * 2 ^ a = 2 ^ a := Nat.one_mul _
    refine ⟨_, rfl, 1, 1 * 2 ^ a, rfl, rfl, ⟨1, by decide, by omega⟩, _, _, rfl, rfl, ?_⟩
    have e2 : (((1 * 2 ^ (1 * 2 ^ a) : Nat) : Int) - 1) = ((2 ^ 2 ^ a - 1 : Nat) : Int) := by
      have := Nat.pow_pos (n := 2 ^ a) (show 0 < 2 by decide)
      rw [e1, Nat.one_mul]
      omega
    refine ⟨_, rfl, 2 ^ 2 ^ a - 1, 1 * 2 ^ a, congrArg V.int e2, rfl, ⟨2 ^ a, by have := Nat.pow_pos (n := 2 ^ a) (show 0 < 2 by decide); omega, by omega⟩, ?_⟩
    have e3 : (2 ^ 2 ^ a - 1) * 2 ^ (1 * 2 ^ a) = bits (2 ^ (a + 1)) fun s => s.testBit a := by rw [e1, col_start]
    show gName 3 (.int (((2 ^ 2 ^ a - 1) * 2 ^ (1 * 2 ^ a) : Nat) : Int)) _ _ _
    rw [e3]
    refine nex_for ?_
    refine ⟨_, rfl, _, _, rfl, rfl, _, rfl, ?_⟩
    refine ⟨_, _, rfl, ⟨by omega, by omega, by omega, by omega⟩, ?_⟩
    have en : ((m : Int) - ((a : Int) + 1)).toNat = m - (a + 1) := by omega
    rw [en]
    refine for_range (lo := (a : Int) + 1) (n := m - (a + 1)) (fun i σ H' => ∃ v4 : Option V, σ = [some (.int (a : Int)), some (.int (m : Int)), some (.int ((1 * 2 ^ a : Nat) : Int)), some (.int ((bits (2 ^ (a + 1 + i)) fun s => s.testBit a : Nat) : Int)), v4] ∧ H' = H) ⟨_, rfl, rfl⟩ ?_ ?_
    · rintro i σ H' hi ⟨v4, rfl, rfl⟩
      have pi := pow12 (show a + 1 + i ≤ 12 by omega)
      have lt2 := bits_lt (fun s => s.testBit a) (2 ^ (a + 1 + i))
      have st := col_step (show a < a + 1 + i by omega)
      refine ⟨_, rfl, _, rfl, _, rfl, 1, a + 1 + i, rfl, congrArg V.int (by omega), ⟨1, by decide, by omega⟩, bits (2 ^ (a + 1 + i)) fun s => s.testBit a, 1 * 2 ^ (a + 1 + i), rfl, rfl, ⟨2 ^ (a + 1 + i), lt2, by omega⟩, _, _, rfl, rfl, trivial, ?_⟩
      refine ⟨some (V.int ((a : Int) + 1 + (i : Int))), ?_, rfl⟩
      show [some (V.int (a : Int)), some (V.int (m : Int)), some (V.int ((1 * 2 ^ a : Nat) : Int)), some (V.int (((bits (2 ^ (a + 1 + i)) fun s => s.testBit a) ||| (bits (2 ^ (a + 1 + i)) fun s => s.testBit a) * 2 ^ (1 * 2 ^ (a + 1 + i)) : Nat) : Int)), some (V.int ((a : Int) + 1 + (i : Int)))] = _
      rw [Nat.one_mul (2 ^ (a + 1 + i)), st]
      rfl
    · rintro σ H' ⟨v4, rfl, rfl⟩
      refine ⟨_, rfl, ?_⟩
      have e : a + 1 + (m - (a + 1)) = m := by omega
      rw [e]
      exact k
end
end Lk

/-! K31G -/
set_option Elab.async false
set_option linter.all false
set_option maxRecDepth 100000
set_option maxHeartbeats 4000000
namespace Lk
open PySem PySem.Spec PyProof.Rows L2
/-! ### ways from other files -/
theorem try_mem {rs : List Rl} {F : List Str} {z : Str} {sp : List Nat} {c : WRow} : c ∈ tryL rs F z sp ↔ c ∈ fitD rs z sp := by
  unfold tryL
  rw [List.mem_append, List.mem_filter]
  exact ⟨fun h => h.elim (·.1) id, .inr⟩
theorem some_iff {α β : Type} {f : α → Option β} {l : List α} : l.findSome? f ≠ none ↔ ∃ x ∈ l, f x ≠ none := by
  rw [Ne, List.findSome?_eq_none_iff]
  constructor
  · intro h
    apply Classical.byContradiction
    intro no
    exact h fun x m => Classical.byContradiction fun y => no ⟨x, m, y⟩
  · rintro ⟨x, m, y⟩ h
    exact y (h x m)
/-- more files never hinder -/
theorem wayM_mono {rs : List Rl} {F F' : List Str} (sub : ∀ y ∈ F, y ∈ F') : ∀ (n : Nat) (z : Str) (sp : List Nat), wayM rs F n z sp ≠ none → wayM rs F' n z sp ≠ none
  | 0, z, sp, h => by
    unfold wayM at h ⊢
    by_cases hz : z ∈ F
    · rw [if_pos (sub z hz)]
      exact fun y => nomatch y
    · rw [if_neg hz] at h
      exact absurd rfl h
  | n + 1, z, sp, h => by
    unfold wayM at h ⊢
    by_cases hz' : z ∈ F'
    · rw [if_pos hz']
      exact fun y => nomatch y
    · rw [if_neg hz']
      rw [if_neg (fun y => hz' (sub z y))] at h
      obtain ⟨c, mc, hc⟩ := some_iff.mp h
      refine some_iff.mpr ⟨c, try_mem.mpr (try_mem.mp mc), fun y => hc ?_⟩
      rw [Option.map_eq_none_iff, allO_none] at y ⊢
      obtain ⟨s, ms, e⟩ := List.mem_map.mp y
      refine List.mem_map.mpr ⟨s, ms, Classical.byContradiction fun no => ?_⟩
      exact wayM_mono sub n s (c.1 :: sp) no e
/-- only the files count that a chain comes to -/
theorem wayM_loc {rs : List Rl} {F F' : List Str} {G : Str → List Nat → Prop} (step : ∀ y sp c, G y sp → c ∈ fitD rs y sp → ∀ s ∈ c.2, G s (c.1 :: sp)) (agree : ∀ y sp, G y sp → (y ∈ F ↔ y ∈ F')) :
    ∀ (n : Nat) (z : Str) (sp : List Nat), G z sp → wayM rs F n z sp = wayM rs F' n z sp
  | 0, z, sp, g => by
    unfold wayM
    by_cases hz : z ∈ F
    · rw [if_pos hz, if_pos ((agree z sp g).mp hz)]
    · rw [if_neg hz, if_neg (fun y => hz ((agree z sp g).mpr y))]
  | n + 1, z, sp, g => by
    unfold wayM
    by_cases hz : z ∈ F
    · rw [if_pos hz, if_pos ((agree z sp g).mp hz)]
    · rw [if_neg hz, if_neg (fun y => hz ((agree z sp g).mpr y))]
      have et : tryL rs F z sp = tryL rs F' z sp := by
        unfold tryL
        congr 1
        refine List.filter_congr fun c mc => ?_
        rw [decide_eq_decide]
        exact ⟨fun h s ms => (agree s _ (step z sp c g mc s ms)).mp (h s ms), fun h s ms => (agree s _ (step z sp c g mc s ms)).mpr (h s ms)⟩
      rw [et]
      have cong : ∀ (l : List WRow), (∀ c ∈ l, c ∈ fitD rs z sp) → l.findSome? (fun c => (allO (c.2.map fun s => wayM rs F n s (c.1 :: sp))).map (nodeD z (labO rs c.1))) = l.findSome? fun c => (allO (c.2.map fun s => wayM rs F' n s (c.1 :: sp))).map (nodeD z (labO rs c.1)) := fun l => by
        induction l with
        | nil => exact fun _ => rfl
        | cons c l ih =>
          intro h
          have e : (c.2.map fun s => wayM rs F n s (c.1 :: sp)) = c.2.map fun s => wayM rs F' n s (c.1 :: sp) := List.map_congr_left fun s ms => wayM_loc step agree n s (c.1 :: sp) (step z sp c g (h c List.mem_cons_self) s ms)
          rw [List.findSome?_cons, List.findSome?_cons, e, ih fun x m => h x (List.mem_cons_of_mem _ m)]
      exact cong _ fun c m => try_mem.mp m
/-- what is told with a way: the rows that right_with goes down by -/
theorem way_node {rs : List Rl} {F : List Str} {z : Str} {sp : List Nat} {d : PyData} (nd : sp.Nodup) (lt : ∀ k ∈ sp, k < rs.length) (hz : z ∉ F) (h : way rs F z sp = some d) :
    ∃ c ds, c ∈ fitD rs z sp ∧ d = nodeD z (labO rs c.1) ds ∧ (c.2.map fun s => way rs F s (c.1 :: sp)) = ds.map some := by
  rw [way_out nd lt hz] at h
  obtain ⟨c, mc, e⟩ := List.exists_of_findSome?_eq_some h
  unfold rowW at e
  obtain ⟨ds, hd, rfl⟩ := Option.map_eq_some_iff.mp e
  exact ⟨c, ds, try_mem.mp mc, rfl, allO_some.mp hd⟩
/-! ### which sets of names make a name -/
theorem way_none_iff {rs : List Rl} {F : List Str} {z : Str} {ns : List Nat} (nd : ns.Nodup) (lt : ∀ k ∈ ns, k < rs.length) : way rs F z ns = none ↔ z ∉ F ∧ ∀ c ∈ fitD rs z ns, ∃ s ∈ c.2, way rs F s (srt (ns ++ [c.1])) = none := by
  have perm : ∀ k : Nat, (k :: ns).Perm (srt (ns ++ [k])) := fun k => (List.perm_append_singleton k ns).symm.trans (srt_perm _).symm
  constructor
  · intro e
    have hz : z ∉ F := fun h => by
      rw [way_in h] at e
      cases e
    refine ⟨hz, fun c mc => ?_⟩
    rw [way_out nd lt hz] at e
    have e2 := (List.findSome?_eq_none_iff.mp e) c (try_mem.mpr mc)
    unfold rowW at e2
    rw [Option.map_eq_none_iff] at e2
    obtain ⟨s, ms, es⟩ := List.mem_map.mp (allO_none.mp e2)
    rw [way_perm (perm c.1)] at es
    exact ⟨s, ms, es⟩
  · rintro ⟨hz, h⟩
    rw [way_out nd lt hz, List.findSome?_eq_none_iff]
    intro c mc
    obtain ⟨s, ms, es⟩ := h c (try_mem.mp mc)
    unfold rowW
    rw [Option.map_eq_none_iff, allO_none]
    refine List.mem_map.mpr ⟨s, ms, ?_⟩
    rw [way_perm (perm c.1)]
    exact es
/-- the names of a set, by its number -/
def subN (names : List Str) (s : Nat) : List Str := (names.zipIdx.filter fun c => s.testBit c.2).map (·.1)
theorem mem_sub {names : List Str} (nd : names.Nodup) {s i : Nat} {z : Str} (h : names[i]? = some z) : z ∈ subN names s ↔ s.testBit i = true := by
  unfold subN
  rw [List.mem_map]
  constructor
  · rintro ⟨⟨y, j⟩, m, rfl⟩
    rw [List.mem_filter] at m
    have e := List.mem_zipIdx_iff_getElem?.mp m.1
    obtain ⟨l1, e1⟩ := List.getElem?_eq_some_iff.mp h
    obtain ⟨l2, e2⟩ := List.getElem?_eq_some_iff.mp e
    have pw := List.pairwise_iff_getElem.mp nd
    have : i = j := by
      rcases Nat.lt_trichotomy i j with lt | e | lt
      · exact absurd (e1.trans e2.symm) (pw i j l1 l2 lt)
      · exact e
      · exact absurd (e2.trans e1.symm) (pw j i l2 l1 lt)
    rw [this]
    exact m.2
  · intro t
    exact ⟨(z, i), List.mem_filter.mpr ⟨List.mem_zipIdx_iff_getElem?.mpr h, t⟩, rfl⟩
/-- what makes a name, as a number with a bit for each set -/
noncomputable def mkN (rs : List Rl) (names : List Str) (z : Str) (ns : List Nat) : Nat := bits (2 ^ names.length) fun s => (way rs (subN names s) z ns).isSome
/-- what makes each of several names -/
noncomputable def mkAll (rs : List Rl) (names : List Str) (zs : List Str) (ns : List Nat) : Nat := bits (2 ^ names.length) fun s => zs.all fun z => (way rs (subN names s) z ns).isSome
theorem mkAll_nil (rs : List Rl) (names : List Str) (ns : List Nat) : mkAll rs names [] ns = 2 ^ 2 ^ names.length - 1 := bits_all.symm
theorem mkAll_snoc {rs : List Rl} {names zs : List Str} {z : Str} {ns : List Nat} : mkAll rs names zs ns &&& mkN rs names z ns = mkAll rs names (zs ++ [z]) ns := by
  unfold mkAll mkN
  rw [bits_and]
  refine bits_congr fun s _ => ?_
  rw [List.all_append]
  simp
/-- column, or some fitting rule -/
noncomputable def mkOr (rs : List Rl) (names : List Str) (z : Str) (ns : List Nat) (cs : List WRow) : Nat := bits (2 ^ names.length) fun s => decide (z ∈ subN names s) || cs.any fun c => c.2.all fun y => (way rs (subN names s) y (srt (ns ++ [c.1]))).isSome
theorem mkOr_snoc {rs : List Rl} {names : List Str} {z : Str} {ns : List Nat} {cs : List WRow} {c : WRow} : mkOr rs names z ns cs ||| mkAll rs names c.2 (srt (ns ++ [c.1])) = mkOr rs names z ns (cs ++ [c]) := by
  unfold mkAll mkOr
  rw [bits_or]
  refine bits_congr fun s _ => ?_
  rw [List.any_append]
  simp [Bool.or_assoc]
theorem mkOr_all {rs : List Rl} {names : List Str} {z : Str} {ns : List Nat} (nd : ns.Nodup) (lt : ∀ k ∈ ns, k < rs.length) : mkOr rs names z ns (fitD rs z ns) = mkN rs names z ns := by
  unfold mkOr mkN
  refine bits_congr fun s _ => ?_
  have w := way_none_iff (F := subN names s) (z := z) nd lt
  cases hw : way rs (subN names s) z ns with
  | none =>
    obtain ⟨a, b⟩ := w.mp hw
    rw [decide_eq_false a, Bool.false_or]
    refine List.any_eq_false.mpr fun c mc => ?_
    obtain ⟨y, my, ey⟩ := b c mc
    intro h
    have := List.all_eq_true.mp h y my
    rw [ey] at this
    cases this
  | some d =>
    show _ = true
    by_cases hz : z ∈ subN names s
    · rw [decide_eq_true hz, Bool.true_or]
    · rw [decide_eq_false hz, Bool.false_or]
      refine Classical.byContradiction fun no => ?_
      rw [Bool.not_eq_true, List.any_eq_false] at no
      have e : way rs (subN names s) z ns = none := w.mpr ⟨hz, fun c mc => by
        have z1 := no c mc
        refine Classical.byContradiction fun n2 => z1 (List.all_eq_true.mpr fun y my => ?_)
        cases hy : way rs (subN names s) y (srt (ns ++ [c.1])) with
        | none => exact absurd ⟨y, my, hy⟩ n2
        | some d => rfl⟩
      rw [hw] at e
      cases e
theorem mkOr_col {rs : List Rl} {names : List Str} (nd : names.Nodup) {z : Str} {i : Nat} (h : names[i]? = some z) {ns : List Nat} : mkOr rs names z ns [] = bits (2 ^ names.length) fun s => s.testBit i := by
  unfold mkOr
  refine bits_congr fun s _ => ?_
  rw [List.any_nil, Bool.or_false, Bool.eq_iff_iff, decide_eq_true_iff]
  exact mem_sub nd h
end Lk

/-! K31H -/
set_option Elab.async false
set_option linter.all false
set_option maxRecDepth 100000
set_option maxHeartbeats 4000000
namespace Lk
open PySem PySem.Spec PyProof.Rows L2
/-! ### the program's Makers -/
def fldsM (q d1 kd : Addr) : List (Str × V) := putF "known" (.ref kd) (putF "columns" (.ref d1) (putF "book" (.ref q) []))
theorem mbc : ¬ (("book" : Str) = "columns") := by decide +kernel
theorem mck : ¬ (("columns" : Str) = "known") := by decide +kernel
theorem fldsM_known (q d1 kd : Addr) : (fldsM q d1 kd).lookup ("known" : Str) = some (.ref kd) := by
  unfold fldsM
  rw [lookup_putF, if_pos rfl]
theorem fldsM_col (q d1 kd : Addr) : (fldsM q d1 kd).lookup ("columns" : Str) = some (.ref d1) := by
  unfold fldsM
  rw [lookup_putF, if_neg mck, lookup_putF, if_pos rfl]
theorem fldsM_book (q d1 kd : Addr) : (fldsM q d1 kd).lookup ("book" : Str) = some (.ref q) := by
  unfold fldsM
  rw [lookup_putF, if_neg kbk, lookup_putF, if_neg mbc, lookup_putF, if_pos rfl]
theorem fldsM_no (q d1 kd : Addr) {m : Str} (h1 : ¬ m = "known") (h2 : ¬ m = "columns") (h3 : ¬ m = "book") : (fldsM q d1 kd).lookup m = none := by
  unfold fldsM
  rw [lookup_putF, if_neg h1, lookup_putF, if_neg h2, lookup_putF, if_neg h3]
  all_goals rfl
structure MCls (K : PySem.W.Frag) (C : Addr) : Prop where
  cl : Cls K C
  nB : NoAttr K C "book"
  nT : NoAttr K C "columns"
  nK : NoAttr K C "known"
/-- the columns, by their names -/
noncomputable def colD (names : List Str) : List (Key × V) := names.zipIdx.map fun c => ((Sum.inr c.1 : Key), V.int ((bits (2 ^ names.length) fun s => s.testBit c.2 : Nat) : Int))
structure MAt (P : Program) (w : World) (K : PySem.W.Frag) (C : Addr) (H : Hp) (o q d1 kd : Addr) (rs : List Rl) (names : List Str) (Ok : Place → Prop) : Prop where
  ob : ∃ dx, H o = some (.ins C dx (fldsM q d1 kd))
  bk : ∃ xs, SqT K H q xs ∧ ThAll K H xs (rs.map Rl.d)
  th : H d1 = some (.dK (colD names))
  ne : d1 ≠ kd
  nn : names.Nodup ∧ names.length ≤ 12
  kn : ∃ kvs, NAt P w H kd kvs ∧ (kvs.map (·.1)).Nodup ∧ ∀ p v, (p, v) ∈ kvs → Ok p ∧ v = .int ((mkN rs names p.1 p.2 : Nat) : Int)
section
variable {P : Program} {w : World} {K : PySem.W.Frag} {C o q d1 kd : Addr} {H H' : Hp} {rs : List Rl} {names : List Str} {Ok : Place → Prop}
theorem MAt.nkd (S : MAt P w K C H o q d1 kd rs names Ok) : (∀ ys, H kd ≠ some (.tup ys)) ∧ (∀ ob u, H kd ≠ some (.frz ob u)) ∧ (∀ c dx fs, H kd ≠ some (.ins c dx fs)) ∧ (∀ ys, H kd ≠ some (.lst ys)) ∧ ∃ u, H kd = some u := by
  obtain ⟨kvs, g, _⟩ := S.kn
  refine ⟨fun ys => g.notup, fun ob u => g.nofrz, ?_⟩
  obtain ⟨_, ⟨_, e⟩ | ⟨xs, e, _⟩⟩ := g
  · rw [e]
    exact ⟨(fun _ _ _ z => nomatch z), (fun _ z => nomatch z), _, rfl⟩
  · rw [e]
    exact ⟨(fun _ _ _ z => nomatch z), (fun _ z => nomatch z), _, rfl⟩
theorem MAt.tups (S : MAt P w K C H o q d1 kd rs names Ok) (b : But kd H H') : Tups H H' := b.tups S.nkd.1 S.nkd.2.1
theorem MAt.step (S : MAt P w K C H o q d1 kd rs names Ok) (b : But kd H H') (kn : ∃ kvs, NAt P w H' kd kvs ∧ (kvs.map (·.1)).Nodup ∧ ∀ p v, (p, v) ∈ kvs → Ok p ∧ v = .int ((mkN rs names p.1 p.2 : Nat) : Int)) : MAt P w K C H' o q d1 kd rs names Ok := by
  have t := S.tups b
  obtain ⟨dx, ob⟩ := S.ob
  obtain ⟨xs, h1, h2⟩ := S.bk
  exact ⟨⟨dx, b _ _ ob fun z => S.nkd.2.2.1 _ _ _ (z ▸ ob)⟩, ⟨xs, t.seqT h1, thAll_tups t h2 book_onlyT⟩, b _ _ S.th S.ne, S.ne, S.nn, kn⟩
theorem MAt.same (S : MAt P w K C H o q d1 kd rs names Ok) (s : Same H H') : MAt P w K C H' o q d1 kd rs names Ok := by
  obtain ⟨kvs, g, nd, each⟩ := S.kn
  exact S.step (Same.but s) ⟨kvs, g.same (fun u h => s _ _ h) (fun b ys h => s _ _ h), nd, each⟩
theorem col_val {i : Nat} {z : Str} (nd : names.Nodup) (h : names[i]? = some z) : valV (colD names) (Sum.inr z : Key) = some (V.int ((bits (2 ^ names.length) fun s => s.testBit i : Nat) : Int)) := by
  have go : ∀ (n : Nat) (l : List Str) (k i : Nat), l.Nodup → l[i]? = some z → valV ((l.zipIdx k).map fun c => ((Sum.inr c.1 : Key), V.int ((bits (2 ^ n) fun s => s.testBit c.2 : Nat) : Int))) (Sum.inr z : Key) = some (V.int ((bits (2 ^ n) fun s => s.testBit (k + i) : Nat) : Int)) := fun n l => by
    induction l with
    | nil => exact fun k i _ h => nomatch h
    | cons y l ih =>
      intro k i nd h
      rw [List.zipIdx_cons, List.map_cons]
      obtain ⟨h1, h2⟩ := List.nodup_cons.mp nd
      cases i with
      | zero =>
        have e : y = z := Option.some.inj h
        subst e
        rw [valV_pos rfl]
        rfl
      | succ i =>
        have m : l[i]? = some z := h
        have ne : ¬ ((Sum.inr y : Key) = Sum.inr z) := fun e => by
          injection e with e
          exact h1 (e ▸ List.mem_of_getElem? m)
        rw [valV_neg ne, ih (k + 1) i h2 m]
        have e2 : k + 1 + i = k + (i + 1) := by omega
        rw [e2]
  have z0 := go names.length names 0 i nd h
  rw [Nat.zero_add] at z0
  exact z0
theorem col_len : (colD names).length = names.length := by
  unfold colD
  rw [List.length_map, List.length_zipIdx]
end
def spOf (P : Program) (w : World) (K : PySem.W.Frag) (C : Addr) (m : Nat) : Sp := fun vs H Q _ => ∃ (o q d1 kd t : Addr) (rs : List Rl) (names : List Str) (z : Str) (ns : List Nat) (Ok : Place → Prop), vs = [.ref o, .str z, .ref t] ∧ MAt P w K C H o q d1 kd rs names Ok ∧ OkR rs Ok ∧ (∀ p, Ok p → p.1 ∈ names) ∧
  H t = some (.tup (ns.map fun n : Nat => V.int (n : Int))) ∧ Ok (z, ns) ∧ rs.length + 1 ≤ ns.length + m ∧ ∀ H', But kd H H' → MAt P w K C H' o q d1 kd rs names Ok → Q (.int ((mkN rs names z ns : Nat) : Int)) H'
def spOfAll (P : Program) (w : World) (K : PySem.W.Frag) (C : Addr) (m : Nat) : Sp := fun vs H Q _ => ∃ (o q d1 kd t l : Addr) (rs : List Rl) (names zs : List Str) (ns : List Nat) (Ok : Place → Prop), vs = [.ref o, .ref l, .ref t] ∧ MAt P w K C H o q d1 kd rs names Ok ∧ OkR rs Ok ∧ (∀ p, Ok p → p.1 ∈ names) ∧
  H t = some (.tup (ns.map fun n : Nat => V.int (n : Int))) ∧ H l = some (.lst (zs.map V.str)) ∧ (∀ s ∈ zs, Ok (s, ns)) ∧ rs.length + 1 ≤ ns.length + m ∧ ∀ H', But kd H H' → MAt P w K C H' o q d1 kd rs names Ok → Q (.int ((mkAll rs names zs ns : Nat) : Int)) H'
section
variable {P : Program} {w : World} {K : PySem.W.Frag} {mg : Str → Option Value} {base : Heap} {C : Addr}
theorem sc_of_all : FnScope ["self", "names", "spent", "found", "name"] ["self", "names", "spent"] (defScope s_Makers_of_all) := ⟨rfl, rfl, rfl, by decide +kernel, rfl, by decide +kernel, by decide +kernel⟩
theorem sc_of : FnScope ["self", "name", "spent", "key", "found", "number", "sources"] ["self", "name", "spent"] (defScope s_Makers_of) := ⟨rfl, rfl, rfl, by decide +kernel, rfl, by decide +kernel, by decide +kernel⟩
set_option maxHeartbeats 0
theorem cal_of_all {m j : Nat} (D : DefM K C "of_all" "Makers.of_all" s_Makers_of_all) (cl : MCls K C) (G : Glb mg) (CO : MCal P w K mg base C j "of" (spOf P w K C m)) : MCal P w K mg base C (j + 1) "of_all" (spOfAll P w K C m) := by
  refine mkMCal D sc_of_all (fun _ _ _ _ _ _ us hl => match us, hl with | [_, _, _], _ => rfl) (fun vs H Q E h => ?_) (fun f cdv A outer s H vs Q E hr h => ?_)
  · obtain ⟨o, q, d1, kd, t, l, rs, names, zs, ns, Ok, rfl, _⟩ := h
    rfl
  · obtain ⟨o, q, d1, kd, t, l, rs, names, zs, ns, Ok, rfl, S, O, inN, ht, hl, okz, le, k⟩ := h
    refine ⟨_, (pss_cons (ps_set (i := 3) sc_of_all.nd rfl (.inl rfl) (pe_op op_sub (pe_op op_shlM pe_int (pe_op op_shlM pe_int (pe_callB call_len_K (by rfl) G.len PySem.boot_len (pa_cons (pe_fld (pv 0) rfl) pa_nil)))) pe_int))
    (pss_cons (ps_for PassesOwn.never rfl (pi_list (pv 1)) (pg_name (i := 4) sc_of_all.nd rfl (.inl rfl))
    (pss_one (ps_aug (i := 3) sc_of_all.nd rfl (.inl rfl) (pe_mcal CO cl.cl hr (by omega) (pv 0) (pa_cons (pv 4) (pa_cons (pv 2) pa_nil))) ip_and)))
    (pss_one (ps_ret (pv 3))))), ?_⟩
    obtain ⟨dx, hob⟩ := S.ob
    have n12 := S.nn.2
    have p12 := pow12 n12
    refine ⟨_, rfl, o, C, dx, _, _, rfl, hob, cl.cl, cl.nT, fldsM_col _ _ _, d1, _, rfl, S.th, ?_⟩
    rw [col_len]
    refine ⟨1, names.length, rfl, rfl, ⟨1, by decide, by omega⟩, ?_⟩
    refine ⟨1, 1 * 2 ^ names.length, rfl, rfl, ⟨1, by decide, by omega⟩, _, _, rfl, rfl, ?_⟩
    have e0 : (((1 * 2 ^ (1 * 2 ^ names.length) : Nat) : Int) - 1) = ((mkAll rs names (zs.take 0) ns : Nat) : Int) := by
      have := Nat.pow_pos (n := 2 ^ names.length) (show 0 < 2 by decide)
      rw [List.take_zero, mkAll_nil, Nat.one_mul, Nat.one_mul]
      omega
    show gName 3 (.int (((1 * 2 ^ (1 * 2 ^ names.length) : Nat) : Int) - 1)) _ _ _
    rw [e0]
    have tnk : t ≠ kd := fun e => S.nkd.1 _ (e ▸ ht)
    have lnk : l ≠ kd := fun e => S.nkd.2.2.2.1 _ (e ▸ hl)
    refine nx_open (nex_for ?_)
    refine ⟨_, rfl, l, rfl, ⟨_, SqL.of hl⟩, ?_⟩
    refine for_list (K := K) (a := l) (xs := zs.map V.str) (fun i σ H' => ∃ v4 : Option V, σ = [some (.ref o), some (.ref l), some (.ref t), some (.int ((mkAll rs names (zs.take i) ns : Nat) : Int)), v4] ∧ But kd H H' ∧ MAt P w K C H' o q d1 kd rs names Ok)
      ⟨_, rfl, Same.but (Same.refl _), S⟩ (fun i σ H' _ ⟨_, _, b, _⟩ => SqL.of (b _ _ hl lnk)) ?_ ?_
    · rintro i x σ H3 hx3 ⟨v4, rfl, b3, S3⟩
      obtain ⟨y, hy, rfl⟩ := Option.map_eq_some_iff.mp ((List.getElem?_map ..).symm.trans hx3)
      obtain ⟨dx3, hob3⟩ := S3.ob
      refine ⟨_, rfl, _, rfl, o, dx3, _, rfl, hob3, fldsM_no _ _ _ (by decide +kernel) (by decide +kernel) (by decide +kernel), _, rfl, _, rfl, o, q, d1, kd, t, rs, names, y, ns, Ok, rfl, S3, O, inN, b3 _ _ ht tnk, okz y (List.mem_of_getElem? hy), le, fun H4 b4 S4 => ⟨_, _, rfl, rfl, trivial, ?_⟩⟩
      refine ⟨some (V.str y), ?_, b3.trans b4, S4⟩
      have e : mkAll rs names (zs.take i) ns &&& mkN rs names y ns = mkAll rs names (zs.take (i + 1)) ns := by
        rw [mkAll_snoc, List.take_add_one, hy]
        rfl
      show [some (V.ref o), some (V.ref l), some (V.ref t), some (V.int ((mkAll rs names (zs.take i) ns &&& mkN rs names y ns : Nat) : Int)), some (V.str y)] = _
      rw [e]
    · rintro σ H3 ⟨v4, rfl, b3, S3⟩
      refine ⟨_, rfl, ?_⟩
      have z := k H3 b3 S3
      rw [List.length_map, List.take_length]
      exact z
theorem cal_of1 {m j : Nat} (D : DefM K C "of" "Makers.of" s_Makers_of) (cl : MCls K C) (CF : Cal P w K mg base 2 "fitted" (spFit K)) (CM : Cal P w K mg base 1 "with_one_more" (spOneMore K)) (hj : 2 ≤ j) (CA : MCal P w K mg base C j "of_all" (spOfAll P w K C m)) : MCal P w K mg base C (j + 1) "of" (spOf P w K C (m + 1)) := by
  refine mkMCal D sc_of (fun _ _ _ _ _ _ us hl => match us, hl with | [_, _, _], _ => rfl) (fun vs H Q E h => ?_) (fun f cdv A outer s H vs Q E hr h => ?_)
  · obtain ⟨o, q, d1, kd, t, rs, names, z, ns, Ok, rfl, _⟩ := h
    rfl
  · obtain ⟨o, q, d1, kd, t, rs, names, z, ns, Ok, rfl, S, O, inN, ht, okp, le, k⟩ := h
    refine ⟨_, (pss_cons (ps_set (i := 3) sc_of.nd rfl (.inl rfl) (pe_tup (pa_cons (pv 1) (pa_cons (pv 2) pa_nil))))
    (pss_cons (ps_if (pt_cmp (pc_nnotin (u9 hr) (pv 3) (pe_fld (pv 0) rfl))) (pss_cons (ps_set (i := 4) sc_of.nd rfl (.inl rfl) (pe_dget (units1 hr.units) (pe_fld (pv 0) rfl) (pv 1) (fun _ _ => rfl)))
    (pss_cons (ps_for PassesOwn.never rfl (pi_list (pe_cal CF hr (by omega) (pa_cons (pe_fld (pv 0) rfl) (pa_cons (pv 1) (pa_cons (pv 2) pa_nil))))) (pg_tup rfl (pgs_cons (pg_name (i := 5) sc_of.nd rfl (.inl rfl)) (pgs_cons (pg_name (i := 6) sc_of.nd rfl (.inl rfl)) pgs_nil)))
    (pss_one (ps_aug (i := 4) sc_of.nd rfl (.inl rfl) (pe_mcal CA cl.cl hr (by omega) (pv 0) (pa_cons (pv 6) (pa_cons (pe_cal CM hr (by omega) (pa_cons (pv 2) (pa_cons (pv 5) pa_nil))) pa_nil))) ip_or)))
    (pss_one (ps_nput (u9 hr) (pe_fld (pv 0) rfl) (pv 3) (pv 4) (by rfl))))) pss_nil)
    (pss_one (ps_ret (pe_nget (u9 hr) (pe_fld (pv 0) rfl) (pv 3) (fun _ _ => rfl)))))), ?_⟩
    obtain ⟨dx, hob⟩ := S.ob
    refine ⟨_, rfl, _, rfl, (by show 2 ≤ sizeLine; decide), fun b nb => ?_⟩
    have s1 : Same H (upd H b (.tup [.str z, .ref t])) := same_upd nb
    have kb : KeyAt (upd H b (.tup [.str z, .ref t])) b (z, ns) := ⟨t, upd_same, s1 _ _ ht⟩
    have S1 := S.same s1
    have ht1 := s1 _ _ ht
    have hob1 := s1 _ _ hob
    generalize upd H b (.tup [.str z, .ref t]) = H1 at s1 kb S1 ht1 hob1 ⊢
    obtain ⟨kvs, g, nd, each⟩ := S1.kn
    refine ⟨_, rfl, _, rfl, o, C, dx, _, _, rfl, hob1, cl.cl, cl.nK, fldsM_known _ _ _, kd, b, (z, ns), kvs, rfl, rfl, g, kb, _, rfl, ?_⟩
    cases hv : valV kvs ((z, ns) : NK) with
    | some v =>
      refine iteF' rfl ?_
      refine ⟨_, rfl, o, C, dx, _, _, rfl, hob1, cl.cl, cl.nK, fldsM_known _ _ _, _, rfl, kd, b, (z, ns), kvs, v, rfl, rfl, g, kb, hv, ?_⟩
      have e := (each _ _ (valV_mem hv)).2
      rw [e]
      exact k H1 (Same.but s1) S1
    | none =>
      refine iteT' rfl ?_
      obtain ⟨i, hi⟩ := List.mem_iff_getElem?.mp (inN _ okp)
      have cv := col_val S1.nn.1 hi
      have e0 := mkOr_col (rs := rs) (ns := ns) S1.nn.1 hi
      rw [← e0] at cv
      refine ⟨_, rfl, o, C, dx, _, _, rfl, hob1, cl.cl, cl.nT, fldsM_col _ _ _, _, rfl, d1, V.int ((mkOr rs names z ns [] : Nat) : Int), rfl, by rw [← cv]; exact DGet.k (k := Sum.inr z) S1.th, ?_⟩
      refine nx_open (nex_for ?_)
      obtain ⟨xb, hq, hx⟩ := S1.bk
      obtain ⟨ndk, ltk⟩ := O.nd _ okp
      have tz := O.tx _ okp
      have many := (book_len O.bk).1
      have lns : ns.length ≤ 6 := by
        have y := nodup_len (l := ns) (m := List.range rs.length) ndk fun k m => List.mem_range.mpr (ltk k m)
        rw [List.length_range] at y
        omega
      refine ⟨_, rfl, o, C, dx, _, _, rfl, hob1, cl.cl, cl.nB, fldsM_book _ _ _, _, rfl, _, rfl, q, xb, rs, z, t, ns, rfl, hq, hx, O.bk, tz.2, SqT.of ht1, fun p2 L H2 s2 hp2 cells eL => ?_⟩
      have S2 := S1.same s2
      refine ⟨p2, rfl, ⟨_, SqL.of hp2⟩, ?_⟩
      have pnk : p2 ≠ kd := fun e => S2.nkd.2.2.2.1 _ (e ▸ hp2)
      have tnk : t ≠ kd := fun e => S1.nkd.1 _ (e ▸ ht1)
      refine for_list (K := K) (a := p2) (xs := L.map fun c => V.ref c.1) (fun i σ H' => ∃ v5 v6 : Option V, σ = [some (.ref o), some (.str z), some (.ref t), some (.ref b), some (.int ((mkOr rs names z ns ((fitD rs z ns).take i) : Nat) : Int)), v5, v6] ∧ But kd H2 H' ∧ MAt P w K C H' o q d1 kd rs names Ok)
        ⟨_, _, rfl, Same.but (Same.refl _), S2⟩ (fun i σ H' _ ⟨_, _, _, b, _⟩ => SqL.of (b _ _ hp2 pnk)) ?_ ?_
      · rintro i x σ H3 hx3 ⟨v5, v6, rfl, b3, S3⟩
        obtain ⟨cc, hcc, rfl⟩ := Option.map_eq_some_iff.mp ((List.getElem?_map ..).symm.trans hx3)
        have mcc := List.mem_of_getElem? hcc
        have hrow : (fitD rs z ns)[i]? = some cc.2.2 := by rw [← eL, List.getElem?_map, hcc]; rfl
        have mrow := List.mem_of_getElem? hrow
        obtain ⟨c1, c2⟩ := cells cc mcc
        have c13 := b3 _ _ c1 (fun e => S2.nkd.1 _ (e ▸ c1))
        have c23 := b3 _ _ c2 (fun e => S2.nkd.2.2.2.1 _ (e ▸ c2))
        have ht3 := b3 _ _ (s2 _ _ ht1) tnk
        obtain ⟨dx3, hob3⟩ := S3.ob
        refine ⟨cc.1, _, rfl, SqT.of c13, rfl, _, _, rfl, _, _, rfl, rfl, ?_⟩
        have okS : ∀ y ∈ cc.2.2.2, Ok (y, srt (ns ++ [cc.2.2.1])) := fun y my => by
          obtain ⟨r, hr, no, _, eof⟩ := fit_row mrow
          exact O.cl (z, ns) _ okp ⟨cc.2.2.1, r, hr, no, by rw [← eof]; exact my, rfl⟩
        have lS : (srt (ns ++ [cc.2.2.1])).length = ns.length + 1 := by rw [(srt_perm _).length_eq, List.length_append]; rfl
        refine ⟨_, rfl, _, rfl, o, dx3, _, rfl, hob3, fldsM_no _ _ _ (by decide +kernel) (by decide +kernel) (by decide +kernel), _, rfl, _, rfl, _, rfl, t, ns, cc.2.2.1, rfl, SqT.of ht3, by omega, fun u H4 s4 nu hu => ?_⟩
        refine ⟨o, q, d1, kd, u, cc.2.1, rs, names, cc.2.2.2, srt (ns ++ [cc.2.2.1]), Ok, rfl, S3.same s4, O, inN, hu, s4 _ _ c23, okS, by omega, fun H5 b5 S5 => ⟨_, _, rfl, rfl, trivial, ?_⟩⟩
        refine ⟨some (V.int (cc.2.2.1 : Int)), some (V.ref cc.2.1), ?_, (b3.trans (Same.but s4)).trans b5, S5⟩
        have e : mkOr rs names z ns ((fitD rs z ns).take i) ||| mkAll rs names cc.2.2.2 (srt (ns ++ [cc.2.2.1])) = mkOr rs names z ns ((fitD rs z ns).take (i + 1)) := by
          rw [mkOr_snoc, List.take_add_one, hrow]
          rfl
        show [some (V.ref o), some (V.str z), some (V.ref t), some (V.ref b), some (V.int ((mkOr rs names z ns ((fitD rs z ns).take i) ||| mkAll rs names cc.2.2.2 (srt (ns ++ [cc.2.2.1])) : Nat) : Int)), some (V.int (cc.2.2.1 : Int)), some (V.ref cc.2.1)] = _
        rw [e]
      · rintro σ H3 ⟨v5, v6, rfl, b3, S3⟩
        have eall : mkOr rs names z ns ((fitD rs z ns).take (L.map fun c => V.ref c.1).length) = mkN rs names z ns := by
          have l : (L.map fun c => V.ref c.1).length = (fitD rs z ns).length := by rw [List.length_map, ← eL, List.length_map]
          rw [l, List.take_length]
          exact mkOr_all ndk ltk
        rw [eall]
        have all3 : But kd H H3 := (Same.but (s1.trans s2)).trans b3
        have kb3 : KeyAt H3 b (z, ns) := (kb.keeps fun c xs e => s2 _ _ e).keeps (S2.tups b3).1
        obtain ⟨dx3, hob3⟩ := S3.ob
        obtain ⟨kvs3, g3, nd3, each3⟩ := S3.kn
        have few := ok_few O nd3 fun p v m => (each3 p v m).1
        refine ⟨_, rfl, _, rfl, o, C, dx3, _, _, rfl, hob3, cl.cl, cl.nK, fldsM_known _ _ _, _, rfl, kd, b, (z, ns), kvs3, rfl, rfl, g3, kb3, by rw [sizeLine_eq]; omega, fun u g4 => ?_⟩
        have but4 : But kd H3 (upd H3 kd u) := (But.refl kd H3).upd
        have t4 := S3.tups but4
        have S4 : MAt P w K C (upd H3 kd u) o q d1 kd rs names Ok := S3.step but4 ⟨_, g4, putK_keys nd3, fun p v' m => by
          rcases putK_mem m with m | m
          · exact each3 p v' m
          · cases m
            exact ⟨okp, rfl⟩⟩
        have kb4 := kb3.keeps t4.1
        have all4 := all3.trans but4
        generalize upd H3 kd u = H4 at g4 but4 t4 S4 kb4 all4 ⊢
        obtain ⟨dx4, hob4⟩ := S4.ob
        refine ⟨_, rfl, o, C, dx4, _, _, rfl, hob4, cl.cl, cl.nK, fldsM_known _ _ _, _, rfl, kd, b, (z, ns), _, V.int ((mkN rs names z ns : Nat) : Int), rfl, rfl, g4, kb4, valV_put_self, ?_⟩
        exact k H4 all4 S4
end
section
variable {P : Program} {w : World} {K : PySem.W.Frag} {mg : Str → Option Value} {base : Heap} {C : Addr}
theorem of_m (DO : DefM K C "of" "Makers.of" s_Makers_of) (DA : DefM K C "of_all" "Makers.of_all" s_Makers_of_all) (cl : MCls K C) (G : Glb mg) (CF : Cal P w K mg base 2 "fitted" (spFit K)) (CM : Cal P w K mg base 1 "with_one_more" (spOneMore K)) : ∀ m, MCal P w K mg base C (2 * m + 3) "of" (spOf P w K C m)
  | 0 => mcal_never (ps := ["self", "name", "spent"]) DO (fun _ _ _ _ _ _ us hl => match us, hl with | [_, _, _], _ => rfl) fun vs H Q E h => by
    obtain ⟨o, q, d1, kd, t, rs, names, z, ns, Ok, _, _, O, _, _, okp, le, _⟩ := h
    obtain ⟨nd, lt⟩ := O.nd _ okp
    have y := nodup_len (l := ns) (m := List.range rs.length) nd fun k m => List.mem_range.mpr (lt k m)
    rw [List.length_range] at y
    omega
  | m + 1 => by
    have CO := of_m DO DA cl G CF CM m
    have CA := cal_of_all DA cl G CO
    have z := cal_of1 DO cl CF CM (by omega) CA
    have e : 2 * m + 3 + 1 + 1 = 2 * (m + 1) + 3 := by omega
    rw [e] at z
    exact z
end
end Lk

/-! K31I -/
set_option Elab.async false
set_option linter.all false
set_option maxRecDepth 100000
set_option maxHeartbeats 4000000
namespace Lk
open PySem PySem.Spec PyProof.Rows L2
theorem col_take {names : List Str} (nd : names.Nodup) {i : Nat} {y : Str} (h : names[i]? = some y) (v : V) (g : Str × Nat → V) (e : g (y, i) = v) : putK ((names.zipIdx.take i).map fun c => ((Sum.inr c.1 : Key), g c)) (Sum.inr y) v = (names.zipIdx.take (i + 1)).map fun c => ((Sum.inr c.1 : Key), g c) := by
  have hz : (names.zipIdx)[i]? = some (y, i) := by rw [List.getElem?_zipIdx, h]; simp
  have no : valV ((names.zipIdx.take i).map fun c => ((Sum.inr c.1 : Key), g c)) (Sum.inr y : Key) = none := by
    cases hv : valV ((names.zipIdx.take i).map fun c => ((Sum.inr c.1 : Key), g c)) (Sum.inr y : Key) with
    | none => rfl
    | some u =>
      have m := valV_mem hv
      obtain ⟨c, mc, ec⟩ := List.mem_map.mp m
      injection ec with ec _
      injection ec with ec
      obtain ⟨j, hj, ej⟩ := List.mem_iff_getElem?.mp mc |>.imp fun j hj => (show (∃ _ : j < i, (names.zipIdx)[j]? = some c) from by
        rw [List.getElem?_take] at hj
        split at hj
        · rename_i lt
          exact ⟨lt, hj⟩
        · cases hj)
      rw [List.getElem?_zipIdx, Option.map_eq_some_iff] at ej
      obtain ⟨y', hy', e2⟩ := ej
      have e3 : y' = y := by rw [← ec, ← e2]
      rw [e3] at hy'
      obtain ⟨l1, g1⟩ := List.getElem?_eq_some_iff.mp hy'
      obtain ⟨l2, g2⟩ := List.getElem?_eq_some_iff.mp h
      exact absurd (g1.trans g2.symm) (List.pairwise_iff_getElem.mp nd j i l1 l2 hj)
  rw [putK_new _ no, List.take_add_one, hz, List.map_append, ← e]
  rfl
theorem dc_enT {K : PySem.W.Frag} {a : Addr} {xs : List V} {g : TG} {tt : TT} {tk tv : TE} {vs : List Nat} {σ : L2.St} {H1 : Hp} {D : Addr} {Qd : Hp → Prop} (Pv : Nat → Hp → Prop) (h0 : Pv 0 (upd H1 D (.dK []))) (hl : ∀ i H, Pv i H → SqT K H a xs)
    (hs : ∀ (i : Nat) (x : V) (T : Addr) (H : Hp), xs[i]? = some x → H T = none → Pv i H → g (.ref T) (wipe σ vs) (upd H T (.tup [.int (i : Int), x])) fun σ2 H2 => wipe σ2 vs = wipe σ vs ∧ tt σ2 H2 fun b H3 =>
      if b = true then tk σ2 H3 fun y H4 => tv σ2 H4 fun z H5 => ∃ kvs k, y = kV k ∧ H5 D = some (.dK kvs) ∧ kvs.length < sizeLine ∧ Pv (i + 1) (upd H5 D (.dK (putK kvs k z))) else Pv (i + 1) H3) (hd : ∀ H, Pv xs.length H → Qd H) :
    ∃ W : Nat → Nat → Hp → Prop, (∃ m, W 0 m (upd H1 D (.dK []))) ∧ ∀ i m H, W i m H →
      ((IteT K a).stop i H ∧ Qd H) ∨ ((IteT K a).go i H ∧ ∃ Nx : Hp → Prop, (∀ H', Nx H' → ∃ m', m' < m ∧ W (i + 1) m' H') ∧ ∀ x H', (IteT K a).yld i H x H' → g x (wipe σ vs) H' fun σ2 H2 => wipe σ2 vs = wipe σ vs ∧ tt σ2 H2 fun b H3 =>
        if b = true then tk σ2 H3 fun y H4 => tv σ2 H4 fun z H5 => ∃ kvs k, y = kV k ∧ H5 D = some (.dK kvs) ∧ kvs.length < sizeLine ∧ Nx (upd H5 D (.dK (putK kvs k z))) else Nx H3) := by
  refine ⟨fun i m H => i + m = xs.length ∧ Pv i H, ⟨xs.length, Nat.zero_add _, h0⟩, ?_⟩
  rintro i m H ⟨em, p⟩
  have q := hl i H p
  cases m with
  | zero =>
    have e : i = xs.length := by omega
    subst e
    exact .inl ⟨⟨xs, q, rfl⟩, hd H p⟩
  | succ m =>
    have lt : i < xs.length := by omega
    refine .inr ⟨⟨xs, _, q, List.getElem?_eq_getElem lt⟩, Pv (i + 1), fun H' p' => ⟨m, Nat.lt_succ_self m, by omega, p'⟩, ?_⟩
    rintro x H' ⟨T, y, rfl, nT, rfl, ey⟩
    exact hs i y T H (ey xs q) nT p
def spInitM (P : Program) (w : World) (K : PySem.W.Frag) (C : Addr) : Sp := fun vs H Q _ => ∃ (o dx q f : Addr) (xs : List V) (rs : List Rl) (names : List Str), vs = [.ref o, .ref q, .ref f] ∧ H o = some (.ins C dx []) ∧ SqT K H q xs ∧ ThAll K H xs (rs.map Rl.d) ∧ SqT K H f (names.map V.str) ∧ (names.Nodup ∧ names.length ≤ 12) ∧
  ∀ (d1 kd : Addr) (H' : Hp), H d1 = none → H kd = none → But o H H' → (∀ Ok, MAt P w K C H' o q d1 kd rs names Ok) → Q .non H'
section
variable {P : Program} {w : World} {K : PySem.W.Frag} {mg : Str → Option Value} {base : Heap} {C : Addr}
theorem sc_mk_init : FnScope ["self", "book", "names", "at", "name"] ["self", "book", "names"] (defScope s_Makers_init) := ⟨rfl, rfl, rfl, by decide +kernel, rfl, by decide +kernel, by decide +kernel⟩
set_option maxHeartbeats 0
theorem cal_mk_init (D : DefM K C "__init__" "Makers.__init__" s_Makers_init) (cl : MCls K C) (G : Glb mg) (CC : Cal P w K mg base 1 "column" spColumn) : MCal P w K mg base C 2 "__init__" (spInitM P w K C) := by
  refine mkMCal D sc_mk_init (fun _ _ _ _ _ _ us hl => match us, hl with | [_, _, _], _ => rfl) (fun vs H Q E h => ?_) (fun f cdv A outer s H vs Q E hr h => ?_)
  · obtain ⟨o, dx, q, f, xs, rs, names, rfl, _⟩ := h
    rfl
  · obtain ⟨o, dx, q, f, xs, rs, names, rfl, ho, hq, hx, hf, nn, k⟩ := h
    refine ⟨_, (pss_cons (ps_fld (pv 0) (pv 1) rfl)
    (pss_cons (ps_fld (pv 0) (pe_dc (own := [("at", 3), ("name", 4)]) (g := gTup K 2 (gCons (gName 3) (gCons (gName 4) gNil))) (tt := tYes) (by rfl) sc_mk_init.nd (pi_enT (by rfl) G.enumerate (pa_cons (pv 2) pa_nil)) (blkOk_by (own := [("at", 3), ("name", 4)]) (N := ["self", "book", "names", "at", "name"]) (sc := defScope s_Makers_init) (by decide +kernel)) (fun _ _ _ _ _ => pg_tup rfl (pgs_cons (pg_name (i := 3) sc_mk_init.nd rfl (Or.inl rfl)) (pgs_cons (pg_name (i := 4) sc_mk_init.nd rfl (Or.inl rfl)) pgs_nil))) (fun _ _ _ _ _ => pts_nil) (fun _ _ _ _ _ => (pv 4)) (fun _ _ _ _ _ => (pe_cal CC hr (by omega) (pa_cons (pv 3) (pa_cons (pe_callB (show CallR _ (.builtin "len") (fun xs H Q => ∃ p ys, xs = [V.ref p] ∧ (SqL K H p ys ∨ SqT K H p ys) ∧ Q (.int ys.length) H) from call_len_seq) (by rfl) G.len PySem.boot_len (pa_cons (pv 2) pa_nil)) pa_nil))))) rfl)
    (pss_one (ps_fld (pv 0) pe_dnewK rfl)))), ?_⟩
    refine ⟨_, rfl, _, rfl, o, C, dx, [], rfl, ho, cl.cl, cl.nB, (by show 0 < 1000; decide), ?_⟩
    have t1 : ∀ u, Tups H (upd H o u) := fun u => ⟨fun b xs e => by rw [upd_ne (ne_of e ho (fun z => nomatch z))]; exact e, fun b ob u' e => by rw [upd_ne (ne_of e ho (fun z => nomatch z))]; exact e⟩
    have b1 : But o H (upd H o (.ins C dx (putF "book" (V.ref q) []))) := (But.refl o H).upd
    have h1 : upd H o (.ins C dx (putF "book" (V.ref q) [])) o = some (.ins C dx (putF "book" (V.ref q) [])) := upd_same
    have t1 := t1 (.ins C dx (putF "book" (V.ref q) []))
    generalize upd H o (.ins C dx (putF "book" (V.ref q) [])) = H1 at b1 h1 t1 ⊢
    refine nxD_open (seq_fld ?_)
    refine ⟨_, rfl, f, _, rfl, t1.seqT hf, fun d1 nd1 => ?_⟩
    refine dc_enT (K := K) (a := f) (xs := names.map V.str) (fun i H' => Same H1 H' ∧ H' d1 = some (.dK ((names.zipIdx.take i).map fun c => ((Sum.inr c.1 : Key), V.int ((bits (2 ^ names.length) fun s => s.testBit c.2 : Nat) : Int))))) ⟨same_upd nd1, upd_same⟩ (fun i H' h => Same.seqT h.1 (t1.seqT hf)) ?_ ?_
    · rintro i x T H3 hx3 nT ⟨s3, hd3⟩
      obtain ⟨y, hy, rfl⟩ := Option.map_eq_some_iff.mp ((List.getElem?_map ..).symm.trans hx3)
      have il := (List.getElem?_eq_some_iff.mp hy).1
      have s4 := same_upd (o := .tup [.int (i : Int), .str y]) nT
      refine ⟨T, _, rfl, SqT.of upd_same, rfl, _, _, rfl, _, _, rfl, rfl, rfl, _, rfl, _, rfl, _, rfl, f, _, rfl, .inr (Same.seqT (s3.trans s4) (t1.seqT hf)), i, names.length, ?_, il, nn.2, ?_⟩
      · rw [List.length_map]
        rfl
      · refine ⟨_, Sum.inr y, rfl, s4 _ _ hd3, ?_, same_mut (s3.trans s4) nd1, ?_⟩
        · have n12 := nn.2
          rw [List.length_map, List.length_take, List.length_zipIdx, sizeLine_eq]
          omega
        · rw [upd_same, col_take nn.1 hy _ (fun c => V.int ((bits (2 ^ names.length) fun s => s.testBit c.2 : Nat) : Int)) rfl]
    · rintro H2 ⟨s2, hd1⟩
      have e1 : names.zipIdx.take (names.map V.str).length = names.zipIdx := List.take_of_length_le (by rw [List.length_zipIdx, List.length_map]; exact Nat.le_refl _)
      rw [e1] at hd1
      replace hd1 : H2 d1 = some (.dK (colD names)) := hd1
      have od1 : o ≠ d1 := ne_of_none h1 nd1
      refine ⟨_, rfl, o, C, dx, _, rfl, s2 _ _ h1, cl.cl, cl.nT, (by show 1 < 1000; decide), ?_⟩
      have h2 := s2 _ _ h1
      have t3 : ∀ u, Tups H2 (upd H2 o u) := fun u => ⟨fun b xs e => by rw [upd_ne (ne_of e h2 (fun z => nomatch z))]; exact e, fun b ob u' e => by rw [upd_ne (ne_of e h2 (fun z => nomatch z))]; exact e⟩
      refine fun kd nkd => ?_
      have okd : o ≠ kd := fun z => by
        rw [← z, upd_same] at nkd
        cases nkd
      have dkd : d1 ≠ kd := fun z => by
        rw [← z, upd_ne od1.symm, hd1] at nkd
        cases nkd
      have nkd2 : H2 kd = none := by rwa [upd_ne okd.symm] at nkd
      refine ⟨_, rfl, o, C, dx, _, rfl, by rw [upd_ne okd, upd_same], cl.cl, cl.nK, (by show 2 < 1000; decide), ?_⟩
      have nd1' : H d1 = none := b1.free nd1 od1.symm
      have nkd' : H kd = none := b1.free (s2.free nkd2) okd.symm
      refine k d1 kd _ nd1' nkd' (fun c u e n => ?_) fun Ok => ⟨⟨dx, ?_⟩, ⟨xs, ?_, ?_⟩, ?_, dkd, nn, [], ?_, List.nodup_nil, fun p v m => nomatch m⟩
      · rw [upd_ne n, upd_ne (ne_of_none e nkd'), upd_ne n]
        exact s2 _ _ (b1 _ _ e n)
      · rw [upd_same]
        rfl
      · have t4 := (t1.trans (Same.tups s2)).trans (t3 (.ins C dx (putF "columns" (V.ref d1) (putF "book" (V.ref q) []))))
        refine (t4.trans (Same.tups (same_upd (o := .dK []) nkd))).trans ⟨fun b xs e => ?_, fun b ob u' e => ?_⟩ |>.seqT hq
        · have ne : b ≠ o := fun z => by
            rw [z, upd_ne okd, upd_same] at e
            cases e
          rw [upd_ne ne]
          exact e
        · have ne : b ≠ o := fun z => by
            rw [z, upd_ne okd, upd_same] at e
            cases e
          rw [upd_ne ne]
          exact e
      · have t4 := (t1.trans (Same.tups s2)).trans (t3 (.ins C dx (putF "columns" (V.ref d1) (putF "book" (V.ref q) []))))
        refine thAll_tups ((t4.trans (Same.tups (same_upd (o := .dK []) nkd))).trans ⟨fun b xs e => ?_, fun b ob u' e => ?_⟩) hx book_onlyT
        · have ne : b ≠ o := fun z => by
            rw [z, upd_ne okd, upd_same] at e
            cases e
          rw [upd_ne ne]
          exact e
        · have ne : b ≠ o := fun z => by
            rw [z, upd_ne okd, upd_same] at e
            cases e
          rw [upd_ne ne]
          exact e
      · rw [upd_ne od1.symm, upd_ne dkd, upd_ne od1.symm]
        exact hd1
      · refine NAt.new ?_
        rw [upd_ne okd.symm, upd_same]
end
end Lk

/-! K31J -/
set_option Elab.async false
set_option linter.all false
set_option maxRecDepth 100000
set_option maxHeartbeats 4000000
namespace Lk
open PySem PySem.Spec PyProof.Rows L2
/-! ### with which sets a name can be made -/
theorem bit_is {n i : Nat} {f : Nat → Bool} (h : i < n) : decide (V.int ((bits n f / 2 ^ i % 2 : Nat) : Int) = V.int 1) = f i := by
  rw [bits_at]
  cases e : f i with
  | true =>
    rw [if_pos ⟨h, rfl⟩]
    exact decide_eq_true rfl
  | false =>
    rw [if_neg (fun y => nomatch y.2)]
    exact decide_eq_false fun y => nomatch V.int.inj y
/-- for each set, by its number, whether a name can be made of it -/
noncomputable def madeL (rs : List Rl) (names : List Str) (z : Str) : List Bool := (List.range (2 ^ names.length)).map fun s => (way rs (subN names s) z []).isSome
def spMaking (K : PySem.W.Frag) : Sp := fun vs H Q _ => ∃ (q f : Addr) (rs : List Rl) (names : List Str) (z : Str) (Ok : Place → Prop), vs = [.ref q, .str z, .ref f] ∧ (∃ xs, SqT K H q xs ∧ ThAll K H xs (rs.map Rl.d)) ∧ OkR rs Ok ∧ (∀ p, Ok p → p.1 ∈ names) ∧ Ok (z, []) ∧ SqT K H f (names.map V.str) ∧ (names.Nodup ∧ names.length ≤ 12) ∧
  ∀ (l : Addr) (H' : Hp), Same H H' → H l = none → H' l = some (.lst ((madeL rs names z).map V.bl)) → Q (.ref l) H'
section
variable {P : Program} {w : World} {K : PySem.W.Frag} {mg : Str → Option Value} {base : Heap} {C : Addr}
theorem sc_making : FnScope ["book", "name", "names", "found", "number"] ["book", "name", "names"] (defScope s_p_making) := ⟨rfl, rfl, rfl, by decide +kernel, rfl, by decide +kernel, by decide +kernel⟩
theorem nex_ret {x : V} {i : Nat} {te : TE} {D : Ends} {σ : L2.St} {H : Hp} (h : te (σ.set i (some x)) H D.rt) : gName i x σ H (tRet te D) := h
set_option maxHeartbeats 0
theorem cal_making (D : Def1 K mg "making" s_p_making) (G : Glb mg) (Z : Kls K mg "Makers" C) (cl : MCls K C) (CI : MCal P w K mg base C 2 "__init__" (spInitM P w K C)) (CO : MCal P w K mg base C 17 "of" (spOf P w K C 7)) : Cal P w K mg base 18 "making" (spMaking K) := by
  refine mkCal D sc_making (fun _ _ _ _ _ _ us hl => match us, hl with | [_, _, _], _ => rfl) (fun vs H Q E h => ?_) (fun f' cdv A outer s H vs Q E hr h => ?_)
  · obtain ⟨q, f, rs, names, z, Ok, rfl, _⟩ := h
    rfl
  · obtain ⟨q, f, rs, names, z, Ok, rfl, ⟨xs, hq, hx⟩, O, inN, st, hf, nn, k⟩ := h
    refine ⟨_, (pss_cons (ps_set (i := 3) sc_making.nd rfl (.inr rfl) (pe_mcal CO cl.cl hr (by omega) (pe_new CI Z hr (by decide) (pa_cons (pv 0) (pa_cons (pv 2) pa_nil))) (pa_cons (pv 1) (pa_cons (pe_tup pa_nil) pa_nil))))
    (pss_one (ps_ret (pe_lc (own := [("number", 4)]) (g := gName 4) (tt := tYes) (by rfl) sc_making.nd (pi_range1 (by rfl) G.range (pa_cons (pe_op op_shlM pe_int (pe_callB call_len_seq (by rfl) G.len PySem.boot_len (pa_cons (pv 2) pa_nil))) pa_nil)) (blkOk_by (own := [("number", 4)]) (N := ["book", "name", "names", "found", "number"]) (sc := defScope s_p_making) (by decide +kernel)) (fun _ _ _ _ _ => pg_name (i := 4) sc_making.nd rfl (Or.inl rfl)) (fun _ _ _ _ _ => pts_nil) (fun _ _ _ _ _ => (pe_cmpR op_eq (pe_op op_odd (pe_op op_shrM (pv 3) (pv 4)) pe_int) pe_int (nomark _))))))), ?_⟩
    refine ⟨_, rfl, _, rfl, fun o dx no nd ne => ?_⟩
    have s2 : Same H (upd (upd H dx (.own o)) o (.ins C dx [])) := fun b u e => by
      rw [upd_ne (ne_of_none e no), upd_ne (ne_of_none e nd)]
      exact e
    have ho : upd (upd H dx (.own o)) o (.ins C dx []) o = some (.ins C dx []) := upd_same
    generalize upd (upd H dx (.own o)) o (.ins C dx []) = H2 at s2 ho
    refine ⟨o, dx, q, f, xs, rs, names, rfl, ho, Same.seqT s2 hq, thAll_same s2 hx, Same.seqT s2 hf, nn, fun d1 kd H3 n1 n2 b3 mk => ⟨rfl, ?_⟩⟩
    have S3 := mk Ok
    obtain ⟨dx3, hob3⟩ := S3.ob
    refine ⟨o, dx3, _, rfl, hob3, fldsM_no _ _ _ (by decide +kernel) (by decide +kernel) (by decide +kernel), _, rfl, (by show 0 ≤ sizeLine; decide), fun t nt => ?_⟩
    have s4 := same_upd (o := .tup []) nt
    have t4 : upd H3 t (.tup []) t = some (.tup (([] : List Nat).map fun n : Nat => V.int (n : Int))) := upd_same
    have S4 := S3.same s4
    have many := (book_len O.bk).1
    refine ⟨o, q, d1, kd, t, rs, names, z, [], Ok, rfl, S4, O, inN, t4, st, by show rs.length + 1 ≤ 0 + 7; omega, fun H5 b5 S5 => ?_⟩
    have s05 : Same H H5 := fun b u e => by
      have e2 := s2 _ _ e
      have no2 : b ≠ o := ne_of_none e no
      exact b5 _ _ (s4 _ _ (b3 _ _ e2 no2)) (ne_of_none e2 n2)
    refine nx_open (nex_ret ?_)
    have p12 := pow12 nn.2
    refine ⟨_, rfl, f, _, rfl, .inr (Same.seqT s05 hf), 1, names.length, rfl, by rw [List.length_map], ⟨1, by decide, by omega⟩, ?_⟩
    have p12' : 1 * 2 ^ names.length ≤ 4096 := by rw [Nat.one_mul]; exact p12
    refine ⟨_, rfl, (by show -(2 ^ 62) ≤ ((1 * 2 ^ names.length : Nat) : Int); omega), (by show ((1 * 2 ^ names.length : Nat) : Int) < 2 ^ 62; omega), fun l nl => ?_⟩
    have en : ((1 * 2 ^ names.length : Nat) : Int).toNat = 2 ^ names.length := by rw [Int.toNat_natCast, Nat.one_mul]
    show ∃ W, _
    rw [en]
    refine lc_range (lo := 0) (n := 2 ^ names.length) (fun i H' => Same H5 H' ∧ H' l = some (.lst (((madeL rs names z).take i).map V.bl))) ⟨same_upd nl, upd_same⟩ ?_ ?_
    · rintro j H6 hj ⟨s6, hl⟩
      refine ⟨rfl, _, rfl, _, rfl, mkN rs names z [], j, rfl, by rw [Int.zero_add], trivial, _, rfl, rfl, rfl, ?_⟩
      refine ⟨_, hl, ?_, same_mut s6 nl, ?_⟩
      · have := List.length_take_le j (madeL rs names z)
        rw [List.length_map, sizeLine_eq]
        omega
      · have e : (madeL rs names z)[j]? = some (way rs (subN names j) z []).isSome := by
          unfold madeL
          rw [List.getElem?_map, List.getElem?_range hj]
          rfl
        have b := bit_is (f := fun s => (way rs (subN names s) z []).isSome) hj
        unfold mkN
        rw [upd_same, List.take_add_one, e, List.map_append]
        show some (HO.lst (_ ++ [V.bl (decide (V.int ((bits (2 ^ names.length) (fun s => (way rs (subN names s) z []).isSome) / 2 ^ j % 2 : Nat) : Int) = V.int 1))])) = _
        rw [b]
        rfl
    · rintro H6 ⟨s6, hl⟩
      have lm : (madeL rs names z).length = 2 ^ names.length := by
        unfold madeL
        rw [List.length_map, List.length_range]
      rw [← lm, List.take_length] at hl
      exact k l H6 (s05.trans s6) (s05.free nl) hl
end
end Lk

/-! K31K -/
set_option Elab.async false
set_option linter.all false
set_option maxRecDepth 100000
set_option maxHeartbeats 4000000
namespace Lk
open PySem PySem.Spec PyProof.Rows L2
/-! ### barring, none_in -/
noncomputable def barL (rs : List Rl) (names : List Str) (z : Str) : List Bool := (madeL rs names z).reverse.map fun b => !b
def spBarring (K : PySem.W.Frag) : Sp := fun vs H Q _ => ∃ (q f : Addr) (rs : List Rl) (names : List Str) (z : Str) (Ok : Place → Prop), vs = [.ref q, .str z, .ref f] ∧ (∃ xs, SqT K H q xs ∧ ThAll K H xs (rs.map Rl.d)) ∧ OkR rs Ok ∧ (∀ p, Ok p → p.1 ∈ names) ∧ Ok (z, []) ∧ SqT K H f (names.map V.str) ∧ (names.Nodup ∧ names.length ≤ 12) ∧
  ∀ (l : Addr) (H' : Hp), Same H H' → H l = none → H' l = some (.lst ((barL rs names z).map V.bl)) → Q (.ref l) H'
def spNoneIn (K : PySem.W.Frag) : Sp := fun vs H Q _ => ∃ (a b : Addr) (xs ys : List Str), vs = [.ref a, .ref b] ∧ SqT K H a (xs.map V.str) ∧ SqT K H b (ys.map V.str) ∧ xs.length ≤ 1000 ∧ ∀ H', Same H H' → Q (.bl (!xs.any fun x => decide (x ∈ ys))) H'
section
variable {P : Program} {w : World} {K : PySem.W.Frag} {mg : Str → Option Value} {base : Heap} {C : Addr}
theorem sc_barring : FnScope ["book", "name", "names", "made"] ["book", "name", "names"] (defScope s_p_barring) := ⟨rfl, rfl, rfl, by decide +kernel, rfl, by decide +kernel, by decide +kernel⟩
theorem sc_none_in : FnScope ["names", "files", "name"] ["names", "files"] (defScope s_p_none_in) := ⟨rfl, rfl, rfl, by decide +kernel, rfl, by decide +kernel, by decide +kernel⟩
set_option maxHeartbeats 0
theorem cal_none_in (D : Def1 K mg "none_in" s_p_none_in) (gany : mg "any" = none) : Cal P w K mg base 1 "none_in" (spNoneIn K) := by
  refine mkCal D sc_none_in (fun _ _ _ _ _ _ us hl => match us, hl with | [_, _], _ => rfl) (fun vs H Q E h => ?_) (fun f cdv A outer s H vs Q E hr h => ?_)
  · obtain ⟨a, b, xs, ys, rfl, _⟩ := h
    rfl
  · obtain ⟨a, b, xs, ys, rfl, ha, hb, lx, k⟩ := h
    refine ⟨_, (pss_one (ps_ret (pe_not (pe_callB (cr_any rfl) (by rfl) gany (by decide +kernel) (pa_cons (pe_lc (own := [("name", 2)]) (g := gName 2) (tt := tYes) (by rfl) sc_none_in.nd (pi_tup (pv 0)) (blkOk_by (own := [("name", 2)]) (N := ["names", "files", "name"]) (sc := defScope s_p_none_in) (by decide +kernel)) (fun _ _ _ _ _ => pg_name (i := 2) sc_none_in.nd rfl (Or.inl rfl)) (fun _ _ _ _ _ => pts_nil) (fun _ _ _ _ _ => (pe_cmpR (show OpR _ (compareOp .In) (rIn K false) from op_in_seq) (pv 2) (pv 1) (by rfl)))) pa_nil))))), ?_⟩
    refine ⟨_, rfl, a, rfl, ⟨_, ha⟩, fun l nl => ?_⟩
    refine lc_tup (K := K) (a := a) (xs := xs.map V.str) (fun i H' => Same H H' ∧ H' l = some (.lst (((xs.take i).map fun x => decide (x ∈ ys)).map V.bl))) ⟨same_upd nl, upd_same⟩ (fun i H' _ h => Same.seqT h.1 ha) ?_ ?_
    · rintro i x H1 hx ⟨s1, hl⟩
      obtain ⟨y, hy, rfl⟩ := Option.map_eq_some_iff.mp ((List.getElem?_map ..).symm.trans hx)
      refine ⟨rfl, _, rfl, _, rfl, b, _, rfl, .inr (Same.seqT s1 hb), rfl, flat_strs, _, hl, ?_, same_mut s1 nl, ?_⟩
      · rw [List.length_map, List.length_map, List.length_take, sizeLine_eq]
        omega
      · rw [upd_same, List.take_add_one, hy, List.map_append, List.map_append]
        show some (HO.lst (_ ++ [V.bl (inV (V.str y) (ys.map V.str))])) = _
        rw [in_strs]
        rfl
    · rintro H1 ⟨s1, hl⟩
      rw [List.length_map, List.take_length] at hl
      refine ⟨l, _, rfl, SqL.of hl, _, rfl, ?_⟩
      rw [List.any_map]
      exact k H1 s1
theorem cal_barring (D : Def1 K mg "barring" s_p_barring) (grev : mg "reversed" = none) (CM : Cal P w K mg base 18 "making" (spMaking K)) : Cal P w K mg base 19 "barring" (spBarring K) := by
  refine mkCal D sc_barring (fun _ _ _ _ _ _ us hl => match us, hl with | [_, _, _], _ => rfl) (fun vs H Q E h => ?_) (fun f' cdv A outer s H vs Q E hr h => ?_)
  · obtain ⟨q, f, rs, names, z, Ok, rfl, _⟩ := h
    rfl
  · obtain ⟨q, f, rs, names, z, Ok, rfl, hb, O, inN, st, hf, nn, k⟩ := h
    refine ⟨_, (pss_one (ps_ret (pe_lc (own := [("made", 3)]) (g := gName 3) (tt := tYes) (by rfl) sc_barring.nd (pi_reversed (by rfl) grev (pa_cons (pe_cal CM hr (by omega) (pa_cons (pv 0) (pa_cons (pv 1) (pa_cons (pv 2) pa_nil)))) pa_nil)) (blkOk_by (own := [("made", 3)]) (N := ["book", "name", "names", "made"]) (sc := defScope s_p_barring) (by decide +kernel)) (fun _ _ _ _ _ => pg_name (i := 3) sc_barring.nd rfl (Or.inl rfl)) (fun _ _ _ _ _ => pts_nil) (fun _ _ _ _ _ => (pe_not (pv 3)))))), ?_⟩
    refine ⟨_, rfl, _, rfl, _, rfl, q, f, rs, names, z, Ok, rfl, hb, O, inN, st, hf, nn, fun l H1 s1 nl hl => ?_⟩
    refine ⟨l, _, rfl, SqL.of hl, fun D' nD => ?_⟩
    have lm : (madeL rs names z).length ≤ 4096 := by
      have := pow12 nn.2
      unfold madeL
      rw [List.length_map, List.length_range]
      exact this
    refine lc_it (walk_rev (K := K) (a := l) (xs := (madeL rs names z).map V.bl)) (fun i H' => Same H1 H' ∧ H' D' = some (.lst (((barL rs names z).take i).map V.bl))) ⟨same_upd nD, upd_same⟩ (fun i H' _ h => h.1.seq (SqL.of hl)) ?_ ?_
    · rintro i x H2 H2' hi ⟨s2, hD⟩ ⟨rfl, hx⟩
      rw [List.length_map] at hi hx
      obtain ⟨b, hb2, rfl⟩ := Option.map_eq_some_iff.mp ((List.getElem?_map ..).symm.trans hx)
      have hr : (barL rs names z)[i]? = some (!b) := by
        unfold barL
        rw [List.getElem?_map, List.getElem?_reverse hi, hb2]
        rfl
      refine ⟨rfl, _, rfl, _, rfl, _, hD, ?_, same_mut s2 nD, ?_⟩
      · have := List.length_take_le i (barL rs names z)
        rw [List.length_map, List.length_take, sizeLine_eq]
        omega
      · rw [upd_same, List.take_add_one, hr, List.map_append]
        rfl
    · rintro H2 ⟨s2, hD⟩
      have e : (barL rs names z).take ((madeL rs names z).map V.bl).length = barL rs names z := by
        refine List.take_of_length_le ?_
        unfold barL
        rw [List.length_map, List.length_reverse, List.length_map]
        exact Nat.le_refl _
      rw [e] at hD
      exact k D' H2 (s1.trans s2) (s1.free nD) hD
end
end Lk

/-! K31L -/
set_option Elab.async false
set_option linter.all false
set_option maxRecDepth 100000
set_option maxHeartbeats 4000000
namespace Lk
open PySem PySem.Spec PyProof.Rows L2
/-! ### `_law_doubled`, numbered -/
theorem lc_enT {K : PySem.W.Frag} {a : Addr} {xs : List V} {g : TG} {tt : TT} {te : TE} {vs : List Nat} {σ : L2.St} {H1 : Hp} {D : Addr} {Qd : Hp → Prop} (Pv : Nat → Hp → Prop) (h0 : Pv 0 (upd H1 D (.lst []))) (hl : ∀ i H, Pv i H → SqT K H a xs)
    (hs : ∀ (i : Nat) (x : V) (T : Addr) (H : Hp), xs[i]? = some x → H T = none → Pv i H → g (.ref T) (wipe σ vs) (upd H T (.tup [.int (i : Int), x])) fun σ2 H2 => wipe σ2 vs = wipe σ vs ∧ tt σ2 H2 fun b H3 =>
      if b = true then te σ2 H3 fun y H4 => ∃ acc, H4 D = some (.lst acc) ∧ acc.length < sizeLine ∧ Pv (i + 1) (upd H4 D (.lst (acc ++ [y]))) else Pv (i + 1) H3) (hd : ∀ H, Pv xs.length H → Qd H) :
    ∃ W : Nat → Nat → Hp → Prop, (∃ m, W 0 m (upd H1 D (.lst []))) ∧ ∀ i m H, W i m H →
      ((IteT K a).stop i H ∧ Qd H) ∨ ((IteT K a).go i H ∧ ∃ Nx : Hp → Prop, (∀ H', Nx H' → ∃ m', m' < m ∧ W (i + 1) m' H') ∧ ∀ x H', (IteT K a).yld i H x H' → g x (wipe σ vs) H' fun σ2 H2 => wipe σ2 vs = wipe σ vs ∧ tt σ2 H2 fun b H3 =>
        if b = true then te σ2 H3 fun y H4 => ∃ acc, H4 D = some (.lst acc) ∧ acc.length < sizeLine ∧ Nx (upd H4 D (.lst (acc ++ [y]))) else Nx H3) := by
  refine ⟨fun i m H => i + m = xs.length ∧ Pv i H, ⟨xs.length, Nat.zero_add _, h0⟩, ?_⟩
  rintro i m H ⟨em, p⟩
  have q := hl i H p
  cases m with
  | zero =>
    have e : i = xs.length := by omega
    subst e
    exact .inl ⟨⟨xs, q, rfl⟩, hd H p⟩
  | succ m =>
    have lt : i < xs.length := by omega
    refine .inr ⟨⟨xs, _, q, List.getElem?_eq_getElem lt⟩, Pv (i + 1), fun H' p' => ⟨m, Nat.lt_succ_self m, by omega, p'⟩, ?_⟩
    rintro x H' ⟨T, y, rfl, nT, rfl, ey⟩
    exact hs i y T H (ey xs q) nT p
/-- the number of a set of names -/
noncomputable def numL (names xs : List Str) : Nat := bits names.length fun i => match names[i]? with
  | some y => decide (y ∈ xs)
  | none => false
def spDoubled : Sp := fun vs H Q _ => ∃ m : Nat, vs = [.int (m : Int)] ∧ m ≤ 40 ∧ Q (.int ((2 ^ m : Nat) : Int)) H
def spNumbered (K : PySem.W.Frag) : Sp := fun vs H Q _ => ∃ (a f : Addr) (xs names : List Str), vs = [.ref a, .ref f] ∧ SqT K H a (xs.map V.str) ∧ SqT K H f (names.map V.str) ∧ names.length ≤ 12 ∧ ∀ H', Same H H' → Q (.int ((numL names xs : Nat) : Int)) H'
section
variable {P : Program} {w : World} {K : PySem.W.Frag} {mg : Str → Option Value} {base : Heap} {C : Addr}
theorem sc_numbered : FnScope ["some", "names", "at", "name"] ["some", "names"] (defScope s_p_numbered) := ⟨rfl, rfl, rfl, by decide +kernel, rfl, by decide +kernel, by decide +kernel⟩
set_option maxHeartbeats 0
theorem cal_numbered (D : Def1 K mg "numbered" s_p_numbered) (G : Glb mg) (gsum : mg "sum" = none) : Cal P w K mg base 1 "numbered" (spNumbered K) := by
  refine mkCal D sc_numbered (fun _ _ _ _ _ _ us hl => match us, hl with | [_, _], _ => rfl) (fun vs H Q E h => ?_) (fun f cdv A outer s H vs Q E hr h => ?_)
  · obtain ⟨a, f, xs, names, rfl, _⟩ := h
    rfl
  · obtain ⟨a, f, xs, names, rfl, ha, hf, n12, k⟩ := h
    refine ⟨_, (pss_one (ps_ret (pe_callB (cr_sum rfl) (by rfl) gsum (by decide +kernel) (pa_cons (pe_lc (own := [("at", 2), ("name", 3)]) (g := gTup K 2 (gCons (gName 2) (gCons (gName 3) gNil))) (by rfl) sc_numbered.nd (pi_enT (by rfl) G.enumerate (pa_cons (pv 1) pa_nil)) (blkOk_by (own := [("at", 2), ("name", 3)]) (N := ["some", "names", "at", "name"]) (sc := defScope s_p_numbered) (by decide +kernel)) (fun _ _ _ _ _ => pg_tup rfl (pgs_cons (pg_name (i := 2) sc_numbered.nd rfl (Or.inl rfl)) (pgs_cons (pg_name (i := 3) sc_numbered.nd rfl (Or.inl rfl)) pgs_nil))) (fun _ _ _ _ _ => pts_one (pt_cmpR (show OpR _ (compareOp .In) (rIn K false) from op_in_seq) (pv 3) (pv 0) (by rfl))) (fun _ _ _ _ _ => (pe_op op_shlM pe_int (pv 2)))) pa_nil)))), ?_⟩
    refine ⟨_, rfl, f, _, rfl, hf, fun l nl => ?_⟩
    obtain ⟨g, eg⟩ : ∃ g : Nat → Bool, g = fun i => match names[i]? with
      | some y => decide (y ∈ xs)
      | none => false := ⟨_, rfl⟩
    refine lc_enT (K := K) (a := f) (xs := names.map V.str) (fun i H' => Same H H' ∧ ∃ ns : List Int, H' l = some (.lst (ns.map V.int)) ∧ ns.length ≤ i ∧ ns.sum = ((bits i g : Nat) : Int)) ⟨same_upd nl, [], upd_same, Nat.le_refl _, rfl⟩ (fun i H' h => Same.seqT h.1 hf) ?_ ?_
    · rintro i x T H1 hx nT ⟨s1, ns, hl, ln, sm⟩
      obtain ⟨y, hy, rfl⟩ := Option.map_eq_some_iff.mp ((List.getElem?_map ..).symm.trans hx)
      have il := (List.getElem?_eq_some_iff.mp hy).1
      have p12 := pow12 (show i ≤ 12 by omega)
      have s2 := same_upd (o := .tup [.int (i : Int), .str y]) nT
      have gi : g i = decide (y ∈ xs) := by rw [eg]; simp only [hy]
      refine ⟨T, _, rfl, SqT.of upd_same, rfl, _, _, rfl, _, _, rfl, rfl, rfl, _, rfl, _, rfl, a, _, rfl, .inr (Same.seqT (s1.trans s2) ha), rfl, flat_strs, _, rfl, ?_⟩
      have step : bits (i + 1) g = (if g i = true then 2 ^ i else 0) + bits i g := rfl
      by_cases hin : y ∈ xs
      · refine iteT' (by show inV (V.str y) _ = true; rw [in_strs, decide_eq_true hin]) ?_
        refine ⟨_, rfl, 1, i, rfl, rfl, ⟨1, by decide, by omega⟩, _, s2 _ _ hl, by rw [List.length_map, sizeLine_eq]; omega, same_mut (s1.trans s2) nl, ns ++ [((1 * 2 ^ i : Nat) : Int)], by rw [upd_same, List.map_append]; rfl, by rw [List.length_append]; show ns.length + 1 ≤ i + 1; omega, ?_⟩
        rw [step, gi, if_pos (decide_eq_true hin), List.sum_append, sm, Nat.one_mul]
        simp
        omega
      · refine iteF' (by show inV (V.str y) _ = false; rw [in_strs, decide_eq_false hin]) ⟨s1.trans s2, ns, s2 _ _ hl, by omega, ?_⟩
        rw [step, gi, if_neg (by rw [decide_eq_false hin]; exact Bool.false_ne_true), Nat.zero_add, sm]
    · rintro H1 ⟨s1, ns, hl, ln, sm⟩
      refine ⟨l, ns, rfl, SqL.of hl, ?_⟩
      rw [sm, List.length_map, eg]
      exact k H1 s1
end
end Lk

/-! K31N -/
set_option Elab.async false
set_option linter.all false
set_option maxRecDepth 100000
set_option maxHeartbeats 4000000
namespace Lk
open PySem PySem.Spec PyProof.Rows L2
/-! ### sets of places, in their order -/
theorem bits_id {n s : Nat} (h : s < 2 ^ n) : s = bits n s.testBit := bits_ext fun i => by
  by_cases hi : i < n
  · rw [decide_eq_true hi, Bool.true_and]
  · rw [decide_eq_false hi, Bool.false_and]
    exact Nat.testBit_lt_two_pow (Nat.lt_of_lt_of_le h (Nat.pow_le_pow_right (by decide) (by omega)))
theorem set_eq {n s t : Nat} (hs : s < 2 ^ n) (ht : t < 2 ^ n) (h : ∀ i, i < n → (s.testBit i = true ↔ t.testBit i = true)) : s = t := by
  rw [bits_id hs, bits_id ht]
  exact bits_congr fun i hi => Bool.eq_iff_iff.mpr (h i hi)
def plN (n s : Nat) : List Nat := (List.range n).filter fun i => s.testBit i
theorem mem_plc {n s i : Nat} : i ∈ plN n s ↔ i < n ∧ s.testBit i = true := by
  unfold plN
  rw [List.mem_filter, List.mem_range]
theorem plN_nd (n s : Nat) : (plN n s).Nodup := List.nodup_range.filter _
theorem plN_inj {n s t : Nat} (hs : s < 2 ^ n) (ht : t < 2 ^ n) (e : plN n s = plN n t) : s = t := set_eq hs ht fun i hi => by
  have z : i ∈ plN n s ↔ i ∈ plN n t := by rw [e]
  rw [mem_plc, mem_plc] at z
  exact ⟨fun h => (z.mp ⟨hi, h⟩).2, fun h => (z.mpr ⟨hi, h⟩).2⟩
def keyZ (n s : Nat) : List Int := (plN n s).map fun i : Nat => (i : Int)
def ltP (n s t : Nat) : Prop := (plN n s).length < (plN n t).length ∨ ((plN n s).length = (plN n t).length ∧ keyZ n s < keyZ n t)
theorem ltP_tri {n s t : Nat} (hs : s < 2 ^ n) (ht : t < 2 ^ n) (h1 : ¬ ltP n s t) (h2 : ¬ ltP n t s) : s = t := by
  unfold ltP at h1 h2
  have e : (plN n s).length = (plN n t).length := by omega
  have a : ¬ keyZ n s < keyZ n t := fun z => h1 (.inr ⟨e, z⟩)
  have b : ¬ keyZ n t < keyZ n s := fun z => h2 (.inr ⟨e.symm, z⟩)
  have k : keyZ n s = keyZ n t := List.le_antisymm (List.not_lt.mp b) (List.not_lt.mp a)
  exact plN_inj hs ht (List.map_inj_right (fun x y z => Int.ofNat.inj z) |>.mp k)
/-- in the order of sets -/
def SrtP (n : Nat) (L : List Nat) : Prop := L.Pairwise fun s t => ¬ ltP n t s
theorem srt_uniq {n : Nat} {L M : List Nat} (bd : ∀ s ∈ L, s < 2 ^ n) (p : L.Perm M) (a : SrtP n L) (b : SrtP n M) : L = M :=
  List.Perm.eq_of_pairwise (fun x y hx hy h1 h2 => ltP_tri (bd x hx) (bd y (p.mem_iff.mpr hy)) h2 h1) a b p
def SubP (n s t : Nat) : Prop := ∀ i, i < n → s.testBit i = true → t.testBit i = true
theorem SubP.trans {n s t u : Nat} (h : SubP n s t) (g : SubP n t u) : SubP n s u := fun i hi b => g i hi (h i hi b)
theorem SubP.refl (n s : Nat) : SubP n s s := fun _ _ b => b
theorem SubP.anti {n s t : Nat} (hs : s < 2 ^ n) (ht : t < 2 ^ n) (h : SubP n s t) (g : SubP n t s) : s = t := set_eq hs ht fun i hi => ⟨h i hi, g i hi⟩
theorem sub_more {n s t : Nat} (hs : s < 2 ^ n) (ht : t < 2 ^ n) (h : SubP n s t) (ne : s ≠ t) : ∃ j, j < n ∧ t.testBit j = true ∧ s.testBit j = false := by
  refine Classical.byContradiction fun no => ne (SubP.anti hs ht h fun i hi b => ?_)
  cases e : s.testBit i with
  | true => rfl
  | false => exact absurd ⟨i, hi, b, e⟩ no
theorem sub_size {n s t : Nat} (hs : s < 2 ^ n) (ht : t < 2 ^ n) (h : SubP n s t) (ne : s ≠ t) : (plN n s).length < (plN n t).length := by
  obtain ⟨j, hj, b1, b2⟩ := sub_more hs ht h ne
  have nd : (j :: plN n s).Nodup := List.nodup_cons.mpr ⟨fun m => (by rw [(mem_plc.mp m).2] at b2; cases b2), plN_nd n s⟩
  exact nodup_len nd fun x m => by
    rcases List.mem_cons.mp m with e | m
    · exact mem_plc.mpr ⟨e ▸ hj, e ▸ b1⟩
    · exact mem_plc.mpr ⟨(mem_plc.mp m).1, h x (mem_plc.mp m).1 (mem_plc.mp m).2⟩
theorem sub_lt {n s t : Nat} (hs : s < 2 ^ n) (ht : t < 2 ^ n) (h : SubP n s t) (ne : s ≠ t) : ltP n s t := .inl (sub_size hs ht h ne)
theorem bits_off {i : Nat} {f : Nat → Bool} (hf : f i = true) : ∀ n, i < n → bits n f = 2 ^ i + bits n fun j => f j && decide (j ≠ i)
  | n + 1, h => by
    have e1 : bits (n + 1) f = (if f n = true then 2 ^ n else 0) + bits n f := rfl
    have e2 : (bits (n + 1) fun j => f j && decide (j ≠ i)) = (if (f n && decide (n ≠ i)) = true then 2 ^ n else 0) + bits n fun j => f j && decide (j ≠ i) := rfl
    rw [e1, e2]
    by_cases hn : n = i
    · subst hn
      rw [if_pos hf, if_neg (by simp), Nat.zero_add]
      congr 1
      exact bits_congr fun j hj => by rw [decide_eq_true (show j ≠ n by omega), Bool.and_true]
    · have ih := bits_off hf n (by omega)
      rw [ih, decide_eq_true hn, Bool.and_true]
      omega
theorem off_test {n s i : Nat} (h : s < 2 ^ n) (hi : s.testBit i = true) : s - 2 ^ i < 2 ^ n ∧ (∀ j, (s - 2 ^ i).testBit j = (s.testBit j && decide (j ≠ i))) ∧ 2 ^ i ≤ s := by
  have lt : i < n := Classical.byContradiction fun no => by
    rw [Nat.testBit_lt_two_pow (Nat.lt_of_lt_of_le h (Nat.pow_le_pow_right (by decide) (by omega)))] at hi
    cases hi
  have z := bits_off hi n lt
  rw [← bits_id h] at z
  have pz := Nat.pow_pos (n := i) (show 0 < 2 by decide)
  refine ⟨by omega, fun j => ?_, by omega⟩
  have e : s - 2 ^ i = bits n fun j => s.testBit j && decide (j ≠ i) := by omega
  rw [e, bits_test]
  by_cases hj : j < n
  · rw [decide_eq_true hj, Bool.true_and]
  · rw [decide_eq_false hj, Bool.false_and, Nat.testBit_lt_two_pow (Nat.lt_of_lt_of_le h (Nat.pow_le_pow_right (by decide) (by omega))), Bool.false_and]
/-- with a set, all larger ones -/
def MonoP (n : Nat) (h : Nat → Bool) : Prop := ∀ s t, s < 2 ^ n → t < 2 ^ n → SubP n s t → h s = true → h t = true
def minB (h : Nat → Bool) (n s : Nat) : Bool := h s && !((plN n s).any fun i => h (s - 2 ^ i))
theorem min_iff {n s : Nat} {h : Nat → Bool} (mono : MonoP n h) (hs : s < 2 ^ n) : minB h n s = true ↔ h s = true ∧ ∀ t, t < 2 ^ n → h t = true → SubP n t s → t = s := by
  unfold minB
  rw [Bool.and_eq_true, Bool.not_eq_true', List.any_eq_false]
  constructor
  · rintro ⟨a, b⟩
    refine ⟨a, fun t ht tt sub => Classical.byContradiction fun ne => ?_⟩
    obtain ⟨j, hj, b1, b2⟩ := sub_more ht hs sub ne
    obtain ⟨o1, o2, _⟩ := off_test hs b1
    refine b j (mem_plc.mpr ⟨hj, b1⟩) (mono t _ ht o1 (fun i hi bi => ?_) tt)
    rw [o2, sub i hi bi, Bool.true_and]
    exact decide_eq_true fun e => by
      rw [e, b2] at bi
      cases bi
  · rintro ⟨a, b⟩
    refine ⟨a, fun i m hh => ?_⟩
    obtain ⟨m1, m2⟩ := mem_plc.mp m
    obtain ⟨o1, o2, o3⟩ := off_test hs m2
    have e := b _ o1 hh fun j hj bj => by
      rw [o2, Bool.and_eq_true] at bj
      exact bj.1
    have := Nat.pow_pos (n := i) (show 0 < 2 by decide)
    omega
theorem min_ex {n : Nat} {h : Nat → Bool} (mono : MonoP n h) : ∀ (m s : Nat), (plN n s).length = m → s < 2 ^ n → h s = true → ∃ t, t < 2 ^ n ∧ SubP n t s ∧ minB h n t = true := by
  intro m
  induction m using Nat.strongRecOn with
  | _ m ih =>
    intro s em hs hh
    by_cases hm : minB h n s = true
    · exact ⟨s, hs, SubP.refl n s, hm⟩
    · have no : ¬ ∀ t, t < 2 ^ n → h t = true → SubP n t s → t = s := fun z => hm ((min_iff mono hs).mpr ⟨hh, z⟩)
      obtain ⟨t, ht⟩ := Classical.not_forall.mp no
      obtain ⟨h1, ht⟩ := Classical.not_imp.mp ht
      obtain ⟨h2, ht⟩ := Classical.not_imp.mp ht
      obtain ⟨h3, ne⟩ := Classical.not_imp.mp ht
      obtain ⟨u, u1, u2, u3⟩ := ih (plN n t).length (em ▸ sub_size h1 hs h3 ne) t rfl h1 h2
      exact ⟨u, u1, u2.trans h3, u3⟩
/-- the law's row of least sets -/
def lstL (sub : Nat → Nat → Bool) (l : List Nat) : List Nat := l.foldl (fun f s => if f.any (fun t => sub t s) = true then f else f ++ [s]) []
theorem lst_snoc {sub : Nat → Nat → Bool} {l : List Nat} {s : Nat} : lstL sub (l ++ [s]) = if (lstL sub l).any (fun t => sub t s) = true then lstL sub l else lstL sub l ++ [s] := by
  unfold lstL
  rw [List.foldl_append]
  rfl
theorem lst_is {n : Nat} {sub : Nat → Nat → Bool} {M : List Nat} {g : Nat → Bool} (bd : ∀ s ∈ M, s < 2 ^ n) (hsub : ∀ s t, s < 2 ^ n → t < 2 ^ n → (sub s t = true ↔ SubP n s t)) (nd : M.Nodup) (so : SrtP n M) (hg : ∀ s ∈ M, (g s = true ↔ ∀ t ∈ M, SubP n t s → t = s))
    (ex : ∀ s ∈ M, ∃ t ∈ M, SubP n t s ∧ g t = true) : lstL sub M = M.filter g := by
  have go : ∀ (k : Nat), k ≤ M.length → lstL sub (M.take k) = (M.take k).filter g := fun k => by
    induction k with
    | zero => exact fun _ => rfl
    | succ k ih =>
      intro hk
      have lt : k < M.length := hk
      have e : M.take (k + 1) = M.take k ++ [M[k]] := by rw [List.take_add_one, List.getElem?_eq_getElem lt]; rfl
      rw [e, lst_snoc, ih (Nat.le_of_lt lt), List.filter_append]
      have mk : M[k] ∈ M := List.getElem_mem lt
      by_cases c : g M[k] = true
      · have no : ((M.take k).filter g).any (fun t => sub t M[k]) = false := by
          rw [List.any_eq_false]
          intro t mt st
          have m1 := (List.mem_filter.mp mt).1
          have mM := List.mem_of_mem_take m1
          have et := (hg _ mk).mp c t mM ((hsub _ _ (bd t mM) (bd _ mk)).mp st)
          obtain ⟨j, hj, ej⟩ := List.mem_iff_getElem.mp m1
          rw [List.length_take] at hj
          rw [List.getElem_take] at ej
          have pw := List.pairwise_iff_getElem.mp nd j k (by omega) lt (by omega)
          exact pw (ej.trans et)
        rw [no, if_neg Bool.false_ne_true, List.filter_cons, if_pos c]
        rfl
      · have yes : ((M.take k).filter g).any (fun t => sub t M[k]) = true := by
          have no : ¬ ∀ t ∈ M, SubP n t M[k] → t = M[k] := fun z => c ((hg _ mk).mpr z)
          obtain ⟨t, ht⟩ := Classical.not_forall.mp no
          obtain ⟨h1, ht⟩ := Classical.not_imp.mp ht
          obtain ⟨h3, ne⟩ := Classical.not_imp.mp ht
          obtain ⟨u, u1, u2, u3⟩ := ex t h1
          have un : u ≠ M[k] := fun z => ne (SubP.anti (bd t h1) (bd _ mk) h3 (z ▸ u2))
          have us := u2.trans h3
          rw [List.any_eq_true]
          refine ⟨u, List.mem_filter.mpr ⟨?_, u3⟩, (hsub _ _ (bd u u1) (bd _ mk)).mpr us⟩
          obtain ⟨j, hj, ej⟩ := List.mem_iff_getElem.mp u1
          have ljk : j < k := Classical.byContradiction fun no2 => by
            have nk : j ≠ k := fun z => un (by subst z; exact ej.symm)
            have pw := List.pairwise_iff_getElem.mp so k j lt hj (by omega)
            exact pw (by rw [ej]; exact sub_lt (bd u u1) (bd _ mk) us un)
          rw [List.mem_iff_getElem]
          exact ⟨j, by rw [List.length_take]; omega, by rw [List.getElem_take]; exact ej⟩
        rw [yes, if_pos rfl, List.filter_cons, if_neg c]
        simp
  have z := go M.length (Nat.le_refl _)
  rw [List.take_length] at z
  exact z
/-- the least ones of all sets that hold -/
theorem lst_all {n : Nat} {sub : Nat → Nat → Bool} {E : List Nat} {h : Nat → Bool} (mono : MonoP n h) (pm : E.Perm (List.range (2 ^ n))) (so : SrtP n E) (hsub : ∀ s t, s < 2 ^ n → t < 2 ^ n → (sub s t = true ↔ SubP n s t)) :
    lstL sub (E.filter h) = E.filter (minB h n) := by
  have bd : ∀ s ∈ E, s < 2 ^ n := fun s m => List.mem_range.mp (pm.mem_iff.mp m)
  have inE : ∀ s, s < 2 ^ n → s ∈ E := fun s m => pm.mem_iff.mpr (List.mem_range.mpr m)
  have nd : E.Nodup := pm.nodup_iff.mpr List.nodup_range
  rw [lst_is (g := minB h n) (fun s m => bd s (List.mem_filter.mp m).1) hsub (nd.filter _) (List.Pairwise.filter _ so) (fun s m => ?_) (fun s m => ?_)]
  · rw [List.filter_filter]
    refine List.filter_congr fun s m => ?_
    unfold minB
    cases h s <;> simp
  · obtain ⟨m1, m2⟩ := List.mem_filter.mp m
    rw [min_iff mono (bd s m1)]
    constructor
    · rintro ⟨_, z⟩ t mt sub
      exact z t (bd t (List.mem_filter.mp mt).1) (List.mem_filter.mp mt).2 sub
    · exact fun z => ⟨m2, fun t ht tt sub => z t (List.mem_filter.mpr ⟨inE t ht, tt⟩) sub⟩
  · obtain ⟨m1, m2⟩ := List.mem_filter.mp m
    obtain ⟨t, t1, t2, t3⟩ := min_ex mono _ s rfl (bd s m1) m2
    refine ⟨t, List.mem_filter.mpr ⟨inE t t1, ((min_iff mono t1).mp t3).1⟩, t2, t3⟩
theorem min_uniq {n : Nat} {E S : List Nat} {g : Nat → Bool} (pm : E.Perm (List.range (2 ^ n))) (so : SrtP n E) (ps : S.Perm ((List.range (2 ^ n)).filter g)) (ss : SrtP n S) : S = E.filter g :=
  srt_uniq (fun s m => List.mem_range.mp (List.mem_filter.mp (ps.mem_iff.mp m)).1) (ps.trans (pm.filter g).symm) ss (List.Pairwise.filter _ so)
/-! ### barriers -/
theorem cmp_test {n s : Nat} (h : s < 2 ^ n) (i : Nat) : (2 ^ n - 1 - s).testBit i = (decide (i < n) && !s.testBit i) := by
  have e : 2 ^ n - 1 - s = 2 ^ n - (s + 1) := by omega
  rw [e]
  exact Nat.testBit_two_pow_sub_succ h i
theorem cmp_lt {n s : Nat} (h : s < 2 ^ n) : 2 ^ n - 1 - s < 2 ^ n := by omega
def barH (n : Nat) (h : Nat → Bool) : Nat → Bool := fun s => !h (2 ^ n - 1 - s)
theorem bar_mono {n : Nat} {h : Nat → Bool} (mono : MonoP n h) : MonoP n (barH n h) := fun s t hs ht sub hb => by
  unfold barH at hb ⊢
  cases e : h (2 ^ n - 1 - t) with
  | false => rfl
  | true =>
    have z := mono _ _ (cmp_lt ht) (cmp_lt hs) (fun i hi b => by
      rw [cmp_test ht, decide_eq_true hi, Bool.true_and, Bool.not_eq_true'] at b
      rw [cmp_test hs, decide_eq_true hi, Bool.true_and, Bool.not_eq_true']
      cases c : s.testBit i with
      | false => rfl
      | true =>
        rw [sub i hi c] at b
        cases b) e
    rw [z] at hb
    cases hb
/-- a barrier meets each least set -/
theorem bar_meets {n s : Nat} {h : Nat → Bool} (mono : MonoP n h) (hs : s < 2 ^ n) : barH n h s = true ↔ ∀ t, t < 2 ^ n → minB h n t = true → ∃ i, i < n ∧ t.testBit i = true ∧ s.testBit i = true := by
  unfold barH
  rw [Bool.not_eq_true']
  constructor
  · intro e t ht mt
    refine Classical.byContradiction fun no => ?_
    have z := mono t _ ht (cmp_lt hs) (fun i hi b => by
      rw [cmp_test hs, decide_eq_true hi, Bool.true_and, Bool.not_eq_true']
      cases c : s.testBit i with
      | false => rfl
      | true => exact absurd ⟨i, hi, b, c⟩ no) ((min_iff mono ht).mp mt).1
    rw [e] at z
    cases z
  · intro z
    cases e : h (2 ^ n - 1 - s) with
    | false => rfl
    | true =>
      obtain ⟨t, t1, t2, t3⟩ := min_ex mono _ _ rfl (cmp_lt hs) e
      obtain ⟨i, hi, b1, b2⟩ := z t t1 t3
      have b := t2 i hi b1
      rw [cmp_test hs, b2] at b
      simp at b
/-- where nothing is made, some least barrier stands aside; and only there -/
theorem bar_aside {n f : Nat} {h : Nat → Bool} (mono : MonoP n h) (hf : f < 2 ^ n) : h f = false ↔ ∃ t, t < 2 ^ n ∧ minB (barH n h) n t = true ∧ ∀ i, i < n → t.testBit i = true → f.testBit i = false := by
  have mb := bar_mono mono
  constructor
  · intro e
    have hb : barH n h (2 ^ n - 1 - f) = true := by
      unfold barH
      have e2 : 2 ^ n - 1 - (2 ^ n - 1 - f) = f := by omega
      rw [e2, e]
      rfl
    obtain ⟨t, t1, t2, t3⟩ := min_ex mb _ _ rfl (cmp_lt hf) hb
    refine ⟨t, t1, t3, fun i hi b => ?_⟩
    have z := t2 i hi b
    rw [cmp_test hf, decide_eq_true hi, Bool.true_and, Bool.not_eq_true'] at z
    exact z
  · rintro ⟨t, t1, t3, no⟩
    have hb := ((min_iff mb t1).mp t3).1
    have z := mb t _ t1 (cmp_lt hf) (fun i hi b => by rw [cmp_test hf, decide_eq_true hi, Bool.true_and, Bool.not_eq_true', no i hi b]) hb
    unfold barH at z
    have e2 : 2 ^ n - 1 - (2 ^ n - 1 - f) = f := by omega
    rw [e2, Bool.not_eq_true'] at z
    exact z
/-! ### sorted by a key of two -/
theorem two_sort {β : Type} {L : List β} {r : β → β → Prop} (n : β → Nat) (nd : L.Nodup) (pw : L.Pairwise r) : (L.mergeSort (lenLe n)).Pairwise fun x y => n x < n y ∨ (n x = n y ∧ r x y) := by
  have tr : ∀ x y z : β, lenLe n x y = true → lenLe n y z = true → lenLe n x z = true := fun x y z h g => by
    have h2 := of_decide_eq_true h
    have g2 := of_decide_eq_true g
    exact decide_eq_true (by omega)
  have to : ∀ x y : β, (lenLe n x y || lenLe n y x) = true := fun x y => by
    rw [Bool.or_eq_true]
    by_cases h : (n x : Int) ≤ (n y : Int)
    · exact .inl (decide_eq_true h)
    · exact .inr (decide_eq_true (by omega))
  have pm := List.mergeSort_perm L (lenLe n)
  have n2 := pm.nodup_iff.mpr nd
  refine List.pairwise_iff_forall_sublist.mpr fun {x y} hs => ?_
  have hL : lenLe n x y = true := List.pairwise_iff_forall_sublist.mp (List.pairwise_mergeSort tr to L) hs
  have h2 := of_decide_eq_true hL
  by_cases lt : n x < n y
  · exact .inl lt
  have eq : n x = n y := by omega
  refine .inr ⟨eq, ?_⟩
  have ne : x ≠ y := List.pairwise_iff_forall_sublist.mp n2 hs
  have hx : x ∈ L := pm.mem_iff.mp (hs.subset (by simp))
  have hy : y ∈ L := pm.mem_iff.mp (hs.subset (by simp))
  rcases two_way ne hx hy with z | z
  · exact List.pairwise_iff_forall_sublist.mp pw z
  · have hL2 : lenLe n y x = true := decide_eq_true (by omega)
    exact (one_way ne n2 hs (List.pair_sublist_mergeSort tr to hL2 z)).elim
/-! ### rows of data by their order -/
theorem rowLt_map {α : Type} {S : α → Prop} {f : α → PyData} {g : α → Int} (al : ∀ x y, S x → S y → PySem.W.alike (f x) (f y) = true) (ev : ∀ x y, S x → S y → (PyData.eqv (f x) (f y) = true ↔ g x = g y)) (lt : ∀ x y, S x → S y → PySem.W.dataLt (f x) (f y) = decide (g x < g y)) :
    ∀ xs ys : List α, (∀ x ∈ xs, S x) → (∀ x ∈ ys, S x) → PySem.W.rowLt (xs.map f) (ys.map f) = decide (xs.map g < ys.map g)
  | [], [], _, _ => by
    have e : PySem.W.rowLt [] [] = false := PyProof.Rows.lex_irrefl _
    simp [e]
  | [], y :: ys, _, _ => by
    have e : PySem.W.rowLt [] (f y :: ys.map f) = true := by
      unfold PySem.W.rowLt
      rw [PySem.W.toks_all_cons]
      simp only [PySem.W.keyToksAll]
      rw [PyProof.Rows.lex_diff (O := PyProof.Rows.itemOrd) (by simp)]
      rfl
    simpa using e
  | x :: xs, [], _, _ => by
    have e : PySem.W.rowLt (f x :: xs.map f) [] = false := by
      unfold PySem.W.rowLt
      rw [PySem.W.toks_all_cons]
      simp only [PySem.W.keyToksAll]
      rw [PyProof.Rows.lex_diff (O := PyProof.Rows.itemOrd) (by simp)]
      rfl
    simpa using e
  | x :: xs, y :: ys, hx, hy => by
    have sx := hx x List.mem_cons_self
    have sy := hy y List.mem_cons_self
    have ih := rowLt_map al ev lt xs ys (fun z m => hx z (List.mem_cons_of_mem _ m)) (fun z m => hy z (List.mem_cons_of_mem _ m))
    have e : PySem.W.rowLt (f x :: xs.map f) (f y :: ys.map f) = if PyData.eqv (f x) (f y) = true then PySem.W.rowLt (xs.map f) (ys.map f) else PySem.W.dataLt (f x) (f y) := by
      unfold PySem.W.rowLt
      rw [PySem.W.dataLt_cons (al x y sx sy)]
    show PySem.W.rowLt (f x :: xs.map f) (f y :: ys.map f) = _
    rw [e, ih, lt x y sx sy]
    by_cases h : g x = g y
    · rw [if_pos ((ev x y sx sy).mpr h)]
      simp [h, List.cons_lt_cons_iff]
    · rw [if_neg (fun z => h ((ev x y sx sy).mp z))]
      simp [h, List.cons_lt_cons_iff]
end Lk

/-! K31O -/
set_option Elab.async false
set_option linter.all false
set_option maxRecDepth 100000
set_option maxHeartbeats 4000000
namespace Lk
open PySem PySem.Spec PyProof.Rows L2
/-! ### least_of -/
def tTruK (K : PySem.W.Frag) (ta : TE) : TT := fun σ H Q => ta σ H fun x H' => ∃ k, TruV K x H' k ∧ Q k H'
def rTupOf (K : PySem.W.Frag) : List V → Hp → VK → Prop := fun xs H Q => ∃ p ys, xs = [V.ref p] ∧ ((SqL K H p ys ∧ ∀ (l : Addr), H l = none → Q (V.ref l) (upd H l (HO.tup ys))) ∨ SqT K H p ys ∧ Q (V.ref p) H)
theorem tru_bit (i j : Nat) : ((((i / 2 ^ j % 2 : Nat)) : Int) != 0) = i.testBit j := by
  rw [Nat.testBit_eq_decide_div_mod_eq]
  have := Nat.mod_two_eq_zero_or_one (i / 2 ^ j)
  rcases this with e | e <;> rw [e] <;> rfl
def tupN (names : List Str) (s : Nat) : PyData := .tuple ((subN names s).map .str)
def encZ (n : Nat) (c : Addr × Nat) : PyData := .tuple ((keyZ n c.2).map .int)
theorem th_encZ {K : PySem.W.Frag} {H : Hp} {n : Nat} {c : Addr × Nat} (h : H c.1 = some (.tup ((plN n c.2).map fun i : Nat => V.int (i : Int)))) : Th K H (.ref c.1) (encZ n c) := by
  refine .tup (SqT.of h) ?_
  have go : ∀ l : List Nat, ThAll K H (l.map fun i : Nat => V.int (i : Int)) ((l.map fun i : Nat => (i : Int)).map PyData.int) := fun l => by
    induction l with
    | nil => exact .nil
    | cons x l ih => exact .cons (.int _) ih
  exact go _
theorem encZ_alike {n : Nat} {fs : List (Addr × Nat)} : PySem.W.AllAlike (fs.map (encZ n)) := PySem.W.AllAlike.of fun b b' => by
  show PySem.W.alike (.tuple _) (.tuple _) = true
  rw [PySem.W.alike]
  exact PySem.W.alike_ints _ _
theorem encZ_depth {n : Nat} {c : Addr × Nat} : (encZ n c).depth = 1 := by
  show PyData.depth (.tuple ((keyZ n c.2).map PyData.int)) = 1
  rw [PyData.depth, PySem.W.depth_ints]
theorem plN_nil {n s : Nat} (hs : s < 2 ^ n) (h : plN n s = []) : s = 0 := by
  refine plN_inj hs (Nat.pow_pos (by decide)) (h.trans ?_)
  unfold plN
  rw [List.filter_eq_nil_iff.mpr]
  intro i _
  rw [Nat.zero_testBit]
  exact Bool.false_ne_true
/-- the empty set stands alone, if it is there -/
theorem encZ_sort {n : Nat} {h : Nat → Bool} (mono : MonoP n h) {fs : List (Addr × Nat)} (e : fs.map (·.2) = (List.range (2 ^ n)).filter (minB h n)) : PySem.W.Sortable (fs.map (encZ n)) ∨ fs.length < 2 := by
  have inf : ∀ c ∈ fs, c.2 < 2 ^ n ∧ minB h n c.2 = true := fun c m => by
    have z : c.2 ∈ fs.map (·.2) := List.mem_map.mpr ⟨c, m, rfl⟩
    rw [e] at z
    exact ⟨List.mem_range.mp (List.mem_filter.mp z).1, (List.mem_filter.mp z).2⟩
  by_cases h0 : ∃ c ∈ fs, c.2 = 0
  · obtain ⟨c, mc, ec⟩ := h0
    right
    have pos : 0 < 2 ^ n := Nat.pow_pos (by decide)
    have m0 := (inf c mc).2
    rw [ec] at m0
    have hh := ((min_iff mono pos).mp m0).1
    have all0 : ∀ s ∈ fs.map (·.2), s = 0 := fun s m => by
      obtain ⟨d, md, rfl⟩ := List.mem_map.mp m
      obtain ⟨d1, d2⟩ := inf d md
      exact (((min_iff mono d1).mp d2).2 0 pos hh (fun i _ b => by rw [Nat.zero_testBit] at b; cases b)).symm
    have nd : (fs.map (·.2)).Nodup := by
      rw [e]
      exact List.nodup_range.filter _
    have z := nodup_len (m := [0]) nd fun s m => List.mem_singleton.mpr (all0 s m)
    rw [List.length_map] at z
    exact Nat.lt_succ_of_le z
  · left
    refine .inl fun d hd => ?_
    obtain ⟨c, mc, rfl⟩ := List.mem_map.mp hd
    cases ep : plN n c.2 with
    | nil => exact absurd ⟨c, mc, plN_nil (inf c mc).1 ep⟩ h0
    | cons x l =>
      unfold encZ keyZ
      rw [ep]
      exact ⟨_, _, rfl⟩
theorem zip_range {names : List Str} : names.zipIdx = (List.range names.length).map fun i => (names.getD i "", i) := by
  refine List.ext_getElem (by simp) fun i h1 h2 => ?_
  have hi : i < names.length := by simpa using h1
  rw [List.getElem_zipIdx, List.getElem_map, List.getElem_range, List.getD_eq_getElem?_getD, List.getElem?_eq_getElem hi]
  simp
theorem sub_plc {names : List Str} {s : Nat} : subN names s = (plN names.length s).map fun i => names.getD i "" := by
  unfold subN plN
  rw [zip_range, List.filter_map, List.map_map]
  rfl
theorem noLst_strs : ∀ ss : List Str, noLstAll (ss.map PyData.str) = true
  | [] => rfl
  | s :: ss => by
    show (noLst (.str s) && noLstAll (ss.map PyData.str)) = true
    rw [noLst_strs ss]
    rfl
theorem noLst_tupN (names : List Str) : ∀ L : List (Addr × Nat), noLstAll (L.map fun c => tupN names c.2) = true
  | [] => rfl
  | c :: L => by
    show (noLstAll ((subN names c.2).map PyData.str) && noLstAll (L.map fun c => tupN names c.2)) = true
    rw [noLst_strs, noLst_tupN names L]
    rfl
def spLeastOf (K : PySem.W.Frag) : Sp := fun vs H Q _ => ∃ (l f : Addr) (names : List Str) (h : Nat → Bool), vs = [.ref l, .ref f] ∧ SqL K H l ((List.range (2 ^ names.length)).map fun s => V.bl (h s)) ∧ SqT K H f (names.map V.str) ∧ names.length ≤ 12 ∧ MonoP names.length h ∧
  ∀ (S : List Nat) (cs : List Addr) (p : Addr) (H' : Hp), Same H H' → H p = none → S.Perm ((List.range (2 ^ names.length)).filter (minB h names.length)) → SrtP names.length S → H' p = some (.lst (cs.map V.ref)) → ThAll K H' (cs.map V.ref) (S.map (tupN names)) → Q (.ref p) H'
section
variable {P : Program} {w : World} {K : PySem.W.Frag} {mg : Str → Option Value} {base : Heap} {C : Addr}
theorem sc_least_of : FnScope ["holds", "names", "found", "number", "held", "at", "places"] ["holds", "names"] (defScope s_p_least_of) := ⟨rfl, rfl, rfl, by decide +kernel, rfl, by decide +kernel, by decide +kernel⟩
set_option maxHeartbeats 0
theorem cal_least_of (D : Def1 K mg "least_of" s_p_least_of) (G : Glb mg) (gany : mg "any" = none) (gsorted : mg "sorted" = none) (gtup : mg "tuple" = none) : Cal P w K mg base 1 "least_of" (spLeastOf K) := by
  refine mkCal D sc_least_of (fun _ _ _ _ _ _ us hl => match us, hl with | [_, _], _ => rfl) (fun vs H Q E h => ?_) (fun f' cdv A outer s H vs Q E hr h => ?_)
  · obtain ⟨l, f, names, h, rfl, _⟩ := h
    rfl
  · obtain ⟨l, f, names, h, rfl, hl, hf, n12, mono, k⟩ := h
    refine ⟨_, (pss_cons (ps_set (i := 2) sc_least_of.nd rfl (.inl rfl) (pe_lst pa_nil))
    (pss_cons (ps_for PassesOwn.never rfl (pi_enum (by rfl) G.enumerate (pa_cons (pv 0) pa_nil)) (pg_tup rfl (pgs_cons (pg_name (i := 3) sc_least_of.nd rfl (.inr rfl)) (pgs_cons (pg_name (i := 4) sc_least_of.nd rfl (.inl rfl)) pgs_nil)))
    (pss_cons (ps_setLc (i := 6) (own := [("at", 5)]) (g := gName 5) (by rfl) sc_least_of.nd rfl rfl (sw_true rfl rfl rfl (by decide +kernel)) (pi_range1 (by rfl) G.range (pa_cons (pe_callB call_len_seq (by rfl) G.len PySem.boot_len (pa_cons (pv 1) pa_nil)) pa_nil)) (blkOk_by (own := [("at", 5)]) (N := ["holds", "names", "found", "number", "held", "at", "places"]) (sc := defScope s_p_least_of) (by decide +kernel)) (fun _ _ _ _ _ => pg_name (i := 5) sc_least_of.nd rfl (Or.inl rfl)) (fun _ _ _ _ _ => pts_one (show PT _ _ (tTruK K _) from pt_truth (pe_op op_odd (pe_op op_shrM (pv 3) (pv 5)) pe_int) (by intro _; rfl))) (fun _ _ _ _ _ => (pv 5)))
    (pss_one (ps_if (PW.pt (pw_and (pt_val (pv 4)) (pw_and1 (pt_not (pt_val (pe_callB (cr_any rfl) (by rfl) gany (by decide +kernel) (pa_cons (pe_lc (own := [("at", 5)]) (g := gName 5) (tt := tYes) (by rfl) sc_least_of.nd (pi_list (pv 6)) (blkOk_by (own := [("at", 5)]) (N := ["holds", "names", "found", "number", "held", "at", "places"]) (sc := defScope s_p_least_of) (by decide +kernel)) (fun _ _ _ _ _ => pg_name (i := 5) sc_least_of.nd rfl (Or.inl rfl)) (fun _ _ _ _ _ => pts_nil) (fun _ _ _ _ _ => (pe_ix (show IxR _ (rIxL K) from ix_list) (pv 0) (pe_op op_sub (pv 3) (pe_op op_shlM pe_int (pv 5))) (fun _ _ => rfl)))) pa_nil))))))) (pss_one (ps_expr (pe_bm PySem.F.plainAttrs_list PySem.F.slot_list_append PySem.F.type_list_append mt_append (pv 2) (pa_cons (pe_callTy (show CallR _ (.type "tuple") (rTupOf K) from call_tuple_of) (by rfl) gtup (by decide +kernel) (pa_cons (pv 6) pa_nil)) pa_nil)))) pss_nil))))
    (pss_one (ps_ret (pe_lc (own := [("places", 6)]) (g := gName 6) (tt := tYes) (by rfl) sc_least_of.nd (pi_list (pe_sortLenT (pe_callB (call_sortD hr.units) (by rfl) gsorted (by decide +kernel) (pa_cons (pv 2) pa_nil)) gsorted G.len hr.units)) (blkOk_by (own := [("places", 6)]) (N := ["holds", "names", "found", "number", "held", "at", "places"]) (sc := defScope s_p_least_of) (by decide +kernel)) (fun _ _ _ _ _ => pg_name (i := 6) sc_least_of.nd rfl (Or.inl rfl)) (fun _ _ _ _ _ => pts_nil) (fun _ _ _ _ _ => (pe_callTy (show CallR _ (.type "tuple") (rTupOf K) from call_tuple_of) (by rfl) gtup (by decide +kernel) (pa_cons (pe_lc (own := [("at", 5)]) (g := gName 5) (tt := tYes) (by rfl) sc_least_of.nd (inT (K := K) (pv 6)) (blkOk_by (own := [("at", 5)]) (N := ["holds", "names", "found", "number", "held", "at", "places"]) (sc := { kind := ScopeKind.function, names := [ (".0", NameKind.local), ("places", NameKind.local), ("tuple", NameKind.globalImplicit), ("names", NameKind.cell)], isGenerator := false, isCoroutine := false }) (by decide +kernel)) (fun _ _ _ _ _ => pg_name (i := 5) sc_least_of.nd rfl (Or.inl rfl)) (fun _ _ _ _ _ => pts_nil) (fun _ _ _ _ _ => (pe_ix (show IxR _ (rIxT K) from ix_tup) (pv 1) (pv 5) (fun _ _ => rfl)))) pa_nil)))))))), ?_⟩
    have p12 := pow12 n12
    obtain ⟨N, hN⟩ : ∃ N, N = 2 ^ names.length := ⟨_, rfl⟩
    rw [← hN] at hl k p12
    refine sq_asg (lst_nil fun fd nfd => ?_)
    refine on_go (sq_for ?_)
    have s1 := same_upd (o := .lst []) nfd
    have hfd : upd H fd (.lst []) fd = some (.lst []) := upd_same
    generalize upd H fd (.lst []) = H1 at s1 hfd
    refine ⟨_, rfl, l, _, rfl, Same.seq s1 hl, ?_⟩
    refine for_enum (K := K) (a := l) (xs := (List.range N).map fun s => V.bl (h s)) (fun i σ H' => ∃ v3 v4 v5 v6 : Option V, σ = [some (.ref l), some (.ref f), some (.ref fd), v3, v4, v5, v6] ∧ Same H H' ∧
      ∃ fs : List (Addr × Nat), fs.map (·.2) = (List.range i).filter (minB h names.length) ∧ H' fd = some (.lst (fs.map fun c => V.ref c.1)) ∧ ∀ c ∈ fs, H' c.1 = some (.tup ((plN names.length c.2).map fun i : Nat => V.int (i : Int))))
      ⟨_, _, _, _, rfl, s1, [], rfl, hfd, fun _ m => nomatch m⟩ (fun i σ H' ⟨_, _, _, _, _, s, _⟩ => Same.seq s hl) ?_ ?_
    · rintro i x σ H2 T hx nT ⟨v3, v4, v5, v6, rfl, s2, fs, ef, hfd2, each⟩
      obtain ⟨y, hy, rfl⟩ := Option.map_eq_some_iff.mp ((List.getElem?_map ..).symm.trans hx)
      have iN : i < N := by
        have z := (List.getElem?_eq_some_iff.mp hy).1
        rwa [List.length_range] at z
      rw [List.getElem?_range iN] at hy
      cases hy
      have s3 := same_upd (o := .tup [.int (i : Int), V.bl (h i)]) nT
      have hfd3 := s3 _ _ hfd2
      have each3 : ∀ c ∈ fs, upd H2 T (.tup [.int (i : Int), V.bl (h i)]) c.1 = some (.tup ((plN names.length c.2).map fun i : Nat => V.int (i : Int))) := fun c m => s3 _ _ (each c m)
      refine ⟨T, _, rfl, .inl (.inl upd_same), rfl, _, _, rfl, _, _, rfl, rfl, ?_⟩
      have s23 := s2.trans s3
      generalize upd H2 T (.tup [.int (i : Int), V.bl (h i)]) = H3 at s3 hfd3 each3 s23 ⊢
      refine sq_asg ?_
      refine ⟨_, rfl, f, _, rfl, .inr (Same.seqT s23 hf), ?_⟩
      refine ⟨_, rfl, (by rw [List.length_map]; show -(2 ^ 62) ≤ ((names.length : Nat) : Int); omega), (by rw [List.length_map]; show ((names.length : Nat) : Int) < 2 ^ 62; omega), fun l2 nl2 => ?_⟩
      show ∃ W, _
      rw [List.length_map, Int.toNat_natCast]
      refine lc_range (lo := 0) (n := names.length) (fun j H' => Same H3 H' ∧ H' l2 = some (.lst (((List.range j).filter fun a => i.testBit a).map fun a : Nat => V.int (a : Int)))) ⟨same_upd nl2, upd_same⟩ ?_ ?_
      · rintro j H4 hj ⟨s4, hl4⟩
        refine ⟨rfl, _, rfl, _, rfl, i, j, rfl, by rw [Int.zero_add], trivial, _, rfl, rfl, _, rfl, ?_⟩
        have lr : ((List.range j).filter fun a => i.testBit a).length ≤ j := Nat.le_trans (List.length_filter_le ..) (by rw [List.length_range]; exact Nat.le_refl _)
        by_cases tb : i.testBit j = true
        · refine iteT' ((tru_bit i j).trans tb) ?_
          refine ⟨_, rfl, _, hl4, ?_, same_mut s4 nl2, ?_⟩
          · rw [List.length_map, sizeLine_eq]
            omega
          · rw [upd_same, List.range_succ, List.filter_append, List.filter_cons, if_pos tb, List.map_append, Int.zero_add]
            rfl
        · have tf := Bool.not_eq_true _ ▸ tb
          refine iteF' ((tru_bit i j).trans tf) ⟨s4, ?_⟩
          rw [List.range_succ, List.filter_append, List.filter_cons, if_neg tb]
          simpa using hl4
      · rintro H4 ⟨s4, hl4⟩
        have hpl : H4 l2 = some (.lst ((plN names.length i).map fun a : Nat => V.int (a : Int))) := hl4
        have rs1 : (List.range (i + 1)).filter (minB h names.length) = fs.map (·.2) ++ if minB h names.length i = true then [i] else [] := by
          rw [List.range_succ, List.filter_append, ef, List.filter_cons]
          rfl
        have s24 := s23.trans s4
        have hfd4 := s4 _ _ hfd3
        have each4 : ∀ c ∈ fs, H4 c.1 = some (.tup ((plN names.length c.2).map fun i : Nat => V.int (i : Int))) := fun c m => s4 _ _ (each3 c m)
        have skip : minB h names.length i = false → ∀ H', Same H4 H' → Same H H' ∧ ∃ fs : List (Addr × Nat), fs.map (·.2) = (List.range (i + 1)).filter (minB h names.length) ∧ H' fd = some (.lst (fs.map fun c => V.ref c.1)) ∧ ∀ c ∈ fs, H' c.1 = some (.tup ((plN names.length c.2).map fun i : Nat => V.int (i : Int))) := fun e H' s5 =>
          ⟨s24.trans s5, fs, by rw [rs1, e]; simp, s5 _ _ hfd4, fun c m => s5 _ _ (each4 c m)⟩
        refine on_go (go_if ?_)
        refine ⟨_, rfl, _, rfl, ?_⟩
        by_cases hi : h i = true
        · refine iteT' hi ?_
          refine ⟨_, rfl, l2, rfl, ⟨_, SqL.of hpl⟩, fun l3 nl3 => ?_⟩
          refine lc_list (K := K) (a := l2) (xs := (plN names.length i).map fun a : Nat => V.int (a : Int)) (fun j H' => Same H4 H' ∧ H' l3 = some (.lst ((((plN names.length i).take j).map fun a => h (i - 2 ^ a)).map V.bl))) ⟨same_upd nl3, upd_same⟩ (fun j H' _ h => Same.seq h.1 (SqL.of hpl)) ?_ ?_
          · rintro j x H5 hx5 ⟨s5, hl5⟩
            obtain ⟨a, ha, rfl⟩ := Option.map_eq_some_iff.mp ((List.getElem?_map ..).symm.trans hx5)
            obtain ⟨ma, ta⟩ := mem_plc.mp (List.mem_of_getElem? ha)
            obtain ⟨o1, _, o3⟩ := off_test (hN ▸ iN) ta
            rw [← hN] at o1
            refine ⟨rfl, _, rfl, _, rfl, _, rfl, 1, a, rfl, rfl, ⟨1, by decide, by omega⟩, ?_⟩
            refine ⟨_, _, rfl, rfl, l, _, ((i - 2 ^ a : Nat) : Int), V.bl (h (i - 2 ^ a)), rfl, congrArg V.int ?_, Same.seq (s24.trans s5) hl, atI_nat (by rw [List.getElem?_map, List.getElem?_range o1]; rfl), ?_⟩
            · show (i : Int) - ((1 * 2 ^ a : Nat) : Int) = _
              rw [Nat.one_mul]
              omega
            · refine ⟨_, hl5, ?_, same_mut s5 nl3, ?_⟩
              · have z1 := List.length_take_le j (plN names.length i)
                have z2 := (plN_nd names.length i)
                have z3 : (plN names.length i).length ≤ names.length := Nat.le_trans (List.length_filter_le ..) (by rw [List.length_range]; exact Nat.le_refl _)
                rw [List.length_map, List.length_map, List.length_take, sizeLine_eq]
                omega
              · rw [upd_same, List.take_add_one, ha, List.map_append, List.map_append]
                rfl
          · rintro H5 ⟨s5, hl5⟩
            rw [List.length_map, List.take_length] at hl5
            have em : minB h names.length i = !((plN names.length i).map fun a => h (i - 2 ^ a)).any id := by
              unfold minB
              rw [hi, Bool.true_and, List.any_map]
              rfl
            refine ⟨l3, _, rfl, SqL.of hl5, _, rfl, ?_⟩
            by_cases nm : ((plN names.length i).map fun a => h (i - 2 ^ a)).any id = true
            · rw [nm] at em
              refine iteF' (by rw [nm]; rfl) ?_
              exact ⟨_, _, _, _, rfl, skip em H5 s5⟩
            · rw [Bool.not_eq_true] at nm
              rw [nm] at em
              refine iteT' (by rw [nm]; rfl) ?_
              have hfd5 := s5 _ _ hfd4
              refine ⟨_, rfl, .inl ⟨rfl, _, SqL.of hfd5⟩, _, rfl, l2, _, rfl, .inl ⟨SqL.of (s5 _ _ hpl), fun u nu => ?_⟩⟩
              have s6 := same_upd (o := .tup ((plN names.length i).map fun a : Nat => V.int (a : Int))) nu
              have ufd : u ≠ fd := fun e => by
                rw [e, hfd5] at nu
                cases nu
              have hu : upd H5 u (.tup ((plN names.length i).map fun a : Nat => V.int (a : Int))) u = some (.tup ((plN names.length i).map fun a : Nat => V.int (a : Int))) := upd_same
              have each5 : ∀ c ∈ fs, upd H5 u (.tup ((plN names.length i).map fun a : Nat => V.int (a : Int))) c.1 = some (.tup ((plN names.length c.2).map fun i : Nat => V.int (i : Int))) := fun c m => s6 _ _ (s5 _ _ (each4 c m))
              have hfd6 := s6 _ _ hfd5
              have s26 := (s24.trans s5).trans s6
              generalize upd H5 u (.tup ((plN names.length i).map fun a : Nat => V.int (a : Int))) = H6 at hu each5 hfd6 s26 ⊢
              have lfs : fs.length ≤ i := by
                have z : (fs.map (·.2)).length ≤ i := by
                  rw [ef]
                  exact Nat.le_trans (List.length_filter_le ..) (by rw [List.length_range]; exact Nat.le_refl _)
                rwa [List.length_map] at z
              refine ⟨fd, _, _, rfl, rfl, hfd6, by rw [List.length_map, sizeLine_eq]; omega, _, _, _, _, rfl, same_mut s26 nfd, fs ++ [(u, i)], ?_, ?_, ?_⟩
              · rw [rs1, em, List.map_append]
                rfl
              · rw [upd_same, List.map_append]
                rfl
              · intro c m
                have at_ : H6 c.1 = some (.tup ((plN names.length c.2).map fun i : Nat => V.int (i : Int))) := by
                  rcases List.mem_append.mp m with m | m
                  · exact each5 c m
                  · rw [List.mem_singleton.mp m]
                    exact hu
                have ne : c.1 ≠ fd := fun e => by
                  rw [e, hfd6] at at_
                  cases at_
                rw [upd_ne ne]
                exact at_
        · have hf2 := Bool.not_eq_true _ ▸ hi
          refine iteF' hf2 (iteF' rfl ?_)
          exact ⟨_, _, _, _, rfl, skip (by unfold minB; rw [hf2]; rfl) H4 (Same.refl _)⟩
    · rintro σ H2 ⟨v3, v4, v5, v6, rfl, s2, fs, ef, hfd2, each⟩
      rw [List.length_map, List.length_range] at ef
      have ndf : fs.Nodup := by
        have z : (fs.map (·.2)).Nodup := by
          rw [ef]
          exact List.nodup_range.filter _
        exact List.Pairwise.of_map _ (fun a b h e => h (e ▸ rfl)) z
      have lfs : fs.length ≤ N := by
        have z : (fs.map (·.2)).length ≤ N := by
          rw [ef]
          exact Nat.le_trans (List.length_filter_le ..) (by rw [List.length_range]; exact Nat.le_refl _)
        rwa [List.length_map] at z
      refine ends_go (go_ret ?_)
      refine ⟨_, rfl, Addr × Nat, fd, fs, (fun c => V.ref c.1), encZ names.length, rfl, SqL.of hfd2, fun c m => th_encZ (each c m), encZ_alike, encZ_sort mono (hN ▸ ef), fun c _ => by rw [encZ_depth]; decide, fun p np => ?_⟩
      have pm1 := List.mergeSort_perm fs (PySem.W.dataLe false (encZ names.length))
      have pw1 : (fs.mergeSort (PySem.W.dataLe false (encZ names.length))).Pairwise fun x y => ¬ keyZ names.length y.2 < keyZ names.length x.2 := by
        refine (PySem.W.sort_pairwise (PySem.W.sortLe_total _ _ _) _).imp fun {x y} z => ?_
        have z2 : (!PySem.W.dataLt (encZ names.length y) (encZ names.length x)) = true := z
        unfold encZ at z2
        rw [PySem.W.dataLt_tuple, Bool.not_eq_true'] at z2
        have z3 : PySem.W.rowLt ((keyZ names.length y.2).map .int) ((keyZ names.length x.2).map .int) = false := z2
        rw [PySem.W.dataLt_ints] at z3
        exact of_decide_eq_false z3
      have nd1 := pm1.nodup_iff.mpr ndf
      have mem1 : ∀ c, c ∈ fs.mergeSort (PySem.W.dataLe false (encZ names.length)) → c ∈ fs := fun c m => pm1.mem_iff.mp m
      generalize fs.mergeSort (PySem.W.dataLe false (encZ names.length)) = f1 at pm1 pw1 nd1 mem1
      have s3 := same_upd (o := .lst (f1.map fun c => V.ref c.1)) np
      have hp3 : upd H2 p (.lst (f1.map fun c => V.ref c.1)) p = some (.lst (f1.map fun c => V.ref c.1)) := upd_same
      have each3 : ∀ c ∈ f1, upd H2 p (.lst (f1.map fun c => V.ref c.1)) c.1 = some (.tup ((plN names.length c.2).map fun i : Nat => V.int (i : Int))) := fun c m => s3 _ _ (each c (mem1 c m))
      have s23 := s2.trans s3
      refine ⟨Addr × Nat, p, f1, (fun c => c.1), (fun c => (plN names.length c.2).length), rfl, SqL.of hp3, fun c m => ⟨_, SqT.of (each3 c m), List.length_map ..⟩, fun p2 np2 => ?_⟩
      generalize upd H2 p (.lst (f1.map fun c => V.ref c.1)) = H3 at s3 hp3 each3 s23 np2 ⊢
      have pm2 := List.mergeSort_perm f1 (lenLe fun c : Addr × Nat => (plN names.length c.2).length)
      have pw2 := two_sort (fun c : Addr × Nat => (plN names.length c.2).length) nd1 pw1
      generalize f1.mergeSort (lenLe fun c : Addr × Nat => (plN names.length c.2).length) = f2 at pm2 pw2 ⊢
      have s4 := same_upd (o := .lst (f2.map fun c => V.ref c.1)) np2
      have hp4 : upd H3 p2 (.lst (f2.map fun c => V.ref c.1)) p2 = some (.lst (f2.map fun c => V.ref c.1)) := upd_same
      have each4 : ∀ c ∈ f2, upd H3 p2 (.lst (f2.map fun c => V.ref c.1)) c.1 = some (.tup ((plN names.length c.2).map fun i : Nat => V.int (i : Int))) := fun c m => s4 _ _ (each3 c (pm2.mem_iff.mp m))
      have s24 := s23.trans s4
      refine ⟨p2, rfl, ⟨_, SqL.of hp4⟩, fun D nD => ?_⟩
      generalize upd H3 p2 (.lst (f2.map fun c => V.ref c.1)) = H4 at s4 hp4 each4 s24 nD ⊢
      have lf2 : f2.length ≤ N := by rw [(pm2.trans pm1).length_eq]; exact lfs
      refine lc_list (K := K) (a := p2) (xs := f2.map fun c => V.ref c.1) (fun j H' => Same H4 H' ∧ ∃ cs : List Addr, H' D = some (.lst (cs.map V.ref)) ∧ cs.length = j ∧ ThAll K H' (cs.map V.ref) ((f2.take j).map fun c => tupN names c.2)) ⟨same_upd nD, [], upd_same, rfl, .nil⟩ (fun j H' _ h => Same.seq h.1 (SqL.of hp4)) ?_ ?_
      · rintro j x H5 hx5 ⟨s5, cs, hD, lcs, th⟩
        obtain ⟨c, hc, rfl⟩ := Option.map_eq_some_iff.mp ((List.getElem?_map ..).symm.trans hx5)
        have mc := List.mem_of_getElem? hc
        have jl := (List.getElem?_eq_some_iff.mp hc).1
        have at5 := s5 _ _ (each4 c mc)
        refine ⟨rfl, _, rfl, c.1, rfl, ⟨_, SqT.of at5⟩, fun u nu => ?_⟩
        refine lc_tup (K := K) (a := c.1) (xs := (plN names.length c.2).map fun i : Nat => V.int (i : Int)) (fun i H' => Same H5 H' ∧ H' u = some (.lst (((plN names.length c.2).take i).map fun a => V.str (names.getD a "")))) ⟨same_upd nu, upd_same⟩ (fun i H' _ h => Same.seqT h.1 (SqT.of at5)) ?_ ?_
        · rintro i x H6 hx6 ⟨s6, hu⟩
          obtain ⟨a, ha, rfl⟩ := Option.map_eq_some_iff.mp ((List.getElem?_map ..).symm.trans hx6)
          obtain ⟨ma, _⟩ := mem_plc.mp (List.mem_of_getElem? ha)
          refine ⟨rfl, _, rfl, _, rfl, f, _, (a : Int), V.str (names.getD a ""), rfl, rfl, Same.seqT ((s24.trans s5).trans s6) hf, atI_nat ?_, _, hu, ?_, same_mut s6 nu, ?_⟩
          · rw [List.getElem?_map, List.getElem?_eq_getElem ma, List.getD_eq_getElem?_getD, List.getElem?_eq_getElem ma]
            rfl
          · have z1 := List.length_take_le i (plN names.length c.2)
            have z3 : (plN names.length c.2).length ≤ names.length := Nat.le_trans (List.length_filter_le ..) (by rw [List.length_range]; exact Nat.le_refl _)
            rw [List.length_map, List.length_take, sizeLine_eq]
            omega
          · rw [upd_same, List.take_add_one, ha, List.map_append]
            rfl
        · rintro H6 ⟨s6, hu⟩
          rw [List.length_map, List.take_length] at hu
          have hD6 := s6 _ _ hD
          refine ⟨u, _, rfl, .inl ⟨SqL.of hu, fun t nt => ?_⟩⟩
          have s7 := same_upd (o := .tup ((plN names.length c.2).map fun a => V.str (names.getD a ""))) nt
          have ht : upd H6 t (.tup ((plN names.length c.2).map fun a => V.str (names.getD a ""))) t = some (.tup ((plN names.length c.2).map fun a => V.str (names.getD a ""))) := upd_same
          have hD7 := s7 _ _ hD6
          generalize upd H6 t (.tup ((plN names.length c.2).map fun a => V.str (names.getD a ""))) = H7 at s7 ht hD7 ⊢
          have s47 := (s5.trans s6).trans s7
          have s8 : Same H4 (upd H7 D (.lst (cs.map V.ref ++ [V.ref t]))) := same_mut s47 nD
          have tD : t ≠ D := fun e => by
            rw [e, hD7] at ht
            cases ht
          refine ⟨_, hD7, by rw [List.length_map, sizeLine_eq]; omega, s8, cs ++ [t], by rw [upd_same, List.map_append]; rfl, by rw [List.length_append, lcs]; rfl, ?_⟩
          rw [List.take_add_one, hc, List.map_append, List.map_append]
          refine thAll_app ?_ (.cons ?_ .nil)
          · exact thAll_mutL hD7 (thAll_same (s6.trans s7) th) (noLst_tupN _ _)
          · refine .tup (SqT.of ((upd_ne tD).trans ht)) ?_
            rw [sub_plc]
            have e : ((plN names.length c.2).map fun a => V.str (names.getD a "")) = ((plN names.length c.2).map fun a => names.getD a "").map V.str := by rw [List.map_map]; rfl
            rw [e]
            exact th_strs2 _
      · rintro H5 ⟨s5, cs, hD, lcs, th⟩
        rw [List.length_map, List.take_length] at th
        have pS : (f2.map (·.2)).Perm ((List.range N).filter (minB h names.length)) := by
          have z := (pm2.trans pm1).map (·.2)
          rw [ef] at z
          exact z
        refine k (f2.map (·.2)) cs D H5 (s24.trans s5) (s24.free nD) pS ?_ hD ?_
        · refine List.pairwise_map.mpr (pw2.imp fun {x y} z => ?_)
          unfold ltP
          rintro (l1 | ⟨l1, l2⟩)
          · rcases z with z | ⟨z, _⟩ <;> omega
          · rcases z with z | ⟨_, z⟩
            · omega
            · exact z l2
        · rw [List.map_map]
          exact th
end
end Lk

/-! K31M -/
set_option Elab.async false
set_option linter.all false
set_option maxRecDepth 100000
set_option maxHeartbeats 4000000
namespace Lk
open PySem PySem.Spec PyProof.Rows L2
section
variable {P : Program} {w : World} {K : PySem.W.Frag} {mg : Str → Option Value} {base : Heap}
def spAll (K : PySem.W.Frag) : Sp := fun vs H Q _ => ∃ (v : V) (r : Rl) (l : Addr) (zs : List Str), vs = [v, .ref l] ∧ Th K H v r.d ∧ RlLen r ∧ H l = some (.lst (zs.map V.str)) ∧ (∀ z ∈ zs, z.length ≤ 1000) ∧ zs.length ≤ 1000000 ∧
  ∀ (p : Addr) (H' : Hp), H p = none → Same H H' → H' p = some (.lst ((zs.flatMap r.of).map V.str)) → Q (.ref p) H'
theorem sc_p_sources_for_all : FnScope ["rule", "names", "_", "pattern", "sources", "found", "name", "within", "source"] ["rule", "names"] (defScope s_p_sources_for_all) := ⟨rfl, rfl, rfl, by decide +kernel, rfl, by decide +kernel, by decide +kernel⟩
theorem cal_p_sources_for_all (D : Def1 K mg "sources_for_all" s_p_sources_for_all) (CW : Cal P w K mg base 1 "stem_within" (spSW K)) (CF : Cal P w K mg base 1 "filled" (spFill K)) : Cal P w K mg base 2 "sources_for_all" (spAll K) := by
  refine mkCal D sc_p_sources_for_all (fun _ _ _ _ _ _ us hl => match us, hl with | [_, _], _ => rfl) (fun vs H Q E h => ?_) (fun f cdv A outer s H vs Q E hr h => ?_)
  · obtain ⟨v, r, l, zs, rfl, _⟩ := h
    rfl
  · obtain ⟨v, r, l, zs, rfl, th, R, hl, lz, nz, k⟩ := h
    refine ⟨_, (pss_cons (ps_asg (pv 0) (pg_tup rfl (pgs_cons (pg_name (i := 2) sc_p_sources_for_all.nd rfl (.inl rfl)) (pgs_cons (pg_name (i := 3) sc_p_sources_for_all.nd rfl (.inl rfl)) (pgs_cons (pg_name (i := 4) sc_p_sources_for_all.nd rfl (.inl rfl)) pgs_nil)))))
    (pss_cons (ps_set (i := 5) sc_p_sources_for_all.nd rfl (.inl rfl) (pe_lst pa_nil))
    (pss_cons (ps_for PassesOwn.never rfl (pi_list (pv 1)) (pg_name (i := 6) sc_p_sources_for_all.nd rfl (.inl rfl))
    (pss_cons (ps_set (i := 7) sc_p_sources_for_all.nd rfl (.inr rfl) (pe_cal CW hr (by decide) (pa_cons (pv 3) (pa_cons (pv 6) pa_nil))))
    (pss_one (ps_if (pt_cmpR op_notN (pv 7) pe_non (nomark _)) (pss_one (ps_expr (pe_bm PySem.F.plainAttrs_list PySem.F.slot_list_extend PySem.F.type_list_extend mt_extend (pv 5) (pa_cons (pe_lc (own := [("source", 8)]) (g := gName 8) (tt := tYes) (by rfl) sc_p_sources_for_all.nd (pi_tup (pv 4)) (blkOk_by (own := [("source", 8)]) (N := ["rule", "names", "_", "pattern", "sources", "found", "name", "within", "source"]) (sc := defScope s_p_sources_for_all) (by decide +kernel)) (fun _ _ _ _ _ => pg_name (i := 8) sc_p_sources_for_all.nd rfl (Or.inl rfl)) (fun _ _ _ _ _ => pts_nil) (fun _ _ _ _ _ => (pe_cal CF hr (by decide) (pa_cons (pv 8) (pa_cons (pv 7) pa_nil))))) pa_nil)))) pss_nil))))
    (pss_one (ps_ret (pv 5)))))), ?_⟩
    obtain ⟨a, p, s, ys, rfl, ha3, hp, hs, hys⟩ := th_rule th
    refine ⟨_, rfl, a, _, rfl, ha3, rfl, _, _, rfl, _, _, rfl, _, _, rfl, rfl, ?_⟩
    refine ⟨(by show 0 ≤ sizeLine; decide), fun D nD => ?_⟩
    have nDl : D ≠ l := fun z => by
      rw [z, hl] at nD
      cases nD
    refine ⟨_, rfl, l, rfl, ⟨_, SqL.of ((upd_ne nDl.symm).trans hl)⟩, for_list (K := K) (a := l) (xs := zs.map V.str) (fun i σ H' => ∃ v6 v7 v8 : Option V, σ = [some (.ref a), some (.ref l), some (.str r.lab), some (.ref p), some (.ref s), some (.ref D), v6, v7, v8] ∧ Same H H' ∧
      H' D = some (.lst (((zs.take i).flatMap r.of).map V.str))) ⟨_, _, _, rfl, same_upd nD, upd_same⟩ ?_ ?_ ?_⟩
    · rintro i σ H' _ ⟨_, _, _, _, sH, _⟩
      exact SqL.of (sH _ _ hl)
    · rintro i x σ H1 hx ⟨v6, v7, v8, rfl, sH, hD⟩
      obtain ⟨z, hz, rfl⟩ := Option.map_eq_some_iff.mp ((List.getElem?_map ..).symm.trans hx)
      have mz := lz z (List.mem_of_getElem? hz)
      have more : ((zs.take (i + 1)).flatMap r.of) = (zs.take i).flatMap r.of ++ r.of z := by
        rw [List.take_add_one, hz, List.flatMap_append]
        simp
      refine ⟨_, rfl, _, rfl, p, r.b, r.e, z, rfl, Same.seqT sH hp, R.b, R.e, Nat.le_trans R.lb (by decide), Nat.le_trans R.le (by decide), Nat.le_trans mz (by decide), ?_⟩
      cases hst : stemO r.b r.e z with
      | none =>
        refine ⟨fun m hm => ?_, fun _ => ?_⟩
        · rw [stemO_some hm] at hst
          cases hst
        · refine ⟨_, rfl, rfl, _, rfl, iteF' rfl ?_⟩
          exact ⟨_, _, _, rfl, sH, by rw [more, of_none hst, List.append_nil]; exact hD⟩
      | some m =>
        refine ⟨fun m' hm => ?_, fun no => absurd ⟨m, stemO_eq hst⟩ no⟩
        rw [stemO_some hm] at hst
        obtain rfl := Option.some.inj hst
        replace hst := stemO_some hm
        have lm := stemO_len hst
        refine ⟨_, rfl, rfl, _, rfl, iteT' rfl ?_⟩
        refine ⟨_, rfl, .inl ⟨rfl, _, SqL.of hD⟩, ?_⟩
        refine fills_read (K := K) (a := s) (xs := ys) (ss := r.ss) (m := m') rfl (Same.seqT sH hs) (thAll_same sH hys) (Nat.le_trans R.ls (by decide)) R.each (by omega) (fun _ => rfl) (fun _ => rfl) (fun _ => rfl) fun b H2 nb s2 hb => ?_
        have few := flatS_len R (zs.take i)
        have few2 := R.ls
        rw [List.length_take] at few
        refine ⟨D, b, _, _, rfl, rfl, s2 _ _ hD, hb, ?_, ?_⟩
        · rw [List.length_map, List.length_map, List.length_map, sizeLine_eq]
          omega
        · exact ⟨_, _, _, rfl, same_mut (sH.trans s2) nD, by rw [upd_same, more, of_some hst, List.map_append]⟩
    · rintro σ H' ⟨v6, v7, v8, rfl, sH, hD⟩
      rw [List.length_map, List.take_length] at hD
      exact ⟨_, rfl, k D H' nD sH hD⟩
end
/-! what the program gathers, as lists -/
noncomputable def ruleK (rs : List Rl) (t k : Nat) (gs : List (List Str)) : List (List Str) :=
  match rs[k]?, gs[t]?, gs[t ||| 2 ^ k]? with
  | some r, some ks, some ls => if t ||| 2 ^ k = t then gs else gs.set (t ||| 2 ^ k) ((ks.flatMap r.of).foldl insK ls)
  | _, _, _ => gs
noncomputable def rulesK (rs : List Rl) (t : Nat) : Nat → List (List Str) → List (List Str)
  | 0, gs => gs
  | k + 1, gs => ruleK rs t k (rulesK rs t k gs)
noncomputable def stK (rs : List Rl) (z : Str) : Nat → List (List Str) × List Str
  | 0 => ((List.replicate (2 ^ rs.length) []).set 0 [z], [])
  | t + 1 => (rulesK rs t rs.length (stK rs z t).1, ((stK rs z t).1.getD t []).foldl insK (stK rs z t).2)
theorem ruleK_len {rs : List Rl} {t k : Nat} {gs : List (List Str)} : (ruleK rs t k gs).length = gs.length := by
  unfold ruleK
  split
  · split
    · rfl
    · exact List.length_set ..
  · rfl
theorem rulesK_len {rs : List Rl} {t : Nat} {gs : List (List Str)} : ∀ k, (rulesK rs t k gs).length = gs.length
  | 0 => rfl
  | k + 1 => (ruleK_len).trans (rulesK_len k)
theorem ruleK_same {rs : List Rl} {t k : Nat} {gs : List (List Str)} (h : t ||| 2 ^ k = t) : ruleK rs t k gs = gs := by
  unfold ruleK
  split
  · exact if_pos h
  · rfl
theorem ruleK_put {rs : List Rl} {t k : Nat} {gs : List (List Str)} {r : Rl} {ks ls : List Str} (h1 : rs[k]? = some r) (h2 : gs[t]? = some ks) (h3 : gs[t ||| 2 ^ k]? = some ls) (h : t ||| 2 ^ k ≠ t) :
    ruleK rs t k gs = gs.set (t ||| 2 ^ k) ((ks.flatMap r.of).foldl insK ls) := by
  unfold ruleK
  rw [h1, h2, h3]
  exact if_neg h
theorem stK_len {rs : List Rl} {z : Str} : ∀ t, (stK rs z t).1.length = 2 ^ rs.length
  | 0 => by
    show ((List.replicate (2 ^ rs.length) []).set 0 [z]).length = _
    rw [List.length_set, List.length_replicate]
  | t + 1 => (rulesK_len _).trans (stK_len t)
/-- all sizes that come are small -/
structure Fits (rs : List Rl) (z : Str) : Prop where
  grp : ∀ t k, t < 2 ^ rs.length → k ≤ rs.length → ∀ ks ∈ rulesK rs t k (stK rs z t).1, ks.length ≤ 900000 ∧ ∀ y ∈ ks, y.length ≤ 1000
  fd : ∀ t, t ≤ 2 ^ rs.length → (stK rs z t).2.length ≤ 900000
theorem or_lt {t k n : Nat} (h : t < 2 ^ n) (hk : k < n) : t ||| 2 ^ k < 2 ^ n := Nat.or_lt_two_pow h (Nat.pow_lt_pow_right (by decide) hk)
/-- the groups and what is found, on the heap -/
structure GA (H0 H : Hp) (G F : Addr) (gas : List Addr) (gs : List (List Str)) (fd : List Str) : Prop where
  same : Same H0 H
  g : H G = some (.lst (gas.map V.ref))
  nG : H0 G = none
  f : H F = some (.dK (dk fd))
  nF : H0 F = none
  new : ∀ a ∈ gas, H0 a = none ∧ a ≠ F
  nd : gas.Nodup
  len : gas.length = gs.length
  at_ : ∀ (i : Nat) (a : Addr) (ks : List Str), gas[i]? = some a → gs[i]? = some ks → H a = some (.dK (dk ks))
section
variable {H0 H H' : Hp} {G F a : Addr} {gas : List Addr} {gs : List (List Str)} {fd ks ks' : List Str} {i : Nat}
theorem GA.on (A : GA H0 H G F gas gs fd) (s : Same H H') : GA H0 H' G F gas gs fd :=
  ⟨A.same.trans s, s _ _ A.g, A.nG, s _ _ A.f, A.nF, A.new, A.nd, A.len, fun i a ks h1 h2 => s _ _ (A.at_ i a ks h1 h2)⟩
theorem GA.put (A : GA H0 H G F gas gs fd) (ha : gas[i]? = some a) (hk : gs[i]? = some ks) : GA H0 (upd H a (.dK (dk ks'))) G F gas (gs.set i ks') fd := by
  have m := List.mem_of_getElem? ha
  have at_ := A.at_ i a ks ha hk
  have nG : G ≠ a := fun z => by
    rw [← z, A.g] at at_
    cases at_
  have hl := (List.getElem?_eq_some_iff.mp hk).1
  refine ⟨same_mut A.same (A.new a m).1, (upd_ne nG).trans A.g, A.nG, (upd_ne (Ne.symm (A.new a m).2)).trans A.f, A.nF, A.new, A.nd, by rw [List.length_set]; exact A.len, fun j b ls h1 h2 => ?_⟩
  by_cases e : j = i
  · subst e
    rw [ha] at h1
    cases h1
    rw [List.getElem?_set_self hl] at h2
    cases h2
    exact upd_same
  · have ne : b ≠ a := fun z => by
      subst z
      exact e ((List.getElem?_inj (List.getElem?_eq_some_iff.mp h1).1 A.nd).mp (h1.trans ha.symm))
    rw [List.getElem?_set_ne (Ne.symm e)] at h2
    rw [upd_ne ne]
    exact A.at_ j b ls h1 h2
theorem GA.more (A : GA H0 H G F gas gs fd) (fd' : List Str) : GA H0 (upd H F (.dK (dk fd'))) G F gas gs fd' := by
  have nG : G ≠ F := fun z => by
    have q := A.f
    rw [← z, A.g] at q
    cases q
  exact ⟨same_mut A.same A.nF, (upd_ne nG).trans A.g, A.nG, upd_same, A.nF, A.new, A.nd, A.len, fun j b ls h1 h2 => (upd_ne (A.new b (List.mem_of_getElem? h1)).2).trans (A.at_ j b ls h1 h2)⟩
end
def mask (ks : List Nat) : Nat := ks.foldr (fun k m => m ||| 2 ^ k) 0
theorem mask_bit (k : Nat) : ∀ ks : List Nat, (mask ks).testBit k = decide (k ∈ ks)
  | [] => Nat.zero_testBit k
  | j :: ks => by
    show (mask ks ||| 2 ^ j).testBit k = _
    rw [Nat.testBit_or, mask_bit k ks, Nat.testBit_two_pow, Bool.eq_iff_iff, Bool.or_eq_true, decide_eq_true_iff, decide_eq_true_iff, decide_eq_true_iff, List.mem_cons, or_comm]
    exact or_congr_left eq_comm
theorem or_stay {t k : Nat} (h : t.testBit k = true) : t ||| 2 ^ k = t := by
  refine Nat.eq_of_testBit_eq fun i => ?_
  rw [Nat.testBit_or, Nat.testBit_two_pow]
  by_cases e : k = i
  · subst e
    rw [h]
    rfl
  · rw [decide_eq_false e, Bool.or_false]
theorem or_goes {t k : Nat} (h : t.testBit k = false) : t ||| 2 ^ k ≠ t := fun e => by
  have z := congrArg (fun m => m.testBit k) e
  rw [Nat.testBit_or, Nat.testBit_two_pow, decide_eq_true rfl, Bool.or_true, h] at z
  cases z
section
variable {rs : List Rl} {z0 : Str} {t k : Nat} {gs : List (List Str)}
/-- a group -/
def grp (gs : List (List Str)) (S : Nat) : List Str := gs.getD S []
theorem grp_set {L : Nat} {ls : List Str} (h : L < gs.length) (S : Nat) : grp (gs.set L ls) S = if S = L then ls else grp gs S := by
  unfold grp
  rw [List.getD_eq_getElem?_getD, List.getD_eq_getElem?_getD, List.getElem?_set]
  by_cases e : L = S
  · rw [if_pos e, if_pos h, if_pos e.symm]
    rfl
  · rw [if_neg e, if_neg (Ne.symm e)]
theorem grp_some {S : Nat} (h : S < gs.length) : gs[S]? = some (grp gs S) := by
  unfold grp
  rw [List.getD_eq_getElem?_getD, List.getElem?_eq_getElem h]
  rfl
theorem rule_at {r : Rl} (hr : rs[k]? = some r) (hN : gs.length = 2 ^ rs.length) (ht : t < 2 ^ rs.length) (S : Nat) :
    grp (ruleK rs t k gs) S = if S = t ||| 2 ^ k ∧ t ||| 2 ^ k ≠ t then ((grp gs t).flatMap r.of).foldl insK (grp gs (t ||| 2 ^ k)) else grp gs S := by
  have hk : k < rs.length := (List.getElem?_eq_some_iff.mp hr).1
  have hL := or_lt ht hk
  by_cases e : t ||| 2 ^ k = t
  · rw [ruleK_same e, if_neg (fun h => h.2 e)]
  · rw [ruleK_put hr (grp_some (by omega)) (grp_some (by omega)) e, grp_set (by omega)]
    by_cases f : S = t ||| 2 ^ k
    · rw [if_pos f, if_pos ⟨f, e⟩]
    · rw [if_neg f, if_neg (fun h => f h.1)]
theorem rule_none (hr : rs[k]? = none) : ruleK rs t k gs = gs := by
  unfold ruleK
  rw [hr]
theorem rule_mono (hN : gs.length = 2 ^ rs.length) (ht : t < 2 ^ rs.length) {S : Nat} {y : Str} (h : y ∈ grp gs S) : y ∈ grp (ruleK rs t k gs) S := by
  cases hr : rs[k]? with
  | none =>
    rw [rule_none hr]
    exact h
  | some r =>
    rw [rule_at hr hN ht]
    split
    · rename_i c
      rw [mem_insl]
      rw [c.1] at h
      exact .inl h
    · exact h
theorem rule_low (hN : gs.length = 2 ^ rs.length) (ht : t < 2 ^ rs.length) {S : Nat} (h : S ≤ t) : grp (ruleK rs t k gs) S = grp gs S := by
  cases hr : rs[k]? with
  | none => rw [rule_none hr]
  | some r =>
    rw [rule_at hr hN ht, if_neg]
    rintro ⟨e, ne⟩
    have z : t ≤ t ||| 2 ^ k := Nat.left_le_or
    omega
def Snd (rs : List Rl) (z0 : Str) (gs : List (List Str)) : Prop := ∀ S y, y ∈ grp gs S → ∃ ks, Chain rs z0 ks y ∧ mask ks = S
theorem rule_snd (hN : gs.length = 2 ^ rs.length) (ht : t < 2 ^ rs.length) (h : Snd rs z0 gs) : Snd rs z0 (ruleK rs t k gs) := by
  cases hr : rs[k]? with
  | none =>
    rw [rule_none hr]
    exact h
  | some r =>
    intro S y m
    rw [rule_at hr hN ht] at m
    split at m
    · rename_i c
      rcases mem_insl.mp m with m | m
      · obtain ⟨ks, a, b⟩ := h _ y m
        exact ⟨ks, a, b.trans c.1.symm⟩
      · obtain ⟨x, hx, hy⟩ := List.mem_flatMap.mp m
        obtain ⟨ks, a, b⟩ := h t x hx
        refine ⟨k :: ks, .step a hr (fun z => c.2 (or_stay ?_)) hy, ?_⟩
        · rw [← b, mask_bit, decide_eq_true z]
        · show mask ks ||| 2 ^ k = S
          rw [b, c.1]
    · exact h S y m
theorem rules_all (hN : gs.length = 2 ^ rs.length) (ht : t < 2 ^ rs.length) (h : Snd rs z0 gs) (nd : ∀ S, (grp gs S).Nodup) : ∀ k, Snd rs z0 (rulesK rs t k gs) ∧ (∀ S, S ≤ t → grp (rulesK rs t k gs) S = grp gs S) ∧ (∀ S y, y ∈ grp gs S → y ∈ grp (rulesK rs t k gs) S) ∧ (∀ S, (grp (rulesK rs t k gs) S).Nodup) ∧
    ∀ j r y y', j < k → rs[j]? = some r → t.testBit j = false → y ∈ grp gs t → y' ∈ r.of y → y' ∈ grp (rulesK rs t k gs) (t ||| 2 ^ j)
  | 0 => ⟨h, fun _ _ => rfl, fun _ _ m => m, nd, fun j _ _ _ lt => absurd lt (Nat.not_lt_zero _)⟩
  | k + 1 => by
    obtain ⟨a, b, c, d, e⟩ := rules_all hN ht h nd k
    have hN2 : (rulesK rs t k gs).length = 2 ^ rs.length := (rulesK_len k).trans hN
    refine ⟨rule_snd hN2 ht a, fun S le => (rule_low hN2 ht le).trans (b S le), fun S y m => rule_mono hN2 ht (c S y m), fun S => ?_, fun j r y y' lt hr bit m m' => ?_⟩
    · show (grp (ruleK rs t k (rulesK rs t k gs)) S).Nodup
      cases hr : rs[k]? with
      | none =>
        rw [rule_none hr]
        exact d S
      | some r =>
        rw [rule_at hr hN2 ht]
        split
        · exact nd_insl (d _)
        · exact d S
    · by_cases f : j = k
      · subst f
        show y' ∈ grp (ruleK rs t j (rulesK rs t j gs)) _
        rw [rule_at hr hN2 ht, if_pos ⟨rfl, or_goes bit⟩, mem_insl, b t (Nat.le_refl _)]
        exact .inr (List.mem_flatMap.mpr ⟨y, m, m'⟩)
      · exact rule_mono hN2 ht (e j r y y' (by omega) hr bit m m')
structure StOk (rs : List Rl) (z0 : Str) (t : Nat) : Prop where
  snd : Snd rs z0 (stK rs z0 t).1
  nd : ∀ S, (grp (stK rs z0 t).1 S).Nodup
  start : z0 ∈ grp (stK rs z0 t).1 0
  clo : ∀ S, S < t → ∀ j r y y', rs[j]? = some r → S.testBit j = false → y ∈ grp (stK rs z0 t).1 S → y' ∈ r.of y → y' ∈ grp (stK rs z0 t).1 (S ||| 2 ^ j)
  fd : ∀ y, y ∈ (stK rs z0 t).2 ↔ ∃ S, S < t ∧ y ∈ grp (stK rs z0 t).1 S
  fnd : (stK rs z0 t).2.Nodup
theorem grp0 (rs : List Rl) (z0 : Str) (S : Nat) : grp (stK rs z0 0).1 S = if S = 0 then [z0] else [] := by
  show grp ((List.replicate (2 ^ rs.length) []).set 0 [z0]) S = _
  rw [grp_set (by rw [List.length_replicate]; exact Nat.pow_pos (by decide))]
  split
  · rfl
  · unfold grp
    rw [List.getD_eq_getElem?_getD, List.getElem?_replicate]
    split <;> rfl
theorem st_ok (rs : List Rl) (z0 : Str) : ∀ t, t ≤ 2 ^ rs.length → StOk rs z0 t
  | 0, _ => by
    refine ⟨fun S y m => ?_, fun S => ?_, ?_, fun S lt => absurd lt (Nat.not_lt_zero _), fun y => ⟨(fun m => nomatch m), (fun ⟨S, lt, _⟩ => absurd lt (Nat.not_lt_zero _))⟩, List.nodup_nil⟩
    · rw [grp0] at m
      split at m
      · rename_i e
        rw [List.mem_singleton.mp m]
        exact ⟨[], .start, e.symm⟩
      · cases m
    · rw [grp0]
      split
      · exact List.nodup_cons.mpr ⟨(fun z => nomatch z), List.nodup_nil⟩
      · exact List.nodup_nil
    · rw [grp0, if_pos rfl]
      exact List.mem_singleton.mpr rfl
  | t + 1, ht => by
    have I := st_ok rs z0 t (by omega)
    obtain ⟨a, b, c, d, e⟩ := rules_all (stK_len t) (show t < 2 ^ rs.length by omega) I.snd I.nd rs.length
    have in2 : ∀ y, y ∈ (stK rs z0 (t + 1)).2 ↔ y ∈ (stK rs z0 t).2 ∨ y ∈ grp (stK rs z0 t).1 t := fun y => mem_insl
    refine ⟨a, d, c _ _ I.start, fun S lt j r y y' hr bit m m' => ?_, fun y => ?_, nd_insl I.fnd⟩
    · have m2 : y ∈ grp (stK rs z0 t).1 S := by rw [← b S (by omega)]; exact m
      by_cases f : S = t
      · subst f
        exact e j r y y' (List.getElem?_eq_some_iff.mp hr).1 hr bit m2 m'
      · exact c _ _ (I.clo S (by omega) j r y y' hr bit m2 m')
    · rw [in2, I.fd]
      constructor
      · rintro (⟨S, lt, m⟩ | m)
        · exact ⟨S, by omega, by show y ∈ grp (rulesK rs t rs.length (stK rs z0 t).1) S; rw [b S (by omega)]; exact m⟩
        · exact ⟨t, by omega, by show y ∈ grp (rulesK rs t rs.length (stK rs z0 t).1) t; rw [b t (Nat.le_refl _)]; exact m⟩
      · rintro ⟨S, lt, m⟩
        have m2 : y ∈ grp (stK rs z0 t).1 S := by rw [← b S (by omega)]; exact m
        by_cases f : S = t
        · exact .inr (f ▸ m2)
        · exact .inl ⟨S, by omega, m2⟩
theorem mask_lt : ∀ {ks : List Nat}, (∀ k ∈ ks, k < rs.length) → mask ks < 2 ^ rs.length
  | [], _ => Nat.pow_pos (by decide)
  | k :: ks, h => or_lt (mask_lt fun j m => h j (List.mem_cons_of_mem _ m)) (h k List.mem_cons_self)
/-- what is found at the end -/
theorem gath_mem {y : Str} : y ∈ (stK rs z0 (2 ^ rs.length)).2 ↔ ∃ ks, Chain rs z0 ks y := by
  have I := st_ok rs z0 (2 ^ rs.length) (Nat.le_refl _)
  rw [I.fd]
  constructor
  · rintro ⟨S, _, m⟩
    obtain ⟨ks, c, _⟩ := I.snd S y m
    exact ⟨ks, c⟩
  · rintro ⟨ks, c⟩
    refine ⟨mask ks, mask_lt (chain_lt c).1, ?_⟩
    induction c with
    | start => exact I.start
    | step c hr n hy ih => exact I.clo _ (mask_lt (chain_lt c).1) _ _ _ _ hr (by rw [mask_bit, decide_eq_false n]) ih hy
theorem gath_nd : (stK rs z0 (2 ^ rs.length)).2.Nodup := (st_ok rs z0 _ (Nat.le_refl _)).fnd
/-- all is small where few names come -/
theorem fits_of {L0 : List Str} (hL : ∀ ks y, Chain rs z0 ks y → y ∈ L0) (few : L0.length ≤ 4000) (short : ∀ y ∈ L0, y.length ≤ 1000) : Fits rs z0 ∧ (stK rs z0 (2 ^ rs.length)).2.length ≤ L0.length ∧ ∀ y ∈ (stK rs z0 (2 ^ rs.length)).2, y.length ≤ 1000 := by
  refine ⟨⟨fun t k ht hk ks m => ?_, fun t ht => ?_⟩, nodup_len gath_nd fun y m => ?_, fun y m => ?_⟩
  · have I := st_ok rs z0 t (Nat.le_of_lt ht)
    obtain ⟨a, _, _, d, _⟩ := rules_all (stK_len t) ht I.snd I.nd k
    obtain ⟨S, lt, e⟩ := List.getElem_of_mem m
    have eg : grp (rulesK rs t k (stK rs z0 t).1) S = ks := by
      have z := grp_some lt
      rw [List.getElem?_eq_getElem lt, e] at z
      exact (Option.some.inj z).symm
    have sub : ∀ y ∈ ks, y ∈ L0 := fun y my => by
      obtain ⟨cs, c, _⟩ := a S y (by rw [eg]; exact my)
      exact hL cs y c
    have nd := d S
    rw [eg] at nd
    exact ⟨Nat.le_trans (nodup_len nd sub) (by omega), fun y my => short y (sub y my)⟩
  · have I := st_ok rs z0 t ht
    refine Nat.le_trans (nodup_len (m := L0) I.fnd fun y m => ?_) (by omega)
    obtain ⟨S, _, m2⟩ := (I.fd y).mp m
    obtain ⟨cs, c, _⟩ := I.snd S y m2
    exact hL cs y c
  · obtain ⟨ks, c⟩ := gath_mem.mp m
    exact hL ks y c
  · obtain ⟨ks, c⟩ := gath_mem.mp m
    exact short y (hL ks y c)
end
/-! ### gathered, with a most that is not exceeded -/
section
variable {P : Program} {w : World} {K : PySem.W.Frag} {mg : Str → Option Value} {base : Heap}
theorem dk_keys (ks : List Str) : (dk ks).map (fun kv => kV kv.1) = ks.map V.str := by
  unfold dk
  rw [List.map_map]
  rfl
def spGathM (K : PySem.W.Frag) : Sp := fun vs H Q _ => ∃ (q : Addr) (xs : List V) (rs : List Rl) (z : Str) (M : Int), vs = [.ref q, .str z, .int M] ∧ SqT K H q xs ∧ ThAll K H xs (rs.map Rl.d) ∧ dBook (.tuple (rs.map Rl.d)) = true ∧ Fits rs z ∧ (∀ t, t ≤ 2 ^ rs.length → ((stK rs z t).2.length : Int) ≤ M) ∧
  ∀ (p : Addr) (H' : Hp), Same H H' → H' p = some (.lst ((stK rs z (2 ^ rs.length)).2.map V.str)) → Q (.ref p) H'
theorem sc_p_gatheredM : FnScope ["book", "name", "most", "_", "groups", "found", "spent", "number", "rule", "longer", "made", "source"] ["book", "name", "most"] (defScope s_p_gathered) := ⟨rfl, rfl, rfl, by decide +kernel, rfl, by decide +kernel, by decide +kernel⟩
theorem cal_p_gatheredM (D : Def1 K mg "gathered" s_p_gathered) (G : Glb mg) (gl : mg "list" = none) (CA : Cal P w K mg base 2 "sources_for_all" (spAll K)) : Cal P w K mg base 3 "gathered" (spGathM K) := by
  refine mkCal D sc_p_gatheredM (fun _ _ _ _ _ _ us hl => match us, hl with | [_, _, _], _ => rfl) (fun vs H Q E h => ?_) (fun f cdv A outer s H vs Q E hr h => ?_)
  · obtain ⟨q, xs, rs, z, M, rfl, _⟩ := h
    rfl
  · obtain ⟨q, xs, rs, z, M, rfl, hq, ha, hB, fits, le, k⟩ := h
    refine ⟨_, (pss_cons (ps_setLc (i := 4) (own := [("_", 3)]) (g := gName 3) (tt := tYes) (by rfl) sc_p_gatheredM.nd rfl rfl (sw_true rfl rfl rfl (by decide +kernel)) (pi_range1 (by rfl) G.range (pa_cons (pe_op op_shl pe_int (pe_callB call_len_seq (by rfl) G.len PySem.boot_len (pa_cons (pv 0) pa_nil))) pa_nil)) (blkOk_by (own := [("_", 3)]) (N := ["book", "name", "most", "_", "groups", "found", "spent", "number", "rule", "longer", "made", "source"]) (sc := defScope s_p_gathered) (by decide +kernel)) (fun _ _ _ _ _ => pg_name (i := 3) sc_p_gatheredM.nd rfl (Or.inl rfl)) (fun _ _ _ _ _ => pts_nil) (fun _ _ _ _ _ => pe_dnewK))
    (pss_cons (ps_dput (units1 hr.units) (pe_ix ix_list (pv 4) pe_int (fun _ _ => rfl)) (pv 1) pe_bl (by rfl))
    (pss_cons (ps_set (i := 5) sc_p_gatheredM.nd rfl (.inl rfl) pe_dnewK)
    (pss_cons (ps_for PassesOwn.never rfl (pi_range1 (by rfl) G.range (pa_cons (pe_op op_shl pe_int (pe_callB call_len_seq (by rfl) G.len PySem.boot_len (pa_cons (pv 0) pa_nil))) pa_nil)) (pg_name (i := 6) sc_p_gatheredM.nd rfl (.inl rfl))
    (pss_cons (ps_expr (pe_bm PySem.F.plainAttrs_dict PySem.F.slot_dict_update PySem.F.type_dict_update mt_update (pv 5) (pa_cons (pe_ix ix_list (pv 4) (pv 6) (fun _ _ => rfl)) pa_nil)))
    (pss_cons (ps_if (PW.pt (pw_and (pt_cmpR op_notN (pv 2) pe_non (nomark _)) (pw_and1 (pt_cmpR op_gt (pe_callB call_len_K (by rfl) G.len PySem.boot_len (pa_cons (pv 5) pa_nil)) (pv 2) (nomark _))))) (pss_one ps_never) pss_nil)
    (pss_one (ps_for PassesOwn.never rfl (pi_enT (by rfl) G.enumerate (pa_cons (pv 0) pa_nil)) (pg_tup rfl (pgs_cons (pg_name (i := 7) sc_p_gatheredM.nd rfl (.inl rfl)) (pgs_cons (pg_name (i := 8) sc_p_gatheredM.nd rfl (.inl rfl)) pgs_nil)))
    (pss_cons (ps_set (i := 9) sc_p_gatheredM.nd rfl (.inl rfl) (pe_op op_or (pv 6) (pe_op op_shl pe_int (pv 7))))
    (pss_one (ps_if (pt_cmpR op_ne (pv 9) (pv 6) (nomark _)) (pss_cons (ps_set (i := 10) sc_p_gatheredM.nd rfl (.inl rfl) (pe_cal CA hr (by decide) (pa_cons (pv 8) (pa_cons (pe_callTy (call_listD rfl) (by rfl) gl (by decide +kernel) (pa_cons (pe_ix ix_list (pv 4) (pv 6) (fun _ _ => rfl)) pa_nil)) pa_nil))))
    (pss_one (ps_for PassesOwn.never rfl (pi_list (pv 10)) (pg_name (i := 11) sc_p_gatheredM.nd rfl (.inl rfl))
    (pss_one (ps_dput (units1 hr.units) (pe_ix ix_list (pv 4) (pv 9) (fun _ _ => rfl)) (pv 11) pe_bl (by rfl)))))) pss_nil))))))))
    (pss_one (ps_ret (pe_callTy (call_listD rfl) (by rfl) gl (by decide +kernel) (pa_cons (pv 5) pa_nil)))))))), ?_⟩
    obtain ⟨many, len⟩ := book_len hB
    have hl := thAll_len ha
    rw [List.length_map] at hl
    obtain ⟨N, hN⟩ : ∃ N, N = 2 ^ rs.length := ⟨_, rfl⟩
    have up : (1 : Int) * 2 ^ ((xs.length : Int)).toNat = (N : Int) := by
      rw [Int.toNat_natCast, hl, Int.one_mul, hN]
      push_cast
      rfl
    have few : N ≤ 64 := by
      rw [hN]
      exact Nat.pow_le_pow_right (by decide) many (n := 2)
    have pos : 0 < N := by
      rw [hN]
      exact Nat.pow_pos (by decide)
    refine ⟨_, rfl, q, xs, rfl, .inr hq, 1, _, rfl, rfl, ⟨by omega, by omega, by decide⟩, ?_⟩
    refine ⟨(N : Int), congrArg (fun i => [V.int i]) up, by omega, by omega, fun D nD => ?_⟩
    refine lc_range (n := N) (fun i H' => ∃ gas : List Addr, gas.length = i ∧ gas.Nodup ∧ H' D = some (.lst (gas.map V.ref)) ∧ (∀ a ∈ gas, H a = none ∧ a ≠ D ∧ H' a = some (.dK [])) ∧ Same H H') ⟨[], rfl, List.nodup_nil, upd_same, (fun _ m => nomatch m), same_upd nD⟩ ?_ ?_
    · rintro i H1 hi ⟨gas, e1, nd, hD, each, sH⟩
      refine ⟨rfl, fun p np => ?_⟩
      have npD : D ≠ p := ne_of_none hD np
      have fresh : p ∉ gas := fun m => by
        rw [(each p m).2.2] at np
        cases np
      refine ⟨_, (upd_ne npD).trans hD, by rw [List.length_map, sizeLine_eq]; omega, gas ++ [p], by rw [List.length_append, e1]; rfl, ?_, by rw [upd_same, List.map_append]; rfl, fun a m => ?_, same_mut (sH.trans (same_upd np)) nD⟩
      · rw [List.nodup_append]
        exact ⟨nd, List.nodup_cons.mpr ⟨(fun z => nomatch z), List.nodup_nil⟩, fun a ha b hb e => fresh (by rw [List.mem_singleton.mp hb] at e; exact e ▸ ha)⟩
      · rcases List.mem_append.mp m with m | m
        · obtain ⟨x1, x2, x3⟩ := each a m
          refine ⟨x1, x2, (upd_ne x2).trans ((upd_ne (fun z : a = p => fresh (z ▸ m))).trans x3)⟩
        · rw [List.mem_singleton.mp m]
          exact ⟨sH.free np, npD.symm, (upd_ne npD.symm).trans upd_same⟩
    · rintro H1 ⟨gas, e1, nd, hD, each, sH⟩
      obtain ⟨a0, ha0⟩ : ∃ a, gas[0]? = some a := ⟨gas[0], List.getElem?_eq_getElem (by omega)⟩
      obtain ⟨x1, x2, x3⟩ := each a0 (List.mem_of_getElem? ha0)
      refine ⟨_, rfl, D, _, 0, .ref a0, rfl, rfl, SqL.of hD, atI_nat (j := 0) (by rw [List.getElem?_map, ha0]; rfl), ?_⟩
      refine ⟨_, rfl, a0, _, rfl, DPut.k (k := Sum.inr z) (kvs := dk []) x3 (by show 0 < sizeLine; decide), ?_⟩
      rw [dk_put]
      refine fun F nF => ?_
      have nF1 : H1 F = none := by
        by_cases e : F = a0
        · subst e
          rw [upd_same] at nF
          cases nF
        · rwa [upd_ne e] at nF
      have FD : F ≠ D := fun e => by
        rw [e, hD] at nF1
        cases nF1
      have A0 : GA H (upd (upd H1 a0 (.dK (dk (insK [] z)))) F (.dK [])) D F gas (stK rs z 0).1 (stK rs z 0).2 := by
        refine ⟨(same_mut sH x1).trans (same_upd nF), ?_, nD, upd_same, sH.free nF1, fun a m => ⟨(each a m).1, fun e => ?_⟩, nd, ?_, fun i a ks h1 h2 => ?_⟩
        · rw [upd_ne FD.symm, upd_ne x2.symm]
          exact hD
        · rw [← e, (each a m).2.2] at nF1
          cases nF1
        · rw [stK_len, ← hN, e1]
        · have m := List.mem_of_getElem? h1
          have aF : a ≠ F := fun e => by
            rw [← e, (each a m).2.2] at nF1
            cases nF1
          rw [upd_ne aF]
          have h3 : ((List.replicate (2 ^ rs.length) ([] : List Str)).set 0 [z])[i]? = some ks := h2
          by_cases e : i = 0
          · subst e
            rw [ha0] at h1
            cases h1
            rw [List.getElem?_set_self (by rw [List.length_replicate, ← hN]; exact pos)] at h3
            cases h3
            rw [upd_same]
            rfl
          · rw [List.getElem?_set_ne (Ne.symm e), List.getElem?_replicate] at h3
            have a0n : a ≠ a0 := fun e2 => by
              subst e2
              exact e ((List.getElem?_inj (List.getElem?_eq_some_iff.mp h1).1 nd).mp (h1.trans ha0.symm))
            rw [upd_ne a0n, (each a m).2.2]
            split at h3
            · cases h3
              rfl
            · cases h3
      generalize upd (upd H1 a0 (.dK (dk (insK [] z)))) F (.dK []) = H2 at A0
      refine ⟨_, rfl, q, xs, rfl, .inr (Same.seqT A0.same hq), 1, _, rfl, rfl, ⟨by omega, by omega, by decide⟩, ?_⟩
      refine ⟨(N : Int), congrArg (fun i => [V.int i]) up, by omega, by omega, ?_⟩
      refine for_range (n := N) (fun t σ H' => ∃ v6 v7 v8 v9 v10 v11 : Option V, σ = [some (.ref q), some (.str z), some (.int M), none, some (.ref D), some (.ref F), v6, v7, v8, v9, v10, v11] ∧ GA H H' D F gas (stK rs z t).1 (stK rs z t).2) ⟨_, _, _, _, _, _, rfl, A0⟩ ?_ ?_
      · rintro t σ H3 ht ⟨v6, v7, v8, v9, v10, v11, rfl, A⟩
        rw [Int.zero_add]
        have ht2 : t < 2 ^ rs.length := by rw [← hN]; exact ht
        obtain ⟨at_, hat⟩ : ∃ a, gas[t]? = some a := ⟨gas[t], List.getElem?_eq_getElem (by omega)⟩
        obtain ⟨ks, hks⟩ : ∃ ks, (stK rs z t).1[t]? = some ks := ⟨(stK rs z t).1[t]'(by rw [stK_len]; exact ht2), List.getElem?_eq_getElem _⟩
        have z0 := fits.grp t 0 ht2 (Nat.zero_le _) ks (List.mem_of_getElem? hks)
        have z1 := fits.fd t (Nat.le_of_lt ht2)
        have e1 : (stK rs z (t + 1)).2 = ks.foldl insK (stK rs z t).2 := by
          show ((stK rs z t).1.getD t []).foldl insK (stK rs z t).2 = _
          rw [List.getD_eq_getElem?_getD, hks]
          rfl
        refine ⟨_, rfl, .inr (.inr (.inl ⟨rfl, .inl ⟨_, A.f⟩⟩)), ?_⟩
        refine ⟨_, rfl, _, rfl, D, _, (t : Int), .ref at_, rfl, rfl, SqL.of A.g, atI_nat (by rw [List.getElem?_map, hat]; rfl), ?_⟩
        refine ⟨F, at_, dk (stK rs z t).2, dk ks, rfl, rfl, A.f, .inl (A.at_ t at_ ks hat hks), Ne.symm (A.new at_ (List.mem_of_getElem? hat)).2, by rw [dk_len, dk_len, sizeLine_eq]; omega, ?_⟩
        rw [dk_merge, ← e1]
        have A1 := A.more (stK rs z (t + 1)).2
        generalize upd H3 F (.dK (dk (stK rs z (t + 1)).2)) = H4 at A1 ⊢
        refine ⟨_, rfl, rfl, _, rfl, iteT' (by rfl) ?_⟩
        have lt1 := le (t + 1) ht2
        refine ⟨_, rfl, F, dk (stK rs z (t + 1)).2, rfl, A1.f, _, rfl, _, _, rfl, rfl, _, rfl, ?_⟩
        refine iteF' (decide_eq_false (by rw [dk_len]; omega)) ?_
        refine ⟨_, rfl, q, _, rfl, Same.seqT A1.same hq, for_enT (K := K) (a := q) (xs := xs) (fun k σ H' => ∃ v7 v8 v9 v10 v11 : Option V, σ = [some (.ref q), some (.str z), some (.int M), none, some (.ref D), some (.ref F), some (.int (t : Int)), v7, v8, v9, v10, v11] ∧
          GA H H' D F gas (rulesK rs t k (stK rs z t).1) (stK rs z (t + 1)).2) ⟨_, _, _, _, _, rfl, A1⟩ (fun i σ H' ⟨_, _, _, _, _, _, a⟩ => Same.seqT a.same hq) ?_ ?_⟩
        · rintro j x σ H5 T hx nT ⟨v7, v8, v9, v10, v11, rfl, A2⟩
          obtain ⟨d, hd, th⟩ := th_at ha hx
          rw [List.getElem?_map, Option.map_eq_some_iff] at hd
          obtain ⟨r, hr2, rfl⟩ := hd
          have R := len r (List.mem_of_getElem? hr2)
          have hj : j < rs.length := (List.getElem?_eq_some_iff.mp hr2).1
          refine ⟨T, _, rfl, .inl (.inl upd_same), rfl, _, _, rfl, _, _, rfl, rfl, ?_⟩
          have A3 := A2.on (same_upd (o := .tup [.int (j : Int), x]) nT)
          generalize upd H5 T (.tup [.int (j : Int), x]) = H6 at A3 ⊢
          refine ⟨_, rfl, _, rfl, 1, _, rfl, rfl, ⟨by omega, by omega, by decide⟩, _, _, rfl, rfl, ?_⟩
          obtain ⟨L, hL⟩ : ∃ L, L = t ||| 2 ^ j := ⟨_, rfl⟩
          have eL : Builtin.bitOr (t : Int) (1 * 2 ^ ((j : Int)).toNat) = (L : Int) := by
            have e2 : (1 : Int) * 2 ^ ((j : Int)).toNat = ((2 ^ j : Nat) : Int) := by
              rw [Int.toNat_natCast, Int.one_mul]
              push_cast
              rfl
            rw [e2, Bits.bitOr_pp (Int.natCast_nonneg _) (Int.natCast_nonneg _), hL]
            rfl
          refine gN_eq (congrArg V.int eL) ?_
          have hLN : L < 2 ^ rs.length := by
            rw [hL]
            exact or_lt ht2 hj
          refine ⟨_, rfl, _, rfl, rfl, _, rfl, ?_⟩
          by_cases same : L = t
          · refine iteF' (by rw [same]; simp) ?_
            refine ⟨_, _, _, _, _, rfl, ?_⟩
            show GA H H6 D F gas (ruleK rs t j (rulesK rs t j (stK rs z t).1)) _
            rw [ruleK_same (hL ▸ same)]
            exact A3
          · refine iteT' (by rw [decide_eq_false (by rw [V.int.injEq]; omega)]; rfl) ?_
            obtain ⟨gj, hgj⟩ : ∃ g, g = rulesK rs t j (stK rs z t).1 := ⟨_, rfl⟩
            have gl2 : gj.length = 2 ^ rs.length := by rw [hgj, rulesK_len, stK_len]
            rw [← hgj] at A3
            obtain ⟨k2, hk2⟩ : ∃ ks, gj[t]? = some ks := ⟨gj[t]'(by omega), List.getElem?_eq_getElem _⟩
            obtain ⟨ls, hls⟩ : ∃ ks, gj[L]? = some ks := ⟨gj[L]'(by omega), List.getElem?_eq_getElem _⟩
            obtain ⟨aL, haL⟩ : ∃ a, gas[L]? = some a := ⟨gas[L]'(by omega), List.getElem?_eq_getElem _⟩
            have y0 := fits.grp t j ht2 (Nat.le_of_lt hj) k2 (by rw [← hgj]; exact List.mem_of_getElem? hk2)
            have next : rulesK rs t (j + 1) (stK rs z t).1 = gj.set L ((k2.flatMap r.of).foldl insK ls) := by
              show ruleK rs t j (rulesK rs t j (stK rs z t).1) = _
              rw [← hgj, ruleK_put hr2 hk2 (by rw [← hL]; exact hls) (by rw [← hL]; exact same), hL]
            have y1 := fits.grp t (j + 1) ht2 hj ((k2.flatMap r.of).foldl insK ls) (by rw [next]; exact List.mem_of_getElem? (List.getElem?_set_self (by omega)))
            rw [next]
            refine ⟨_, rfl, _, rfl, _, rfl, D, _, (t : Int), .ref at_, rfl, rfl, SqL.of A3.g, atI_nat (by rw [List.getElem?_map, hat]; rfl), at_, dk k2, rfl, .inl (A3.at_ t at_ k2 hat hk2), fun p np => ?_⟩
            have A4 := A3.on (same_upd (o := .lst ((dk k2).map fun kv => kV kv.1)) np)
            refine ⟨x, r, p, k2, rfl, th_same A4.same th, R, by rw [upd_same, dk_keys], y0.2, Nat.le_trans y0.1 (by decide), fun m H7 nm s7 hm => ?_⟩
            have A5 := A4.on s7
            generalize hmade : k2.flatMap r.of = made at hm y1 ⊢
            refine ⟨_, rfl, m, rfl, ⟨_, SqL.of hm⟩, for_list (K := K) (a := m) (xs := made.map V.str) (fun i σ H' => ∃ v11 : Option V, σ = [some (.ref q), some (.str z), some (.int M), none, some (.ref D), some (.ref F), some (.int (t : Int)), some (.int (j : Int)), some x, some (.int (L : Int)), some (.ref m), v11] ∧
              GA H H' D F gas (gj.set L ((made.take i).foldl insK ls)) (stK rs z (t + 1)).2 ∧ H' m = some (.lst (made.map V.str))) ⟨_, rfl, ?_, hm⟩ ?_ ?_ ?_⟩
            · have e : gj.set L ((made.take 0).foldl insK ls) = gj := by
                show gj.set L ls = gj
                obtain ⟨lt, e⟩ := List.getElem?_eq_some_iff.mp hls
                rw [← e]
                exact List.set_getElem_self lt
              rw [e]
              exact A5
            · rintro i σ H' _ ⟨_, _, _, hm2⟩
              exact SqL.of hm2
            · rintro i u σ H8 hu ⟨v11, rfl, B, hm2⟩
              obtain ⟨y, hy, rfl⟩ := Option.map_eq_some_iff.mp ((List.getElem?_map ..).symm.trans hu)
              have hcur : (gj.set L ((made.take i).foldl insK ls))[L]? = some ((made.take i).foldl insK ls) := List.getElem?_set_self (by omega)
              have part := insl_part made ls i
              have atL := B.at_ L aL _ haL hcur
              have mL : m ≠ aL := fun e => by
                rw [e, atL] at hm2
                cases hm2
              refine ⟨_, rfl, _, rfl, D, _, (L : Int), .ref aL, rfl, rfl, SqL.of B.g, atI_nat (by rw [List.getElem?_map, haL]; rfl), ?_⟩
              refine ⟨_, rfl, aL, _, rfl, DPut.k (k := Sum.inr y) atL (by rw [dk_len, sizeLine_eq]; omega), ?_⟩
              rw [dk_put]
              have B2 := B.put (ks' := insK ((made.take i).foldl insK ls) y) haL hcur
              rw [List.set_set] at B2
              refine ⟨_, rfl, ?_, (upd_ne mL).trans hm2⟩
              rw [List.take_add_one, hy, List.foldl_append]
              exact B2
            · rintro σ H8 ⟨v11, rfl, B, _⟩
              rw [List.length_map, List.take_length] at B
              exact ⟨_, _, _, _, _, rfl, B⟩
        · rintro σ H5 ⟨v7, v8, v9, v10, v11, rfl, A2⟩
          rw [hl] at A2
          exact ⟨_, _, _, _, _, _, rfl, A2⟩
      · rintro σ H3 ⟨v6, v7, v8, v9, v10, v11, rfl, A⟩
        rw [hN] at A
        refine ⟨_, rfl, F, _, rfl, .inl A.f, fun p np => ?_⟩
        rw [dk_keys]
        exact k p _ (A.same.trans (same_upd np)) upd_same
end
/-! ### few_kin, where the kin are few -/
section
variable {P : Program} {w : World} {K : PySem.W.Frag} {mg : Str → Option Value} {base : Heap}
def spFew (K : PySem.W.Frag) : Sp := fun vs H Q _ => ∃ (q : Addr) (xs : List V) (rs : List Rl) (z : Str) (L0 : List Str), vs = [.ref q, .str z] ∧ SqT K H q xs ∧ ThAll K H xs (rs.map Rl.d) ∧ dBook (.tuple (rs.map Rl.d)) = true ∧ (∀ ks y, Chain rs z ks y → y ∈ L0) ∧ L0.length ≤ 12 ∧ (∀ y ∈ L0, y.length ≤ 1000) ∧
  ∀ (cs : List Str) (p : Addr) (H' : Hp), Same H H' → H' p = some (.tup (cs.map V.str)) → IsAsc cs (stK rs z (2 ^ rs.length)).2 → Q (.ref p) H'
theorem sc_few_kin : FnScope ["book", "name", "found"] ["book", "name"] (defScope s_p_few_kin) := ⟨rfl, rfl, rfl, by decide +kernel, rfl, by decide +kernel, by decide +kernel⟩
theorem st_few {rs : List Rl} {z : Str} {L0 : List Str} (hL : ∀ ks y, Chain rs z ks y → y ∈ L0) (few : L0.length ≤ 12) (t : Nat) (ht : t ≤ 2 ^ rs.length) : ((stK rs z t).2.length : Int) ≤ 12 := by
  have I := st_ok rs z t ht
  have z0 := nodup_len (m := L0) I.fnd fun y m => by
    obtain ⟨S, _, m2⟩ := (I.fd y).mp m
    obtain ⟨cs, c, _⟩ := I.snd S y m2
    exact hL cs y c
  omega
theorem cal_few_kin (D : Def1 K mg "few_kin" s_p_few_kin) (G : Glb mg) (km : Con1 mg "MOST_KIN" (.int 12)) (CG : Cal P w K mg base 3 "gathered" (spGathM K)) (CA : Cal P w K mg base 1 "ascending" (spAsc K)) : Cal P w K mg base 4 "few_kin" (spFew K) := by
  refine mkCal D sc_few_kin (fun _ _ _ _ _ _ us hl => match us, hl with | [_, _], _ => rfl) (fun vs H Q E h => ?_) (fun f cdv A outer s H vs Q E hr h => ?_)
  · obtain ⟨q, xs, rs, z, L0, rfl, _⟩ := h
    rfl
  · obtain ⟨q, xs, rs, z, L0, rfl, hq, ha, hB, inL, few, short, k⟩ := h
    refine ⟨_, (pss_cons (ps_set (i := 2) sc_few_kin.nd rfl (.inl rfl) (pe_cal CG hr (by omega) (pa_cons (pv 0) (pa_cons (pv 1) (pa_cons (pe_con1 km) pa_nil)))))
    (pss_cons (ps_if (pt_cmpR op_gt (pe_callB call_len_seq (by rfl) G.len PySem.boot_len (pa_cons (pv 2) pa_nil)) (pe_con1 km) (nomark _)) (pss_one ps_never) pss_nil)
    (pss_one (ps_ret (pe_cal CA hr (by omega) (pa_cons (pv 2) pa_nil)))))), ?_⟩
    obtain ⟨fits, le, sh⟩ := fits_of inL (by omega) short
    have st := st_few inL few
    refine ⟨_, rfl, _, rfl, q, xs, rs, z, 12, rfl, hq, ha, hB, fits, st, fun l H1 s1 hl => ?_⟩
    refine on_end (on_go (sq_if (go_if ?_)))
    refine ⟨_, rfl, l, _, rfl, .inl (SqL.of hl), _, _, rfl, rfl, _, rfl, iteF' (decide_eq_false (by rw [List.length_map]; omega)) ?_⟩
    refine nxt_go (go_ret ?_)
    refine ⟨_, rfl, l, _, rfl, .inl (SqL.of hl), by unfold scanBound; omega, fun y m => Nat.le_trans (sh y m) (by decide), fun cs p H2 s2 hp asc => ?_⟩
    exact k cs p H2 (s1.trans s2) hp asc
end
end Lk

/-! K31P -/
set_option Elab.async false
set_option linter.all false
set_option maxRecDepth 100000
set_option maxHeartbeats 4000000
namespace Lk
open PySem PySem.Spec PyProof.Rows L2
/-! ### least_sets, barriers, barrier -/
noncomputable def hasW (rs : List Rl) (names : List Str) (z : Str) (s : Nat) : Bool := (way rs (subN names s) z []).isSome
theorem made_range {rs : List Rl} {names : List Str} {z : Str} : (madeL rs names z).map V.bl = (List.range (2 ^ names.length)).map fun s => V.bl (hasW rs names z s) := by
  unfold madeL
  rw [List.map_map]
  rfl
theorem bar_range {rs : List Rl} {names : List Str} {z : Str} : (barL rs names z).map V.bl = (List.range (2 ^ names.length)).map fun s => V.bl (barH names.length (hasW rs names z) s) := by
  refine List.ext_getElem? fun i => ?_
  unfold barL madeL
  by_cases hi : i < 2 ^ names.length
  · have l1 : i < ((List.range (2 ^ names.length)).map fun s => (way rs (subN names s) z []).isSome).length := by rw [List.length_map, List.length_range]; exact hi
    have hj : 2 ^ names.length - 1 - i < 2 ^ names.length := by omega
    rw [List.getElem?_map, List.getElem?_map, List.getElem?_reverse l1, List.length_map, List.length_range, List.getElem?_map, List.getElem?_range hj, List.getElem?_map, List.getElem?_range hi]
    rfl
  · rw [List.getElem?_eq_none (by simp; omega), List.getElem?_eq_none (by simp; omega)]
theorem sub_in {names : List Str} {s i : Nat} {y : Str} (h : names[i]? = some y) (b : s.testBit i = true) : y ∈ subN names s := by
  unfold subN
  exact List.mem_map.mpr ⟨(y, i), List.mem_filter.mpr ⟨List.mem_zipIdx_iff_getElem?.mpr h, b⟩, rfl⟩
theorem sub_out {names : List Str} {s : Nat} {y : Str} (h : y ∈ subN names s) : ∃ i, names[i]? = some y ∧ s.testBit i = true := by
  unfold subN at h
  obtain ⟨⟨x, i⟩, m, rfl⟩ := List.mem_map.mp h
  obtain ⟨m1, m2⟩ := List.mem_filter.mp m
  exact ⟨i, List.mem_zipIdx_iff_getElem?.mp m1, m2⟩
theorem has_mono {rs : List Rl} {names : List Str} {z : Str} : MonoP names.length (hasW rs names z) := fun s t _ _ sub h => by
  unfold hasW at h ⊢
  rw [Option.isSome_iff_ne_none] at h ⊢
  refine wayM_mono (fun y my => ?_) _ z [] h
  obtain ⟨i, hi, b⟩ := sub_out my
  exact sub_in hi (sub i (List.getElem?_eq_some_iff.mp hi).1 b)
/-- only the kin count -/
theorem way_kin {rs : List Rl} {F F' : List Str} {z : Str} (agree : ∀ y ks, Chain rs z ks y → (y ∈ F ↔ y ∈ F')) : way rs F z [] = way rs F' z [] := by
  refine wayM_loc (G := fun y sp => ∃ ks : List Nat, (∀ k, k ∈ ks ↔ k ∈ sp) ∧ Chain rs z ks y) ?_ ?_ _ z [] ⟨[], fun _ => Iff.rfl, .start⟩
  · rintro y sp c ⟨ks, hk, ch⟩ mc s ms
    obtain ⟨r, hr, no, _, eof⟩ := fit_row mc
    exact ⟨c.1 :: ks, fun k => by rw [List.mem_cons, List.mem_cons, hk], .step ch hr (fun m => no ((hk _).mp m)) (by rw [← eof]; exact ms)⟩
  · rintro y sp ⟨ks, hk, ch⟩
    exact agree y ks ch
/-- the names of all kin, ascending -/
structure KinL (rs : List Rl) (z : Str) (names : List Str) : Prop where
  nd : names.Nodup
  mem : ∀ y, y ∈ names ↔ ∃ ks, Chain rs z ks y
  pw : names.Pairwise leA
theorem KinL.asc {rs : List Rl} {z : Str} {names : List Str} (k : KinL rs z names) : IsAsc names (stK rs z (2 ^ rs.length)).2 := ⟨k.nd, fun y => (k.mem y).trans gath_mem.symm, k.pw⟩
structure SetsOk (K : PySem.W.Frag) (H : Hp) (q : Addr) (rs : List Rl) (z : Str) (names : List Str) (Ok : Place → Prop) : Prop where
  bk : ∃ xs, SqT K H q xs ∧ ThAll K H xs (rs.map Rl.d)
  nz : dName (.str z) = true
  ok : OkR rs Ok
  st : Ok (z, [])
  inN : ∀ p, Ok p → p.1 ∈ names
  kin : KinL rs z names
  few : names.length ≤ 12
  short : ∀ y ∈ names, y.length ≤ 1000
  txt : ∀ y ∈ names, PyData.strOk y = true
theorem SetsOk.same {K : PySem.W.Frag} {H H' : Hp} {q : Addr} {rs : List Rl} {z : Str} {names : List Str} {Ok : Place → Prop} (A : SetsOk K H q rs z names Ok) (s : Same H H') : SetsOk K H' q rs z names Ok := by
  obtain ⟨xs, h1, h2⟩ := A.bk
  exact ⟨⟨xs, Same.seqT s h1, thAll_same s h2⟩, A.nz, A.ok, A.st, A.inN, A.kin, A.few, A.short, A.txt⟩
/-- the least ones of the sets that hold, as they are told -/
structure Told (K : PySem.W.Frag) (H : Hp) (p : Addr) (names : List Str) (h : Nat → Bool) (S : List Nat) : Prop where
  pm : S.Perm ((List.range (2 ^ names.length)).filter (minB h names.length))
  so : SrtP names.length S
  at_ : ∃ cs : List Addr, H p = some (.lst (cs.map V.ref)) ∧ ThAll K H (cs.map V.ref) (S.map (tupN names))
def spSets (K : PySem.W.Frag) (g : List Rl → List Str → Str → Nat → Bool) : Sp := fun vs H Q _ => ∃ (q : Addr) (rs : List Rl) (z : Str) (names : List Str) (Ok : Place → Prop), vs = [.ref q, .str z] ∧ SetsOk K H q rs z names Ok ∧
  ∀ (S : List Nat) (p : Addr) (H' : Hp), Same H H' → H p = none → Told K H' p names (g rs names z) S → Q (.ref p) H'
noncomputable def barW (rs : List Rl) (names : List Str) (z : Str) : Nat → Bool := barH names.length (hasW rs names z)
section
variable {P : Program} {w : World} {K : PySem.W.Frag} {mg : Str → Option Value} {base : Heap} {C : Addr}
theorem sc_barriers : FnScope ["book", "name", "names"] ["book", "name"] (defScope s_p_barriers) := ⟨rfl, rfl, rfl, by decide +kernel, rfl, by decide +kernel, by decide +kernel⟩
set_option maxHeartbeats 0
theorem cal_barriers (D : Def1 K mg "barriers" s_p_barriers) (CB : Cal P w K mg base 7 "need_book" (spNeedB K)) (CN : Cal P w K mg base 2 "need_name" (spNeed0 K)) (CF : Cal P w K mg base 4 "few_kin" (spFew K)) (CM : Cal P w K mg base 19 "barring" (spBarring K)) (CL : Cal P w K mg base 1 "least_of" (spLeastOf K)) : Cal P w K mg base 20 "barriers" (spSets K barW) := by
  refine mkCal D sc_barriers (fun _ _ _ _ _ _ us hl => match us, hl with | [_, _], _ => rfl) (fun vs H Q E h => ?_) (fun f cdv A outer s H vs Q E hr h => ?_)
  · obtain ⟨q, rs, z, names, Ok, rfl, _⟩ := h
    rfl
  · obtain ⟨q, rs, z, names, Ok, rfl, A0, k⟩ := h
    refine ⟨_, (pss_cons (ps_expr (pe_cal CB hr (by omega) (pa_cons (pv 0) pa_nil)))
    (pss_cons (ps_expr (pe_cal CN hr (by omega) (pa_cons (pv 1) pa_nil)))
    (pss_cons (ps_set (i := 2) sc_barriers.nd rfl (.inl rfl) (pe_cal CF hr (by omega) (pa_cons (pv 0) (pa_cons (pv 1) pa_nil))))
    (pss_one (ps_ret (pe_cal CL hr (by omega) (pa_cons (pe_cal CM hr (by omega) (pa_cons (pv 0) (pa_cons (pv 1) (pa_cons (pv 2) pa_nil)))) (pa_cons (pv 2) pa_nil)))))))), ?_⟩
    obtain ⟨xs, hq, hx⟩ := A0.bk
    have lz := (A0.ok.tx _ A0.st).2
    refine ⟨_, rfl, q, xs, rs, rfl, hq, hx, A0.ok.bk, fun H1 s1 => ?_⟩
    refine ⟨_, rfl, z, rfl, Nat.le_trans lz (by decide), A0.nz, ?_⟩
    refine ⟨_, rfl, _, rfl, q, xs, rs, z, names, rfl, Same.seqT s1 hq, thAll_same s1 hx, A0.ok.bk, fun ks y c => (A0.kin.mem y).mpr ⟨ks, c⟩, A0.few, A0.short, fun cs f2 H2 s2 hf asc => ?_⟩
    have ec := asc.uniq A0.kin.asc
    subst ec
    have s12 := s1.trans s2
    refine on_end (on_go (go_ret ?_))
    refine ⟨_, rfl, _, rfl, _, rfl, q, f2, rs, cs, z, Ok, rfl, ⟨xs, Same.seqT s12 hq, thAll_same s12 hx⟩, A0.ok, A0.inN, A0.st, SqT.of hf, ⟨A0.kin.nd, A0.few⟩, fun l H3 s3 nl hl => ?_⟩
    rw [bar_range] at hl
    refine ⟨_, rfl, l, f2, cs, barW rs cs z, rfl, SqL.of hl, SqT.of (s3 _ _ hf), A0.few, bar_mono has_mono, fun S as p H4 s4 np pm so hp th => ?_⟩
    have s14 := s12.trans s3
    exact k S p H4 (s14.trans s4) (s14.free np) ⟨pm, so, as, hp, th⟩
end
end Lk

/-! K31Q -/
set_option Elab.async false
set_option linter.all false
set_option maxRecDepth 100000
set_option maxHeartbeats 4000000
namespace Lk
open PySem PySem.Spec PyProof.Rows L2
section
variable {K : PySem.W.Frag}
/-- all([f(x) for x in t]), the source read by tx, a tuple -/
theorem all_readT {σ : L2.St} {H : Hp} {a : Addr} {xs : List V} {ds : List PyData} {p : PyData → Bool} {j iv : Nat} {te : TE} {Q : VK} (hv : σ[j]? = some (some (.ref a))) (hs : SqT K H a xs) (ha : ThAll K H xs ds) (small : ds.length ≤ 2000)
    (wp : ∀ (x : V), wipe ((wipe σ [iv]).set iv (some x)) [iv] = wipe σ [iv])
    (call : ∀ (x : V) (d : PyData) (H' : Hp) (R : VK), d ∈ ds → Th K H' x d → Same H H' → (∀ H2, Same H' H2 → R (.bl (p d)) H2) → te ((wipe σ [iv]).set iv (some x)) H' R) (k : ∀ H', Same H H' → Q (.bl (ds.all p)) H') :
    tCB (rAll K) (tCons (tLc (iTup K (tVar j)) (gName iv) tYes te [iv]) tNil) σ H Q := by
  have hl := thAll_len ha
  refine ⟨_, hv, a, rfl, ⟨_, hs⟩, fun D nD => ?_⟩
  refine lc_tup (K := K) (a := a) (xs := xs) (fun i H' => H' D = some (.lst (((ds.take i).map p).map V.bl)) ∧ Same H H') ⟨upd_same, same_upd nD⟩ (fun i H' _ h => Same.seqT h.2 hs) ?_ ?_
  · rintro i x H' hx ⟨hD, s⟩
    obtain ⟨d, hd, th⟩ := th_at ha hx
    have hi : i < ds.length := (List.getElem?_eq_some_iff.mp hd).1
    refine ⟨wp x, call x d H' _ (List.mem_of_getElem? hd) (th_same s th) s fun H2 s2 => ⟨_, s2 _ _ hD, ?_, ?_, same_mut (s.trans s2) nD⟩⟩
    · rw [List.length_map, List.length_map, List.length_take, sizeLine_eq]
      omega
    · rw [upd_same, List.take_add_one, hd, List.map_append, List.map_append]
      rfl
  · rintro H' ⟨hD, s⟩
    rw [hl, List.take_length] at hD
    refine ⟨D, ds.map p, rfl, SqL.of hD, ?_⟩
    have e : (ds.map p).all id = ds.all p := by rw [List.all_map]; rfl
    rw [e]
    exact k H' s
end
/-! ### barrier, shows_barrier -/
theorem th_tupX {K : PySem.W.Frag} {H : Hp} {v : V} {d : PyData} (h : Th K H v d) (e : isTup d = true) : ∃ a xs ds, v = .ref a ∧ d = .tuple ds ∧ SqT K H a xs ∧ ThAll K H xs ds := by
  cases h with
  | tup hs ha => exact ⟨_, _, _, rfl, rfl, hs, ha⟩
  | _ => cases e
theorem strs_inv {K : PySem.W.Frag} {H : Hp} : ∀ {vs : List V} {ss : List Str}, ThAll K H vs (ss.map PyData.str) → vs = ss.map V.str
  | _, [], .nil => rfl
  | _, _ :: _, .cons (.str _) t => by rw [List.map_cons, strs_inv t]
/-- whether none of a set stands in the files -/
def asideB (names F : List Str) (s : Nat) : Bool := !(subN names s).any fun x => decide (x ∈ F)
def resD (names : List Str) : Option Nat → PyData
  | some s => tupN names s
  | none => .none
def spBarrier (K : PySem.W.Frag) : Sp := fun vs H Q _ => ∃ (q f : Addr) (rs : List Rl) (z : Str) (names F : List Str) (Ok : Place → Prop), vs = [.ref q, .ref f, .str z] ∧ SetsOk K H q rs z names Ok ∧ SqT K H f (F.map V.str) ∧ Fl F ∧
  ∀ (S : List Nat) (v : V) (H' : Hp), Same H H' → S.Perm ((List.range (2 ^ names.length)).filter (minB (barW rs names z) names.length)) → SrtP names.length S → Th K H' v (resD names (S.find? (asideB names F))) → Q v H'
/-- whether a thing is a barrier of which none stands in the files -/
noncomputable def shB (rs : List Rl) (names : List Str) (z : Str) (F : List Str) : PyData → Bool
  | .tuple es => es.all (isNm names) && (decide (es.map strD = ascL (es.map strD)) && (!(es.map strD).any fun x => decide (x ∈ F)) && barW rs names z (numL names (es.map strD)))
  | _ => false
def spShowsBar (K : PySem.W.Frag) : Sp := fun vs H Q _ => ∃ (q f : Addr) (rs : List Rl) (z : Str) (names F : List Str) (Ok : Place → Prop) (v : V) (d : PyData), vs = [.ref q, .ref f, .str z, v] ∧ SetsOk K H q rs z names Ok ∧ SqT K H f (F.map V.str) ∧ Fl F ∧ Th K H v d ∧ (∀ es, d = .tuple es → es.length ≤ 900 ∧ ∀ e ∈ es, eqO e = true) ∧
  ∀ H', Same H H' → Q (.bl (shB rs names z F d)) H'
theorem nm_strs {names : List Str} : ∀ {es : List PyData}, es.all (isNm names) = true → es = (es.map strD).map PyData.str ∧ ∀ x ∈ es.map strD, x ∈ names
  | [], _ => ⟨rfl, fun _ m => nomatch m⟩
  | e :: es, h => by
    rw [List.all_cons, Bool.and_eq_true] at h
    obtain ⟨i1, i2⟩ := nm_strs h.2
    cases e with
    | str x =>
      refine ⟨by rw [List.map_cons, List.map_cons, ← i1]; rfl, fun y m => ?_⟩
      rcases List.mem_cons.mp m with e | m
      · rw [e]
        exact of_decide_eq_true h.1
      · exact i2 y m
    | _ => cases h.1
section
variable {P : Program} {w : World} {K : PySem.W.Frag} {mg : Str → Option Value} {base : Heap} {C : Addr}
theorem sc_shows_barrier : FnScope ["book", "files", "name", "thing", "names", "one"] ["book", "files", "name", "thing"] (defScope s_p_shows_barrier) := ⟨rfl, rfl, rfl, by decide +kernel, rfl, by decide +kernel, by decide +kernel⟩
set_option maxHeartbeats 0
theorem cal_shows_barrier (D : Def1 K mg "shows_barrier" s_p_shows_barrier) (T : Glc mg) (gall : mg "all" = none) (CH : Cal P w K mg base 8 "need_things" (spThings K)) (CF : Cal P w K mg base 4 "few_kin" (spFew K)) (CA : Cal P w K mg base 1 "ascending" (spAsc K)) (CI : Cal P w K mg base 1 "none_in" (spNoneIn K)) (CM : Cal P w K mg base 19 "barring" (spBarring K)) (CU : Cal P w K mg base 1 "numbered" (spNumbered K)) : Cal P w K mg base 20 "shows_barrier" (spShowsBar K) := by
  refine mkCal D sc_shows_barrier (fun _ _ _ _ _ _ us hl => match us, hl with | [_, _, _, _], _ => rfl) (fun vs H Q E h => ?_) (fun g cdv A outer s H vs Q E hr h => ?_)
  · obtain ⟨q, f, rs, z, names, F, Ok, v, d, rfl, _⟩ := h
    rfl
  · obtain ⟨q, f, rs, z, names, F, Ok, v, d, rfl, A0, hf, fl, th, sm, k⟩ := h
    refine ⟨_, (pss_cons (ps_expr (pe_cal CH hr (by omega) (pa_cons (pv 0) (pa_cons (pv 1) (pa_cons (pv 2) pa_nil)))))
    (pss_cons (ps_set (i := 4) sc_shows_barrier.nd rfl (.inr rfl) (pe_cal CF hr (by omega) (pa_cons (pv 0) (pa_cons (pv 2) pa_nil))))
    (pss_cons (ps_if (PW.pt (pw_or (pt_not (pt_val (pe_isi (T := "tuple") (pv 3) T.isinst T.tuple (by decide +kernel)))) (pw_or1 (pt_not (pt_val (pe_callB (cr_all rfl) (by rfl) gall (by decide +kernel) (pa_cons (pe_lc (own := [("one", 5)]) (g := gName 5) (tt := tYes) (by rfl) sc_shows_barrier.nd (pi_tup (pv 3)) (blkOk_by (own := [("one", 5)]) (N := ["book", "files", "name", "thing", "names", "one"]) (sc := defScope s_p_shows_barrier) (by decide +kernel)) (fun _ _ _ _ _ => pg_name (i := 5) sc_shows_barrier.nd rfl (Or.inl rfl)) (fun _ _ _ _ _ => pts_nil) (fun _ _ _ _ _ => (pe_cmpR (show OpR _ (compareOp .In) (rInS K) from op_inS (units65 hr)) (pv 5) (pv 4) (by rfl)))) pa_nil))))))) (pss_one (ps_ret pe_bl)) pss_nil)
    (pss_cons (ps_if (PW.pt (pw_or (pt_cmpR (op_neD hr.units) (pv 3) (pe_cal CA hr (by omega) (pa_cons (pv 3) pa_nil)) (nomark _)) (pw_or1 (pt_not (pt_val (pe_cal CI hr (by omega) (pa_cons (pv 3) (pa_cons (pv 1) pa_nil)))))))) (pss_one (ps_ret pe_bl)) pss_nil)
    (pss_one (ps_ret (pe_ix ix_list (pe_cal CM hr (by omega) (pa_cons (pv 0) (pa_cons (pv 2) (pa_cons (pv 4) pa_nil)))) (pe_cal CU hr (by omega) (pa_cons (pv 3) (pa_cons (pv 4) pa_nil))) (fun _ _ => rfl)))))))), ?_⟩
    have no : shB rs names z F d = false → ∀ H', Same H H' → Q (.bl false) H' := fun e H' s => by
      have z := k H' s
      rwa [e] at z
    obtain ⟨xs, hq, hx⟩ := A0.bk
    have lz := (A0.ok.tx _ A0.st).2
    refine ⟨_, rfl, _, rfl, _, rfl, q, f, xs, rs, F, z, rfl, hq, hx, A0.ok.bk, hf, fl, lz, A0.nz, fun H1 s1 => ?_⟩
    refine ends_go (sq_asg ?_)
    refine ⟨_, rfl, _, rfl, q, xs, rs, z, names, rfl, Same.seqT s1 hq, thAll_same s1 hx, A0.ok.bk, fun ks y c => (A0.kin.mem y).mpr ⟨ks, c⟩, A0.few, A0.short, fun cs f2 H2 s2 hf2 asc => ?_⟩
    have ec := asc.uniq A0.kin.asc
    subst ec
    have s12 := s1.trans s2
    refine on_go (sq_if (go_if ?_))
    refine ⟨_, rfl, v, _, _, _, _, rfl, .ty _, th_ty (th_same s12 th), kit_tup _, _, rfl, ?_⟩
    cases et : isTup d with
    | false =>
      refine iteT' rfl (iteT' rfl (no ?_ H2 s12))
      cases d with
      | tuple _ => cases et
      | _ => rfl
    | true =>
    obtain ⟨a, vs', es, rfl, rfl, hs, hv⟩ := th_tupX (th_same s12 th) et
    have lv := thAll_len hv
    obtain ⟨l2, small⟩ := sm _ rfl
    refine iteF' rfl ?_
    refine all_readT (K := K) (ds := es) (p := isNm cs) (j := 3) (iv := 5) rfl hs hv (by omega) (fun _ => rfl) (fun x e H' R he the s q' => ?_) fun H3 s3 => ⟨_, rfl, ?_⟩
    · exact ⟨_, rfl, _, rfl, e, f2, cs, rfl, the, SqT.of (s _ _ hf2), A0.txt, small e he, q' H' (Same.refl H')⟩
    cases eall : es.all (isNm cs) with
    | false =>
      refine iteT' rfl (no ?_ H3 (s12.trans s3))
      show (es.all (isNm cs) && _) = false
      rw [eall, Bool.false_and]
    | true =>
    refine iteF' rfl ?_
    obtain ⟨ess, inn⟩ := nm_strs eall
    obtain ⟨ss, hss⟩ : ∃ ss, ss = es.map strD := ⟨_, rfl⟩
    rw [← hss] at ess inn
    have noS : (decide (ss = ascL ss) && (!ss.any fun x => decide (x ∈ F)) && barW rs cs z (numL cs ss)) = false → ∀ H', Same H H' → Q (.bl false) H' := fun e H' s => no (by
      show (es.all (isNm cs) && (decide (es.map strD = ascL (es.map strD)) && (!(es.map strD).any fun x => decide (x ∈ F)) && barW rs cs z (numL cs (es.map strD)))) = false
      rw [← hss, e, Bool.and_false]) H' s
    have yesS : ∀ b, (decide (ss = ascL ss) && (!ss.any fun x => decide (x ∈ F)) && barW rs cs z (numL cs ss)) = b → ∀ H', Same H H' → Q (.bl b) H' := fun b e H' s => by
      have y := k H' s
      have e2 : shB rs cs z F (.tuple es) = b := by
        show (es.all (isNm cs) && (decide (es.map strD = ascL (es.map strD)) && (!(es.map strD).any fun x => decide (x ∈ F)) && barW rs cs z (numL cs (es.map strD)))) = b
        rw [← hss, e, eall, Bool.true_and]
      rwa [e2] at y
    have lss : ss.length ≤ 900 := by
      rw [hss, List.length_map]
      exact l2
    have okS : ∀ x ∈ ss, PyData.strOk x = true := fun x m => A0.txt x (inn x m)
    rw [ess] at hv
    have evs := strs_inv hv
    subst evs
    have s13 := s12.trans s3
    refine nxt_go (sq_if (go_if ?_))
    refine ⟨_, rfl, _, rfl, a, ss, rfl, .inr (Same.seqT s3 hs), by unfold scanBound; omega, fun y m => Nat.le_trans (A0.short y (inn y m)) (by decide), fun ds p H4 s4 hp asd => ?_⟩
    have ed : ds = ascL ss := asd.uniq (ascL_is ss)
    subst ed
    have okA : ∀ x ∈ ascL ss, PyData.strOk x = true := fun x m => okS x ((asd.mem x).mp m)
    have tA : Th K H4 (.ref p) (.tuple ((ascL ss).map PyData.str)) := .tup (SqT.of hp) (th_strs2 _)
    have tS : Th K H4 (.ref a) (.tuple (ss.map PyData.str)) := .tup (Same.seqT (s3.trans s4) hs) (th_strs2 _)
    refine ⟨_, _, th_dp tS (SeqAt.canLay_of_shaped (shaped_tstrs okS)), th_dp tA (SeqAt.canLay_of_shaped (shaped_tstrs okA)), shaped_tstrs okS, shaped_tstrs okA, _, rfl, ?_⟩
    have eqq : PyData.eqv (.tuple (ss.map PyData.str)) (.tuple ((ascL ss).map PyData.str)) = decide (ss = ascL ss) := by
      show PyData.eqvAll _ _ = _
      exact eqv_strs _ _
    have s14 := s13.trans s4
    by_cases same : ss = ascL ss
    · refine iteF' (by rw [eqq, decide_eq_true same]; rfl) ?_
      refine ⟨_, rfl, _, rfl, a, f, ss, F, rfl, Same.seqT (s3.trans s4) hs, Same.seqT s14 hf, by omega, fun H5 s5 => ⟨_, rfl, ?_⟩⟩
      have s15 := s14.trans s5
      by_cases nin : (ss.any fun x => decide (x ∈ F)) = true
      · refine iteT' (by rw [nin]; rfl) (noS ?_ H5 s15)
        rw [nin, Bool.not_true, Bool.and_false, Bool.false_and]
      · rw [Bool.not_eq_true] at nin
        refine iteF' (by rw [nin]; rfl) ?_
        have s25 := (s3.trans s4).trans s5
        refine nxt_go (go_ret ?_)
        refine ⟨_, rfl, _, rfl, _, rfl, q, f2, rs, cs, z, Ok, rfl, ⟨xs, Same.seqT s15 hq, thAll_same s15 hx⟩, A0.ok, A0.inN, A0.st, SqT.of (s25 _ _ hf2), ⟨A0.kin.nd, A0.few⟩, fun l H6 s6 nl hl => ?_⟩
        refine ⟨_, rfl, _, rfl, a, f2, ss, cs, rfl, Same.seqT (s25.trans s6) hs, SqT.of (s6 _ _ (s25 _ _ hf2)), A0.few, fun H7 s7 => ?_⟩
        rw [bar_range] at hl
        have ln := bits_lt (fun i => match cs[i]? with
          | some y => decide (y ∈ ss)
          | none => false) cs.length
        refine ⟨l, _, ((numL cs ss : Nat) : Int), V.bl (barW rs cs z (numL cs ss)), rfl, rfl, SqL.of (s7 _ _ hl), atI_nat ?_, ?_⟩
        · rw [List.getElem?_map, List.getElem?_range (by exact ln)]
          rfl
        · exact yesS _ (by rw [decide_eq_true same, nin, Bool.not_false, Bool.true_and, Bool.true_and]) H7 ((s15.trans s6).trans s7)
    · refine iteT' (by rw [eqq, decide_eq_false same]; rfl) (iteT' rfl (noS ?_ H4 s14))
      rw [decide_eq_false same, Bool.false_and, Bool.false_and]
end
end Lk

/-! K31R -/
set_option Elab.async false
set_option linter.all false
set_option maxRecDepth 100000
set_option maxHeartbeats 4000000
namespace Lk
open PySem PySem.Spec PyProof.Rows L2
/-! ### what comes by rules of a name is a name -/
def CLp (l : List Nat) : Prop := (∀ c ∈ l, upB c = true ∨ loB c = true) ∧ l.Pairwise fun a b => upB a = true ∨ loB b = true
theorem cl_of_nm {l : List Nat} (h : nmB l = true) : CLp l := by
  unfold nmB at h
  rw [Bool.and_eq_true, List.all_eq_true] at h
  have e := List.takeWhile_append_dropWhile (p := upB) (l := l)
  have t := List.all_eq_true.mp (List.all_takeWhile (p := upB) (l := l))
  constructor
  · intro c hc
    rw [← e] at hc
    rcases List.mem_append.mp hc with m | m
    · exact .inl (t c m)
    · exact .inr (h.2 c m)
  · rw [← e, List.pairwise_append]
    refine ⟨List.pairwise_of_forall_mem_list fun a ha b _ => .inl (t a ha), List.pairwise_of_forall_mem_list fun a _ b hb => .inr (h.2 b hb), fun a ha b hb => .inl (t a ha)⟩
theorem nm_of_cl : ∀ {l : List Nat}, CLp l → l ≠ [] → nmB l = true := by
  have go : ∀ {l : List Nat}, CLp l → (l.dropWhile upB).all loB = true := fun {l} => by
    induction l with
    | nil => exact fun _ => rfl
    | cons c l ih =>
      rintro ⟨h1, h2⟩
      rw [List.pairwise_cons] at h2
      by_cases u : upB c = true
      · rw [List.dropWhile_cons, if_pos u]
        exact ih ⟨fun a m => h1 a (List.mem_cons_of_mem _ m), h2.2⟩
      · rw [List.dropWhile_cons, if_neg u, List.all_eq_true]
        intro a ma
        rcases List.mem_cons.mp ma with e | ma
        · rw [e]
          exact (h1 c List.mem_cons_self).resolve_left u
        · exact (h2.1 a ma).resolve_left u
  intro l h n
  unfold nmB
  rw [go h, Bool.and_true]
  cases l with
  | nil => exact absurd rfl n
  | cons => rfl
theorem cl_mid {a m b : List Nat} (h : CLp (a ++ m ++ b)) : CLp m := by
  have s : m.Sublist (a ++ m ++ b) := (List.sublist_append_right a m).trans (List.sublist_append_left (a ++ m) b)
  exact ⟨fun c hc => h.1 c (s.subset hc), h.2.sublist s⟩
theorem cl_put {a m b : List Nat} (ha : ∀ c ∈ a, upB c = true) (hb : ∀ c ∈ b, loB c = true) (h : CLp m) : CLp (a ++ m ++ b) := by
  constructor
  · intro c hc
    rcases List.mem_append.mp hc with hc | hc
    · rcases List.mem_append.mp hc with hc | hc
      · exact .inl (ha c hc)
      · exact h.1 c hc
    · exact .inr (hb c hc)
  · rw [List.pairwise_append, List.pairwise_append]
    exact ⟨⟨List.pairwise_of_forall_mem_list fun a ha' b _ => .inl (ha a ha'), h.2, fun x hx y _ => .inl (ha x hx)⟩, List.pairwise_of_forall_mem_list fun a _ b hb' => .inr (hb b hb'), fun x _ y hy => .inr (hb y hy)⟩
theorem name_of_rule {r : Rl} (hr : dRule r.d = true) {z y : Str} (hz : dName (.str z) = true) (h : y ∈ r.of z) : dName (.str y) = true := by
  cases e : stemO r.b r.e z with
  | none =>
    rw [of_none e] at h
    cases h
  | some m =>
    rw [of_some e] at h
    obtain ⟨s, hs, rfl⟩ := List.mem_map.mp h
    have ez := stemO_eq e
    have cz := cl_of_nm (show nmB (TL.tl z) = true from hz)
    rw [ez] at cz
    have cm := cl_mid cz
    have h2 : (dLabel (.str r.lab) && (dPat (.tuple [.str r.b, .str r.e]) && (decide ((r.ss.map Src.d).length ≤ 3) && (r.ss.map Src.d).all dSrc1))) = true := hr
    rw [Bool.and_eq_true, Bool.and_eq_true, Bool.and_eq_true, List.all_eq_true] at h2
    have q := h2.2.2.2 _ (List.mem_map.mpr ⟨s, hs, rfl⟩)
    unfold dSrc1 at q
    cases s with
    | pat b e2 =>
      have q2 : (dPat (.tuple [.str b, .str e2]) || (false && decide (0 ≤ 6))) = true := q
      rw [Bool.false_and, Bool.or_false] at q2
      obtain ⟨b1, b2, _, _⟩ := pat_ends q2
      have ne : ¬ (b = "" ∧ e2 = "") := by
        rintro ⟨e3, e4⟩
        subst e3 e4
        revert q2
        decide +kernel
      show nmB (TL.tl (b ++ m ++ e2)) = true
      rw [TL.tl_append, TL.tl_append]
      refine nm_of_cl (cl_put b1 b2 cm) fun z => ?_
      rw [List.append_eq_nil_iff, List.append_eq_nil_iff] at z
      exact ne ⟨TL.ext_tl (z.1.1.trans rfl), TL.ext_tl (z.2.trans rfl)⟩
    | nm x =>
      have q2 : (false || (dName (.str x) && decide (x.length ≤ 6))) = true := q
      rw [Bool.false_or, Bool.and_eq_true] at q2
      exact q2.1
theorem chain_name {rs : List Rl} (hB : dBook (.tuple (rs.map Rl.d)) = true) {z : Str} (hz : dName (.str z) = true) {ks : List Nat} {y : Str} (c : Chain rs z ks y) : dName (.str y) = true := by
  have h2 : (decide ((rs.map Rl.d).length ≤ 6) && (rs.map Rl.d).all dRule) = true := hB
  rw [Bool.and_eq_true, List.all_eq_true] at h2
  induction c with
  | start => exact hz
  | step c hr n hy ih => exact name_of_rule (h2.2 _ (List.mem_map.mpr ⟨_, List.mem_of_getElem? hr, rfl⟩)) ih hy
/-! ### _law_some_files -/
theorem asc_take {cs ss : List Str} (h : IsAsc cs ss) (n : Nat) : cs.take n = ascL (cs.take n) :=
  IsAsc.uniq (ss := cs.take n) ⟨(List.take_sublist n cs).nodup h.nd, fun _ => Iff.rfl, h.pw.sublist (List.take_sublist n cs)⟩ (ascL_is _)
theorem fl_of {F : List Str} (e : F = ascL F) (few : F.length ≤ 60) (each : ∀ y ∈ F, dName (.str y) = true ∧ y.length ≤ 1000) : Fl F := by
  refine ⟨?_, fun y m => (each y m).2⟩
  unfold dFiles
  simp only [Bool.and_eq_true, decide_eq_true_eq, List.length_map, strD_map, List.all_eq_true]
  exact ⟨few, fun d m => by obtain ⟨y, my, rfl⟩ := List.mem_map.mp m; exact (each y my).1, e⟩
def spFiles (K : PySem.W.Frag) : Sp := fun vs H Q _ => ∃ (p c l : Addr) (row : List Str), vs = [.ref p, .ref l] ∧ PotAt p c H ∧ SqT K H l (row.map V.str) ∧ l ≠ p ∧ row.length ≤ 3990 ∧ (∀ y ∈ row, dName (.str y) = true ∧ y.length ≤ 1000) ∧
  ∀ (t : Addr) (F : List Str) (H' : Hp), Ext p c H H' → H' t = some (.tup (F.map V.str)) → Fl F → (∀ y ∈ F, y ∈ row) → Q (.ref t) H'
section
variable {P : Program} {w : World} {K : PySem.W.Frag} {mg : Str → Option Value} {base : Heap}
theorem sc_some_files : FnScope ["pot", "row", "name"] ["pot", "row"] (defScope s_some_files) := ⟨rfl, rfl, rfl, by decide +kernel, rfl, by decide +kernel, by decide +kernel⟩
theorem cal_some_files (D : Def1 K mg "_law_some_files" s_some_files) (CB : Cal P w K mg base 2 "_law_below" spBelow) (CO : Cal P w K mg base 1 "_law_ordered" (spLOrd K)) : Cal P w K mg base 3 "_law_some_files" (spFiles K) := by
  refine mkCal D sc_some_files (fun _ _ _ _ _ _ us hl => match us, hl with | [_, _], _ => rfl) (fun vs H Q E h => ?_) (fun f cdv A outer s H vs Q E hr h => ?_)
  · obtain ⟨p, c, l, row, rfl, _⟩ := h
    rfl
  · obtain ⟨p, c, l, row, rfl, hP, hl, lp, few, each, k⟩ := h
    refine ⟨_, (pss_one (ps_ret (pe_slice sl_tupA (pe_cal CO hr (by omega) (pa_cons (pe_lc (own := [("name", 2)]) (g := gName 2) (by rfl) sc_some_files.nd (pi_tup (pv 1)) (blkOk_by (own := [("name", 2)]) (N := ["pot", "row", "name"]) (sc := defScope s_some_files) (by decide +kernel)) (fun _ _ _ _ _ => pg_name (i := 2) sc_some_files.nd rfl (Or.inl rfl)) (fun _ _ _ _ _ => pts_one (pt_cmpR op_eq (pe_cal CB hr (by omega) (pa_cons (pv 0) (pa_cons pe_int pa_nil))) pe_int (nomark _))) (fun _ _ _ _ _ => (pv 2))) pa_nil)) po_none (po_some pe_int)))), ?_⟩
    refine ⟨_, rfl, l, rfl, ⟨_, hl⟩, fun D nD => ?_⟩
    refine lc_tup (K := K) (a := l) (xs := row.map V.str) (fun i H' => Ext p c H H' ∧ ∃ ys, H' D = some (.lst (ys.map V.str)) ∧ ys.length ≤ i ∧ ∀ y ∈ ys, y ∈ row)
      ⟨hP.ref.mut hP nD, [], upd_same, Nat.le_refl _, fun _ m => nomatch m⟩ (fun i H' _ h => h.1.seqT lp hl) ?_ ?_
    · rintro i x H1 hx ⟨e1, ys, hD, ly, hy⟩
      obtain ⟨y, hyi, rfl⟩ := Option.map_eq_some_iff.mp ((List.getElem?_map ..).symm.trans hx)
      refine ⟨rfl, _, rfl, p, c, 2, rfl, e1.pot, by decide, by decide, fun r H2 r0 r1 e2 => ⟨rfl, _, rfl, ?_⟩⟩
      have Dp : D ≠ p := hP.nep nD
      have hD2 := e2.get hD Dp
      have e12 := e1.trans e2
      refine ite2 (fun _ => ?_) (fun _ => ⟨e12, ys, hD2, by omega, hy⟩)
      have lt := (List.getElem?_eq_some_iff.mp hyi).1
      refine ⟨_, rfl, _, hD2, by rw [List.length_map, sizeLine_eq]; omega, e12.mut hP nD, ys ++ [y], by rw [upd_same, List.map_append]; rfl, by rw [List.length_append]; show _ + 1 ≤ _; omega, fun x mx => ?_⟩
      rcases List.mem_append.mp mx with m | m
      · exact hy x m
      · rw [List.mem_singleton.mp m]
        exact List.mem_of_getElem? hyi
    · rintro H1 ⟨e1, ys, hD, ly, hy⟩
      rw [List.length_map] at ly
      refine ⟨D, ys, rfl, SqL.of hD, by omega, fun y my => Nat.le_trans (each y (hy y my)).2 (by decide), fun cs t H2 s2 ht asc => ?_⟩
      have sub : ∀ y ∈ cs.take 60, y ∈ row := fun y my => hy y ((asc.mem y).mp (List.mem_of_mem_take my))
      have fl : Fl (cs.take 60) := fl_of (asc_take asc 60) (by rw [List.length_take]; omega) fun y my => each y (sub y my)
      refine ⟨60, rfl, t, _, rfl, SqT.of ht, fun hh => ?_, fun hh b nb => ?_⟩
      · have h0 := hh.2
        rw [sIx_some (by decide), List.length_map] at h0
        have e60 : (60 : Int).toNat = 60 := rfl
        have ec : cs.take 60 = cs := List.take_of_length_le (by omega)
        rw [ec] at fl sub
        exact k t cs H2 (e1.same s2) ht fl sub
      · rw [cut_to (by decide)]
        have s3 := same_upd (o := .tup ((cs.map V.str).take (Int.toNat 60))) nb
        refine k b (cs.take 60) _ ((e1.same s2).same s3) ?_ fl sub
        rw [upd_same, List.map_take]
        rfl
end
end Lk

/-! K31S -/
set_option Elab.async false
set_option linter.all false
set_option maxRecDepth 100000
set_option maxHeartbeats 4000000
namespace Lk
open PySem PySem.Spec PyProof.Rows L2
/-! ### the places that wishes lead to -/
noncomputable def plc (rs : List Rl) (z : Str) : List Place := (List.range (rs.length + 1)).flatMap fun c => (lv rs z c).map fun p => (p.2, srt p.1)
theorem plc_in {rs : List Rl} {z : Str} {p : Place} (h : Snds rs z p) : p ∈ plc rs z := by
  obtain ⟨ks, c, e⟩ := h
  refine List.mem_flatMap.mpr ⟨ks.length, List.mem_range.mpr (Nat.lt_succ_of_le (chain_few c)), List.mem_map.mpr ⟨_, lv_of c, ?_⟩⟩
  show (p.1, srt ks) = p
  rw [← e]
theorem plc_len {rs : List Rl} {z : Str} {m : Nat} (hm : ∀ r ∈ rs, r.ss.length ≤ m) : ∀ i, ((List.range i).flatMap fun c => (lv rs z c).map fun p => ((p.2, srt p.1) : Place)).length ≤ sumM rs.length m i
  | 0 => Nat.le_refl _
  | i + 1 => by
    have ih := plc_len (z := z) hm i
    have l := lv_len (z := z) hm i
    rw [List.range_succ, List.flatMap_append, List.length_append]
    have one : ([i].flatMap fun c => (lv rs z c).map fun p => ((p.2, srt p.1) : Place)) = (lv rs z i).map fun p => ((p.2, srt p.1) : Place) := by simp
    rw [one, List.length_map]
    show _ ≤ sumM rs.length m i + most rs.length m i
    omega
theorem small_sum : ∀ n m, (n ≤ 4 ∧ m = 2) ∨ (n ≤ 3 ∧ m = 3) → sumM n m (n + 1) ≤ 640 := by
  rintro n m (⟨h, rfl⟩ | ⟨h, rfl⟩)
  · rcases n with _ | _ | _ | _ | _ | n
    all_goals first | decide | omega
  · rcases n with _ | _ | _ | _ | n
    all_goals first | decide | omega
/-- a drawn book -/
structure DrB (m : Nat) (rs : List Rl) : Prop where
  bk : dBook (.tuple (rs.map Rl.d)) = true
  tx : ∀ r ∈ rs, RlTx r
  len : ∀ r ∈ rs, r.ss.length ≤ m
  sum : sumM rs.length m (rs.length + 1) ≤ 640
  wg : wgt m rs.length ≤ 1200
  m3 : m ≤ 3
theorem drb_of {n m : Nat} {rs : List Rl} (hn : (n ≤ 4 ∧ m = 2) ∨ (n ≤ 3 ∧ m = 3)) (ok : ∀ r ∈ rs, RlOk m r) (le : rs.length ≤ n) : DrB m rs := by
  obtain ⟨_, s2, s3⟩ := small_books rs.length m (by omega)
  have dr : ∀ r ∈ rs, dRule r.d = true ∧ RlTx r := fun r mr => ok_draw (ok r mr) s3
  refine ⟨?_, fun r mr => (dr r mr).2, fun r mr => (ok r mr).len, small_sum _ _ (by omega), s2, s3⟩
  show (decide ((rs.map Rl.d).length ≤ 6) && (rs.map Rl.d).all dRule) = true
  rw [Bool.and_eq_true, decide_eq_true_eq, List.length_map, List.all_eq_true]
  refine ⟨by omega, fun d md => ?_⟩
  obtain ⟨r, mr, rfl⟩ := List.mem_map.mp md
  exact (dr r mr).1
theorem DrB.chain {m : Nat} {rs : List Rl} (D : DrB m rs) {z : Str} (hz : PyData.strOk z = true) {ks : List Nat} {y : Str} (c : Chain rs z ks y) : PyData.strOk y = true ∧ y.length ≤ z.length + 36 := by
  have q := chain_tx D.tx (book_len D.bk).2 hz c
  have f := chain_few c
  have g := (book_len D.bk).1
  exact ⟨q.1, by omega⟩
def OkW (rs : List Rl) (ws : List Str) (p : Place) : Prop := ∃ x ∈ ws, Snds rs x p
theorem okw_fin {m : Nat} {rs : List Rl} (D : DrB m rs) (ws : List Str) : ∃ L : List Place, L.length ≤ ws.length * 640 ∧ ∀ p, OkW rs ws p → p ∈ L := by
  refine ⟨ws.flatMap (plc rs), flat_le fun x _ => Nat.le_trans (plc_len D.len _) D.sum, fun p h => ?_⟩
  obtain ⟨x, mx, s⟩ := h
  exact List.mem_flatMap.mpr ⟨x, mx, plc_in s⟩
theorem okw {m : Nat} {rs : List Rl} (D : DrB m rs) {ws : List Str} (hw : ∀ x ∈ ws, PyData.strOk x = true ∧ x.length ≤ 900) (few : ws.length ≤ 100) : OkR rs (OkW rs ws) := by
  refine ⟨D.bk, fun p h => ?_, fun p h => ?_, fun p p' h s => ?_, ?_⟩
  · obtain ⟨x, mx, ks, c, _⟩ := h
    have y := D.chain (hw x mx).1 c
    have l := (hw x mx).2
    exact ⟨y.1, by omega⟩
  · obtain ⟨x, mx, ks, c, e⟩ := h
    have l := chain_lt c
    rw [e]
    exact ⟨(srt_perm ks).nodup_iff.mpr l.2, fun k mk => l.1 k (mem_srt.mp mk)⟩
  · obtain ⟨x, mx, h⟩ := h
    exact ⟨x, mx, snds_succ h s⟩
  · obtain ⟨L, l, h⟩ := okw_fin D ws
    exact ⟨L, by omega, h⟩
theorem okw_start {rs : List Rl} {ws : List Str} {x : Str} (h : x ∈ ws) : OkW rs ws (x, []) := ⟨x, h, [], .start, srt_nil.symm⟩
theorem okw_name {m : Nat} {rs : List Rl} (D : DrB m rs) {ws : List Str} (hw : ∀ x ∈ ws, dName (.str x) = true) {p : Place} (h : OkW rs ws p) : dName (.str p.1) = true := by
  obtain ⟨x, mx, ks, c, _⟩ := h
  exact chain_name D.bk (hw x mx) c
theorem kin_few {m : Nat} {rs : List Rl} (D : DrB m rs) {z : Str} {cs : List Str} (nd : cs.Nodup) (h : ∀ y ∈ cs, ∃ ks, Chain rs z ks y) : cs.length ≤ 640 := by
  have y := nodup_len (m := (plc rs z).map (·.1)) nd fun y my => by
    obtain ⟨ks, c⟩ := h y my
    exact List.mem_map.mpr ⟨(y, srt ks), plc_in ⟨ks, c, rfl⟩, rfl⟩
  rw [List.length_map] at y
  exact Nat.le_trans y (Nat.le_trans (plc_len D.len _) D.sum)
end Lk

/-! K31T -/
set_option Elab.async false
set_option linter.all false
set_option maxRecDepth 100000
set_option maxHeartbeats 4000000
namespace Lk
open PySem PySem.Spec PyProof.Rows L2
theorem lo_up {c : Nat} (h : loB c = true) : upB c = false := by
  unfold loB at h
  unfold upB
  simp only [Bool.and_eq_true, decide_eq_true_eq] at h
  rw [Bool.and_eq_false_iff]
  exact .inr (decide_eq_false (by omega))
theorem nm_heads {z : Str} {h t : List Nat} (n : Nm z h t) : (∀ c ∈ h, upB c = true) ∧ ∀ c ∈ t, loB c = true :=
  ⟨fun c hc => by
    have z := n.up c hc
    unfold Up at z
    unfold upB
    rw [decide_eq_true z.1, decide_eq_true z.2]
    rfl, fun c hc => by
    have z := n.lo c hc
    unfold Lo at z
    unfold loB
    rw [decide_eq_true z.1, decide_eq_true z.2]
    rfl⟩
theorem split_caps : ∀ {h t : List Nat}, (∀ c ∈ h, upB c = true) → (∀ c ∈ t, loB c = true) → (h ++ t).takeWhile upB = h ∧ (h ++ t).dropWhile upB = t
  | [], [], _, _ => ⟨rfl, rfl⟩
  | [], c :: t, _, ht => by
    have z := lo_up (ht c List.mem_cons_self)
    exact ⟨by simp [z], by simp [z]⟩
  | c :: h, t, hh, ht => by
    obtain ⟨a, b⟩ := split_caps (h := h) (t := t) (fun x hx => hh x (List.mem_cons_of_mem _ hx)) ht
    have z := hh c List.mem_cons_self
    exact ⟨by simp [z, a], by simp [z, b]⟩
theorem nm_split {z : Str} {h t : List Nat} (n : Nm z h t) : (TL.tl z).takeWhile upB = h ∧ (TL.tl z).dropWhile upB = t := by
  obtain ⟨a, b⟩ := nm_heads n
  rw [n.e]
  exact split_caps a b
theorem name_of {u v : List Nat} (hu : ∀ c ∈ u, upB c = true) (hv : ∀ c ∈ v, loB c = true) (ne : u ++ v ≠ []) : nmB (u ++ v) = true := nmB_app (List.all_eq_true.mpr hu) (List.all_eq_true.mpr hv) ne
theorem nm_isName {z : Str} {h t : List Nat} (n : Nm z h t) : dName (.str z) = true := by
  show nmB (TL.tl z) = true
  obtain ⟨a, b⟩ := nm_heads n
  rw [n.e]
  exact name_of a b n.ne
theorem shaped_tup {ss : List Str} (h : ∀ x ∈ ss, PyData.strOk x = true) : SeqAt.shaped (.tuple (ss.map PyData.str)) = true := by
  have h1 : ∀ l : List Str, (∀ x ∈ l, PyData.strOk x = true) → PyData.canLayAll0 (l.map PyData.str) = true ∧ PyData.depthAll (l.map PyData.str) = 0 := fun l => by
    induction l with
    | nil => exact fun _ => ⟨rfl, rfl⟩
    | cons x r ih =>
      intro h
      obtain ⟨a, b⟩ := ih fun y hy => h y (List.mem_cons_of_mem _ hy)
      refine ⟨?_, ?_⟩
      · rw [List.map_cons, PyData.canLayAll0, a, Bool.and_true]
        exact h x List.mem_cons_self
      · rw [List.map_cons, PyData.depthAll, b]
        rfl
  obtain ⟨a, b⟩ := h1 ss h
  unfold SeqAt.shaped
  rw [PyData.canLay0, a, PyData.depth, b]
  rfl

theorem dp_tup {K : PySem.W.Frag} {H : Hp} : ∀ ss : List Str, DpAll K H (ss.map V.str) (ss.map PyData.str)
  | [] => .nil
  | x :: r => .cons (.str x) (dp_tup r)
theorem shaped_lst {ss : List Str} (h : ∀ x ∈ ss, PyData.strOk x = true) : SeqAt.shaped (.list (ss.map PyData.str)) = true := by
  have z := shaped_tup h
  simpa [SeqAt.shaped, PyData.canLay0, PyData.depth] using z
/-! repr of drawn rules -/
theorem rl_pl {most : Nat} {r : Rl} (h : RlOk most r) : Pl 3 r.d := by
  have h0 : ∀ x ∈ (["cc", "as", "link", "", "A", "B", "AB", "o", "c", "s", "co", "Ac", "Bo", "Ao"] : List Str), (PyData.str x).showable = true ∧ (PyData.str x).leavesShort 13 = true := by decide +kernel
  have one : ∀ x ∈ (["cc", "as", "link", "", "A", "B", "AB", "o", "c", "s", "co", "Ac", "Bo", "Ao"] : List Str), Pl 0 (.str x) := fun x m => ⟨(h0 x m).1, (h0 x m).2, Nat.le_refl _, rfl⟩
  have i1 : ∀ x ∈ (["cc", "as", "link"] : List Str), x ∈ (["cc", "as", "link", "", "A", "B", "AB", "o", "c", "s", "co", "Ac", "Bo", "Ao"] : List Str) := by decide +kernel
  have i2 : ∀ x ∈ (["", "A", "B"] : List Str), x ∈ (["cc", "as", "link", "", "A", "B", "AB", "o", "c", "s", "co", "Ac", "Bo", "Ao"] : List Str) := by decide +kernel
  have i3 : ∀ x ∈ (["o", "c", "", "s"] : List Str), x ∈ (["cc", "as", "link", "", "A", "B", "AB", "o", "c", "s", "co", "Ac", "Bo", "Ao"] : List Str) := by decide +kernel
  have i4 : ∀ x ∈ (["", "A", "B", "AB"] : List Str), x ∈ (["cc", "as", "link", "", "A", "B", "AB", "o", "c", "s", "co", "Ac", "Bo", "Ao"] : List Str) := by decide +kernel
  have i5 : ∀ x ∈ (["", "c", "o", "s", "co"] : List Str), x ∈ (["cc", "as", "link", "", "A", "B", "AB", "o", "c", "s", "co", "Ac", "Bo", "Ao"] : List Str) := by decide +kernel
  have i6 : ∀ x ∈ (["A", "Ac", "Bo", "s", "Ao"] : List Str), x ∈ (["cc", "as", "link", "", "A", "B", "AB", "o", "c", "s", "co", "Ac", "Bo", "Ao"] : List Str) := by decide +kernel
  have two : ∀ {x y : Str}, Pl 0 (.str x) → Pl 0 (.str y) → Pl 1 (.tuple [.str x, .str y]) := fun hx hy => pl_tup fun d m => by
    rcases List.mem_cons.mp m with e | m
    · rw [e]
      exact hx
    · rw [List.mem_singleton.mp m]
      exact hy
  have srcs : Pl 2 (.tuple (r.ss.map Src.d)) := pl_tup fun d m => by
    obtain ⟨s, ms, rfl⟩ := List.mem_map.mp m
    have q := h.ss s ms
    cases s with
    | pat b e =>
      obtain ⟨q1, q2, _⟩ : b ∈ (["", "A", "B", "AB"] : List Str) ∧ e ∈ (["", "c", "o", "s", "co"] : List Str) ∧ ¬ (b = "" ∧ e = "") := q
      exact two (one b (i4 b q1)) (one e (i5 e q2))
    | nm x => exact (one x (i6 x q)).le (by decide)
  refine pl_tup fun d m => ?_
  rcases List.mem_cons.mp m with e | m
  · rw [e]
    exact (one _ (i1 _ h.lab)).le (by decide)
  · rcases List.mem_cons.mp m with e | m
    · rw [e]
      exact (two (one _ (i2 _ h.b)) (one _ (i3 _ h.e))).le (by decide)
    · rw [List.mem_singleton.mp m]
      exact srcs
theorem book_wf {most : Nat} {rs : List Rl} (h : ∀ r ∈ rs, RlOk most r) (hB : dBook (.tuple (rs.map Rl.d)) = true) : Wf (.tuple (rs.map Rl.d)) :=
  (pl_tup (k := 3) fun d m => by
    obtain ⟨r, mr, rfl⟩ := List.mem_map.mp m
    exact rl_pl (h r mr)).wf (by decide) (book_bulk hB)
theorem noPot_tuple {ds : List PyData} (h : ∀ d ∈ ds, noPot d = true) : noPot (.tuple ds) = true := by
  have z : noPotAll ds = true := by
    induction ds with
    | nil => rfl
    | cons d ds ih =>
      rw [noPotAll, h d List.mem_cons_self, ih fun e m => h e (List.mem_cons_of_mem _ m)]
      rfl
  rw [noPot]
  exact z
theorem book_flat {rs : List Rl} : noPot (.tuple (rs.map Rl.d)) = true := noPot_tuple fun e he => by
  obtain ⟨r, _, rfl⟩ := List.mem_map.mp he
  exact (rl_flat r).2
theorem th_ints2 {K : PySem.W.Frag} {H : Hp} {v : V} {n m : Nat} (h : Th K H v (.tuple [.int (n : Int), .int (m : Int)])) : ∃ q, v = .ref q ∧ SqT K H q [.int (n : Int), .int (m : Int)] := by
  cases h with
  | tup hs ha =>
    cases ha with
    | cons h1 t =>
      cases t with
      | cons h2 t =>
        cases t
        cases h1
        cases h2
        exact ⟨_, rfl, hs⟩
theorem pl_str {x : Str} (h : PyData.strOk x = true) : Pl 0 (.str x) := by
  refine ⟨rfl, ?_, Nat.le_refl _, rfl⟩
  have z := ok_iff.mp h
  show (x.cps.toList.all fun c => decide (c < 16 ^ 8)) = true
  rw [List.all_eq_true]
  intro c mc
  have y := z c mc
  rw [decide_eq_true_eq]
  omega
theorem pl_lst {k : Nat} {ds : List PyData} (h : ∀ d ∈ ds, Pl k d) : Pl (k + 1) (.list ds) := by
  obtain ⟨a, b, c, e⟩ := pl_all h
  refine ⟨?_, ?_, ?_, ?_⟩
  · rw [PyData.showable]
    exact a
  · rw [PyData.leavesShort]
    exact b
  · rw [PyData.depth]
    omega
  · rw [PyData.hasDict]
    exact e
end Lk

/-! K31U -/
set_option Elab.async false
set_option linter.all false
set_option maxRecDepth 100000
set_option maxHeartbeats 4000000
namespace Lk
open PySem PySem.Spec PyProof.Rows L2
section
variable {P : Program} {w : World} {K : PySem.W.Frag} {mg : Str → Option Value} {base : Heap}
theorem sc_split : FnScope ["name", "size"] ["name"] (defScope s_split) := ⟨rfl, rfl, rfl, by decide +kernel, rfl, by decide +kernel, by decide +kernel⟩
theorem cal_split (D : Def1 K mg "_law_split" s_split) (G : Glb mg) : Cal P w K mg base 1 "_law_split" spSplit := by
  refine mkCal D sc_split (fun _ _ _ _ _ _ us hl => match us, hl with | [_], _ => rfl) (fun vs H Q E h => ?_) (fun f cdv A outer s H vs Q E hr h => ?_)
  · obtain ⟨x, rfl, _⟩ := h
    rfl
  · obtain ⟨x, rfl, hx, k⟩ := h
    have hz : x.length ≤ sizeLine := Nat.le_trans hx (by decide)
    have tA : TL.tl ("A" : Str) = [65] := by decide +kernel
    have tZ : TL.tl ("Z" : Str) = [90] := by decide +kernel
    have hl := TL.len_tl x
    refine ⟨_, pss_cons (ps_set (i := 1) sc_split.nd rfl (.inl rfl) pe_int)
      (pss_cons (ps_while PassesOwn.never (PW.pt (pw_and (pt_cmpR op_lt (pv 1) (pe_callB call_len_str (by rfl) G.len PySem.boot_len (pa_cons (pv 0) pa_nil)) (nomark _)) (pw_and1 (pt_chain op_le_str op_le_str pe_str (pe_item_str (pv 0) (pv 1) (fun _ _ => rfl)) pe_str))))
        (pss_one (ps_set (i := 1) sc_split.nd rfl (.inl rfl) (pe_op op_add (pv 1) pe_int))))
      (pss_one (ps_ret (pe_tup (pa_cons (pe_slice sl_str (pv 0) po_none (po_some (pv 1))) (pa_cons (pe_slice sl_str (pv 0) (po_some (pv 1)) po_none) pa_nil)))))), ?_⟩
    have fin : ∀ n : Nat, n ≤ (TL.tl x).length → (∀ c ∈ (TL.tl x).take n, upB c = true) → (∀ c, (TL.tl x)[n]? = some c → upB c = false) → tRet (tTup (tCons (tSl rSlS (tVar 0) tNoPart (tPart (tVar 1))) (tCons (tSl rSlS (tVar 0) (tPart (tVar 1)) tNoPart) tNil))) { nx := fun _ H' => Q .non H', rt := Q } [some (.str x), some (.int (n : Int))] H := by
      intro n hn up stop
      have hn2 : n ≤ x.length := by omega
      refine ⟨_, rfl, _, rfl, _, rfl, x, rfl, hz, _, rfl, _, rfl, _, rfl, x, rfl, hz, (by show 2 ≤ sizeLine; decide), fun p np => ?_⟩
      obtain ⟨e1, e2⟩ := take_tw up stop hn
      exact k p _ _ np (by rw [tl_cut_to hn2, e1]) (by rw [tl_cut_from hn2, e2])
    refine ⟨fun m σ H' => ∃ n : Nat, σ = [some (.str x), some (.int (n : Int))] ∧ n + m = (TL.tl x).length ∧ (∀ c ∈ (TL.tl x).take n, upB c = true) ∧ H' = H, ⟨_, 0, rfl, Nat.zero_add _, by simp, rfl⟩, ?_⟩
    rintro m σ H' ⟨n, rfl, em, up, rfl⟩
    refine ⟨_, rfl, _, rfl, x, rfl, hz, _, _, rfl, rfl, _, rfl, ?_⟩
    refine ite2 (fun hlt => ?_) (fun hge => ?_)
    · have hn : n < (TL.tl x).length := by
        have := of_decide_eq_true hlt
        omega
      have hc : x.cps[(n : Int).toNat]? = some ((TL.tl x)[n]) := by
        rw [Int.toNat_natCast, ← Array.getElem?_toList]
        exact List.getElem?_eq_getElem hn
      refine ⟨_, rfl, _, rfl, x, _, _, rfl, rfl, by omega, by omega, by omega, hc, _, _, rfl, rfl, _, rfl, ?_⟩
      rw [le_sg tA]
      have bad : ∀ b : Bool, upB ((TL.tl x)[n]) = b → ∀ c, (TL.tl x)[n]? = some c → upB c = b := fun b hb c h => by
        rw [List.getElem?_eq_getElem hn] at h
        rw [← Option.some.inj h]
        exact hb
      refine ite2 (fun h1 => ?_) (fun h1 => ?_)
      · refine ⟨_, _, rfl, rfl, _, rfl, ?_⟩
        rw [sg_le tZ]
        refine ite2 (fun h2 => ?_) (fun h2 => ?_)
        · have hu : upB ((TL.tl x)[n]) = true := by
            unfold upB
            rw [h1, h2]
            rfl
          refine ⟨fun σ' H'' => ∃ n' : Nat, n' = n + 1 ∧ σ' = [some (.str x), some (.int (n' : Int))] ∧ H'' = H', fun σ' H'' hN => ?_, _, rfl, _, _, rfl, rfl, n + 1, rfl, ?_, rfl⟩
          · obtain ⟨n', rfl, rfl, rfl⟩ := hN
            refine ⟨m - 1, by omega, n + 1, rfl, by omega, fun c hc' => ?_, rfl⟩
            rw [List.take_succ_eq_append_getElem hn] at hc'
            rcases List.mem_append.mp hc' with h | h
            · exact up c h
            · rw [List.mem_singleton.mp h]
              exact hu
          · show [some (V.str x), some (V.int ((n : Int) + 1))] = _
            rw [show ((n + 1 : Nat) : Int) = (n : Int) + 1 by omega]
        · exact fin n (by omega) up (bad false (by unfold upB; rw [Bool.not_eq_true _ |>.mp h2, Bool.and_false]))
      · exact ⟨_, rfl, fin n (by omega) up (bad false (by unfold upB; rw [Bool.not_eq_true _ |>.mp h1, Bool.false_and]))⟩
    · have hn : n = (TL.tl x).length := by
        have : ¬ ((n : Int) < (x.length : Int)) := fun z => hge (decide_eq_true z)
        omega
      exact fin n (by omega) up (fun c h => by
        rw [List.getElem?_eq_none (by omega)] at h
        cases h)
theorem sc_is_name : FnScope ["thing", "sign"] ["thing"] (defScope s_is_name) := ⟨rfl, rfl, rfl, by decide +kernel, rfl, by decide +kernel, by decide +kernel⟩
theorem cal_is_name (D : Def1 K mg "_law_is_name" s_is_name) (T : Glc mg) (CS : Cal P w K mg base 1 "_law_split" spSplit) : Cal P w K mg base 2 "_law_is_name" (spLName K) := by
  refine mkCal D sc_is_name (fun _ _ _ _ _ _ us hl => match us, hl with | [_], _ => rfl) (fun vs H Q E h => ?_) (fun f cdv A outer s H vs Q E hr h => ?_)
  · obtain ⟨v, d, rfl, _⟩ := h
    rfl
  · obtain ⟨v, d, rfl, ht, hb, hok, k⟩ := h
    have ta : TL.tl ("a" : Str) = [97] := by decide +kernel
    have tz : TL.tl ("z" : Str) = [122] := by decide +kernel
    refine ⟨_, pss_cons (ps_if (PW.pt (pw_or (pt_not (pt_val (pe_isi (T := "str") (pv 0) T.isinst T.str (by decide +kernel)))) (pw_or1 (pt_cmpR op_eq (pv 0) pe_str (nomark _))))) (pss_one (ps_ret pe_bl)) pss_nil)
      (pss_one (ps_ret (pe_cmpR (op_eqD hr.units) (pe_lc (own := [("sign", 1)]) (g := gName 1) (by rfl) sc_is_name.nd (pi_str (pe_ix ix_tup (pe_cal CS hr (by decide) (pa_cons (pv 0) pa_nil)) pe_int (fun _ _ => rfl)))
          (blkOk_by (own := [("sign", 1)]) (N := ["thing", "sign"]) (sc := defScope s_is_name) (by decide +kernel)) (fun _ _ _ _ _ => pg_name (i := 1) sc_is_name.nd rfl (Or.inl rfl)) (fun _ _ _ _ _ => pts_one (pt_not (pt_chain op_le_str op_le_str pe_str (pv 1) pe_str)))
          (fun _ _ _ _ _ => pv 1)) (pe_lst pa_nil) (nomark _)))), ?_⟩
    refine ⟨_, rfl, v, _, _, _, _, rfl, .ty _, th_ty ht, kit_str d, _, rfl, ?_⟩
    cases e : isStr d with
    | false =>
      rw [(not_str e).1] at k
      exact iteT (iteT (k H (Same.refl H)))
    | true =>
      obtain ⟨x, rfl, rfl⟩ := th_str ht e
      refine iteF ⟨_, rfl, rfl, _, rfl, ?_⟩
      refine ite2 (fun hne => ?_) (fun hne => ?_)
      · have hx : x = "" := V.str.inj (of_decide_eq_true hne)
        subst hx
        exact k H (Same.refl H)
      · have hx : TL.tl x ≠ [] := fun z => hne (decide_eq_true (by rw [tl_nil_iff.mp z]))
        refine ⟨_, rfl, x, rfl, hb, fun p hs ts np eh et => ?_⟩
        refine ⟨p, _, 1, .str ts, rfl, rfl, .inl (.inl upd_same), atI_nat (j := 1) rfl, ts, rfl, fun D nD => ?_⟩
        have sp : Same H (upd H p (.tup [.str hs, .str ts])) := same_upd np
        have nD0 : H D = none := sp.free nD
        have hsub : ∀ c ∈ TL.tl ts, c ∈ TL.tl x := fun c hc => by
          rw [et] at hc
          exact (List.dropWhile_sublist _).subset hc
        have hlen : (TL.tl ts).length ≤ 100000 := by
          rw [et]
          have h1 := (List.dropWhile_sublist upB (l := TL.tl x)).length_le
          have h2 : x.length ≤ 100000 := hb
          have := TL.len_tl x
          omega
        refine lc_str (x := ts) (fun pre H' => Same H H' ∧ ∃ ys : List Str, H' D = some (.lst (ys.map V.str)) ∧ ys.length ≤ pre.length ∧ (∀ y ∈ ys, PyData.strOk y = true) ∧ (ys = [] ↔ pre.all loB = true))
          ⟨same_mut sp nD0, [], upd_same, Nat.le_refl _, fun y h => (nomatch h), by simp⟩ ?_ ?_
        · rintro pre c post H' hsplit ⟨sH, ys, hD, hl, ho, hi⟩
          refine ⟨rfl, _, rfl, _, _, rfl, rfl, _, rfl, ?_⟩
          rw [le_sg ta]
          have hcl : c ∈ TL.tl ts := by rw [hsplit]; simp
          have hpl : pre.length ≤ 100000 := by
            rw [hsplit, List.length_append] at hlen
            omega
          have keep : ∀ b : Bool, loB c = b → (b = true → ∃ ys : List Str, H' D = some (.lst (ys.map V.str)) ∧ ys.length ≤ (pre ++ [c]).length ∧ (∀ y ∈ ys, PyData.strOk y = true) ∧ (ys = [] ↔ (pre ++ [c]).all loB = true)) := fun b hb2 hb3 => by
            refine ⟨ys, hD, by rw [List.length_append]; omega, ho, ?_⟩
            rw [List.all_append, Bool.and_eq_true, ← hi]
            simp [hb2, hb3]
          have grow : loB c = false → tVar 1 [some (V.str x), some (V.str (sg c))] H' fun y H4 => ∃ acc, H4 D = some (.lst acc) ∧ acc.length < sizeLine ∧ (Same H (upd H4 D (.lst (acc ++ [y]))) ∧ ∃ ys : List Str, (upd H4 D (.lst (acc ++ [y]))) D = some (.lst (ys.map V.str)) ∧ ys.length ≤ (pre ++ [c]).length ∧ (∀ y ∈ ys, PyData.strOk y = true) ∧ (ys = [] ↔ (pre ++ [c]).all loB = true)) := fun hb2 => by
            refine ⟨_, rfl, _, hD, by rw [List.length_map]; exact Nat.lt_of_le_of_lt (Nat.le_trans hl hpl) (by decide), same_mut sH nD0, ys ++ [sg c], by rw [upd_same, List.map_append]; rfl, by rw [List.length_append, List.length_append]; simp; omega, fun y hy => ?_, ?_⟩
            · rcases List.mem_append.mp hy with hy | hy
              · exact ho y hy
              · rw [List.mem_singleton.mp hy]
                exact ok_sg hok (hsub c hcl)
            · rw [List.all_append, Bool.and_eq_true]
              simp [hb2]
          refine ite2 (fun h1 => ?_) (fun h1 => ?_)
          · refine ⟨_, _, rfl, rfl, _, rfl, ?_⟩
            rw [sg_le tz]
            cases h2 : decide (c ≤ 122) with
            | true => exact iteF ⟨sH, keep true (by unfold loB; rw [h1, h2]; rfl) rfl⟩
            | false => exact iteT (grow (by unfold loB; rw [h2, Bool.and_false]))
          · exact ⟨_, rfl, iteT (grow (by unfold loB; rw [Bool.not_eq_true _ |>.mp h1, Bool.false_and]))⟩
        · rintro H' ⟨sH, ys, hD, hl, ho, hi⟩
          refine ⟨Nat.zero_le _, fun q nq => ?_⟩
          have nDq : D ≠ q := ne_of_none hD nq
          refine ⟨_, _, .lst (SqL.of (by rw [upd_ne nDq]; exact hD)) (dp_strs ys), .lst (SqL.of upd_same) .nil, shaped_strs ho, rfl, ?_⟩
          rw [eqv_strs_nil]
          have ed : decide (ys = []) = dName (.str x) := by
            rw [Bool.eq_iff_iff, decide_eq_true_iff, hi, et]
            show _ ↔ (!(TL.tl x).isEmpty && ((TL.tl x).dropWhile upB).all loB) = true
            cases q : TL.tl x with
            | nil => exact absurd q hx
            | cons c r => simp
          rw [ed]
          exact k _ (sH.trans (same_upd nq))
end
end Lk

/-! K31V -/
set_option Elab.async false
set_option linter.all false
set_option maxRecDepth 100000
set_option maxHeartbeats 4000000
namespace Lk
open PySem PySem.Spec PyProof.Rows L2
/-! ### the law's sets and the program's -/
theorem num_test {names F : List Str} {i : Nat} {y : Str} (h : names[i]? = some y) : (numL names F).testBit i = decide (y ∈ F) := by
  unfold numL
  rw [bits_test, decide_eq_true (List.getElem?_eq_some_iff.mp h).1, Bool.true_and, h]
theorem num_lt (names F : List Str) : numL names F < 2 ^ names.length := bits_lt _ _
theorem num_sub {names : List Str} (nd : names.Nodup) {t : Nat} (ht : t < 2 ^ names.length) : numL names (subN names t) = t := set_eq (num_lt _ _) ht fun i hi => by
  rw [num_test (List.getElem?_eq_getElem hi), decide_eq_true_iff]
  exact mem_sub nd (List.getElem?_eq_getElem hi)
theorem has_files {rs : List Rl} {z : Str} {names F : List Str} (kl : KinL rs z names) : (way rs F z []).isSome = hasW rs names z (numL names F) := by
  unfold hasW
  rw [way_kin (F := F) (F' := subN names (numL names F)) fun y ks ch => ?_]
  obtain ⟨i, hi⟩ := List.mem_iff_getElem?.mp ((kl.mem y).mpr ⟨ks, ch⟩)
  rw [mem_sub kl.nd hi, num_test hi, decide_eq_true_iff]
theorem aside_iff {names F : List Str} {t : Nat} : asideB names F t = true ↔ ∀ i, i < names.length → t.testBit i = true → (numL names F).testBit i = false := by
  unfold asideB
  rw [Bool.not_eq_true', List.any_eq_false]
  constructor
  · intro h i hi b
    have e : names[i]? = some names[i] := List.getElem?_eq_getElem hi
    rw [num_test e]
    exact decide_eq_false fun m => h _ (sub_in e b) (decide_eq_true m)
  · intro h x m mf
    obtain ⟨i, hi, b⟩ := sub_out m
    have z := h i (List.getElem?_eq_some_iff.mp hi).1 b
    rw [num_test hi, mf] at z
    cases z
theorem meets_iff {names : List Str} (nd : names.Nodup) {t s : Nat} : (!(subN names t).any fun x => decide (x ∈ subN names s)) = false ↔ ∃ i, i < names.length ∧ t.testBit i = true ∧ s.testBit i = true := by
  rw [Bool.not_eq_false', List.any_eq_true]
  constructor
  · rintro ⟨x, m, h⟩
    obtain ⟨i, hi, b⟩ := sub_out m
    exact ⟨i, (List.getElem?_eq_some_iff.mp hi).1, b, (mem_sub nd hi).mp (of_decide_eq_true h)⟩
  · rintro ⟨i, hi, b1, b2⟩
    have e : names[i]? = some names[i] := List.getElem?_eq_getElem hi
    exact ⟨_, sub_in e b1, decide_eq_true (sub_in e b2)⟩
/-- a told barrier shows itself -/
theorem sh_told {rs : List Rl} {z : Str} {names F : List Str} (kl : KinL rs z names) {t : Nat} (ht : t < 2 ^ names.length) (mt : barW rs names z t = true) (as : asideB names F t = true) : shB rs names z F (tupN names t) = true := by
  have sl : (subN names t).Sublist names := by
    have z : ((names.zipIdx.filter fun c => t.testBit c.2).map (·.1)).Sublist (names.zipIdx.map (·.1)) := List.filter_sublist.map _
    have e : names.zipIdx.map (·.1) = names := by simp
    rw [e] at z
    exact z
  have es : ((subN names t).map PyData.str).map strD = subN names t := strD_map _
  show (((subN names t).map PyData.str).all (isNm names) && (decide (((subN names t).map PyData.str).map strD = ascL (((subN names t).map PyData.str).map strD)) && (!(((subN names t).map PyData.str).map strD).any fun x => decide (x ∈ F)) && barW rs names z (numL names (((subN names t).map PyData.str).map strD)))) = true
  rw [es, num_sub kl.nd ht, mt]
  have a1 : ((subN names t).map PyData.str).all (isNm names) = true := by
    rw [List.all_map, List.all_eq_true]
    intro x mx
    exact decide_eq_true (sl.subset mx)
  have a2 : subN names t = ascL (subN names t) := IsAsc.uniq (ss := subN names t) ⟨sl.nodup kl.nd, fun _ => Iff.rfl, kl.pw.sublist sl⟩ (ascL_is _)
  unfold asideB at as
  rw [a1, as, decide_eq_true a2]
  rfl
/-! ### the law's judge -/
section
variable {K : PySem.W.Frag} {σ : L2.St} {H : Hp}
/-- a comprehension over a tuple of data, told by whether any passes -/
theorem lcT_any {j iv : Nat} {tt : TT} {a : Addr} {xs : List V} {ds : List PyData} {p : PyData → Bool} {Q : VK} (hv : σ[j]? = some (some (.ref a))) (hs : SqT K H a xs) (ha : ThAll K H xs ds) (few : ds.length ≤ 5000)
    (wp : ∀ x : V, wipe ((wipe σ [iv]).set iv (some x)) [iv] = wipe σ [iv]) (at_ : ∀ x : V, ((wipe σ [iv]).set iv (some x))[iv]? = some (some x))
    (test : ∀ (x : V) (d : PyData) (H' : Hp) (R : Bool → Hp → Prop), d ∈ ds → Th K H' x d → Same H H' → (∀ H2, Same H' H2 → R (p d) H2) → tt ((wipe σ [iv]).set iv (some x)) H' R)
    (k : ∀ (D : Addr) (zs : List V) (H' : Hp), Same H H' → H' D = some (.lst zs) → zs.isEmpty = !ds.any p → Q (.ref D) H') :
    tLc (iTup K (tVar j)) (gName iv) tt (tVar iv) [iv] σ H Q := by
  have l := thAll_len ha
  refine ⟨_, hv, a, rfl, ⟨_, hs⟩, fun D nD => ?_⟩
  refine lc_tup (K := K) (a := a) (xs := xs) (fun i H' => Same H H' ∧ ∃ zs : List V, H' D = some (.lst zs) ∧ zs.length ≤ i ∧ zs.isEmpty = !(ds.take i).any p) ⟨same_upd nD, [], upd_same, Nat.le_refl _, rfl⟩ (fun i H' _ h => Same.seqT h.1 hs) ?_ ?_
  · rintro i x H1 hx ⟨s1, zs, hD, lz, ez⟩
    obtain ⟨d, hd, thx⟩ := th_at ha hx
    have il := (List.getElem?_eq_some_iff.mp hd).1
    have step : (ds.take (i + 1)).any p = ((ds.take i).any p || p d) := by
      rw [List.take_add_one, hd, List.any_append]
      show (_ || (p d || false)) = _
      rw [Bool.or_false]
    refine ⟨wp _, test x d H1 _ (List.mem_of_getElem? hd) (th_same s1 thx) s1 fun H2 s2 => ?_⟩
    have hD2 := s2 _ _ hD
    by_cases ps : p d = true
    · refine iteT' ps ⟨_, at_ _, _, hD2, by rw [sizeLine_eq]; omega, same_mut (s1.trans s2) nD, zs ++ [x], upd_same, by rw [List.length_append]; show _ + 1 ≤ i + 1; omega, ?_⟩
      rw [step, ps, Bool.or_true]
      cases zs <;> rfl
    · have pf := Bool.not_eq_true _ ▸ ps
      refine iteF' pf ⟨s1.trans s2, zs, hD2, by omega, ?_⟩
      rw [step, pf, Bool.or_false]
      exact ez
  · rintro H1 ⟨s1, zs, hD, lz, ez⟩
    rw [l, List.take_length] at ez
    exact k D zs H1 s1 hD ez
/-- a comprehension over a tuple of texts, as a filter -/
theorem lcT_filter {j iv : Nat} {tt : TT} {a : Addr} {ss : List Str} {p : Str → Bool} {Q : VK} (hv : σ[j]? = some (some (.ref a))) (hs : SqT K H a (ss.map V.str)) (few : ss.length ≤ 5000)
    (wp : ∀ x : V, wipe ((wipe σ [iv]).set iv (some x)) [iv] = wipe σ [iv]) (at_ : ∀ x : V, ((wipe σ [iv]).set iv (some x))[iv]? = some (some x))
    (test : ∀ (x : Str) (H' : Hp) (R : Bool → Hp → Prop), x ∈ ss → Same H H' → (∀ H2, Same H' H2 → R (p x) H2) → tt ((wipe σ [iv]).set iv (some (.str x))) H' R)
    (k : ∀ (D : Addr) (H' : Hp), Same H H' → H' D = some (.lst ((ss.filter p).map V.str)) → Q (.ref D) H') :
    tLc (iTup K (tVar j)) (gName iv) tt (tVar iv) [iv] σ H Q := by
  refine ⟨_, hv, a, rfl, ⟨_, hs⟩, fun D nD => ?_⟩
  refine lc_tup (K := K) (a := a) (xs := ss.map V.str) (fun i H' => Same H H' ∧ H' D = some (.lst (((ss.take i).filter p).map V.str))) ⟨same_upd nD, upd_same⟩ (fun i H' _ h => Same.seqT h.1 hs) ?_ ?_
  · rintro i x H1 hx ⟨s1, hD⟩
    obtain ⟨y, hy, rfl⟩ := Option.map_eq_some_iff.mp ((List.getElem?_map ..).symm.trans hx)
    have il := (List.getElem?_eq_some_iff.mp hy).1
    have step : (ss.take (i + 1)).filter p = (ss.take i).filter p ++ if p y = true then [y] else [] := by
      rw [List.take_add_one, hy, List.filter_append]
      congr 1
      show [y].filter p = _
      rw [List.filter_cons, List.filter_nil]
    refine ⟨wp _, test y H1 _ (List.mem_of_getElem? hy) s1 fun H2 s2 => ?_⟩
    have hD2 := s2 _ _ hD
    by_cases ps : p y = true
    · have z1 : ((ss.take i).filter p).length ≤ i := Nat.le_trans (List.length_filter_le ..) (List.length_take_le ..)
      refine iteT' ps ⟨_, at_ _, _, hD2, by rw [List.length_map, sizeLine_eq]; omega, same_mut (s1.trans s2) nD, ?_⟩
      rw [upd_same, step, if_pos ps, List.map_append]
      rfl
    · have pf := Bool.not_eq_true _ ▸ ps
      refine iteF' pf ⟨s1.trans s2, ?_⟩
      rw [step, if_neg ps, List.append_nil]
      exact hD2
  · rintro H1 ⟨s1, hD⟩
    rw [List.length_map, List.take_length] at hD
    exact k D H1 s1 hD
end
noncomputable def dueB (rs : List Rl) (names : List Str) (z : Str) (F : List Str) : PyData → Bool
  | .tuple es => es.all (fun e => dName e && isNm names e) && (decide (ascL (es.map strD) = es.map strD) && (!(es.map strD).any fun x => decide (x ∈ F)) && (way rs (names.filter fun x => decide (x ∉ es.map strD)) z []).isNone)
  | _ => false
theorem due_sh {rs : List Rl} {names F : List Str} {z : Str} (kl : KinL rs z names) (dn : ∀ y ∈ names, dName (.str y) = true) (d : PyData) : dueB rs names z F d = shB rs names z F d := by
  cases d with
  | tuple es =>
    have e1 : (fun e => dName e && isNm names e) = isNm names := funext fun e => by
      cases e with
      | str x =>
        show (dName (.str x) && decide (x ∈ names)) = decide (x ∈ names)
        by_cases m : x ∈ names
        · rw [dn x m, Bool.true_and]
        · rw [decide_eq_false m, Bool.and_false]
      | _ => exact Bool.and_false _
    show (es.all (fun e => dName e && isNm names e) && (decide (ascL (es.map strD) = es.map strD) && (!(es.map strD).any fun x => decide (x ∈ F)) && (way rs (names.filter fun x => decide (x ∉ es.map strD)) z []).isNone)) = (es.all (isNm names) && (decide (es.map strD = ascL (es.map strD)) && (!(es.map strD).any fun x => decide (x ∈ F)) && barW rs names z (numL names (es.map strD))))
    rw [e1]
    have e2 : decide (ascL (es.map strD) = es.map strD) = decide (es.map strD = ascL (es.map strD)) := decide_eq_decide.mpr eq_comm
    have e3 : (way rs (names.filter fun x => decide (x ∉ es.map strD)) z []).isNone = barW rs names z (numL names (es.map strD)) := by
      generalize es.map strD = ss
      show _ = !(way rs (subN names (2 ^ names.length - 1 - numL names ss)) z []).isSome
      rw [way_kin (F := names.filter fun x => decide (x ∉ ss)) (F' := subN names (2 ^ names.length - 1 - numL names ss)) fun y ks ch => ?_]
      · cases way rs (subN names (2 ^ names.length - 1 - numL names ss)) z [] <;> rfl
      · have my := (kl.mem y).mpr ⟨ks, ch⟩
        obtain ⟨i, hi⟩ := List.mem_iff_getElem?.mp my
        rw [mem_sub kl.nd hi, cmp_test (num_lt names ss), num_test hi, decide_eq_true (List.getElem?_eq_some_iff.mp hi).1, Bool.true_and, List.mem_filter]
        simp [my]
    rw [e2, e3]
  | _ => rfl
def spDue (K : PySem.W.Frag) : Sp := fun vs H Q _ => ∃ (q f r : Addr) (rs : List Rl) (z : Str) (names F : List Str) (Ok : Place → Prop) (v : V) (d : PyData), vs = [.ref q, .ref f, .str z, .ref r, v] ∧ SetsOk K H q rs z names Ok ∧ SqT K H f (F.map V.str) ∧ SqT K H r (names.map V.str) ∧ Th K H v d ∧ (∀ es, d = .tuple es → es.length ≤ 900 ∧ ∀ e ∈ es, e.bulk ≤ 100000 ∧ okS e = true) ∧
  ∀ H', Same H H' → Q (.bl (dueB rs names z F d)) H'
section
variable {P : Program} {w : World} {K : PySem.W.Frag} {mg : Str → Option Value} {base : Heap}
theorem sc_due : FnScope ["book", "files", "name", "row", "thing", "one"] ["book", "files", "name", "row", "thing"] (defScope s_due) := ⟨rfl, rfl, rfl, by decide +kernel, rfl, by decide +kernel, by decide +kernel⟩
set_option maxHeartbeats 0
theorem cal_due (D : Def1 K mg "_law_due" s_due) (T : Glc mg) (gl : mg "list" = none) (gtup : mg "tuple" = none) (CN : Cal P w K mg base 2 "_law_is_name" (spLName K)) (CO : Cal P w K mg base 1 "_law_ordered" (spLOrd K)) (CW : Cal P w K mg base 8 "_law_way" (spLWay K 7)) : Cal P w K mg base 9 "_law_due" (spDue K) := by
  refine mkCal D sc_due (fun _ _ _ _ _ _ us hl => match us, hl with | [_, _, _, _, _], _ => rfl) (fun vs H Q E h => ?_) (fun g cdv A outer s H vs Q E hr h => ?_)
  · obtain ⟨q, f, r, rs, z, names, F, Ok, v, d, rfl, _⟩ := h
    rfl
  · obtain ⟨q, f, r, rs, z, names, F, Ok, v, d, rfl, A0, hf, hrr, th, sm, k⟩ := h
    refine ⟨_, (pss_cons (ps_if (PW.pt (pw_or (pt_not (pt_val (pe_isi (T := "tuple") (pv 4) T.isinst T.tuple (by decide +kernel)))) (pw_or1 (pt_cmpR (op_neNil hr.units) (pe_lc (own := [("one", 5)]) (g := gName 5) (by rfl) sc_due.nd (pi_tup (pv 4)) (blkOk_by (own := [("one", 5)]) (N := ["book", "files", "name", "row", "thing", "one"]) (sc := defScope s_due) (by decide +kernel)) (fun _ _ _ _ _ => pg_name (i := 5) sc_due.nd rfl (Or.inl rfl)) (fun _ _ _ _ _ => pts_one (PW.pt (pw_or (pt_not (pt_val (pe_cal CN hr (by omega) (pa_cons (pv 5) pa_nil)))) (pw_or1 (pt_cmpR (show OpR _ (compareOp .NotIn) (rIn K true) from op_notIn_seq) (pv 5) (pv 3) (by rfl)))))) (fun _ _ _ _ _ => (pv 5))) (pe_lst pa_nil) (nomark _))))) (pss_one (ps_ret pe_bl)) pss_nil)
    (pss_cons (ps_if (PW.pt (pw_or (pt_cmpR (op_neD hr.units) (pe_cal CO hr (by omega) (pa_cons (pe_callTy call_list_of (by rfl) gl (by decide +kernel) (pa_cons (pv 4) pa_nil)) pa_nil)) (pv 4) (nomark _)) (pw_or1 (pt_cmpR (op_neNil hr.units) (pe_lc (own := [("one", 5)]) (g := gName 5) (by rfl) sc_due.nd (pi_tup (pv 4)) (blkOk_by (own := [("one", 5)]) (N := ["book", "files", "name", "row", "thing", "one"]) (sc := defScope s_due) (by decide +kernel)) (fun _ _ _ _ _ => pg_name (i := 5) sc_due.nd rfl (Or.inl rfl)) (fun _ _ _ _ _ => pts_one (pt_cmpR (show OpR _ (compareOp .In) (rIn K false) from op_in_seq) (pv 5) (pv 1) (by rfl))) (fun _ _ _ _ _ => (pv 5))) (pe_lst pa_nil) (nomark _))))) (pss_one (ps_ret pe_bl)) pss_nil)
    (pss_one (ps_ret (pe_cmpR op_isN (pe_cal CW hr (by omega) (pa_cons (pv 0) (pa_cons (pe_callTy (show CallR _ (.type "tuple") (rTupOf K) from call_tuple_of) (by rfl) gtup (by decide +kernel) (pa_cons (pe_lc (own := [("one", 5)]) (g := gName 5) (by rfl) sc_due.nd (pi_tup (pv 3)) (blkOk_by (own := [("one", 5)]) (N := ["book", "files", "name", "row", "thing", "one"]) (sc := defScope s_due) (by decide +kernel)) (fun _ _ _ _ _ => pg_name (i := 5) sc_due.nd rfl (Or.inl rfl)) (fun _ _ _ _ _ => pts_one (pt_cmpR (show OpR _ (compareOp .NotIn) (rIn K true) from op_notIn_seq) (pv 5) (pv 4) (by rfl))) (fun _ _ _ _ _ => (pv 5))) pa_nil)) (pa_cons (pv 2) (pa_cons (pe_tup pa_nil) pa_nil))))) pe_non (nomark _)))))), ?_⟩
    refine sq_if (go_if ?_)
    have no : dueB rs names z F d = false → ∀ H', Same H H' → Q (.bl false) H' := fun e H' s => by
      have z := k H' s
      rwa [e] at z
    refine ⟨_, rfl, v, _, _, _, _, rfl, .ty _, th_ty th, kit_tup _, _, rfl, ?_⟩
    cases et : isTup d with
    | false =>
      refine iteT' rfl (iteT' rfl (no ?_ H (Same.refl H)))
      cases d with
      | tuple _ => cases et
      | _ => rfl
    | true =>
    obtain ⟨a, vs', es, rfl, rfl, hs, hv⟩ := th_tupX th et
    have lv := thAll_len hv
    obtain ⟨l2, small⟩ := sm _ rfl
    refine iteF' rfl ?_
    refine go_tt ?_
    refine lcT_any (K := K) (iv := 5) (p := fun e => !(dName e && isNm names e)) rfl hs hv (by omega) (fun _ => rfl) (fun _ => rfl) (fun x e H' R me the s' kR => ?_) fun D1 zs H1 s1 hD1 ez => ?_
    · refine ⟨_, rfl, x, e, rfl, the, (small e me).1, (small e me).2, fun H2 s2 => ⟨_, rfl, ?_⟩⟩
      have kz := fun H3 s3 => kR H3 (s2.trans s3)
      cases en : dName e with
      | false =>
        refine iteT' rfl ?_
        have z := kz H2 (Same.refl H2)
        rw [en] at z
        exact z
      | true =>
        refine iteF' rfl ?_
        cases e with
        | str y =>
          cases the
          refine ⟨_, rfl, _, rfl, r, _, rfl, .inr (Same.seqT (s'.trans s2) hrr), rfl, flat_strs, _, rfl, ?_⟩
          have z := kz H2 (Same.refl H2)
          rw [en] at z
          show R (!inV (V.str y) _) H2
          rw [in_strs]
          exact z
        | _ => cases en
    refine lst_nil fun e1 ne1 => ?_
    have s2 := same_upd (o := .lst []) ne1
    refine ⟨D1, e1, zs, rfl, rfl, SqL.of (s2 _ _ hD1), SqL.of upd_same, _, rfl, ?_⟩
    have s12 := s1.trans s2
    generalize upd H1 e1 (.lst []) = H2 at s2 s12 ⊢
    have eany : (es.any fun e => !(dName e && isNm names e)) = !es.all fun e => dName e && isNm names e := by
      rw [← List.not_all_eq_any_not]
    rw [ez, eany, Bool.not_not]
    cases eall : es.all (fun e => dName e && isNm names e) with
    | false =>
      refine iteT' rfl (no ?_ H2 s12)
      show (es.all (fun e => dName e && isNm names e) && _) = false
      rw [eall, Bool.false_and]
    | true =>
    refine iteF' rfl ?_
    have eall2 : es.all (isNm names) = true := by
      rw [List.all_eq_true] at eall ⊢
      intro e me
      have z := eall e me
      rw [Bool.and_eq_true] at z
      exact z.2
    obtain ⟨ess, inn⟩ := nm_strs eall2
    obtain ⟨ss, hss⟩ : ∃ ss, ss = es.map strD := ⟨_, rfl⟩
    rw [← hss] at ess inn
    have noS : (decide (ascL ss = ss) && (!ss.any fun x => decide (x ∈ F)) && (way rs (names.filter fun x => decide (x ∉ ss)) z []).isNone) = false → ∀ H', Same H H' → Q (.bl false) H' := fun e H' s => no (by
      show (es.all (fun e => dName e && isNm names e) && (decide (ascL (es.map strD) = es.map strD) && (!(es.map strD).any fun x => decide (x ∈ F)) && (way rs (names.filter fun x => decide (x ∉ es.map strD)) z []).isNone)) = false
      rw [← hss, e, Bool.and_false]) H' s
    have yesS : ∀ b, (decide (ascL ss = ss) && (!ss.any fun x => decide (x ∈ F)) && (way rs (names.filter fun x => decide (x ∉ ss)) z []).isNone) = b → ∀ H', Same H H' → Q (.bl b) H' := fun b e H' s => by
      have y := k H' s
      have e2 : dueB rs names z F (.tuple es) = b := by
        show (es.all (fun e => dName e && isNm names e) && (decide (ascL (es.map strD) = es.map strD) && (!(es.map strD).any fun x => decide (x ∈ F)) && (way rs (names.filter fun x => decide (x ∉ es.map strD)) z []).isNone)) = b
        rw [← hss, e, eall, Bool.true_and]
      rwa [e2] at y
    have lss : ss.length ≤ 900 := by
      rw [hss, List.length_map]
      exact l2
    have okSS : ∀ x ∈ ss, PyData.strOk x = true := fun x m => A0.txt x (inn x m)
    rw [ess] at hv
    have evs := strs_inv hv
    subst evs
    refine nxt_go (sq_if (go_if ?_))
    refine ⟨_, rfl, a, _, rfl, .inr (Same.seqT s12 hs), fun l nl => ?_⟩
    have s3 := same_upd (o := .lst (ss.map V.str)) nl
    have hl : upd H2 l (.lst (ss.map V.str)) l = some (.lst (ss.map V.str)) := upd_same
    generalize upd H2 l (.lst (ss.map V.str)) = H3 at s3 hl
    refine ⟨l, ss, rfl, SqL.of hl, by omega, fun y m => Nat.le_trans (A0.short y (inn y m)) (by decide), fun ds p H4 s4 hp asd => ?_⟩
    have ed : ds = ascL ss := asd.uniq (ascL_is ss)
    subst ed
    have s14 := (s12.trans s3).trans s4
    have okA : ∀ x ∈ ascL ss, PyData.strOk x = true := fun x m => okSS x ((asd.mem x).mp m)
    have tA : Th K H4 (.ref p) (.tuple ((ascL ss).map PyData.str)) := .tup (SqT.of hp) (th_strs2 _)
    have tS : Th K H4 (.ref a) (.tuple (ss.map PyData.str)) := .tup (Same.seqT s14 hs) (th_strs2 _)
    refine ⟨_, rfl, _, _, th_dp tA (SeqAt.canLay_of_shaped (shaped_tstrs okA)), th_dp tS (SeqAt.canLay_of_shaped (shaped_tstrs okSS)), shaped_tstrs okA, shaped_tstrs okSS, _, rfl, ?_⟩
    have eqq : PyData.eqv (.tuple ((ascL ss).map PyData.str)) (.tuple (ss.map PyData.str)) = decide (ascL ss = ss) := by
      show PyData.eqvAll _ _ = _
      exact eqv_strs _ _
    by_cases same : ascL ss = ss
    · refine iteF' (by rw [eqq, decide_eq_true same]; rfl) ?_
      refine go_tt ?_
      refine lcT_any (K := K) (iv := 5) (p := fun e => decide (strD e ∈ F)) rfl (Same.seqT s14 hs) (th_strs2 ss) (by rw [List.length_map]; omega) (fun _ => rfl) (fun _ => rfl) (fun x e H' R me the s' kR => ?_) fun D2 zs2 H5 s5 hD2 ez2 => ?_
      · obtain ⟨y, my, rfl⟩ := List.mem_map.mp me
        cases the
        refine ⟨_, rfl, _, rfl, f, _, rfl, .inr (Same.seqT (s14.trans s') hf), rfl, flat_strs, _, rfl, ?_⟩
        show R (inV (V.str y) _) H'
        rw [in_strs]
        exact kR H' (Same.refl H')
      refine lst_nil fun e2 ne2 => ?_
      have s6 := same_upd (o := .lst []) ne2
      refine ⟨D2, e2, zs2, rfl, rfl, SqL.of (s6 _ _ hD2), SqL.of upd_same, _, rfl, ?_⟩
      have s16 := (s14.trans s5).trans s6
      generalize upd H5 e2 (.lst []) = H6 at s6 s16 ⊢
      have eany2 : ((ss.map PyData.str).any fun e => decide (strD e ∈ F)) = ss.any fun x => decide (x ∈ F) := by
        rw [List.any_map]
        rfl
      rw [ez2, eany2, Bool.not_not]
      cases nin : ss.any (fun x => decide (x ∈ F)) with
      | true =>
        refine iteT' rfl (noS ?_ H6 s16)
        rw [nin, Bool.not_true, Bool.and_false, Bool.false_and]
      | false =>
        refine iteF' rfl ?_
        refine nxt_go (go_ret ?_)
        refine ⟨_, rfl, ?_⟩
        refine go_cbc ?_
        refine lcT_filter (K := K) (iv := 5) (p := fun x => decide (x ∉ ss)) rfl (Same.seqT s16 hrr) (by have := A0.few; omega) (fun _ => rfl) (fun _ => rfl) (fun x H' R mx s' kR => ?_) fun D3 H7 s7 hD3 => ?_
        · refine ⟨_, rfl, _, rfl, a, _, rfl, .inr (Same.seqT (s16.trans s') hs), rfl, flat_strs, _, rfl, ?_⟩
          have z := kR H' (Same.refl H')
          show R (!inV (V.str x) _) H'
          rw [in_strs]
          have e : decide (x ∉ ss) = !decide (x ∈ ss) := by simp
          rw [e] at z
          exact z
        refine ⟨D3, _, rfl, .inl ⟨SqL.of hD3, fun t nt => ?_⟩⟩
        have s8 := same_upd (o := .tup ((names.filter fun x => decide (x ∉ ss)).map V.str)) nt
        have ht : upd H7 t (.tup ((names.filter fun x => decide (x ∉ ss)).map V.str)) t = some (.tup ((names.filter fun x => decide (x ∉ ss)).map V.str)) := upd_same
        have s18 := (s16.trans s7).trans s8
        generalize upd H7 t (.tup ((names.filter fun x => decide (x ∉ ss)).map V.str)) = H8 at s8 ht s18 ⊢
        refine ⟨_, rfl, (by show 0 ≤ sizeLine; decide), fun u nu => ?_⟩
        have s9 := same_upd (o := .tup []) nu
        have many := (book_len A0.ok.bk).1
        refine ⟨q, t, u, rs, names.filter fun x => decide (x ∉ ss), z, [], Ok, rfl, (A0.same (s18.trans s9)).bk, SqT.of (s9 _ _ ht), A0.ok, upd_same, by rw [srt_nil]; exact A0.st, by show rs.length + 1 ≤ 0 + 7; omega, fun v H9 s10 rw9 => ⟨rfl, ?_⟩⟩
        have e := rw_non A0.ok A0.st rw9
        rw [e]
        exact yesS _ (by rw [decide_eq_true same, nin, Bool.not_false, Bool.true_and, Bool.true_and]) H9 ((s18.trans s9).trans s10)
    · refine iteT' (by rw [eqq, decide_eq_false same]; rfl) (iteT' rfl (noS ?_ H4 s14))
      rw [decide_eq_false same, Bool.false_and, Bool.false_and]
end
end Lk

/-! K31W -/
set_option Elab.async false
set_option linter.all false
set_option maxRecDepth 100000
set_option maxHeartbeats 4000000
namespace Lk
open PySem PySem.Spec PyProof.Rows L2
theorem bulkAll_app : ∀ xs ys : List PyData, PyData.bulkAll (xs ++ ys) = PyData.bulkAll xs + PyData.bulkAll ys
  | [], ys => by
    rw [List.nil_append]
    show _ = 0 + _
    omega
  | x :: xs, ys => by
    rw [List.cons_append, PyData.bulkAll, PyData.bulkAll, bulkAll_app xs ys]
    omega
theorem sh_all {ds : List PyData} : PyData.showableAll ds = true ↔ ∀ d ∈ ds, d.showable = true := by
  induction ds with
  | nil => exact ⟨(fun _ _ m => nomatch m), fun _ => rfl⟩
  | cons x xs ih =>
    rw [PyData.showableAll, Bool.and_eq_true, ih]
    exact ⟨fun h e m => (List.mem_cons.mp m).elim (fun z => z ▸ h.1) (h.2 e), fun h => ⟨h x List.mem_cons_self, fun e m => h e (List.mem_cons_of_mem _ m)⟩⟩
theorem lv_all {ds : List PyData} : PyData.leavesShortAll 13 ds = true ↔ ∀ d ∈ ds, d.leavesShort 13 = true := by
  induction ds with
  | nil => exact ⟨(fun _ _ m => nomatch m), fun _ => rfl⟩
  | cons x xs ih =>
    rw [PyData.leavesShortAll, Bool.and_eq_true, ih]
    exact ⟨fun h e m => (List.mem_cons.mp m).elim (fun z => z ▸ h.1) (h.2 e), fun h => ⟨h x List.mem_cons_self, fun e m => h e (List.mem_cons_of_mem _ m)⟩⟩
theorem nl_all {ds : List PyData} : noLstAll ds = true ↔ ∀ d ∈ ds, noLst d = true := by
  induction ds with
  | nil => exact ⟨(fun _ _ m => nomatch m), fun _ => rfl⟩
  | cons x xs ih =>
    rw [noLstAll, Bool.and_eq_true, ih]
    exact ⟨fun h e m => (List.mem_cons.mp m).elim (fun z => z ▸ h.1) (h.2 e), fun h => ⟨h x List.mem_cons_self, fun e m => h e (List.mem_cons_of_mem _ m)⟩⟩
theorem np_all {ds : List PyData} : noPotAll ds = true ↔ ∀ d ∈ ds, noPot d = true := by
  induction ds with
  | nil => exact ⟨(fun _ _ m => nomatch m), fun _ => rfl⟩
  | cons x xs ih =>
    rw [noPotAll, Bool.and_eq_true, ih]
    exact ⟨fun h e m => (List.mem_cons.mp m).elim (fun z => z ▸ h.1) (h.2 e), fun h => ⟨h x List.mem_cons_self, fun e m => h e (List.mem_cons_of_mem _ m)⟩⟩
theorem hd_all {ds : List PyData} : PyData.hasDictAll ds = false ↔ ∀ d ∈ ds, d.hasDict = false := by
  induction ds with
  | nil => exact ⟨(fun _ _ m => nomatch m), fun _ => rfl⟩
  | cons x xs ih =>
    rw [PyData.hasDictAll, Bool.or_eq_false_iff, ih]
    exact ⟨fun h e m => (List.mem_cons.mp m).elim (fun z => z ▸ h.1) (h.2 e), fun h => ⟨h x List.mem_cons_self, fun e m => h e (List.mem_cons_of_mem _ m)⟩⟩
mutual
theorem hasDict_lay : ∀ d : PyData, d.canLay0 = true → d.hasDict = false
  | .none, _ => rfl
  | .bool _, _ => rfl
  | .int _, _ => rfl
  | .str _, _ => rfl
  | .list xs, h => by
    unfold PyData.hasDict
    unfold PyData.canLay0 at h
    exact hasDictAll_lay xs h
  | .tuple xs, h => by
    unfold PyData.hasDict
    unfold PyData.canLay0 at h
    exact hasDictAll_lay xs h
  | .dict kvs, h => nomatch h
theorem hasDictAll_lay : ∀ xs : List PyData, PyData.canLayAll0 xs = true → PyData.hasDictAll xs = false
  | [], _ => rfl
  | x :: xs, h => by
    unfold PyData.canLayAll0 at h
    rw [Bool.and_eq_true] at h
    unfold PyData.hasDictAll
    rw [hasDict_lay x h.1, hasDictAll_lay xs h.2]
    rfl
end
/-- an object without dicts, of limited size -/
structure Ob (k b : Nat) (d : PyData) : Prop where
  sh : d.showable = true
  lv : d.leavesShort 13 = true
  dp : d.depth ≤ k
  bk : d.bulk ≤ b
  np : noPot d = true
  cl : d.canLay0 = true
theorem Ob.le {k b k' b' : Nat} {d : PyData} (h : Ob k b d) (hk : k ≤ k') (hb : b ≤ b') : Ob k' b' d := ⟨h.sh, h.lv, Nat.le_trans h.dp hk, Nat.le_trans h.bk hb, h.np, h.cl⟩
theorem Ob.wf {k b : Nat} {d : PyData} (h : Ob k b d) (hk : k ≤ 60) (hb : b ≤ 1000000) : Wf d := ⟨h.sh, h.lv, Nat.le_trans h.bk hb, Nat.le_trans h.dp hk, .inl (hasDict_lay d h.cl)⟩
section
variable {k i j l : Nat} {a b c : PyData}
theorem ob_non : Ob 0 0 .none := ⟨rfl, rfl, Nat.le_refl _, Nat.le_refl _, rfl, rfl⟩
theorem ob_bl {x : Bool} : Ob 0 0 (.bool x) := ⟨rfl, rfl, Nat.le_refl _, Nat.le_refl _, rfl, rfl⟩
theorem ob_str {x : Str} {b : Nat} (h : PyData.strOk x = true) (le : x.length ≤ b) : Ob 0 b (.str x) := ⟨(pl_str h).sh, (pl_str h).lv, Nat.le_refl _, le, rfl, h⟩
theorem ob_nat : ∀ n : Fin 100, (PyData.int (n.val : Int)).leavesShort 13 = true ∧ (PyData.int (n.val : Int)).showable = true := by decide +kernel
theorem ob_int {n : Nat} (h : n < 100) : Ob 0 0 (.int (n : Int)) := ⟨(ob_nat ⟨n, h⟩).2, (ob_nat ⟨n, h⟩).1, Nat.le_refl _, Nat.le_refl _, rfl, rfl⟩
theorem ob_neg : Ob 0 0 (.int (0 - 1)) := ⟨by decide +kernel, by decide +kernel, Nat.le_refl _, Nat.le_refl _, rfl, rfl⟩
theorem ob_tup {ds : List PyData} (h : ∀ d ∈ ds, Ob k i d) {b : Nat} (hb : PyData.bulkAll ds ≤ b) : Ob (k + 1) b (.tuple ds) := by
  refine ⟨?_, ?_, ?_, hb, ?_, ?_⟩
  · rw [PyData.showable]
    exact sh_all.mpr fun d m => (h d m).sh
  · rw [PyData.leavesShort]
    exact lv_all.mpr fun d m => (h d m).lv
  · rw [PyData.depth]
    have := depth_all (b := k) fun d m => (h d m).dp
    omega
  · unfold noPot
    exact np_all.mpr fun d m => (h d m).np
  · rw [PyData.canLay0]
    exact canLay_all.mpr fun d m => (h d m).cl
theorem ob_list {ds : List PyData} (h : ∀ d ∈ ds, Ob k i d) {b : Nat} (hb : PyData.bulkAll ds ≤ b) (no : potLike ds = false) : Ob (k + 1) b (.list ds) := by
  refine ⟨?_, ?_, ?_, hb, ?_, ?_⟩
  · rw [PyData.showable]
    exact sh_all.mpr fun d m => (h d m).sh
  · rw [PyData.leavesShort]
    exact lv_all.mpr fun d m => (h d m).lv
  · rw [PyData.depth]
    have := depth_all (b := k) fun d m => (h d m).dp
    omega
  · unfold noPot
    rw [no, np_all.mpr fun d m => (h d m).np]
    rfl
  · rw [PyData.canLay0]
    exact canLay_all.mpr fun d m => (h d m).cl
theorem ob_t1 (ha : Ob k i a) : Ob (k + 1) (i + 1) (.tuple [a]) := ob_tup (k := k) (i := i) (fun d m => by rw [List.mem_singleton.mp m]; exact ha) (by have := ha.bk; show a.bulk + 1 + 0 ≤ _; omega)
theorem two {P : PyData → Prop} (ha : P a) (hb : P b) : ∀ d ∈ [a, b], P d := fun d m => by
  rcases List.mem_cons.mp m with rfl | m
  · exact ha
  · rw [List.mem_singleton.mp m]
    exact hb
theorem ob_t2 (ha : Ob k i a) (hb : Ob k j b) : Ob (k + 1) (i + j + 2) (.tuple [a, b]) := ob_tup (k := k) (i := i + j) (two (ha.le (Nat.le_refl _) (by omega)) (hb.le (Nat.le_refl _) (by omega))) (by have := ha.bk; have := hb.bk; show a.bulk + 1 + (b.bulk + 1 + 0) ≤ _; omega)
theorem pot2 : potLike [a, b] = false := by
  unfold potLike
  split
  · rename_i e
    have := congrArg List.length e
    simp at this
  · rfl
theorem ob_l2 (ha : Ob k i a) (hb : Ob k j b) : Ob (k + 1) (i + j + 2) (.list [a, b]) := ob_list (k := k) (i := i + j) (two (ha.le (Nat.le_refl _) (by omega)) (hb.le (Nat.le_refl _) (by omega))) (by have := ha.bk; have := hb.bk; show a.bulk + 1 + (b.bulk + 1 + 0) ≤ _; omega) pot2
theorem ob_t3 (ha : Ob k i a) (hb : Ob k j b) (hc : Ob k l c) : Ob (k + 1) (i + j + l + 3) (.tuple [a, b, c]) := ob_tup (k := k) (i := i + j + l) (fun d m => by
  rcases List.mem_cons.mp m with rfl | m
  · exact ha.le (Nat.le_refl _) (by omega)
  · exact two (P := Ob k (i + j + l)) (hb.le (Nat.le_refl _) (by omega)) (hc.le (Nat.le_refl _) (by omega)) d m) (by have := ha.bk; have := hb.bk; have := hc.bk; show a.bulk + 1 + (b.bulk + 1 + (c.bulk + 1 + 0)) ≤ _; omega)
end
theorem no_pot {es : List PyData} (h : ∀ e ∈ es, ∀ i, e ≠ .int i) : potLike es = false := by
  unfold potLike
  split
  · rename_i i _ _
    exact absurd rfl (h (.int i) (by simp) i)
  · rfl
end Lk

/-! K31Y -/
set_option Elab.async false
set_option linter.all false
set_option maxRecDepth 100000
set_option maxHeartbeats 4000000
namespace Lk
open PySem PySem.Spec PyProof.Rows L2
/-! ### the law's things -/
structure Gd31 (d : PyData) : Prop where
  wf : Wf d
  np : noPot d = true
  sm : ∀ es, d = .tuple es → es.length ≤ 900 ∧ ∀ e ∈ es, eqO e = true ∧ e.bulk ≤ 100000 ∧ okS e = true
theorem ob_eqO {k b : Nat} {d : PyData} (h : Ob k b d) (hk : k ≤ 64) : eqO d = true := by
  unfold eqO SeqAt.shaped
  rw [h.cl]
  have := h.dp
  simp
  right
  omega
theorem gd_ob {k b : Nat} {d : PyData} (h : Ob k b d) (hk : k ≤ 60) (hb : b ≤ 1000000) (n : ∀ es, d ≠ .tuple es) : Gd31 d := ⟨h.wf hk hb, h.np, fun es e => absurd e (n es)⟩
theorem gd_tup {k b : Nat} {es : List PyData} (h : ∀ e ∈ es, Ob k b e ∧ okS e = true) (hk : k ≤ 50) (hb : b ≤ 1000) (l : es.length ≤ 900) : Gd31 (.tuple es) := by
  have bu : ∀ l : List PyData, (∀ e ∈ l, Ob k b e) → PyData.bulkAll l ≤ l.length * (b + 1) := fun l => by
    induction l with
    | nil => exact fun _ => (show (0 : Nat) ≤ _ from Nat.zero_le _)
    | cons e l ih =>
      intro h
      have z1 := (h e List.mem_cons_self).bk
      have z2 := ih fun x m => h x (List.mem_cons_of_mem _ m)
      show e.bulk + 1 + PyData.bulkAll l ≤ (l.length + 1) * (b + 1)
      rw [Nat.add_mul]
      omega
  have z := bu es fun e m => (h e m).1
  have z2 : es.length * (b + 1) ≤ 900 * 1001 := Nat.mul_le_mul l (by omega)
  have o : Ob (k + 1) 900900 (.tuple es) := ob_tup (fun e m => (h e m).1) (by omega)
  exact ⟨o.wf (by omega) (by omega), o.np, fun es' e => by
    cases e
    exact ⟨l, fun e m => ⟨ob_eqO (h e m).1 (by omega), Nat.le_trans (h e m).1.bk (by omega), (h e m).2⟩⟩⟩
theorem gd_strs {xs : List Str} (h : ∀ x ∈ xs, PyData.strOk x = true ∧ x.length ≤ 42) (l : xs.length ≤ 900) : Gd31 (.tuple (xs.map PyData.str)) := gd_tup (k := 0) (b := 42) (fun e m => by
  obtain ⟨x, mx, rfl⟩ := List.mem_map.mp m
  exact ⟨ob_str (h x mx).1 (h x mx).2, (h x mx).1⟩) (by decide) (by decide) (by rw [List.length_map]; exact l)
theorem gd_lstrs {xs : List Str} (h : ∀ x ∈ xs, PyData.strOk x = true ∧ x.length ≤ 42) (l : xs.length ≤ 900) : Gd31 (.list (xs.map PyData.str)) := by
  have bu : PyData.bulkAll (xs.map PyData.str) ≤ (xs.map PyData.str).length * (42 + 1) := bulkAll_le fun d m => by
    obtain ⟨y, my, rfl⟩ := List.mem_map.mp m
    exact (h y my).2
  rw [List.length_map] at bu
  refine gd_ob (k := 1) (b := 100000) (ob_list (k := 0) (i := 42) (fun d m => ?_) (by omega) (no_pot fun e me i ei => ?_)) (by decide) (by decide) (fun _ e => nomatch e)
  · obtain ⟨x, mx, rfl⟩ := List.mem_map.mp m
    exact ob_str (h x mx).1 (h x mx).2
  · obtain ⟨x, mx, rfl⟩ := List.mem_map.mp me
    cases ei
theorem cutL_map (ss : List Str) (lo hi : Option Int) : cutL (ss.map PyData.str) lo hi = (cutL ss lo hi).map PyData.str := by
  unfold cutL
  rw [List.length_map, List.map_take, List.map_drop]
def things1 (z : Str) (cs : List Str) : List PyData := [.none, .tuple [], .list [], .dict [], .str "", .str z, .tuple [.str z], .list [.str z], .tuple [.str z, .str z], .tuple (cs.map PyData.str), .tuple (cs.map PyData.str).reverse, .tuple [.str "Zz"], .tuple [.none]]
def things2 (z : Str) : List PyData := [.tuple [.list []], .tuple [.str z, .list []], .tuple [.dict [], .str z], .tuple [.tuple [.str z]], .tuple [.int 0, .str z], .tuple [.dict []], .tuple [.str "aA"]]
theorem one31 {P : PyData → Prop} {a : PyData} (h : P a) : ∀ d ∈ [a], P d := fun d m => by
  rw [List.mem_singleton.mp m]
  exact h
theorem gd_dict : Gd31 (.dict []) := ⟨⟨rfl, rfl, by decide, by decide, .inr rfl⟩, rfl, fun _ e => nomatch e⟩
theorem gd_d1 : Gd31 (.tuple [.dict []]) := ⟨⟨rfl, rfl, by decide, by decide, .inr rfl⟩, rfl, fun es e => by
  cases e
  exact ⟨by decide, one31 ⟨rfl, by decide, rfl⟩⟩⟩
theorem gd_d2 {z : Str} (ok : PyData.strOk z = true) (l : z.length ≤ 42) : Gd31 (.tuple [.dict [], .str z]) := by
  have o := ob_str (b := 42) ok l
  refine ⟨⟨?_, ?_, ?_, ?_, .inr rfl⟩, rfl, fun es e => ?_⟩
  · have := o.sh
    simp only [PyData.showable, PyData.showableAll] at this ⊢
    simp [PyData.showableKv, this]
  · have := o.lv
    simp only [PyData.leavesShort, PyData.leavesShortAll] at this ⊢
    simp [PyData.leavesShortKv, this]
  · show (PyData.dict []).bulk + 1 + (z.length + 1 + 0) ≤ 1000000
    have : (PyData.dict []).bulk = 0 := rfl
    omega
  · simp [PyData.depth, PyData.depthAll, PyData.depthKv]
  · cases e
    refine ⟨by show 2 ≤ 900; decide, two ⟨rfl, by decide, rfl⟩ ⟨ob_eqO o (by decide), Nat.le_trans o.bk (by decide), ok⟩⟩
theorem things1_gd {z : Str} {cs : List Str} (ok : PyData.strOk z = true) (l : z.length ≤ 42) (hc : ∀ x ∈ cs, PyData.strOk x = true ∧ x.length ≤ 42) (lc : cs.length ≤ 900) : ∀ d ∈ things1 z cs, Gd31 d := by
  have Z : Ob 0 42 (.str z) := ob_str ok l
  have zok : PyData.strOk "Zz" = true ∧ ("Zz" : Str).length ≤ 42 := by decide +kernel
  have eok : PyData.strOk "" = true ∧ ("" : Str).length ≤ 42 := by decide +kernel
  intro d m
  simp only [things1, List.mem_cons, List.mem_nil_iff, or_false] at m
  rcases m with rfl | rfl | rfl | rfl | rfl | rfl | rfl | rfl | rfl | rfl | rfl | rfl | rfl
  · exact gd_ob ob_non (by decide) (by decide) fun _ e => nomatch e
  · exact gd_tup (k := 0) (b := 0) (fun _ m => nomatch m) (by decide) (by decide) (by decide)
  · exact gd_ob (k := 1) (b := 0) (ob_list (k := 0) (i := 0) (ds := []) (fun _ m => nomatch m) (Nat.le_refl _) rfl) (by decide) (by decide) fun _ e => nomatch e
  · exact gd_dict
  · exact gd_ob (ob_str eok.1 eok.2) (by decide) (by decide) fun _ e => nomatch e
  · exact gd_ob Z (by decide) (by decide) fun _ e => nomatch e
  · exact gd_strs (xs := [z]) (fun x m => by rw [List.mem_singleton.mp m]; exact ⟨ok, l⟩) (by show 1 ≤ 900; decide)
  · exact gd_lstrs (xs := [z]) (fun x m => by rw [List.mem_singleton.mp m]; exact ⟨ok, l⟩) (by show 1 ≤ 900; decide)
  · refine gd_strs (xs := [z, z]) (fun x m => ?_) (by show 2 ≤ 900; decide)
    rcases List.mem_cons.mp m with rfl | m
    · exact ⟨ok, l⟩
    · rw [List.mem_singleton.mp m]
      exact ⟨ok, l⟩
  · exact gd_strs hc lc
  · rw [← List.map_reverse]
    exact gd_strs (fun x m => hc x (List.mem_reverse.mp m)) (by rw [List.length_reverse]; exact lc)
  · exact gd_strs (xs := ["Zz"]) (fun x m => by rw [List.mem_singleton.mp m]; exact zok) (by decide)
  · exact gd_tup (k := 0) (b := 0) (one31 ⟨ob_non, rfl⟩) (by decide) (by decide) (by decide)
theorem things2_gd {z : Str} (ok : PyData.strOk z = true) (l : z.length ≤ 42) : ∀ d ∈ things2 z, Gd31 d := by
  have Z : Ob 1 43 (.str z) := (ob_str ok l).le (by decide) (by decide)
  have aok : PyData.strOk "aA" = true ∧ ("aA" : Str).length ≤ 42 := by decide +kernel
  have L0 : Ob 1 43 (.list []) := (ob_list (k := 0) (i := 0) (ds := []) (fun _ m => nomatch m) (Nat.le_refl _) rfl : Ob 1 0 (.list [])).le (by decide) (by decide)
  intro d m
  simp only [things2, List.mem_cons, List.mem_nil_iff, or_false] at m
  rcases m with rfl | rfl | rfl | rfl | rfl | rfl | rfl
  · exact gd_tup (one31 ⟨L0, rfl⟩) (by decide) (by decide) (by decide)
  · exact gd_tup (two ⟨Z, ok⟩ ⟨L0, rfl⟩) (by decide) (by decide) (by show 2 ≤ 900; decide)
  · exact gd_d2 ok l
  · exact gd_tup (k := 1) (b := 43) (one31 ⟨(ob_t1 (k := 0) (ob_str ok l)), rfl⟩) (by decide) (by decide) (by show 1 ≤ 900; decide)
  · exact gd_tup (two ⟨(ob_int (n := 0) (by decide)).le (Nat.zero_le 1) (Nat.zero_le 43), rfl⟩ ⟨Z, ok⟩) (by decide) (by decide) (by show 2 ≤ 900; decide)
  · exact gd_d1
  · exact gd_strs (xs := ["aA"]) (fun x m => by rw [List.mem_singleton.mp m]; exact aok) (by decide)
theorem gd_asc {ss : List Str} {y : Str} (h : ∀ x ∈ ss, PyData.strOk x = true ∧ x.length ≤ 42) (l : ss.length ≤ 7) (hy : PyData.strOk y = true ∧ y.length ≤ 42) : Gd31 (.tuple ((ascL (ss ++ [y])).map PyData.str)) := by
  have a := ascL_is (ss ++ [y])
  refine gd_strs (fun x m => ?_) ?_
  · rcases List.mem_append.mp ((a.mem x).mp m) with m | m
    · exact h x m
    · rw [List.mem_singleton.mp m]
      exact hy
  · have z := nodup_len a.nd fun x m => (a.mem x).mp m
    rw [List.length_append] at z
    have : ([y] : List Str).length = 1 := rfl
    omega
/-- what is made of a lot -/
def lots6 (ss : List Str) : List PyData := [.tuple (ss.map PyData.str), .tuple (cutL (ss.map PyData.str) (some 1) none), .tuple (ss.map PyData.str).reverse, .list (ss.map PyData.str), .tuple (ss.map PyData.str ++ cutL (ss.map PyData.str) none (some 1)), .tuple ((ascL (ss ++ (["Zz"] : List Str))).map PyData.str)]
theorem lots6_gd {ss : List Str} (h : ∀ x ∈ ss, PyData.strOk x = true ∧ x.length ≤ 42) (l : ss.length ≤ 7) : ∀ d ∈ lots6 ss, Gd31 d := by
  have zok : PyData.strOk "Zz" = true ∧ ("Zz" : Str).length ≤ 42 := by decide +kernel
  intro d m
  simp only [lots6, List.mem_cons, List.mem_nil_iff, or_false] at m
  rcases m with rfl | rfl | rfl | rfl | rfl | rfl
  · exact gd_strs h (by omega)
  · rw [cutL_map]
    exact gd_strs (fun x m => h x (mem_cutL m)) (Nat.le_trans (len_cutL _ _ _) (by omega))
  · rw [← List.map_reverse]
    exact gd_strs (fun x m => h x (List.mem_reverse.mp m)) (by rw [List.length_reverse]; omega)
  · exact gd_lstrs h (by omega)
  · rw [cutL_map, ← List.map_append]
    refine gd_strs (fun x m => (List.mem_append.mp m).elim (h x) fun m => h x (mem_cutL m)) ?_
    rw [List.length_append]
    have := len_cutL ss none (some 1)
    omega
  · exact gd_asc h l zok
end Lk

/-! K31X -/
set_option Elab.async false
set_option linter.all false
set_option maxRecDepth 100000
set_option maxHeartbeats 4000000
namespace Lk
open PySem PySem.Spec PyProof.Rows L2
/-! ### comprehensions over rows of sets -/
section
variable {K : PySem.W.Frag} {σ : L2.St} {H : Hp}
theorem sets_len {S : List Nat} {cs : List Addr} {names : List Str} (th : ThAll K H (cs.map V.ref) (S.map (tupN names))) : cs.length = S.length := by
  have l := thAll_len th
  rwa [List.length_map, List.length_map] at l
theorem set_at {S : List Nat} {cs : List Addr} {names : List Str} (th : ThAll K H (cs.map V.ref) (S.map (tupN names))) {i : Nat} {x : V} (h : (cs.map V.ref)[i]? = some x) : ∃ b s, x = .ref b ∧ cs[i]? = some b ∧ S[i]? = some s ∧ SqT K H b ((subN names s).map V.str) ∧ Th K H (.ref b) (tupN names s) := by
  obtain ⟨b0, hb0, rfl⟩ := Option.map_eq_some_iff.mp ((List.getElem?_map ..).symm.trans h)
  obtain ⟨d, hd, thx⟩ := th_at th h
  obtain ⟨s, hs, rfl⟩ := Option.map_eq_some_iff.mp ((List.getElem?_map ..).symm.trans hd)
  obtain ⟨b, ys, es, eb, ed, hq, ha⟩ := th_tupX thx rfl
  cases eb
  have ed2 : (subN names s).map PyData.str = es := PyData.tuple.inj ed
  subst ed2
  have ey := strs_inv ha
  subst ey
  exact ⟨b0, s, rfl, hb0, hs, hq, thx⟩
end
theorem SetsOk.ext {K : PySem.W.Frag} {H H' : Hp} {p c q : Addr} {rs : List Rl} {z : Str} {names : List Str} {Ok : Place → Prop} (A : SetsOk K H q rs z names Ok) (hP : PotAt p c H) (e : Ext p c H H') : SetsOk K H' q rs z names Ok := by
  obtain ⟨xs, h1, h2⟩ := A.bk
  have t := th_ext hP e (show Th K H (.ref q) (.tuple (rs.map Rl.d)) from .tup h1 h2) book_flat
  obtain ⟨q2, xb, eb, hq, hx⟩ := th_of_tup t
  cases eb
  exact ⟨⟨xb, hq, hx⟩, A.nz, A.ok, A.st, A.inN, A.kin, A.few, A.short, A.txt⟩
/-! ### the law's function -/
section
variable {P : Program} {w : World} {K : PySem.W.Frag} {mg : Str → Option Value} {base : Heap}
theorem sc_law : FnScope ["script", "pot", "turn", "book", "name", "row", "files", "things", "lap", "lot", "thing", "before"] ["script"] (defScope s_law) := ⟨rfl, rfl, rfl, by decide +kernel, rfl, by decide +kernel, by decide +kernel⟩
structure Cs31 (P : Program) (w : World) (K : PySem.W.Frag) (mg : Str → Option Value) (base : Heap) : Prop where
  pot : Cal P w K mg base 1 "_law_pot_of" (spPotOf K)
  pick : Cal P w K mg base 3 "_law_pick" (spPick K)
  name : Cal P w K mg base 4 "_law_some_name" spName
  book : Cal P w K mg base 6 "_law_some_book" (spBook K)
  lkin : Cal P w K mg base 2 "_law_kin" (spLKin K)
  lord : Cal P w K mg base 1 "_law_ordered" (spLOrd K)
  files : Cal P w K mg base 3 "_law_some_files" (spFiles K)
  due : Cal P w K mg base 9 "_law_due" (spDue K)
  bars : Cal P w K mg base 20 "barriers" (spSets K barW)
  shows : Cal P w K mg base 20 "shows_barrier" (spShowsBar K)
theorem ne_tup31 {H : Hp} {p c t : Addr} {xs : List V} (hP : PotAt p c H) (h : H t = some (.tup xs)) : t ≠ p := by
  obtain ⟨_, ⟨i, a, b, hp⟩, _⟩ := hP
  rintro rfl
  rw [hp] at h
  cases h
theorem noPot_tups (Fs : List (Addr × List Str)) : noPotAll (Fs.map fun c => PyData.tuple (c.2.map PyData.str)) = true := np_all.mpr fun d m => by
  obtain ⟨c, _, rfl⟩ := List.mem_map.mp m
  exact noPot_tuple fun e m => by
    obtain ⟨x, _, rfl⟩ := List.mem_map.mp m
    rfl
theorem noLst_tupsF : ∀ Fs : List (Addr × List Str), noLstAll (Fs.map fun c => PyData.tuple (c.2.map PyData.str)) = true
  | [] => rfl
  | c :: Fs => by
    show (noLstAll (c.2.map PyData.str) && noLstAll (Fs.map fun c => PyData.tuple (c.2.map PyData.str))) = true
    rw [noLst_strs, noLst_tupsF Fs]
    rfl
theorem noPot_setsF (names : List Str) (S : List Nat) : noPotAll (S.map (tupN names)) = true := np_all.mpr fun d m => by
  obtain ⟨s, _, rfl⟩ := List.mem_map.mp m
  exact noPot_tuple fun e m => by
    obtain ⟨x, _, rfl⟩ := List.mem_map.mp m
    rfl
theorem ne_len31 {H : Hp} {p c t : Addr} {xs : List V} (hP : PotAt p c H) (h : H t = some (.lst xs)) (l : xs.length ≠ 4) : t ≠ p := by
  obtain ⟨_, ⟨i, a, b, hp⟩, _⟩ := hP
  rintro rfl
  rw [hp] at h
  cases h
  exact l rfl
theorem mk_ordL {K : PySem.W.Frag} {te : TE} {σ : L2.St} {H0 : Hp} {xs : List Str} (h : MkL K te σ H0 (xs.map PyData.str)) (lx : xs.length ≤ 4000) (each : ∀ y ∈ xs, y.length ≤ sizeLine) : Mk1 K (tCall (spLOrd K) [] E0 (tCons te tNil)) σ H0 (.tuple ((ascL xs).map PyData.str)) := fun H s Q q =>
  h H s _ fun p vs H1 s1 hp th => by
    have e := strs_inv th
    subst e
    refine ⟨p, xs, rfl, SqL.of hp, lx, each, fun cs p2 H2 s2 hp2 asc => ?_⟩
    have e2 : cs = ascL xs := asc.uniq (ascL_is xs)
    subst e2
    exact q _ H2 (s1.trans s2) (.tup (SqT.of hp2) (th_strs2 _))
theorem wf_bl31 (b : Bool) : Wf (.bool b) := by
  refine ⟨rfl, rfl, ?_, ?_, .inl rfl⟩
  · cases b <;> decide
  · exact Nat.zero_le _
structure Gl31 (mg : Str → Option Value) : Prop where
  list : mg "list" = none
  repr : mg "repr" = none
set_option maxHeartbeats 0
theorem fn_law {f : Addr} {fd : FuncData} (F : L2.Fun K "law" "law" s_law f fd) (C : Cs31 P w K mg base) (G : Glb mg) (R : Gl31 mg) : FnG P w K mg base CX0 21 f fd ["script"] (spLaw K) := by
  refine mkFnG0 F sc_law (fun vs H Q E h => ?_) (fun cdv A outer s H vs Q E hr hg h => ?_)
  · obtain ⟨a, ns, rfl, _⟩ := h
    rfl
  · obtain ⟨a, ns, rfl, hS, hlen, k⟩ := h
    refine ⟨_, (pss_cons (ps_set (i := 1) sc_law.nd rfl (.inr rfl) (pe_cal C.pot hr (by decide) (pa_cons (pv 0) pa_nil)))
    (pss_cons (ps_for PassesOwn.never rfl (pi_range1 (by rfl) G.range (pa_cons pe_int pa_nil)) (pg_name (i := 2) sc_law.nd rfl (.inl rfl))
    (pss_cons (ps_par (i := 3) (j := 4) (by rfl) sc_law.nd rfl rfl (by decide) rfl rfl (pa_cons (pe_cal C.book hr (by decide) (pa_cons (pv 1) (pa_cons pe_int (pa_cons pe_int pa_nil)))) (pa_cons (pe_cal C.name hr (by decide) (pa_cons (pv 1) pa_nil)) pa_nil)) (by rfl))
    (pss_cons (ps_set (i := 5) sc_law.nd rfl (.inr rfl) (pe_cal C.lkin hr (by decide) (pa_cons (pv 3) (pa_cons (pv 4) pa_nil))))
    (pss_one (ps_if (pt_cmpR op_lt (pe_callB call_len_seq (by rfl) G.len PySem.boot_len (pa_cons (pv 5) pa_nil)) pe_int (nomark _)) (pss_cons (ps_set (i := 6) sc_law.nd rfl (.inl rfl) (pe_cal C.files hr (by decide) (pa_cons (pv 1) (pa_cons (pe_cal C.files hr (by decide) (pa_cons (pv 1) (pa_cons (pv 5) pa_nil))) pa_nil))))
    (pss_cons (ps_set (i := 7) sc_law.nd rfl (.inl rfl) (pe_lst (pa_cons pe_non (pa_cons (pe_tup pa_nil) (pa_cons (pe_lst pa_nil) (pa_cons pe_dnewK (pa_cons pe_str (pa_cons (pv 4) (pa_cons (pe_tup (pa_cons (pv 4) pa_nil)) (pa_cons (pe_lst (pa_cons (pv 4) pa_nil)) (pa_cons (pe_tup (pa_cons (pv 4) (pa_cons (pv 4) pa_nil))) (pa_cons (pv 5) (pa_cons (pe_revT (pv 5)) (pa_cons (pe_tup (pa_cons pe_str pa_nil)) (pa_cons (pe_tup (pa_cons pe_non pa_nil)) pa_nil)))))))))))))))
    (pss_cons (ps_set (i := 7) sc_law.nd rfl (.inl rfl) (pe_op op_cat (pv 7) (pe_lst (pa_cons (pe_tup (pa_cons (pe_lst pa_nil) pa_nil)) (pa_cons (pe_tup (pa_cons (pv 4) (pa_cons (pe_lst pa_nil) pa_nil))) (pa_cons (pe_tup (pa_cons pe_dnewK (pa_cons (pv 4) pa_nil))) (pa_cons (pe_tup (pa_cons (pe_tup (pa_cons (pv 4) pa_nil)) pa_nil)) (pa_cons (pe_tup (pa_cons pe_int (pa_cons (pv 4) pa_nil))) (pa_cons (pe_tup (pa_cons pe_dnewK pa_nil)) (pa_cons (pe_tup (pa_cons pe_str pa_nil)) pa_nil))))))))))
    (pss_cons (ps_for PassesOwn.never rfl (pi_list (pe_op op_cat (pe_cal C.bars hr (by decide) (pa_cons (pv 3) (pa_cons (pv 4) pa_nil))) (pe_lc (own := [("lap", 8)]) (g := gName 8) (tt := tYes) (by rfl) sc_law.nd (pi_range1 (by rfl) G.range (pa_cons pe_int pa_nil)) (blkOk_by (own := [("lap", 8)]) (N := ["script", "pot", "turn", "book", "name", "row", "files", "things", "lap", "lot", "thing", "before"]) (sc := defScope s_law) (by decide +kernel)) (fun _ _ _ _ _ => pg_name (i := 8) sc_law.nd rfl (Or.inl rfl)) (fun _ _ _ _ _ => pts_nil) (fun _ _ _ _ _ => (pe_cal C.files hr (by decide) (pa_cons (pv 1) (pa_cons (pv 5) pa_nil))))))) (pg_name (i := 9) sc_law.nd rfl (.inl rfl))
    (pss_cons (ps_set (i := 7) sc_law.nd rfl (.inl rfl) (pe_op op_cat (pv 7) (pe_lst (pa_cons (pv 9) (pa_cons (pe_slice sl_tupA (pv 9) (po_some pe_int) po_none) (pa_cons (pe_revT (pv 9)) (pa_cons (pe_callTy call_list_of (by rfl) R.list (by decide +kernel) (pa_cons (pv 9) pa_nil)) (pa_cons (pe_op op_catA (pv 9) (pe_slice sl_tupA (pv 9) po_none (po_some pe_int))) (pa_cons (pe_cal C.lord hr (by decide) (pa_cons (pe_op op_cat (pe_callTy call_list_of (by rfl) R.list (by decide +kernel) (pa_cons (pv 9) pa_nil)) (pe_lst (pa_cons pe_str pa_nil))) pa_nil)) pa_nil)))))))))
    (pss_one (ps_expr (pe_bm PySem.F.plainAttrs_list PySem.F.slot_list_append PySem.F.type_list_append mt_append (pv 7) (pa_cons (pe_cal C.lord hr (by decide) (pa_cons (pe_op op_cat (pe_callTy call_list_of (by rfl) R.list (by decide +kernel) (pa_cons (pv 9) pa_nil)) (pe_lst (pa_cons (pe_cal C.pick hr (by decide) (pa_cons (pv 1) (pa_cons (pe_callTy call_list_of (by rfl) R.list (by decide +kernel) (pa_cons (pv 5) pa_nil)) pa_nil))) pa_nil))) pa_nil)) pa_nil))))))
    (pss_one (ps_for PassesOwn.never rfl (pi_list (pv 7)) (pg_name (i := 10) sc_law.nd rfl (.inl rfl))
    (pss_cons (ps_set (i := 11) sc_law.nd rfl (.inl rfl) (pe_callB (call_repr hg hr.units) (by rfl) R.repr bootS_repr (pa_cons (pv 10) pa_nil)))
    (pss_cons (ps_if (pt_cmpR op_ne (pe_callB (call_repr hg hr.units) (by rfl) R.repr bootS_repr (pa_cons (pe_cal C.shows hr (by decide) (pa_cons (pv 3) (pa_cons (pv 6) (pa_cons (pv 4) (pa_cons (pv 10) pa_nil))))) pa_nil)) (pe_callB (call_repr hg hr.units) (by rfl) R.repr bootS_repr (pa_cons (pe_cal C.due hr (by decide) (pa_cons (pv 3) (pa_cons (pv 6) (pa_cons (pv 4) (pa_cons (pv 5) (pa_cons (pv 10) pa_nil)))))) pa_nil)) (nomark _)) (pss_one (ps_ret pe_bl)) pss_nil)
    (pss_one (ps_if (pt_cmpR op_ne (pe_callB (call_repr hg hr.units) (by rfl) R.repr bootS_repr (pa_cons (pv 10) pa_nil)) (pv 11) (nomark _)) (pss_one (ps_ret pe_bl)) pss_nil)))))))))) pss_nil)))))
    (pss_one (ps_ret pe_bl)))), ?_⟩
    refine ⟨_, rfl, a, ns, rfl, hS, hlen, fun p c H1 s1 np hP => ?_⟩
    refine on_end (on_go (sq_for ?_))
    refine ⟨10, rfl, by decide, by decide, for_range (lo := 0) (n := 10) (fun i σ H' => ∃ v2 v3 v4 v5 v6 v7 v8 v9 v10 v11 : Option V, σ = [some (.ref a), some (.ref p), v2, v3, v4, v5, v6, v7, v8, v9, v10, v11] ∧ PotAt p c H')
      ⟨none, none, none, none, none, none, none, none, none, none, rfl, hP⟩ ?_ ?_⟩
    · rintro j0 σ H3 hi ⟨v2, v3, v4, v5, v6, v7, v8, v9, v10, v11, rfl, hP3⟩
      refine on_go ?_
      refine ⟨_, rfl, p, c, 3, 2, rfl, by decide, by decide, hP3, fun qb vb rs H4 hrs lrs e4 hqb tb => ⟨_, rfl, p, c, rfl, e4.pot, fun z hu tl H5 nm e5 => ?_⟩⟩
      refine ⟨_, _, rfl, ends_go (sq_asg ?_)⟩
      have okz0 : dName (.str z) = true := nm_isName nm
      have lz : z.length ≤ 6 := nm.len
      have okz := name_ok okz0
      have DB : DrB 2 rs := drb_of (n := 3) (.inl ⟨by decide, rfl⟩) hrs lrs
      have P6 := e5.pot
      have tB6 : Th K H5 (.ref qb) (.tuple (rs.map Rl.d)) := th_ext e4.pot e5 (.tup (SqT.of hqb) tb) book_flat
      generalize H5 = H6 at P6 tB6 ⊢
      obtain ⟨qb', xb, eqb, hq6, hx6⟩ := th_of_tup tB6
      cases eqb
      refine ⟨_, rfl, _, rfl, qb, xb, rs, z, 2, rfl, hq6, hx6, DB.bk, DB.len, by decide, DB.wg, fun ks y ch => ?_, fun cs fs ar H7 s7 hr7 asc mem => ?_⟩
      · obtain ⟨g1, g2⟩ := DB.chain okz ch
        exact ⟨g1, by omega⟩
      have memC : ∀ y, y ∈ cs ↔ ∃ ks, Chain rs z ks y := fun y => (asc.mem y).trans (mem y)
      have okC : ∀ y ∈ cs, dName (.str y) = true ∧ PyData.strOk y = true ∧ y.length ≤ 42 := fun y my => by
        obtain ⟨ks, ch⟩ := (memC y).mp my
        obtain ⟨g1, g2⟩ := DB.chain okz ch
        exact ⟨chain_name DB.bk okz0 ch, g1, by omega⟩
      have kl : KinL rs z cs := ⟨asc.nd, memC, asc.pw⟩
      have P7 := P6.same s7
      refine on_go (go_if ?_)
      refine ⟨_, rfl, ar, _, rfl, .inr (SqT.of hr7), _, _, rfl, rfl, _, rfl, ?_⟩
      rw [List.length_map]
      by_cases l8 : cs.length < 8
      · refine iteT' (decide_eq_true (by omega)) ?_
        have O : OkR rs (OkW rs [z]) := okw DB (fun x mx => by rw [List.mem_singleton.mp mx]; exact ⟨okz, by omega⟩) (by show 1 ≤ 100; decide)
        have stW : OkW rs [z] (z, []) := okw_start (List.mem_singleton.mpr rfl)
        have inN : ∀ q, OkW rs [z] q → q.1 ∈ cs := fun q ⟨x, mx, ks, ch, _⟩ => by
          rw [List.mem_singleton.mp mx] at ch
          exact (memC _).mpr ⟨ks, ch⟩
        have A7 : SetsOk K H7 qb rs z cs (OkW rs [z]) := ⟨⟨xb, Same.seqT s7 hq6, thAll_same s7 hx6⟩, okz0, O, stW, inN, kl, by omega, fun y my => Nat.le_trans (okC y my).2.2 (by decide), fun y my => (okC y my).2.1⟩
        have okC2 : ∀ y ∈ cs, dName (.str y) = true ∧ y.length ≤ 1000 := fun y my => ⟨(okC y my).1, Nat.le_trans (okC y my).2.2 (by decide)⟩
        have arp : ar ≠ p := ne_tup31 P7 hr7
        -- files
        refine sq_asg ?_
        refine ⟨_, rfl, _, rfl, _, rfl, p, c, ar, cs, rfl, P7, SqT.of hr7, arp, by omega, okC2, fun ft0 Fs0 H8 e8 hft0 fl0 sub0 => ?_⟩
        have P8 := e8.pot
        refine ⟨p, c, ft0, Fs0, rfl, P8, SqT.of hft0, ne_tup31 P8 hft0, Nat.le_trans fl0.few (by decide), fun y my => okC2 y (sub0 y my), fun ft Fs H9 e9 hft fl _ => ?_⟩
        have P9 := e9.pot
        have e79 := e8.trans e9
        have A9 := A7.ext P7 e79
        have hr9 := e79.get hr7 arp
        -- things
        refine on_go (sq_asg ?_)
        have mz : ∀ {σ : L2.St} {H : Hp} {i : Nat}, σ[i]? = some (some (.str z)) → Mk1 K (tVar i) σ H (.str z) := fun h => mk_var h (.str z)
        have tR9 : Th K H9 (.ref ar) (.tuple (cs.map PyData.str)) := .tup (SqT.of hr9) (th_strs2 _)
        refine mk_lstL (K := K) (ds := things1 z cs) (mk_cons mk_non (mk_cons (mk_tup mk_nil (by show 0 ≤ 1000; decide)) (mk_cons (mk_lst mk_nil (by show 0 ≤ 1000; decide)) (mk_cons mk_dict0 (mk_cons mk_str (mk_cons (mz rfl) (mk_cons (mk_tup (mk_cons (mz rfl) mk_nil) (by show 1 ≤ 1000; decide)) (mk_cons (mk_lst (mk_cons (mz rfl) mk_nil) (by show 1 ≤ 1000; decide)) (mk_cons (mk_tup (mk_cons (mz rfl) (mk_cons (mz rfl) mk_nil)) (by show 2 ≤ 1000; decide))
          (mk_cons (mk_var rfl tR9) (mk_cons (mk_revT (mk_var rfl tR9)) (mk_cons (mk_tup (mk_cons mk_str mk_nil) (by show 1 ≤ 1000; decide)) (mk_cons (mk_tup (mk_cons mk_non mk_nil) (by show 1 ≤ 1000; decide)) mk_nil))))))))))))) (by show 13 ≤ 1000; decide) H9 (Same.refl H9) _ fun la xa H10 s10 hla tla => ?_
        refine on_go (sq_asg ?_)
        refine mk_cat (K := K) (ds := things1 z cs) (es := things2 z) (mk_varL rfl hla tla) (mk_lstL (mk_cons (mk_tup (mk_cons (mk_lst mk_nil (by show 0 ≤ 1000; decide)) mk_nil) (by show 1 ≤ 1000; decide)) (mk_cons (mk_tup (mk_cons (mz rfl) (mk_cons (mk_lst mk_nil (by show 0 ≤ 1000; decide)) mk_nil)) (by show 2 ≤ 1000; decide)) (mk_cons (mk_tup (mk_cons mk_dict0 (mk_cons (mz rfl) mk_nil)) (by show 2 ≤ 1000; decide))
          (mk_cons (mk_tup (mk_cons (mk_tup (mk_cons (mz rfl) mk_nil) (by show 1 ≤ 1000; decide)) mk_nil) (by show 1 ≤ 1000; decide)) (mk_cons (mk_tup (mk_cons mk_int (mk_cons (mz rfl) mk_nil)) (by show 2 ≤ 1000; decide)) (mk_cons (mk_tup (mk_cons mk_dict0 mk_nil) (by show 1 ≤ 1000; decide)) (mk_cons (mk_tup (mk_cons mk_str mk_nil) (by show 1 ≤ 1000; decide)) mk_nil))))))) (by show 7 ≤ 1000; decide)) (by show 13 + 7 ≤ 1000; decide) H10 (Same.refl H10) _ fun lb xs0 H11 s11 hlb tlb => ?_
        have s911 := s10.trans s11
        have A11 := A9.same s911
        have P11 := P9.same s911
        have hr11 := s911 _ _ hr9
        have hft11 := s911 _ _ hft
        refine on_go (sq_for ?_)
        refine ⟨_, rfl, _, rfl, qb, rs, z, cs, OkW rs [z], rfl, A11, fun S bl H12 s12 nbl T12 => ?_⟩
        obtain ⟨bs, hbl, thS⟩ := T12.at_
        have P12 := P11.same s12
        have blp : bl ≠ p := P11.nep nbl
        have lbs := sets_len thS
        have lS : S.length ≤ 128 := by
          rw [T12.pm.length_eq]
          refine Nat.le_trans (List.length_filter_le ..) ?_
          rw [List.length_range]
          exact Nat.pow_le_pow_right (by decide) (show cs.length ≤ 7 by omega) (n := 2)
        have hr12 := s12 _ _ hr11
        have subC : ∀ s x, x ∈ subN cs s → x ∈ cs := fun s x m => by
          obtain ⟨i, hi, _⟩ := sub_out m
          exact List.mem_of_getElem? hi
        have lsubN : ∀ s, (subN cs s).length ≤ 7 := fun s => by
          rw [sub_plc, List.length_map]
          exact Nat.le_trans (Nat.le_trans (List.length_filter_le ..) (by rw [List.length_range]; exact Nat.le_refl _)) (by omega)
        refine ⟨4, rfl, by decide, by decide, fun D nD => ?_⟩
        have nDp := P12.nep nD
        refine lc_range (lo := 0) (n := 4) (fun i H' => Ext p c H12 H' ∧ ∃ Fs : List (Addr × List Str), Fs.length = i ∧ H' D = some (.lst (Fs.map fun c => V.ref c.1)) ∧ ThAll K H' (Fs.map fun c => V.ref c.1) (Fs.map fun c => PyData.tuple (c.2.map PyData.str)) ∧ ∀ c ∈ Fs, c.2.length ≤ 7 ∧ ∀ x ∈ c.2, x ∈ cs) ⟨Ext.mut P12 P12.ref nD, [], rfl, upd_same, .nil, fun _ m => nomatch m⟩ ?_ ?_
        · rintro i G1 hi ⟨x1, Fs', lF, hD, thF, okF⟩
          have PG := x1.pot
          have hrG := x1.get hr12 arp
          refine ⟨rfl, ?_⟩
          refine ⟨_, rfl, _, rfl, p, c, ar, cs, rfl, PG, SqT.of hrG, arp, by omega, okC2, fun tF Fn G2 x2 hF flF subF => ?_⟩
          have hD2 := x2.get hD nDp
          have lFn : Fn.length ≤ 7 := by
            have z := nodup_len flF.nd subF
            omega
          have thF2 := thAll_ext PG x2 thF (noPot_tups _)
          have thN : Th K G2 (.ref tF) (.tuple (Fn.map PyData.str)) := .tup (SqT.of hF) (th_strs2 _)
          refine ⟨_, hD2, by rw [List.length_map, sizeLine_eq]; omega, Ext.mut P12 (x1.trans x2) nD, Fs' ++ [(tF, Fn)], by rw [List.length_append, lF]; rfl, by rw [upd_same, List.map_append]; rfl, ?_, fun c' m => ?_⟩
          · rw [List.map_append, List.map_append]
            exact thAll_app (thAll_mutL hD2 thF2 (noLst_tupsF _)) (.cons (th_mutL hD2 thN (noLst_strs _)) .nil)
          · rcases List.mem_append.mp m with m | m
            · exact okF c' m
            · rw [List.mem_singleton.mp m]
              exact ⟨lFn, subF⟩
        rintro H13 ⟨x13, Fs', lF, hD, thF, okF⟩
        have hbl13 := x13.get hbl blp
        have thS13 := thAll_ext P12 x13 thS (noPot_setsF _ _)
        refine ⟨bl, D, _, _, rfl, rfl, hbl13, hD, by rw [List.length_map, List.length_map, lbs, lF, sizeLine_eq]; omega, fun l3 nl3 => ?_⟩
        have y3 := same_upd (o := .lst (bs.map V.ref ++ Fs'.map fun c => V.ref c.1)) nl3
        have hl3 : upd H13 l3 (.lst (bs.map V.ref ++ Fs'.map fun c => V.ref c.1)) l3 = some (.lst (bs.map V.ref ++ Fs'.map fun c => V.ref c.1)) := upd_same
        have l3p : l3 ≠ p := x13.pot.nep nl3
        obtain ⟨Ls, hLs⟩ : ∃ Ls, Ls = S.map (subN cs) ++ Fs'.map (·.2) := ⟨_, rfl⟩
        have thL : ThAll K (upd H13 l3 (.lst (bs.map V.ref ++ Fs'.map fun c => V.ref c.1))) (bs.map V.ref ++ Fs'.map fun c => V.ref c.1) (Ls.map fun ss => PyData.tuple (ss.map PyData.str)) := by
          rw [hLs, List.map_append, List.map_map, List.map_map]
          exact thAll_same y3 (thAll_app thS13 thF)
        have okL : ∀ ss ∈ Ls, ss.length ≤ 7 ∧ ∀ x ∈ ss, x ∈ cs := fun ss m => by
          rw [hLs] at m
          rcases List.mem_append.mp m with m | m
          · obtain ⟨s, _, rfl⟩ := List.mem_map.mp m
            exact ⟨lsubN s, subC s⟩
          · obtain ⟨c', mc, rfl⟩ := List.mem_map.mp m
            exact okF c' mc
        have lLs : Ls.length ≤ 132 := by
          rw [hLs, List.length_append, List.length_map, List.length_map]
          omega
        have lvs := thAll_len thL
        rw [List.length_map] at lvs
        have x1213 := x13.same y3
        generalize upd H13 l3 (.lst (bs.map V.ref ++ Fs'.map fun c => V.ref c.1)) = H14 at y3 hl3 thL x1213 ⊢
        generalize bs.map V.ref ++ Fs'.map (fun c => V.ref c.1) = lv at hl3 thL lvs ⊢
        have x1114 := Ext.pre s12 x1213
        have P14 := x1114.pot
        have lxs0 := thAll_len tlb
        have lbp : lb ≠ p := ne_len31 P11 hlb (by rw [lxs0]; show 20 ≠ 4; decide)
        have hlb14 := x1114.get hlb lbp
        have gds : ∀ d ∈ things1 z cs ++ things2 z, Gd31 d := fun d m => (List.mem_append.mp m).elim (things1_gd okz (by omega) (fun x mx => (okC x mx).2) (by omega) d) (things2_gd okz (by omega) d)
        have nps : ∀ {ds : List PyData}, (∀ d ∈ ds, Gd31 d) → noPotAll ds = true := fun h => np_all.mpr fun d m => (h d m).np
        have tlb14 := thAll_ext P11 x1114 tlb (nps gds)
        have nd7 : ∀ ss ∈ Ls, ∀ x ∈ ss, PyData.strOk x = true ∧ x.length ≤ 42 := fun ss m x mx => (okC x ((okL ss m).2 x mx)).2
        refine ⟨l3, rfl, ⟨_, SqL.of hl3⟩, ?_⟩
        refine for_list (K := K) (a := l3) (xs := lv) (fun i σ H' => ∃ (w8 w9 : Option V) (lt : Addr) (xs : List V) (ds : List PyData), σ = [some (.ref a), some (.ref p), some (.int (0 + (j0 : Int))), some (.ref qb), some (.str z), some (.ref ar), some (.ref ft), some (.ref lt), w8, w9, v10, v11] ∧ Ext p c H14 H' ∧ lt ≠ p ∧ H' lt = some (.lst xs) ∧ ThAll K H' xs ds ∧ (∀ d ∈ ds, Gd31 d) ∧ ds.length = 20 + 7 * i)
          ⟨_, _, lb, xs0, _, rfl, P14.ref, lbp, hlb14, tlb14, gds, rfl⟩ (fun i σ H' _ ⟨_, _, _, _, _, _, x, _⟩ => SqL.of (x.get hl3 l3p)) ?_ ?_
        · rintro i x σ G1 hx ⟨w8, w9, lt, xs, ds, rfl, x1, ltp, hlt, ta, gd, lds⟩
          obtain ⟨d, hd, thx⟩ := th_at thL hx
          obtain ⟨ss, hss, rfl⟩ := Option.map_eq_some_iff.mp ((List.getElem?_map ..).symm.trans hd)
          have mss := List.mem_of_getElem? hss
          have il := (List.getElem?_eq_some_iff.mp hss).1
          obtain ⟨l7, inC⟩ := okL ss mss
          have PG1 := x1.pot
          have thx1 := th_ext P14 x1 thx (gd_strs (nd7 ss mss) (by omega)).np
          obtain ⟨b, ys, es, rfl, ed, hsb, hab⟩ := th_tupX thx1 rfl
          have ed2 : ss.map PyData.str = es := PyData.tuple.inj ed
          subst ed2
          have ey := strs_inv hab
          subst ey
          have mv : ∀ {σ : L2.St} {H : Hp} {j : Nat}, σ[j]? = some (some (.ref b)) → Same G1 H → Mk1 K (tVar j) σ H (.tuple (ss.map PyData.str)) := fun h s => mk_var h (th_same s thx1)
          have lm : (ss.map PyData.str).length ≤ 7 := by rw [List.length_map]; exact l7
          have lc := len_cutL (ss.map PyData.str) none (some 1)
          have eZ : ss.map PyData.str ++ [.str "Zz"] = (ss ++ (["Zz"] : List Str)).map PyData.str := by rw [List.map_append]; rfl
          have mo : Mk1 K (tCall (spLOrd K) [] E0 (tCons (tOp rCat (tCB (fun xs H_1 Q => ∃ p ys, xs = [V.ref p] ∧ (SqL K H_1 p ys ∨ SqT K H_1 p ys) ∧ ∀ (l : Addr), H_1 l = none → Q (V.ref l) (upd H_1 l (HO.lst ys))) (tCons (tVar 9) tNil)) (tLst (tCons (tC (V.str "Zz")) tNil))) tNil)) [some (.ref a), some (.ref p), some (.int (0 + (j0 : Int))), some (.ref qb), some (.str z), some (.ref ar), some (.ref ft), some (.ref lt), w8, some (.ref b), v10, v11] G1 (.tuple ((ascL (ss ++ (["Zz"] : List Str))).map PyData.str)) := by
            refine mk_ordL ?_ (by rw [List.length_append]; show _ + 1 ≤ 4000; omega) (fun y my => ?_)
            · rw [← eZ]
              exact mk_cat (mk_listT (mv rfl (Same.refl G1))) (mk_lstL (mk_cons mk_str mk_nil) (by show 1 ≤ 1000; decide)) (by show _ + 1 ≤ 1000; omega)
            · rcases List.mem_append.mp my with m | m
              · exact Nat.le_trans (nd7 ss mss y m).2 (by decide)
              · rw [List.mem_singleton.mp m]
                decide +kernel
          refine sq_asg ?_
          refine mk_catN (K := K) (ds := ds) (es := lots6 ss) (mk_varL rfl hlt ta) (mk_lstL (mk_cons (mv rfl (Same.refl G1)) (mk_cons (mk_slT (mv rfl (Same.refl G1)) mkp_int mkp_none) (mk_cons (mk_revT (mv rfl (Same.refl G1))) (mk_cons (mk_listT (mv rfl (Same.refl G1))).mk (mk_cons (mk_catT (mv rfl (Same.refl G1)) (mk_slT (mv rfl (Same.refl G1)) mkp_none mkp_int) (by omega)) (mk_cons mo mk_nil)))))) (by show 6 ≤ 1000; decide)) (by rw [lds]; show _ + 6 ≤ 1000; omega) G1 (Same.refl G1) _ fun ln xn G2 s2 nln tn => ?_
          have PG2 := PG1.same s2
          have lnp : ln ≠ p := PG2.nep nln
          have lxn := thAll_len tn
          have gdn : ∀ d ∈ ds ++ lots6 ss, Gd31 d := fun d m => (List.mem_append.mp m).elim (gd d) (lots6_gd (nd7 ss mss) l7 d)
          have u3 := same_upd (o := .lst xn) nln
          have hln3 : upd G2 ln (.lst xn) ln = some (.lst xn) := upd_same
          have hsb3 := Same.seqT u3 (Same.seqT s2 hsb)
          have hr3 := u3 _ _ (s2 _ _ (x1.get (x1213.get hr12 arp) arp))
          generalize upd G2 ln (.lst xn) = G3 at u3 hln3 hsb3 hr3 ⊢
          have PG3 := PG2.same u3
          refine on_go ?_
          refine ⟨_, rfl, .inl ⟨rfl, _, SqL.of hln3⟩, ?_⟩
          refine ⟨_, rfl, b, _, rfl, .inr hsb3, fun l1 nl1 => ?_⟩
          have u4 := same_upd (o := .lst (ss.map V.str)) nl1
          have hl1 : upd G3 l1 (.lst (ss.map V.str)) l1 = some (.lst (ss.map V.str)) := upd_same
          have hln4 := u4 _ _ hln3
          have hr4 := u4 _ _ hr3
          have l1p := PG3.nep nl1
          generalize upd G3 l1 (.lst (ss.map V.str)) = G4 at u4 hl1 hln4 hr4 ⊢
          have PG4 := PG3.same u4
          refine ⟨_, rfl, _, rfl, ar, _, rfl, .inr (SqT.of hr4), fun l2 nl2 => ?_⟩
          have u5 := same_upd (o := .lst (cs.map V.str)) nl2
          have hl2 : upd G4 l2 (.lst (cs.map V.str)) l2 = some (.lst (cs.map V.str)) := upd_same
          have l2p := PG4.nep nl2
          have hl15 := u5 _ _ hl1
          have hln5 := u5 _ _ hln4
          generalize upd G4 l2 (.lst (cs.map V.str)) = G5 at u5 hl2 hl15 hln5 ⊢
          have PG5 := PG4.same u5
          have pos : 0 < cs.length := List.length_pos_of_mem ((memC z).mpr ⟨[], .start⟩)
          refine ⟨p, c, l2, _, rfl, PG5, SqL.of hl2, l2p, by rw [List.length_map]; exact pos, by rw [List.length_map]; omega, fun v G6 mv6 x6 => ?_⟩
          obtain ⟨y, my, rfl⟩ := List.mem_map.mp mv6
          have hl16 := x6.get hl15 l1p
          have hln6 := x6.get hln5 lnp
          have PG6 := x6.pot
          refine ⟨(by show 1 ≤ sizeLine; decide), fun l4 nl4 => ?_⟩
          have u7 := same_upd (o := .lst [.str y]) nl4
          have hl4 : upd G6 l4 (.lst [.str y]) l4 = some (.lst [.str y]) := upd_same
          have hl17 := u7 _ _ hl16
          have hln7 := u7 _ _ hln6
          generalize upd G6 l4 (.lst [.str y]) = G7 at u7 hl4 hl17 hln7 ⊢
          refine ⟨_, _, _, _, rfl, rfl, hl17, hl4, by rw [List.length_map, sizeLine_eq]; show _ + 1 ≤ _; omega, fun l5 nl5 => ?_⟩
          have u8 := same_upd (o := .lst (ss.map V.str ++ [.str y])) nl5
          have hl5 : upd G7 l5 (.lst (ss.map V.str ++ [.str y])) l5 = some (.lst ((ss ++ [y]).map V.str)) := by
            rw [upd_same, List.map_append]
            rfl
          have hln8 := u8 _ _ hln7
          generalize upd G7 l5 (.lst (ss.map V.str ++ [.str y])) = G8 at u8 hl5 hln8 ⊢
          refine ⟨l5, _, rfl, SqL.of hl5, by rw [List.length_append]; show _ + 1 ≤ 4000; omega, fun w mw => ?_, fun fa ta' G9 s9 hta asc9 => ?_⟩
          · rcases List.mem_append.mp mw with m | m
            · exact Nat.le_trans (nd7 ss mss w m).2 (by decide)
            · rw [List.mem_singleton.mp m]
              exact Nat.le_trans (okC y my).2.2 (by decide)
          have efa : fa = ascL (ss ++ [y]) := asc9.uniq (ascL_is _)
          subst efa
          have hln9 := s9 _ _ hln8
          have x29 : Ext p c G2 G9 := ((Ext.pre ((u3.trans u4).trans u5) x6).same (u7.trans u8)).same s9
          have lx26 : xn.length = 20 + 7 * i + 6 := by
            rw [lxn, List.length_append, lds]
            rfl
          refine ⟨ln, _, _, rfl, rfl, hln9, by rw [lx26, sizeLine_eq]; omega, ?_⟩
          have xm : Ext p c G2 (upd G9 ln (.lst (xn ++ [.ref ta']))) := Ext.mut PG2 x29 nln
          have tan : ta' ≠ ln := fun e => by
            rw [e, hln9] at hta
            cases hta
          refine ⟨_, _, ln, xn ++ [.ref ta'], ds ++ lots6 ss ++ [.tuple ((ascL (ss ++ [y])).map PyData.str)], rfl, (x1.same s2).trans xm, lnp, upd_same, thAll_app (thAll_ext PG2 xm tn (nps gdn)) (.cons (.tup (SqT.of ((upd_ne tan).trans hta)) (th_strs2 _)) .nil), fun d m => ?_, ?_⟩
          · rcases List.mem_append.mp m with m | m
            · exact gdn d m
            · rw [List.mem_singleton.mp m]
              exact gd_asc (nd7 ss mss) l7 (okC y my).2
          · rw [List.length_append, List.length_append, lds]
            show 20 + 7 * i + 6 + 1 = _
            omega
        · rintro σ G1 ⟨w8, w9, lt, xs, ds, rfl, x1, ltp, hlt, ta, gd, lds⟩
          have PG1 := x1.pot
          have x1101 := x1114.trans x1
          have AG := A11.ext P11 x1101
          have hftG := x1101.get hft11 (ne_tup31 P11 hft11)
          have hrG := x1101.get hr11 arp
          refine ends_go ?_
          refine ⟨_, rfl, lt, rfl, ⟨_, SqL.of hlt⟩, ?_⟩
          refine for_list (K := K) (a := lt) (xs := xs) (fun i σ H' => ∃ w10 w11 : Option V, σ = [some (.ref a), some (.ref p), some (.int (0 + (j0 : Int))), some (.ref qb), some (.str z), some (.ref ar), some (.ref ft), some (.ref lt), w8, w9, w10, w11] ∧ Same G1 H')
            ⟨_, _, rfl, Same.refl _⟩ (fun i σ H' _ ⟨_, _, _, s⟩ => s.seq (SqL.of hlt)) ?_ ?_
          · rintro j x σ G2 hx ⟨w10, w11, rfl, s2⟩
            obtain ⟨d, hd, thx⟩ := th_at ta hx
            obtain ⟨wf, _, sm⟩ := gd d (List.mem_of_getElem? hd)
            have th2 := th_same s2 thx
            refine sq_asg ?_
            refine ⟨_, rfl, x, d, rfl, th2, wf, ?_⟩
            refine on_go (sq_if (go_if ?_))
            refine ⟨_, rfl, _, rfl, _, rfl, _, rfl, qb, ft, rs, z, cs, Fs, OkW rs [z], x, d, rfl, AG.same s2, SqT.of (s2 _ _ hftG), fl, th2, fun es e => ⟨(sm es e).1, fun e' m => ((sm es e).2 e' m).1⟩, fun G3 s3 => ?_⟩
            refine ⟨_, _, rfl, .bl _, wf_bl31 _, ?_⟩
            have s23 := s2.trans s3
            refine ⟨_, rfl, _, rfl, _, rfl, _, rfl, _, rfl, qb, ft, ar, rs, z, cs, Fs, OkW rs [z], x, d, rfl, AG.same s23, SqT.of (s23 _ _ hftG), SqT.of (s23 _ _ hrG), th_same s3 th2, fun es e => ⟨(sm es e).1, fun e' m => ((sm es e).2 e' m).2⟩, fun G4 s4 => ?_⟩
            have eds := due_sh (F := Fs) kl (fun y my => (okC y my).1) d
            rw [eds]
            refine ⟨_, _, rfl, .bl _, wf_bl31 _, rfl, _, rfl, iteF' (by rw [decide_eq_true rfl]; rfl) ?_⟩
            refine nxt_go (go_if ?_)
            refine ⟨_, rfl, x, d, rfl, th_same (s3.trans s4) th2, wf, _, rfl, rfl, _, rfl, iteF' (by rw [decide_eq_true rfl]; rfl) ?_⟩
            exact ⟨_, _, rfl, s23.trans s4⟩
          · rintro σ G2 ⟨w10, w11, rfl, s2⟩
            exact ⟨_, _, _, _, _, _, _, _, _, _, rfl, PG1.same s2⟩
      · refine iteF' (decide_eq_false (by omega)) ?_
        exact ⟨_, _, _, _, _, _, _, _, _, _, rfl, P7⟩
    · rintro σ H3 ⟨v2, v3, v4, v5, v6, v7, v8, v9, v10, v11, rfl, hP3⟩
      exact ends_go (go_ret (k H3))
end
end Lk

/-! K31z -/
set_option Elab.async false
set_option linter.all false
set_option maxRecDepth 100000
set_option maxHeartbeats 4000000
namespace Lk
open PySem PySem.Spec PyProof.Rows L2
theorem all_mk {l : PySem.W.OpenLaw} {w : World} {K : PySem.W.Frag} {h : Heap} {mg : Str → Option Value} {fa : Addr} (X : K.In h) (G : h.Ns mainGlobals mg) (hfa : mg "law" = some (.ref fa))
    {f0 : Addr} {od0 an0 : Option Addr} {sl0 : Array (Option Value)} {oc0 kV0 dc0 pm0 cd0 ct0 : Value}
    (a0 : PySem.W.nsIn K mainGlobals "is_name" = some (some (.ref f0))) (l0 : K.lookup f0 = some ⟨oc0, od0, .func (PySem.W.fnOf "is_name" "is_name" (defArgs s_p_is_name) (defBody s_p_is_name) (defScope s_p_is_name) .none kV0 dc0 pm0 an0 cd0 ct0), sl0⟩) (c0 : PySem.W.codeIn K cd0 "is_name" = true) (k0 : PySem.W.keepIn K (.ref f0) = true)
    {f1 : Addr} {od1 an1 : Option Addr} {sl1 : Array (Option Value)} {oc1 kV1 dc1 pm1 cd1 ct1 : Value}
    (a1 : PySem.W.nsIn K mainGlobals "is_pattern" = some (some (.ref f1))) (l1 : K.lookup f1 = some ⟨oc1, od1, .func (PySem.W.fnOf "is_pattern" "is_pattern" (defArgs s_p_is_pattern) (defBody s_p_is_pattern) (defScope s_p_is_pattern) .none kV1 dc1 pm1 an1 cd1 ct1), sl1⟩) (c1 : PySem.W.codeIn K cd1 "is_pattern" = true) (k1 : PySem.W.keepIn K (.ref f1) = true)
    {f2 : Addr} {od2 an2 : Option Addr} {sl2 : Array (Option Value)} {oc2 kV2 dc2 pm2 cd2 ct2 : Value}
    (a2 : PySem.W.nsIn K mainGlobals "is_end" = some (some (.ref f2))) (l2 : K.lookup f2 = some ⟨oc2, od2, .func (PySem.W.fnOf "is_end" "is_end" (defArgs s_p_is_end) (defBody s_p_is_end) (defScope s_p_is_end) .none kV2 dc2 pm2 an2 cd2 ct2), sl2⟩) (c2 : PySem.W.codeIn K cd2 "is_end" = true) (k2 : PySem.W.keepIn K (.ref f2) = true)
    {f3 : Addr} {od3 an3 : Option Addr} {sl3 : Array (Option Value)} {oc3 kV3 dc3 pm3 cd3 ct3 : Value}
    (a3 : PySem.W.nsIn K mainGlobals "need_name" = some (some (.ref f3))) (l3 : K.lookup f3 = some ⟨oc3, od3, .func (PySem.W.fnOf "need_name" "need_name" (defArgs s_p_need_name) (defBody s_p_need_name) (defScope s_p_need_name) .none kV3 dc3 pm3 an3 cd3 ct3), sl3⟩) (c3 : PySem.W.codeIn K cd3 "need_name" = true) (k3 : PySem.W.keepIn K (.ref f3) = true)
    {f4 : Addr} {od4 an4 : Option Addr} {sl4 : Array (Option Value)} {oc4 kV4 dc4 pm4 cd4 ct4 : Value}
    (a4 : PySem.W.nsIn K mainGlobals "stem_within" = some (some (.ref f4))) (l4 : K.lookup f4 = some ⟨oc4, od4, .func (PySem.W.fnOf "stem_within" "stem_within" (defArgs s_p_stem_within) (defBody s_p_stem_within) (defScope s_p_stem_within) .none kV4 dc4 pm4 an4 cd4 ct4), sl4⟩) (c4 : PySem.W.codeIn K cd4 "stem_within" = true) (k4 : PySem.W.keepIn K (.ref f4) = true)
    {f5 : Addr} {od5 an5 : Option Addr} {sl5 : Array (Option Value)} {oc5 kV5 dc5 pm5 cd5 ct5 : Value}
    (a5 : PySem.W.nsIn K mainGlobals "filled" = some (some (.ref f5))) (l5 : K.lookup f5 = some ⟨oc5, od5, .func (PySem.W.fnOf "filled" "filled" (defArgs s_p_filled) (defBody s_p_filled) (defScope s_p_filled) .none kV5 dc5 pm5 an5 cd5 ct5), sl5⟩) (c5 : PySem.W.codeIn K cd5 "filled" = true) (k5 : PySem.W.keepIn K (.ref f5) = true)
    {f6 : Addr} {od6 an6 : Option Addr} {sl6 : Array (Option Value)} {oc6 kV6 dc6 pm6 cd6 ct6 : Value}
    (a6 : PySem.W.nsIn K mainGlobals "ascending" = some (some (.ref f6))) (l6 : K.lookup f6 = some ⟨oc6, od6, .func (PySem.W.fnOf "ascending" "ascending" (defArgs s_p_ascending) (defBody s_p_ascending) (defScope s_p_ascending) .none kV6 dc6 pm6 an6 cd6 ct6), sl6⟩) (c6 : PySem.W.codeIn K cd6 "ascending" = true) (k6 : PySem.W.keepIn K (.ref f6) = true)
    {f7 : Addr} {od7 an7 : Option Addr} {sl7 : Array (Option Value)} {oc7 kV7 dc7 pm7 cd7 ct7 : Value}
    (a7 : PySem.W.nsIn K mainGlobals "is_rule" = some (some (.ref f7))) (l7 : K.lookup f7 = some ⟨oc7, od7, .func (PySem.W.fnOf "is_rule" "is_rule" (defArgs s_p_is_rule) (defBody s_p_is_rule) (defScope s_p_is_rule) .none kV7 dc7 pm7 an7 cd7 ct7), sl7⟩) (c7 : PySem.W.codeIn K cd7 "is_rule" = true) (k7 : PySem.W.keepIn K (.ref f7) = true)
    {f8 : Addr} {od8 an8 : Option Addr} {sl8 : Array (Option Value)} {oc8 kV8 dc8 pm8 cd8 ct8 : Value}
    (a8 : PySem.W.nsIn K mainGlobals "is_label" = some (some (.ref f8))) (l8 : K.lookup f8 = some ⟨oc8, od8, .func (PySem.W.fnOf "is_label" "is_label" (defArgs s_p_is_label) (defBody s_p_is_label) (defScope s_p_is_label) .none kV8 dc8 pm8 an8 cd8 ct8), sl8⟩) (c8 : PySem.W.codeIn K cd8 "is_label" = true) (k8 : PySem.W.keepIn K (.ref f8) = true)
    {f9 : Addr} {od9 an9 : Option Addr} {sl9 : Array (Option Value)} {oc9 kV9 dc9 pm9 cd9 ct9 : Value}
    (a9 : PySem.W.nsIn K mainGlobals "are_sources" = some (some (.ref f9))) (l9 : K.lookup f9 = some ⟨oc9, od9, .func (PySem.W.fnOf "are_sources" "are_sources" (defArgs s_p_are_sources) (defBody s_p_are_sources) (defScope s_p_are_sources) .none kV9 dc9 pm9 an9 cd9 ct9), sl9⟩) (c9 : PySem.W.codeIn K cd9 "are_sources" = true) (k9 : PySem.W.keepIn K (.ref f9) = true)
    {f10 : Addr} {od10 an10 : Option Addr} {sl10 : Array (Option Value)} {oc10 kV10 dc10 pm10 cd10 ct10 : Value}
    (a10 : PySem.W.nsIn K mainGlobals "is_rule_source" = some (some (.ref f10))) (l10 : K.lookup f10 = some ⟨oc10, od10, .func (PySem.W.fnOf "is_rule_source" "is_rule_source" (defArgs s_p_is_rule_source) (defBody s_p_is_rule_source) (defScope s_p_is_rule_source) .none kV10 dc10 pm10 an10 cd10 ct10), sl10⟩) (c10 : PySem.W.codeIn K cd10 "is_rule_source" = true) (k10 : PySem.W.keepIn K (.ref f10) = true)
    {f11 : Addr} {od11 an11 : Option Addr} {sl11 : Array (Option Value)} {oc11 kV11 dc11 pm11 cd11 ct11 : Value}
    (a11 : PySem.W.nsIn K mainGlobals "is_book" = some (some (.ref f11))) (l11 : K.lookup f11 = some ⟨oc11, od11, .func (PySem.W.fnOf "is_book" "is_book" (defArgs s_p_is_book) (defBody s_p_is_book) (defScope s_p_is_book) .none kV11 dc11 pm11 an11 cd11 ct11), sl11⟩) (c11 : PySem.W.codeIn K cd11 "is_book" = true) (k11 : PySem.W.keepIn K (.ref f11) = true)
    {f12 : Addr} {od12 an12 : Option Addr} {sl12 : Array (Option Value)} {oc12 kV12 dc12 pm12 cd12 ct12 : Value}
    (a12 : PySem.W.nsIn K mainGlobals "are_files" = some (some (.ref f12))) (l12 : K.lookup f12 = some ⟨oc12, od12, .func (PySem.W.fnOf "are_files" "are_files" (defArgs s_p_are_files) (defBody s_p_are_files) (defScope s_p_are_files) .none kV12 dc12 pm12 an12 cd12 ct12), sl12⟩) (c12 : PySem.W.codeIn K cd12 "are_files" = true) (k12 : PySem.W.keepIn K (.ref f12) = true)
    {f13 : Addr} {od13 an13 : Option Addr} {sl13 : Array (Option Value)} {oc13 kV13 dc13 pm13 cd13 ct13 : Value}
    (a13 : PySem.W.nsIn K mainGlobals "gathered" = some (some (.ref f13))) (l13 : K.lookup f13 = some ⟨oc13, od13, .func (PySem.W.fnOf "gathered" "gathered" (defArgs s_p_gathered) (defBody s_p_gathered) (defScope s_p_gathered) .none kV13 dc13 pm13 an13 cd13 ct13), sl13⟩) (c13 : PySem.W.codeIn K cd13 "gathered" = true) (k13 : PySem.W.keepIn K (.ref f13) = true)
    {f14 : Addr} {od14 an14 : Option Addr} {sl14 : Array (Option Value)} {oc14 kV14 dc14 pm14 cd14 ct14 : Value}
    (a14 : PySem.W.nsIn K mainGlobals "sources_for_all" = some (some (.ref f14))) (l14 : K.lookup f14 = some ⟨oc14, od14, .func (PySem.W.fnOf "sources_for_all" "sources_for_all" (defArgs s_p_sources_for_all) (defBody s_p_sources_for_all) (defScope s_p_sources_for_all) .none kV14 dc14 pm14 an14 cd14 ct14), sl14⟩) (c14 : PySem.W.codeIn K cd14 "sources_for_all" = true) (k14 : PySem.W.keepIn K (.ref f14) = true)
    {f15 : Addr} {od15 an15 : Option Addr} {sl15 : Array (Option Value)} {oc15 kV15 dc15 pm15 cd15 ct15 : Value}
    (a15 : PySem.W.nsIn K mainGlobals "fitted" = some (some (.ref f15))) (l15 : K.lookup f15 = some ⟨oc15, od15, .func (PySem.W.fnOf "fitted" "fitted" (defArgs s_p_fitted) (defBody s_p_fitted) (defScope s_p_fitted) .none kV15 dc15 pm15 an15 cd15 ct15), sl15⟩) (c15 : PySem.W.codeIn K cd15 "fitted" = true) (k15 : PySem.W.keepIn K (.ref f15) = true)
    {f16 : Addr} {od16 an16 : Option Addr} {sl16 : Array (Option Value)} {oc16 kV16 dc16 pm16 cd16 ct16 : Value}
    (a16 : PySem.W.nsIn K mainGlobals "need_book" = some (some (.ref f16))) (l16 : K.lookup f16 = some ⟨oc16, od16, .func (PySem.W.fnOf "need_book" "need_book" (defArgs s_p_need_book) (defBody s_p_need_book) (defScope s_p_need_book) .none kV16 dc16 pm16 an16 cd16 ct16), sl16⟩) (c16 : PySem.W.codeIn K cd16 "need_book" = true) (k16 : PySem.W.keepIn K (.ref f16) = true)
    {f17 : Addr} {od17 an17 : Option Addr} {sl17 : Array (Option Value)} {oc17 kV17 dc17 pm17 cd17 ct17 : Value}
    (a17 : PySem.W.nsIn K mainGlobals "need_files" = some (some (.ref f17))) (l17 : K.lookup f17 = some ⟨oc17, od17, .func (PySem.W.fnOf "need_files" "need_files" (defArgs s_p_need_files) (defBody s_p_need_files) (defScope s_p_need_files) .none kV17 dc17 pm17 an17 cd17 ct17), sl17⟩) (c17 : PySem.W.codeIn K cd17 "need_files" = true) (k17 : PySem.W.keepIn K (.ref f17) = true)
    {f18 : Addr} {od18 an18 : Option Addr} {sl18 : Array (Option Value)} {oc18 kV18 dc18 pm18 cd18 ct18 : Value}
    (a18 : PySem.W.nsIn K mainGlobals "need_things" = some (some (.ref f18))) (l18 : K.lookup f18 = some ⟨oc18, od18, .func (PySem.W.fnOf "need_things" "need_things" (defArgs s_p_need_things) (defBody s_p_need_things) (defScope s_p_need_things) .none kV18 dc18 pm18 an18 cd18 ct18), sl18⟩) (c18 : PySem.W.codeIn K cd18 "need_things" = true) (k18 : PySem.W.keepIn K (.ref f18) = true)
    {f19 : Addr} {od19 an19 : Option Addr} {sl19 : Array (Option Value)} {oc19 kV19 dc19 pm19 cd19 ct19 : Value}
    (a19 : PySem.W.nsIn K mainGlobals "with_one_more" = some (some (.ref f19))) (l19 : K.lookup f19 = some ⟨oc19, od19, .func (PySem.W.fnOf "with_one_more" "with_one_more" (defArgs s_p_with_one_more) (defBody s_p_with_one_more) (defScope s_p_with_one_more) .none kV19 dc19 pm19 an19 cd19 ct19), sl19⟩) (c19 : PySem.W.codeIn K cd19 "with_one_more" = true) (k19 : PySem.W.keepIn K (.ref f19) = true)
    {f20 : Addr} {od20 an20 : Option Addr} {sl20 : Array (Option Value)} {oc20 kV20 dc20 pm20 cd20 ct20 : Value}
    (a20 : PySem.W.nsIn K mainGlobals "barriers" = some (some (.ref f20))) (l20 : K.lookup f20 = some ⟨oc20, od20, .func (PySem.W.fnOf "barriers" "barriers" (defArgs s_p_barriers) (defBody s_p_barriers) (defScope s_p_barriers) .none kV20 dc20 pm20 an20 cd20 ct20), sl20⟩) (c20 : PySem.W.codeIn K cd20 "barriers" = true) (k20 : PySem.W.keepIn K (.ref f20) = true)
    {f21 : Addr} {od21 an21 : Option Addr} {sl21 : Array (Option Value)} {oc21 kV21 dc21 pm21 cd21 ct21 : Value}
    (a21 : PySem.W.nsIn K mainGlobals "shows_barrier" = some (some (.ref f21))) (l21 : K.lookup f21 = some ⟨oc21, od21, .func (PySem.W.fnOf "shows_barrier" "shows_barrier" (defArgs s_p_shows_barrier) (defBody s_p_shows_barrier) (defScope s_p_shows_barrier) .none kV21 dc21 pm21 an21 cd21 ct21), sl21⟩) (c21 : PySem.W.codeIn K cd21 "shows_barrier" = true) (k21 : PySem.W.keepIn K (.ref f21) = true)
    {f22 : Addr} {od22 an22 : Option Addr} {sl22 : Array (Option Value)} {oc22 kV22 dc22 pm22 cd22 ct22 : Value}
    (a22 : PySem.W.nsIn K mainGlobals "few_kin" = some (some (.ref f22))) (l22 : K.lookup f22 = some ⟨oc22, od22, .func (PySem.W.fnOf "few_kin" "few_kin" (defArgs s_p_few_kin) (defBody s_p_few_kin) (defScope s_p_few_kin) .none kV22 dc22 pm22 an22 cd22 ct22), sl22⟩) (c22 : PySem.W.codeIn K cd22 "few_kin" = true) (k22 : PySem.W.keepIn K (.ref f22) = true)
    {f23 : Addr} {od23 an23 : Option Addr} {sl23 : Array (Option Value)} {oc23 kV23 dc23 pm23 cd23 ct23 : Value}
    (a23 : PySem.W.nsIn K mainGlobals "column" = some (some (.ref f23))) (l23 : K.lookup f23 = some ⟨oc23, od23, .func (PySem.W.fnOf "column" "column" (defArgs s_p_column) (defBody s_p_column) (defScope s_p_column) .none kV23 dc23 pm23 an23 cd23 ct23), sl23⟩) (c23 : PySem.W.codeIn K cd23 "column" = true) (k23 : PySem.W.keepIn K (.ref f23) = true)
    {f24 : Addr} {od24 an24 : Option Addr} {sl24 : Array (Option Value)} {oc24 kV24 dc24 pm24 cd24 ct24 : Value}
    (a24 : PySem.W.nsIn K mainGlobals "making" = some (some (.ref f24))) (l24 : K.lookup f24 = some ⟨oc24, od24, .func (PySem.W.fnOf "making" "making" (defArgs s_p_making) (defBody s_p_making) (defScope s_p_making) .none kV24 dc24 pm24 an24 cd24 ct24), sl24⟩) (c24 : PySem.W.codeIn K cd24 "making" = true) (k24 : PySem.W.keepIn K (.ref f24) = true)
    {f25 : Addr} {od25 an25 : Option Addr} {sl25 : Array (Option Value)} {oc25 kV25 dc25 pm25 cd25 ct25 : Value}
    (a25 : PySem.W.nsIn K mainGlobals "barring" = some (some (.ref f25))) (l25 : K.lookup f25 = some ⟨oc25, od25, .func (PySem.W.fnOf "barring" "barring" (defArgs s_p_barring) (defBody s_p_barring) (defScope s_p_barring) .none kV25 dc25 pm25 an25 cd25 ct25), sl25⟩) (c25 : PySem.W.codeIn K cd25 "barring" = true) (k25 : PySem.W.keepIn K (.ref f25) = true)
    {f26 : Addr} {od26 an26 : Option Addr} {sl26 : Array (Option Value)} {oc26 kV26 dc26 pm26 cd26 ct26 : Value}
    (a26 : PySem.W.nsIn K mainGlobals "numbered" = some (some (.ref f26))) (l26 : K.lookup f26 = some ⟨oc26, od26, .func (PySem.W.fnOf "numbered" "numbered" (defArgs s_p_numbered) (defBody s_p_numbered) (defScope s_p_numbered) .none kV26 dc26 pm26 an26 cd26 ct26), sl26⟩) (c26 : PySem.W.codeIn K cd26 "numbered" = true) (k26 : PySem.W.keepIn K (.ref f26) = true)
    {f27 : Addr} {od27 an27 : Option Addr} {sl27 : Array (Option Value)} {oc27 kV27 dc27 pm27 cd27 ct27 : Value}
    (a27 : PySem.W.nsIn K mainGlobals "least_of" = some (some (.ref f27))) (l27 : K.lookup f27 = some ⟨oc27, od27, .func (PySem.W.fnOf "least_of" "least_of" (defArgs s_p_least_of) (defBody s_p_least_of) (defScope s_p_least_of) .none kV27 dc27 pm27 an27 cd27 ct27), sl27⟩) (c27 : PySem.W.codeIn K cd27 "least_of" = true) (k27 : PySem.W.keepIn K (.ref f27) = true)
    {f28 : Addr} {od28 an28 : Option Addr} {sl28 : Array (Option Value)} {oc28 kV28 dc28 pm28 cd28 ct28 : Value}
    (a28 : PySem.W.nsIn K mainGlobals "none_in" = some (some (.ref f28))) (l28 : K.lookup f28 = some ⟨oc28, od28, .func (PySem.W.fnOf "none_in" "none_in" (defArgs s_p_none_in) (defBody s_p_none_in) (defScope s_p_none_in) .none kV28 dc28 pm28 an28 cd28 ct28), sl28⟩) (c28 : PySem.W.codeIn K cd28 "none_in" = true) (k28 : PySem.W.keepIn K (.ref f28) = true)
    {f29 : Addr} {od29 an29 : Option Addr} {sl29 : Array (Option Value)} {oc29 kV29 dc29 pm29 cd29 ct29 : Value}
    (a29 : PySem.W.nsIn K mainGlobals "_law_kneaded" = some (some (.ref f29))) (l29 : K.lookup f29 = some ⟨oc29, od29, .func (PySem.W.fnOf "_law_kneaded" "_law_kneaded" (defArgs s_kneaded) (defBody s_kneaded) (defScope s_kneaded) .none kV29 dc29 pm29 an29 cd29 ct29), sl29⟩) (c29 : PySem.W.codeIn K cd29 "_law_kneaded" = true) (k29 : PySem.W.keepIn K (.ref f29) = true)
    {f30 : Addr} {od30 an30 : Option Addr} {sl30 : Array (Option Value)} {oc30 kV30 dc30 pm30 cd30 ct30 : Value}
    (a30 : PySem.W.nsIn K mainGlobals "_law_pot_of" = some (some (.ref f30))) (l30 : K.lookup f30 = some ⟨oc30, od30, .func (PySem.W.fnOf "_law_pot_of" "_law_pot_of" (defArgs s_pot_of) (defBody s_pot_of) (defScope s_pot_of) .none kV30 dc30 pm30 an30 cd30 ct30), sl30⟩) (c30 : PySem.W.codeIn K cd30 "_law_pot_of" = true) (k30 : PySem.W.keepIn K (.ref f30) = true)
    {f31 : Addr} {od31 an31 : Option Addr} {sl31 : Array (Option Value)} {oc31 kV31 dc31 pm31 cd31 ct31 : Value}
    (a31 : PySem.W.nsIn K mainGlobals "_law_below" = some (some (.ref f31))) (l31 : K.lookup f31 = some ⟨oc31, od31, .func (PySem.W.fnOf "_law_below" "_law_below" (defArgs s_below) (defBody s_below) (defScope s_below) .none kV31 dc31 pm31 an31 cd31 ct31), sl31⟩) (c31 : PySem.W.codeIn K cd31 "_law_below" = true) (k31 : PySem.W.keepIn K (.ref f31) = true)
    {f32 : Addr} {od32 an32 : Option Addr} {sl32 : Array (Option Value)} {oc32 kV32 dc32 pm32 cd32 ct32 : Value}
    (a32 : PySem.W.nsIn K mainGlobals "_law_pick" = some (some (.ref f32))) (l32 : K.lookup f32 = some ⟨oc32, od32, .func (PySem.W.fnOf "_law_pick" "_law_pick" (defArgs s_pick) (defBody s_pick) (defScope s_pick) .none kV32 dc32 pm32 an32 cd32 ct32), sl32⟩) (c32 : PySem.W.codeIn K cd32 "_law_pick" = true) (k32 : PySem.W.keepIn K (.ref f32) = true)
    {f33 : Addr} {od33 an33 : Option Addr} {sl33 : Array (Option Value)} {oc33 kV33 dc33 pm33 cd33 ct33 : Value}
    (a33 : PySem.W.nsIn K mainGlobals "_law_some_name" = some (some (.ref f33))) (l33 : K.lookup f33 = some ⟨oc33, od33, .func (PySem.W.fnOf "_law_some_name" "_law_some_name" (defArgs s_some_name) (defBody s_some_name) (defScope s_some_name) .none kV33 dc33 pm33 an33 cd33 ct33), sl33⟩) (c33 : PySem.W.codeIn K cd33 "_law_some_name" = true) (k33 : PySem.W.keepIn K (.ref f33) = true)
    {f34 : Addr} {od34 an34 : Option Addr} {sl34 : Array (Option Value)} {oc34 kV34 dc34 pm34 cd34 ct34 : Value}
    (a34 : PySem.W.nsIn K mainGlobals "_law_split" = some (some (.ref f34))) (l34 : K.lookup f34 = some ⟨oc34, od34, .func (PySem.W.fnOf "_law_split" "_law_split" (defArgs s_split) (defBody s_split) (defScope s_split) .none kV34 dc34 pm34 an34 cd34 ct34), sl34⟩) (c34 : PySem.W.codeIn K cd34 "_law_split" = true) (k34 : PySem.W.keepIn K (.ref f34) = true)
    {f35 : Addr} {od35 an35 : Option Addr} {sl35 : Array (Option Value)} {oc35 kV35 dc35 pm35 cd35 ct35 : Value}
    (a35 : PySem.W.nsIn K mainGlobals "_law_is_name" = some (some (.ref f35))) (l35 : K.lookup f35 = some ⟨oc35, od35, .func (PySem.W.fnOf "_law_is_name" "_law_is_name" (defArgs s_is_name) (defBody s_is_name) (defScope s_is_name) .none kV35 dc35 pm35 an35 cd35 ct35), sl35⟩) (c35 : PySem.W.codeIn K cd35 "_law_is_name" = true) (k35 : PySem.W.keepIn K (.ref f35) = true)
    {f36 : Addr} {od36 an36 : Option Addr} {sl36 : Array (Option Value)} {oc36 kV36 dc36 pm36 cd36 ct36 : Value}
    (a36 : PySem.W.nsIn K mainGlobals "_law_stem" = some (some (.ref f36))) (l36 : K.lookup f36 = some ⟨oc36, od36, .func (PySem.W.fnOf "_law_stem" "_law_stem" (defArgs s_stem) (defBody s_stem) (defScope s_stem) .none kV36 dc36 pm36 an36 cd36 ct36), sl36⟩) (c36 : PySem.W.codeIn K cd36 "_law_stem" = true) (k36 : PySem.W.keepIn K (.ref f36) = true)
    {f37 : Addr} {od37 an37 : Option Addr} {sl37 : Array (Option Value)} {oc37 kV37 dc37 pm37 cd37 ct37 : Value}
    (a37 : PySem.W.nsIn K mainGlobals "_law_put" = some (some (.ref f37))) (l37 : K.lookup f37 = some ⟨oc37, od37, .func (PySem.W.fnOf "_law_put" "_law_put" (defArgs s_put) (defBody s_put) (defScope s_put) .none kV37 dc37 pm37 an37 cd37 ct37), sl37⟩) (c37 : PySem.W.codeIn K cd37 "_law_put" = true) (k37 : PySem.W.keepIn K (.ref f37) = true)
    {f38 : Addr} {od38 an38 : Option Addr} {sl38 : Array (Option Value)} {oc38 kV38 dc38 pm38 cd38 ct38 : Value}
    (a38 : PySem.W.nsIn K mainGlobals "_law_ordered" = some (some (.ref f38))) (l38 : K.lookup f38 = some ⟨oc38, od38, .func (PySem.W.fnOf "_law_ordered" "_law_ordered" (defArgs s_ordered) (defBody s_ordered) (defScope s_ordered) .none kV38 dc38 pm38 an38 cd38 ct38), sl38⟩) (c38 : PySem.W.codeIn K cd38 "_law_ordered" = true) (k38 : PySem.W.keepIn K (.ref f38) = true)
    {f39 : Addr} {od39 an39 : Option Addr} {sl39 : Array (Option Value)} {oc39 kV39 dc39 pm39 cd39 ct39 : Value}
    (a39 : PySem.W.nsIn K mainGlobals "_law_whole" = some (some (.ref f39))) (l39 : K.lookup f39 = some ⟨oc39, od39, .func (PySem.W.fnOf "_law_whole" "_law_whole" (defArgs s_whole) (defBody s_whole) (defScope s_whole) .none kV39 dc39 pm39 an39 cd39 ct39), sl39⟩) (c39 : PySem.W.codeIn K cd39 "_law_whole" = true) (k39 : PySem.W.keepIn K (.ref f39) = true)
    {f40 : Addr} {od40 an40 : Option Addr} {sl40 : Array (Option Value)} {oc40 kV40 dc40 pm40 cd40 ct40 : Value}
    (a40 : PySem.W.nsIn K mainGlobals "_law_some_source" = some (some (.ref f40))) (l40 : K.lookup f40 = some ⟨oc40, od40, .func (PySem.W.fnOf "_law_some_source" "_law_some_source" (defArgs s_some_source) (defBody s_some_source) (defScope s_some_source) .none kV40 dc40 pm40 an40 cd40 ct40), sl40⟩) (c40 : PySem.W.codeIn K cd40 "_law_some_source" = true) (k40 : PySem.W.keepIn K (.ref f40) = true)
    {f41 : Addr} {od41 an41 : Option Addr} {sl41 : Array (Option Value)} {oc41 kV41 dc41 pm41 cd41 ct41 : Value}
    (a41 : PySem.W.nsIn K mainGlobals "_law_some_rule" = some (some (.ref f41))) (l41 : K.lookup f41 = some ⟨oc41, od41, .func (PySem.W.fnOf "_law_some_rule" "_law_some_rule" (defArgs s_some_rule) (defBody s_some_rule) (defScope s_some_rule) .none kV41 dc41 pm41 an41 cd41 ct41), sl41⟩) (c41 : PySem.W.codeIn K cd41 "_law_some_rule" = true) (k41 : PySem.W.keepIn K (.ref f41) = true)
    {f42 : Addr} {od42 an42 : Option Addr} {sl42 : Array (Option Value)} {oc42 kV42 dc42 pm42 cd42 ct42 : Value}
    (a42 : PySem.W.nsIn K mainGlobals "_law_some_book" = some (some (.ref f42))) (l42 : K.lookup f42 = some ⟨oc42, od42, .func (PySem.W.fnOf "_law_some_book" "_law_some_book" (defArgs s_some_book) (defBody s_some_book) (defScope s_some_book) .none kV42 dc42 pm42 an42 cd42 ct42), sl42⟩) (c42 : PySem.W.codeIn K cd42 "_law_some_book" = true) (k42 : PySem.W.keepIn K (.ref f42) = true)
    {f43 : Addr} {od43 an43 : Option Addr} {sl43 : Array (Option Value)} {oc43 kV43 dc43 pm43 cd43 ct43 : Value}
    (a43 : PySem.W.nsIn K mainGlobals "_law_kin" = some (some (.ref f43))) (l43 : K.lookup f43 = some ⟨oc43, od43, .func (PySem.W.fnOf "_law_kin" "_law_kin" (defArgs s_kin) (defBody s_kin) (defScope s_kin) .none kV43 dc43 pm43 an43 cd43 ct43), sl43⟩) (c43 : PySem.W.codeIn K cd43 "_law_kin" = true) (k43 : PySem.W.keepIn K (.ref f43) = true)
    {f44 : Addr} {od44 an44 : Option Addr} {sl44 : Array (Option Value)} {oc44 kV44 dc44 pm44 cd44 ct44 : Value}
    (a44 : PySem.W.nsIn K mainGlobals "_law_way" = some (some (.ref f44))) (l44 : K.lookup f44 = some ⟨oc44, od44, .func (PySem.W.fnOf "_law_way" "_law_way" (defArgs s_way) (defBody s_way) (defScope s_way) .none kV44 dc44 pm44 an44 cd44 ct44), sl44⟩) (c44 : PySem.W.codeIn K cd44 "_law_way" = true) (k44 : PySem.W.keepIn K (.ref f44) = true)
    {f45 : Addr} {od45 an45 : Option Addr} {sl45 : Array (Option Value)} {oc45 kV45 dc45 pm45 cd45 ct45 : Value}
    (a45 : PySem.W.nsIn K mainGlobals "_law_some_files" = some (some (.ref f45))) (l45 : K.lookup f45 = some ⟨oc45, od45, .func (PySem.W.fnOf "_law_some_files" "_law_some_files" (defArgs s_some_files) (defBody s_some_files) (defScope s_some_files) .none kV45 dc45 pm45 an45 cd45 ct45), sl45⟩) (c45 : PySem.W.codeIn K cd45 "_law_some_files" = true) (k45 : PySem.W.keepIn K (.ref f45) = true)
    {f46 : Addr} {od46 an46 : Option Addr} {sl46 : Array (Option Value)} {oc46 kV46 dc46 pm46 cd46 ct46 : Value}
    (a46 : PySem.W.nsIn K mainGlobals "_law_due" = some (some (.ref f46))) (l46 : K.lookup f46 = some ⟨oc46, od46, .func (PySem.W.fnOf "_law_due" "_law_due" (defArgs s_due) (defBody s_due) (defScope s_due) .none kV46 dc46 pm46 an46 cd46 ct46), sl46⟩) (c46 : PySem.W.codeIn K cd46 "_law_due" = true) (k46 : PySem.W.keepIn K (.ref f46) = true)
    {f47 : Addr} {od47 an47 : Option Addr} {sl47 : Array (Option Value)} {oc47 kV47 dc47 pm47 cd47 ct47 : Value}
    (a47 : PySem.W.nsIn K mainGlobals "law" = some (some (.ref f47))) (l47 : K.lookup f47 = some ⟨oc47, od47, .func (PySem.W.fnOf "law" "law" (defArgs s_law) (defBody s_law) (defScope s_law) .none kV47 dc47 pm47 an47 cd47 ct47), sl47⟩) (c47 : PySem.W.codeIn K cd47 "law" = true) (k47 : PySem.W.keepIn K (.ref f47) = true)
    (z0 : PySem.W.nsIn K mainGlobals "int" = some none)
    (z1 : PySem.W.nsIn K mainGlobals "abs" = some none)
    (z2 : PySem.W.nsIn K mainGlobals "range" = some none)
    (z3 : PySem.W.nsIn K mainGlobals "enumerate" = some none)
    (z4 : PySem.W.nsIn K mainGlobals "len" = some none)
    (z5 : PySem.W.nsIn K mainGlobals "isinstance" = some none)
    (z6 : PySem.W.nsIn K mainGlobals "str" = some none)
    (z7 : PySem.W.nsIn K mainGlobals "tuple" = some none)
    (z8 : PySem.W.nsIn K mainGlobals "repr" = some none)
    (z9 : PySem.W.nsIn K mainGlobals "list" = some none)
    (z10 : PySem.W.nsIn K mainGlobals "sorted" = some none)
    (z11 : PySem.W.nsIn K mainGlobals "set" = some none)
    (z12 : PySem.W.nsIn K mainGlobals "all" = some none)
    (z13 : PySem.W.nsIn K mainGlobals "any" = some none)
    (z14 : PySem.W.nsIn K mainGlobals "reversed" = some none)
    (z15 : PySem.W.nsIn K mainGlobals "sum" = some none)
    {tk0 : Tok} (q0 : PySem.W.nsIn K mainGlobals "CAPITALS" = some (some (.str "ABCDEFGHIJKLMNOPQRSTUVWXYZ" tk0)))
    {tk1 : Tok} (q1 : PySem.W.nsIn K mainGlobals "SMALLS" = some (some (.str "abcdefghijklmnopqrstuvwxyz" tk1)))
    {tk2 : Tok} (q2 : PySem.W.nsIn K mainGlobals "MOST_END_LETTERS" = some (some (.int 3 tk2)))
    {tk3 : Tok} (q3 : PySem.W.nsIn K mainGlobals "MOST_LABEL_LETTERS" = some (some (.int 8 tk3)))
    {tk4 : Tok} (q4 : PySem.W.nsIn K mainGlobals "MOST_NAME_LETTERS" = some (some (.int 6 tk4)))
    {tk5 : Tok} (q5 : PySem.W.nsIn K mainGlobals "MOST_SOURCES" = some (some (.int 3 tk5)))
    {tk6 : Tok} (q6 : PySem.W.nsIn K mainGlobals "MOST_RULES" = some (some (.int 6 tk6)))
    {tk7 : Tok} (q7 : PySem.W.nsIn K mainGlobals "MOST_FILES" = some (some (.int 60 tk7)))
    {tk8 : Tok} (q8 : PySem.W.nsIn K mainGlobals "MOST_KIN" = some (some (.int 12 tk8)))
    {B0 : Addr} (ba0 : PySem.W.nsIn K mainGlobals "Makers" = some (some (.ref B0)))
    (bp0 : PySem.W.plainGet K B0 Str.empty = true) (bh0 : PySem.W.hasDictIn K B0 = true) (bo0 : PySem.W.plainOver K B0 = true) (bs0 : PySem.W.findIn K (.ref B0) "__setattr__" = some (some (.builtin "object.__setattr__"))) (bm0 : PySem.W.makesIn K B0 = true) (bk0 : PySem.W.keepIn K (.ref B0) = true)
    (bf0_0 : PySem.W.findIn K (.ref B0) "book" = some none)
    (bf0_1 : PySem.W.findIn K (.ref B0) "columns" = some none)
    (bf0_2 : PySem.W.findIn K (.ref B0) "known" = some none)
    {g0_0 : Addr} {god0_0 gan0_0 : Option Addr} {gsl0_0 : Array (Option Value)} {goc0_0 gkV0_0 gdc0_0 gpm0_0 gcd0_0 gct0_0 : Value}
    (ga0_0 : PySem.W.findIn K (.ref B0) "__init__" = some (some (.ref g0_0))) (gi0_0 : PySem.W.isFn K (.ref g0_0) = true) (gl0_0 : K.lookup g0_0 = some ⟨goc0_0, god0_0, .func (PySem.W.fnOf "__init__" "Makers.__init__" (defArgs s_Makers_init) (defBody s_Makers_init) (defScope s_Makers_init) .none gkV0_0 gdc0_0 gpm0_0 gan0_0 gcd0_0 gct0_0), gsl0_0⟩) (gc0_0 : PySem.W.codeIn K gcd0_0 "Makers.__init__" = true) (gk0_0 : PySem.W.keepIn K (.ref g0_0) = true)
    {g0_1 : Addr} {god0_1 gan0_1 : Option Addr} {gsl0_1 : Array (Option Value)} {goc0_1 gkV0_1 gdc0_1 gpm0_1 gcd0_1 gct0_1 : Value}
    (ga0_1 : PySem.W.findIn K (.ref B0) "of" = some (some (.ref g0_1))) (gi0_1 : PySem.W.isFn K (.ref g0_1) = true) (gl0_1 : K.lookup g0_1 = some ⟨goc0_1, god0_1, .func (PySem.W.fnOf "of" "Makers.of" (defArgs s_Makers_of) (defBody s_Makers_of) (defScope s_Makers_of) .none gkV0_1 gdc0_1 gpm0_1 gan0_1 gcd0_1 gct0_1), gsl0_1⟩) (gc0_1 : PySem.W.codeIn K gcd0_1 "Makers.of" = true) (gk0_1 : PySem.W.keepIn K (.ref g0_1) = true)
    {g0_2 : Addr} {god0_2 gan0_2 : Option Addr} {gsl0_2 : Array (Option Value)} {goc0_2 gkV0_2 gdc0_2 gpm0_2 gcd0_2 gct0_2 : Value}
    (ga0_2 : PySem.W.findIn K (.ref B0) "of_all" = some (some (.ref g0_2))) (gi0_2 : PySem.W.isFn K (.ref g0_2) = true) (gl0_2 : K.lookup g0_2 = some ⟨goc0_2, god0_2, .func (PySem.W.fnOf "of_all" "Makers.of_all" (defArgs s_Makers_of_all) (defBody s_Makers_of_all) (defScope s_Makers_of_all) .none gkV0_2 gdc0_2 gpm0_2 gan0_2 gcd0_2 gct0_2), gsl0_2⟩) (gc0_2 : PySem.W.codeIn K gcd0_2 "Makers.of_all" = true) (gk0_2 : PySem.W.keepIn K (.ref g0_2) = true)
    : ∃ fd : FuncData, (∀ (s : Shared) (v : Value), BindsTo s fd ⟨[v], []⟩ [("script", v)]) ∧ ∀ base : Heap, K.In base → base.Ns mainGlobals mg → FnG l.prog w K mg base CX0 21 fa fd ["script"] (spLaw K) := by
  have e := hfa.symm.trans (PySem.W.mg_of X G a47)
  cases e
  refine ⟨PySem.W.fnOf "law" "law" (defArgs s_law) (defBody s_law) (defScope s_law) .none kV47 dc47 pm47 an47 cd47 ct47, fun s v => .of_eq rfl, fun base _ _ => ?_⟩
  have d_p_is_name : Def1 K mg "is_name" s_p_is_name := ⟨_, _, fun_mk l0 c0 k0, PySem.W.mg_of X G a0⟩
  have d_p_is_pattern : Def1 K mg "is_pattern" s_p_is_pattern := ⟨_, _, fun_mk l1 c1 k1, PySem.W.mg_of X G a1⟩
  have d_p_is_end : Def1 K mg "is_end" s_p_is_end := ⟨_, _, fun_mk l2 c2 k2, PySem.W.mg_of X G a2⟩
  have d_p_need_name : Def1 K mg "need_name" s_p_need_name := ⟨_, _, fun_mk l3 c3 k3, PySem.W.mg_of X G a3⟩
  have d_p_stem_within : Def1 K mg "stem_within" s_p_stem_within := ⟨_, _, fun_mk l4 c4 k4, PySem.W.mg_of X G a4⟩
  have d_p_filled : Def1 K mg "filled" s_p_filled := ⟨_, _, fun_mk l5 c5 k5, PySem.W.mg_of X G a5⟩
  have d_p_ascending : Def1 K mg "ascending" s_p_ascending := ⟨_, _, fun_mk l6 c6 k6, PySem.W.mg_of X G a6⟩
  have d_p_is_rule : Def1 K mg "is_rule" s_p_is_rule := ⟨_, _, fun_mk l7 c7 k7, PySem.W.mg_of X G a7⟩
  have d_p_is_label : Def1 K mg "is_label" s_p_is_label := ⟨_, _, fun_mk l8 c8 k8, PySem.W.mg_of X G a8⟩
  have d_p_are_sources : Def1 K mg "are_sources" s_p_are_sources := ⟨_, _, fun_mk l9 c9 k9, PySem.W.mg_of X G a9⟩
  have d_p_is_rule_source : Def1 K mg "is_rule_source" s_p_is_rule_source := ⟨_, _, fun_mk l10 c10 k10, PySem.W.mg_of X G a10⟩
  have d_p_is_book : Def1 K mg "is_book" s_p_is_book := ⟨_, _, fun_mk l11 c11 k11, PySem.W.mg_of X G a11⟩
  have d_p_are_files : Def1 K mg "are_files" s_p_are_files := ⟨_, _, fun_mk l12 c12 k12, PySem.W.mg_of X G a12⟩
  have d_p_gathered : Def1 K mg "gathered" s_p_gathered := ⟨_, _, fun_mk l13 c13 k13, PySem.W.mg_of X G a13⟩
  have d_p_sources_for_all : Def1 K mg "sources_for_all" s_p_sources_for_all := ⟨_, _, fun_mk l14 c14 k14, PySem.W.mg_of X G a14⟩
  have d_p_fitted : Def1 K mg "fitted" s_p_fitted := ⟨_, _, fun_mk l15 c15 k15, PySem.W.mg_of X G a15⟩
  have d_p_need_book : Def1 K mg "need_book" s_p_need_book := ⟨_, _, fun_mk l16 c16 k16, PySem.W.mg_of X G a16⟩
  have d_p_need_files : Def1 K mg "need_files" s_p_need_files := ⟨_, _, fun_mk l17 c17 k17, PySem.W.mg_of X G a17⟩
  have d_p_need_things : Def1 K mg "need_things" s_p_need_things := ⟨_, _, fun_mk l18 c18 k18, PySem.W.mg_of X G a18⟩
  have d_p_with_one_more : Def1 K mg "with_one_more" s_p_with_one_more := ⟨_, _, fun_mk l19 c19 k19, PySem.W.mg_of X G a19⟩
  have d_p_barriers : Def1 K mg "barriers" s_p_barriers := ⟨_, _, fun_mk l20 c20 k20, PySem.W.mg_of X G a20⟩
  have d_p_shows_barrier : Def1 K mg "shows_barrier" s_p_shows_barrier := ⟨_, _, fun_mk l21 c21 k21, PySem.W.mg_of X G a21⟩
  have d_p_few_kin : Def1 K mg "few_kin" s_p_few_kin := ⟨_, _, fun_mk l22 c22 k22, PySem.W.mg_of X G a22⟩
  have d_p_column : Def1 K mg "column" s_p_column := ⟨_, _, fun_mk l23 c23 k23, PySem.W.mg_of X G a23⟩
  have d_p_making : Def1 K mg "making" s_p_making := ⟨_, _, fun_mk l24 c24 k24, PySem.W.mg_of X G a24⟩
  have d_p_barring : Def1 K mg "barring" s_p_barring := ⟨_, _, fun_mk l25 c25 k25, PySem.W.mg_of X G a25⟩
  have d_p_numbered : Def1 K mg "numbered" s_p_numbered := ⟨_, _, fun_mk l26 c26 k26, PySem.W.mg_of X G a26⟩
  have d_p_least_of : Def1 K mg "least_of" s_p_least_of := ⟨_, _, fun_mk l27 c27 k27, PySem.W.mg_of X G a27⟩
  have d_p_none_in : Def1 K mg "none_in" s_p_none_in := ⟨_, _, fun_mk l28 c28 k28, PySem.W.mg_of X G a28⟩
  have d_kneaded : Def1 K mg "_law_kneaded" s_kneaded := ⟨_, _, fun_mk l29 c29 k29, PySem.W.mg_of X G a29⟩
  have d_pot_of : Def1 K mg "_law_pot_of" s_pot_of := ⟨_, _, fun_mk l30 c30 k30, PySem.W.mg_of X G a30⟩
  have d_below : Def1 K mg "_law_below" s_below := ⟨_, _, fun_mk l31 c31 k31, PySem.W.mg_of X G a31⟩
  have d_pick : Def1 K mg "_law_pick" s_pick := ⟨_, _, fun_mk l32 c32 k32, PySem.W.mg_of X G a32⟩
  have d_some_name : Def1 K mg "_law_some_name" s_some_name := ⟨_, _, fun_mk l33 c33 k33, PySem.W.mg_of X G a33⟩
  have d_split : Def1 K mg "_law_split" s_split := ⟨_, _, fun_mk l34 c34 k34, PySem.W.mg_of X G a34⟩
  have d_is_name : Def1 K mg "_law_is_name" s_is_name := ⟨_, _, fun_mk l35 c35 k35, PySem.W.mg_of X G a35⟩
  have d_stem : Def1 K mg "_law_stem" s_stem := ⟨_, _, fun_mk l36 c36 k36, PySem.W.mg_of X G a36⟩
  have d_put : Def1 K mg "_law_put" s_put := ⟨_, _, fun_mk l37 c37 k37, PySem.W.mg_of X G a37⟩
  have d_ordered : Def1 K mg "_law_ordered" s_ordered := ⟨_, _, fun_mk l38 c38 k38, PySem.W.mg_of X G a38⟩
  have d_whole : Def1 K mg "_law_whole" s_whole := ⟨_, _, fun_mk l39 c39 k39, PySem.W.mg_of X G a39⟩
  have d_some_source : Def1 K mg "_law_some_source" s_some_source := ⟨_, _, fun_mk l40 c40 k40, PySem.W.mg_of X G a40⟩
  have d_some_rule : Def1 K mg "_law_some_rule" s_some_rule := ⟨_, _, fun_mk l41 c41 k41, PySem.W.mg_of X G a41⟩
  have d_some_book : Def1 K mg "_law_some_book" s_some_book := ⟨_, _, fun_mk l42 c42 k42, PySem.W.mg_of X G a42⟩
  have d_kin : Def1 K mg "_law_kin" s_kin := ⟨_, _, fun_mk l43 c43 k43, PySem.W.mg_of X G a43⟩
  have d_way : Def1 K mg "_law_way" s_way := ⟨_, _, fun_mk l44 c44 k44, PySem.W.mg_of X G a44⟩
  have d_some_files : Def1 K mg "_law_some_files" s_some_files := ⟨_, _, fun_mk l45 c45 k45, PySem.W.mg_of X G a45⟩
  have d_due : Def1 K mg "_law_due" s_due := ⟨_, _, fun_mk l46 c46 k46, PySem.W.mg_of X G a46⟩
  have z_int : mg "int" = none := PySem.W.mg_none_of X G z0
  have z_abs : mg "abs" = none := PySem.W.mg_none_of X G z1
  have z_range : mg "range" = none := PySem.W.mg_none_of X G z2
  have z_enumerate : mg "enumerate" = none := PySem.W.mg_none_of X G z3
  have z_len : mg "len" = none := PySem.W.mg_none_of X G z4
  have z_isinstance : mg "isinstance" = none := PySem.W.mg_none_of X G z5
  have z_str : mg "str" = none := PySem.W.mg_none_of X G z6
  have z_tuple : mg "tuple" = none := PySem.W.mg_none_of X G z7
  have z_repr : mg "repr" = none := PySem.W.mg_none_of X G z8
  have z_list : mg "list" = none := PySem.W.mg_none_of X G z9
  have z_sorted : mg "sorted" = none := PySem.W.mg_none_of X G z10
  have z_set : mg "set" = none := PySem.W.mg_none_of X G z11
  have z_all : mg "all" = none := PySem.W.mg_none_of X G z12
  have z_any : mg "any" = none := PySem.W.mg_none_of X G z13
  have z_reversed : mg "reversed" = none := PySem.W.mg_none_of X G z14
  have z_sum : mg "sum" = none := PySem.W.mg_none_of X G z15
  have k_CAPITALS : Con1 mg "CAPITALS" (.str capS) := ⟨_, PySem.W.mg_of X G q0, ⟨_, rfl⟩⟩
  have k_SMALLS : Con1 mg "SMALLS" (.str smaS) := ⟨_, PySem.W.mg_of X G q1, ⟨_, rfl⟩⟩
  have k_MOST_END_LETTERS : Con1 mg "MOST_END_LETTERS" (.int 3) := ⟨_, PySem.W.mg_of X G q2, ⟨_, rfl⟩⟩
  have k_MOST_LABEL_LETTERS : Con1 mg "MOST_LABEL_LETTERS" (.int 8) := ⟨_, PySem.W.mg_of X G q3, ⟨_, rfl⟩⟩
  have k_MOST_NAME_LETTERS : Con1 mg "MOST_NAME_LETTERS" (.int 6) := ⟨_, PySem.W.mg_of X G q4, ⟨_, rfl⟩⟩
  have k_MOST_SOURCES : Con1 mg "MOST_SOURCES" (.int 3) := ⟨_, PySem.W.mg_of X G q5, ⟨_, rfl⟩⟩
  have k_MOST_RULES : Con1 mg "MOST_RULES" (.int 6) := ⟨_, PySem.W.mg_of X G q6, ⟨_, rfl⟩⟩
  have k_MOST_FILES : Con1 mg "MOST_FILES" (.int 60) := ⟨_, PySem.W.mg_of X G q7, ⟨_, rfl⟩⟩
  have k_MOST_KIN : Con1 mg "MOST_KIN" (.int 12) := ⟨_, PySem.W.mg_of X G q8, ⟨_, rfl⟩⟩
  have Z_Makers : Kls K mg "Makers" B0 := ⟨⟨bp0, bh0, bo0, bs0⟩, bm0, bk0, PySem.W.mg_of X G ba0⟩
  have n_Makers_book : NoAttr K B0 "book" := bf0_0
  have n_Makers_columns : NoAttr K B0 "columns" := bf0_1
  have n_Makers_known : NoAttr K B0 "known" := bf0_2
  have m_Makers_init : DefM K B0 "__init__" "Makers.__init__" s_Makers_init := ⟨_, _, fun_mk gl0_0 gc0_0 gk0_0, ⟨ga0_0, gi0_0, gk0_0⟩⟩
  have m_Makers_of : DefM K B0 "of" "Makers.of" s_Makers_of := ⟨_, _, fun_mk gl0_1 gc0_1 gk0_1, ⟨ga0_1, gi0_1, gk0_1⟩⟩
  have m_Makers_of_all : DefM K B0 "of_all" "Makers.of_all" s_Makers_of_all := ⟨_, _, fun_mk gl0_2 gc0_2 gk0_2, ⟨ga0_2, gi0_2, gk0_2⟩⟩
  have GB : Glb mg := ⟨z_int, z_abs, z_range, z_enumerate, z_len⟩
  have GC : Glc mg := ⟨z_isinstance, z_str, z_tuple, k_CAPITALS, k_SMALLS, k_MOST_END_LETTERS⟩
  have GA : Gla mg := ⟨z_tuple, z_sorted, z_set, z_len⟩
  have GK : Glk mg := ⟨z_all, k_MOST_LABEL_LETTERS, k_MOST_NAME_LETTERS, k_MOST_SOURCES, k_MOST_RULES⟩
  have c1 := cal_kneaded (P := l.prog) (w := w) (base := base) d_kneaded GB
  have c2 := cal_pot_of (P := l.prog) (w := w) (base := base) d_pot_of GB
  have c3 := cal_below d_below GB c1
  have c4 := cal_pick d_pick GB c3
  have c5 := cal_some_name d_some_name GB c3 c4
  have l1 := cal_stem (P := l.prog) (w := w) (base := base) d_stem GB
  have l2 := cal_put (P := l.prog) (w := w) (base := base) d_put GC
  have l3 := cal_ordered (P := l.prog) (w := w) (base := base) d_ordered z_tuple z_sorted z_set z_len
  have p1 := cal_p_is_name (P := l.prog) (w := w) (base := base) d_p_is_name GC
  have p2 := cal_p_is_end (P := l.prog) (w := w) (base := base) d_p_is_end GC GB
  have p3 := cal_p_is_pattern d_p_is_pattern GC GB p2
  have b1 := cal_p_is_label (P := l.prog) (w := w) (base := base) d_p_is_label GC GB GK
  have b2 := cal_p_is_rule_source d_p_is_rule_source GB GK p1 p3
  have b3 := cal_p_are_sources d_p_are_sources GC GB GK b2
  have b4 := cal_p_is_rule d_p_is_rule GC GB b1 p3 b3
  have b5 := cal_p_is_book d_p_is_book GC GB GK b4
  have b6 := cal_p_need_book d_p_need_book b5
  have s1 := cal_p_stem_within (P := l.prog) (w := w) (base := base) d_p_stem_within GB
  have s2 := cal_p_filled (P := l.prog) (w := w) (base := base) d_p_filled GC
  have n1 := cal_need d_p_need_name p1
  have a1 := cal_p_ascending (P := l.prog) (w := w) (base := base) d_p_ascending GA
  have e1 := cal_p_are_files d_p_are_files GC GB GK k_MOST_FILES p1 a1
  have e2 := cal_p_need_files d_p_need_files e1
  have f1 := cal_p_fitted d_p_fitted GB s1 s2
  have f2 := cal_onemore (P := l.prog) (w := w) (base := base) d_p_with_one_more GC z_sorted
  have w1 := cal_whole (P := l.prog) (w := w) (base := base) d_whole
  have w2 := cal_some_source d_some_source c3 c4 w1
  have w3 := cal_some_rule d_some_rule GB z_tuple c3 c4 w1 w2
  have w4 := cal_some_book d_some_book GB z_tuple c3 w3
  have x4 := cal_p_things d_p_need_things b6 e2 n1
  have q1 := cal_p_sources_for_all d_p_sources_for_all s1 s2
  have q2 := cal_p_gatheredM d_p_gathered GB z_list q1
  have q3 := cal_few_kin d_p_few_kin GB k_MOST_KIN q2 a1
  have clM : MCls K B0 := ⟨Z_Makers.cl, n_Makers_book, n_Makers_columns, n_Makers_known⟩
  have m1 := cal_column (P := l.prog) (w := w) (base := base) d_p_column GB
  have m2 := cal_mk_init m_Makers_init clM GB m1
  have m3 := of_m m_Makers_of m_Makers_of_all clM GB f1 f2 7
  have m4 := cal_making d_p_making GB Z_Makers clM m2 m3
  have m5 := cal_none_in (P := l.prog) (w := w) (base := base) d_p_none_in z_any
  have m6 := cal_barring d_p_barring z_reversed m4
  have m7 := cal_numbered (P := l.prog) (w := w) (base := base) d_p_numbered GB z_sum
  have m8 := cal_least_of (P := l.prog) (w := w) (base := base) d_p_least_of GB z_any z_sorted z_tuple
  have r2 := cal_barriers d_p_barriers b6 n1 q3 m6 m8
  have r4 := cal_shows_barrier d_p_shows_barrier GC z_all x4 q3 a1 m5 m6 m7
  have y1 := cal_kin d_kin GB GC z_sorted l1 l2 l3
  have y2 := cal_lway d_way GB GC l1 l2 7
  have y3 := cal_split (P := l.prog) (w := w) (base := base) d_split GB
  have y4 := cal_is_name d_is_name GC y3
  have y5 := cal_some_files d_some_files c3 l3
  have y6 := cal_due d_due GC z_list z_tuple y4 l3 y2
  exact fn_law (fun_mk l47 c47 k47) ⟨c2, c4, c5, w4, y1, l3, y5, y6, r2, r4⟩ GB ⟨z_list, z_repr⟩
end Lk
open PySem PySem.W PyProof.Rows in
set_option maxRecDepth 100000 in
set_option maxHeartbeats 0 in
theorem PySem.Challenge.cw_stemrules_k31_barriers_judged_holds : PySem.Challenge.rw_stemrules_k31_barriers_judged.Holds := by
  w_on; o_law; k_head; (case hw => w_witness2)
  k_fill
  refine Lk.walkG (l := PySem.Challenge.rw_stemrules_k31_barriers_judged) (k := 21) (x := "script") (CX := fun w => L2.CX0) (sp := fun w => Lk.spLaw _) rfl rfl ⟨rfl, by decide, by decide⟩ (fun w h Y => PySem.W.kIn_of Y) ?F (fun _ _ a ns hl _ hS => ⟨a, ns, rfl, hS, hl, fun _ => rfl⟩) (fun _ _ _ _ _ z => z)
  case F =>
    intro w mg fa h KX G hmg
    refine' Lk.all_mk KX G hmg ?a0 ?l0 ?c0 ?k0 ?a1 ?l1 ?c1 ?k1 ?a2 ?l2 ?c2 ?k2 ?a3 ?l3 ?c3 ?k3 ?a4 ?l4 ?c4 ?k4 ?a5 ?l5 ?c5 ?k5 ?a6 ?l6 ?c6 ?k6 ?a7 ?l7 ?c7 ?k7 ?a8 ?l8 ?c8 ?k8 ?a9 ?l9 ?c9 ?k9 ?a10 ?l10 ?c10 ?k10 ?a11 ?l11 ?c11 ?k11 ?a12 ?l12 ?c12 ?k12 ?a13 ?l13 ?c13 ?k13 ?a14 ?l14 ?c14 ?k14 ?a15 ?l15 ?c15 ?k15 ?a16 ?l16 ?c16 ?k16 ?a17 ?l17 ?c17 ?k17 ?a18 ?l18 ?c18 ?k18 ?a19 ?l19 ?c19 ?k19 ?a20 ?l20 ?c20 ?k20 ?a21 ?l21 ?c21 ?k21 ?a22 ?l22 ?c22 ?k22 ?a23 ?l23 ?c23 ?k23 ?a24 ?l24 ?c24 ?k24 ?a25 ?l25 ?c25 ?k25 ?a26 ?l26 ?c26 ?k26 ?a27 ?l27 ?c27 ?k27 ?a28 ?l28 ?c28 ?k28 ?a29 ?l29 ?c29 ?k29 ?a30 ?l30 ?c30 ?k30 ?a31 ?l31 ?c31 ?k31 ?a32 ?l32 ?c32 ?k32 ?a33 ?l33 ?c33 ?k33 ?a34 ?l34 ?c34 ?k34 ?a35 ?l35 ?c35 ?k35 ?a36 ?l36 ?c36 ?k36 ?a37 ?l37 ?c37 ?k37 ?a38 ?l38 ?c38 ?k38 ?a39 ?l39 ?c39 ?k39 ?a40 ?l40 ?c40 ?k40 ?a41 ?l41 ?c41 ?k41 ?a42 ?l42 ?c42 ?k42 ?a43 ?l43 ?c43 ?k43 ?a44 ?l44 ?c44 ?k44 ?a45 ?l45 ?c45 ?k45 ?a46 ?l46 ?c46 ?k46 ?a47 ?l47 ?c47 ?k47 ?z0 ?z1 ?z2 ?z3 ?z4 ?z5 ?z6 ?z7 ?z8 ?z9 ?z10 ?z11 ?z12 ?z13 ?z14 ?z15 ?q0 ?q1 ?q2 ?q3 ?q4 ?q5 ?q6 ?q7 ?q8 ?ba0 ?bp0 ?bh0 ?bo0 ?bs0 ?bm0 ?bk0 ?bf0_0 ?bf0_1 ?bf0_2 ?ga0_0 ?gi0_0 ?gl0_0 ?gc0_0 ?gk0_0 ?ga0_1 ?gi0_1 ?gl0_1 ?gc0_1 ?gk0_1 ?ga0_2 ?gi0_2 ?gl0_2 ?gc0_2 ?gk0_2
    (case a0 => k_is)
    (case l0 => k_is)
    (case c0 => k_is)
    (case k0 => k_is)
    (case a1 => k_is)
    (case l1 => k_is)
    (case c1 => k_is)
    (case k1 => k_is)
    (case a2 => k_is)
    (case l2 => k_is)
    (case c2 => k_is)
    (case k2 => k_is)
    (case a3 => k_is)
    (case l3 => k_is)
    (case c3 => k_is)
    (case k3 => k_is)
    (case a4 => k_is)
    (case l4 => k_is)
    (case c4 => k_is)
    (case k4 => k_is)
    (case a5 => k_is)
    (case l5 => k_is)
    (case c5 => k_is)
    (case k5 => k_is)
    (case a6 => k_is)
    (case l6 => k_is)
    (case c6 => k_is)
    (case k6 => k_is)
    (case a7 => k_is)
    (case l7 => k_is)
    (case c7 => k_is)
    (case k7 => k_is)
    (case a8 => k_is)
    (case l8 => k_is)
    (case c8 => k_is)
    (case k8 => k_is)
    (case a9 => k_is)
    (case l9 => k_is)
    (case c9 => k_is)
    (case k9 => k_is)
    (case a10 => k_is)
    (case l10 => k_is)
    (case c10 => k_is)
    (case k10 => k_is)
    (case a11 => k_is)
    (case l11 => k_is)
    (case c11 => k_is)
    (case k11 => k_is)
    (case a12 => k_is)
    (case l12 => k_is)
    (case c12 => k_is)
    (case k12 => k_is)
    (case a13 => k_is)
    (case l13 => k_is)
    (case c13 => k_is)
    (case k13 => k_is)
    (case a14 => k_is)
    (case l14 => k_is)
    (case c14 => k_is)
    (case k14 => k_is)
    (case a15 => k_is)
    (case l15 => k_is)
    (case c15 => k_is)
    (case k15 => k_is)
    (case a16 => k_is)
    (case l16 => k_is)
    (case c16 => k_is)
    (case k16 => k_is)
    (case a17 => k_is)
    (case l17 => k_is)
    (case c17 => k_is)
    (case k17 => k_is)
    (case a18 => k_is)
    (case l18 => k_is)
    (case c18 => k_is)
    (case k18 => k_is)
    (case a19 => k_is)
    (case l19 => k_is)
    (case c19 => k_is)
    (case k19 => k_is)
    (case a20 => k_is)
    (case l20 => k_is)
    (case c20 => k_is)
    (case k20 => k_is)
    (case a21 => k_is)
    (case l21 => k_is)
    (case c21 => k_is)
    (case k21 => k_is)
    (case a22 => k_is)
    (case l22 => k_is)
    (case c22 => k_is)
    (case k22 => k_is)
    (case a23 => k_is)
    (case l23 => k_is)
    (case c23 => k_is)
    (case k23 => k_is)
    (case a24 => k_is)
    (case l24 => k_is)
    (case c24 => k_is)
    (case k24 => k_is)
    (case a25 => k_is)
    (case l25 => k_is)
    (case c25 => k_is)
    (case k25 => k_is)
    (case a26 => k_is)
    (case l26 => k_is)
    (case c26 => k_is)
    (case k26 => k_is)
    (case a27 => k_is)
    (case l27 => k_is)
    (case c27 => k_is)
    (case k27 => k_is)
    (case a28 => k_is)
    (case l28 => k_is)
    (case c28 => k_is)
    (case k28 => k_is)
    (case a29 => k_is)
    (case l29 => k_is)
    (case c29 => k_is)
    (case k29 => k_is)
    (case a30 => k_is)
    (case l30 => k_is)
    (case c30 => k_is)
    (case k30 => k_is)
    (case a31 => k_is)
    (case l31 => k_is)
    (case c31 => k_is)
    (case k31 => k_is)
    (case a32 => k_is)
    (case l32 => k_is)
    (case c32 => k_is)
    (case k32 => k_is)
    (case a33 => k_is)
    (case l33 => k_is)
    (case c33 => k_is)
    (case k33 => k_is)
    (case a34 => k_is)
    (case l34 => k_is)
    (case c34 => k_is)
    (case k34 => k_is)
    (case a35 => k_is)
    (case l35 => k_is)
    (case c35 => k_is)
    (case k35 => k_is)
    (case a36 => k_is)
    (case l36 => k_is)
    (case c36 => k_is)
    (case k36 => k_is)
    (case a37 => k_is)
    (case l37 => k_is)
    (case c37 => k_is)
    (case k37 => k_is)
    (case a38 => k_is)
    (case l38 => k_is)
    (case c38 => k_is)
    (case k38 => k_is)
    (case a39 => k_is)
    (case l39 => k_is)
    (case c39 => k_is)
    (case k39 => k_is)
    (case a40 => k_is)
    (case l40 => k_is)
    (case c40 => k_is)
    (case k40 => k_is)
    (case a41 => k_is)
    (case l41 => k_is)
    (case c41 => k_is)
    (case k41 => k_is)
    (case a42 => k_is)
    (case l42 => k_is)
    (case c42 => k_is)
    (case k42 => k_is)
    (case a43 => k_is)
    (case l43 => k_is)
    (case c43 => k_is)
    (case k43 => k_is)
    (case a44 => k_is)
    (case l44 => k_is)
    (case c44 => k_is)
    (case k44 => k_is)
    (case a45 => k_is)
    (case l45 => k_is)
    (case c45 => k_is)
    (case k45 => k_is)
    (case a46 => k_is)
    (case l46 => k_is)
    (case c46 => k_is)
    (case k46 => k_is)
    (case a47 => k_is)
    (case l47 => k_is)
    (case c47 => k_is)
    (case k47 => k_is)
    (case z0 => k_is)
    (case z1 => k_is)
    (case z2 => k_is)
    (case z3 => k_is)
    (case z4 => k_is)
    (case z5 => k_is)
    (case z6 => k_is)
    (case z7 => k_is)
    (case z8 => k_is)
    (case z9 => k_is)
    (case z10 => k_is)
    (case z11 => k_is)
    (case z12 => k_is)
    (case z13 => k_is)
    (case z14 => k_is)
    (case z15 => k_is)
    (case q0 => k_is)
    (case q1 => k_is)
    (case q2 => k_is)
    (case q3 => k_is)
    (case q4 => k_is)
    (case q5 => k_is)
    (case q6 => k_is)
    (case q7 => k_is)
    (case q8 => k_is)
    (case ba0 => k_is)
    (case bp0 => k_is)
    (case bh0 => k_is)
    (case bo0 => k_is)
    (case bs0 => k_is)
    (case bm0 => k_is)
    (case bk0 => k_is)
    (case bf0_0 => k_is)
    (case bf0_1 => k_is)
    (case bf0_2 => k_is)
    (case ga0_0 => k_is)
    (case gi0_0 => k_is)
    (case gl0_0 => k_is)
    (case gc0_0 => k_is)
    (case gk0_0 => k_is)
    (case ga0_1 => k_is)
    (case gi0_1 => k_is)
    (case gl0_1 => k_is)
    (case gc0_1 => k_is)
    (case gk0_1 => k_is)
    (case ga0_2 => k_is)
    (case gi0_2 => k_is)
    (case gl0_2 => k_is)
    (case gc0_2 => k_is)
    (case gk0_2 => k_is)

