import PyProof.Rows.All
import Wide.All
import OpenK.AllK
import Wide.FinOn
import HandS.Base
import HandS.Call
import HandS.List
import HandS.Comp
import HandS.Ends
import HandS.Dict
import HandS.Iter
import HandS.Text
import HandS.Words
import HandS.WordsList
import PyProof.ReprRoads
import PyProof.ReprBulk
import PyProof.Rows.StrBoot
import HandS.IsInst
import HandS.StrMore
import HandS.Style
import PyProof.StrOps2
import HandS.Exc
import HandS.ExcOwn
import HandS.WordsExc
import PyProof.NeKinds
import HandS.Set
import HandS.Strs
import KE.SortData
import HandS.SetFor
import KE.SortKeyHeap
import HandS.SortKw
import PyProof.StrLaws
import HandS.Walk
import KE.GoesEnum
import HandS.TupAny
import HandS.TupMul
import PyProof.EqKinds
import HandS.TupSets
import KE.KDictKeyed
import HandS.Star
import PySem.Challenge.RW_stemrules_k12_books_refused
/-! Pot0 -/
set_option Elab.async false
set_option maxRecDepth 100000
set_option maxHeartbeats 4000000
namespace Lk
open PySem PySem.Spec PyProof.Rows L2

/-- a def of the module, as it stands behind the top -/
structure Def1 (K : PySem.W.Frag) (mg : Str → Option Value) (x : String) (st : Stmt) : Prop where
  ex : ∃ (f : Addr) (fd : FuncData), L2.Fun K x x st f fd ∧ mg x = some (.ref f)
/-- a def that may be called by its name, with its promise -/
structure Cal (P : Program) (w : World) (K : PySem.W.Frag) (mg : Str → Option Value) (base : Heap) (k : Nat) (x : String) (sp : Sp) : Prop where
  ex : ∃ (f : Addr) (fd : FuncData) (ps : List Str), FnOk P w K mg base CX0 k f fd ps sp ∧ mg x = some (.ref f) ∧ PySem.W.keepIn K (.ref f) = true ∧ Binds K fd ps []
section
variable {P : Program} {w : World} {K : PySem.W.Frag} {mg : Str → Option Value} {base : Heap}
theorem mkCal {x : String} {st : Stmt} {N ps : List Str} {k : Nat} {sp : Sp} (D : Def1 K mg x st) (S : FnScope N ps (defScope st))
    (hb : ∀ (kV doc pm : Value) (an : Option Addr) (cdv ct : Value) (us : List Value), us.length = ps.length → bindArgs (PySem.W.fnOf x x (defArgs st) (defBody st) (defScope st) .none kV doc pm an cdv ct) ⟨us, []⟩ = pure (ps.zip us))
    (len : ∀ vs H Q E, sp vs H Q E → vs.length = ps.length)
    (hbody : ∀ (f : Addr) (cdv : Value) (A : Around) (outer : List Env) (s : Shared) (H : Hp) (vs : List V) (Q : VK) (E : XK), Room k (A.deeper (envOfC x (defScope st) s.heap.objs.size f cdv)) → sp vs H Q E →
      ∃ t, PSs (cxOf CX0 P w K mg base N x (defScope st) f cdv A outer s H E).nox (defBody st) t ∧ t { nx := fun _ H' => Q .non H', rt := Q } (start N vs) H) : Cal P w K mg base (k + 1) x sp := by
  obtain ⟨f, fd, F, m⟩ := D.ex
  exact ⟨f, fd, ps, F.ok S len fun cdv A outer s H vs Q E hr h => hbody f cdv A outer s H vs Q E hr h, m, F.kp, F.binds hb⟩
theorem Cal.imp {x : String} {k : Nat} {sp sp' : Sp} (c : Cal P w K mg base k x sp) (h : ∀ vs H Q E, sp' vs H Q E → sp vs H Q E) : Cal P w K mg base k x sp' := by
  obtain ⟨f, fd, ps, F, a, b, d⟩ := c.ex
  exact ⟨f, fd, ps, F.imp h, a, b, d⟩
end
section
variable {X : Cx} {k j : Nat} {x : String} {sp : Sp} {p pos : Pos} {e : Expr} {es : List Expr} {t : TA}
theorem pe_cal (c : Cal X.prog X.w X.K X.mg X.base k x sp) (hr : Room j X.A) (hk : k ≤ j) (ha : PA X (e :: es) t) (hg : Gl X x := by rfl)
    (hdb : ((x : Str) == ("__debug__" : Str)) = false := by decide) (he : starEach (e :: es) X.env = (false, eval e X.env) :: starEach es X.env := by rfl) (hpl : (backTo pos (starEach es X.env)).any (·.1) = false := by rfl) :
    PE X (.Call (.Name x p) (e :: es) [] pos) (tCall sp [] E0 t) := by
  obtain ⟨f, fd, ps, F, m, kp, b⟩ := c.ex
  exact pe_call F (hr.mono hk) hg m kp b .nil pass0 ha hdb he hpl
end

/-! ### heaps -/
theorem same_upd {H : Hp} {p : Addr} {o : HO} (h : H p = none) : Same H (upd H p o) := fun b x e => by
  rw [upd_ne (ne_of_none e h)]
  exact e
theorem same_mut {H0 H : Hp} {p : Addr} {o : HO} (s : Same H0 H) (h : H0 p = none) : Same H0 (upd H p o) := fun b x e => by
  rw [upd_ne (ne_of_none e h)]
  exact s b x e
theorem Same.seqT {K : PySem.W.Frag} {H H' : Hp} {a : Addr} {xs : List V} (e : Same H H') (h : SqT K H a xs) : SqT K H' a xs := by
  rcases h with (h | ⟨o, h⟩) | h
  · exact .inl (.inl (e _ _ h))
  · exact .inl (.inr ⟨o, e _ _ h⟩)
  · exact .inr h
/-- all but p stands as it was -/
def But (p : Addr) (H H' : Hp) : Prop := ∀ q o, H q = some o → q ≠ p → H' q = some o
/-- a pot: [cells, place, amount, room] -/
def PotAt (p c : Addr) (H : Hp) : Prop := p ≠ c ∧ (∃ i a b : Int, H p = some (.lst [.ref c, .int i, .int a, .int b])) ∧ ∃ ns : List Int, H c = some (.lst (ns.map V.int)) ∧ ns.length ≤ 17
structure Ext (p c : Addr) (H H' : Hp) : Prop where
  keep : But p H H'
  pot : PotAt p c H'
theorem PotAt.same {p c : Addr} {H H' : Hp} (h : PotAt p c H) (s : Same H H') : PotAt p c H' := by
  obtain ⟨n, ⟨i, a, b, e⟩, ns, e2, l⟩ := h
  exact ⟨n, ⟨i, a, b, s _ _ e⟩, ns, s _ _ e2, l⟩
theorem PotAt.ref {p c : Addr} {H : Hp} (h : PotAt p c H) : Ext p c H H := ⟨fun _ _ e _ => e, h⟩
theorem Ext.trans {p c : Addr} {H H1 H2 : Hp} (a : Ext p c H H1) (b : Ext p c H1 H2) : Ext p c H H2 := ⟨fun q o e n => b.keep q o (a.keep q o e n) n, b.pot⟩
theorem Ext.same {p c : Addr} {H H1 H2 : Hp} (a : Ext p c H H1) (b : Same H1 H2) : Ext p c H H2 := ⟨fun q o e n => b q o (a.keep q o e n), a.pot.same b⟩
theorem Ext.pre {p c : Addr} {H H1 H2 : Hp} (a : Same H H1) (b : Ext p c H1 H2) : Ext p c H H2 := ⟨fun q o e n => b.keep q o (a q o e) n, b.pot⟩
theorem PotAt.nep {p c q : Addr} {H : Hp} (h : PotAt p c H) (e : H q = none) : q ≠ p := by
  obtain ⟨n, ⟨i, a, b, e1⟩, _⟩ := h
  exact fun z => by
    rw [z, e1] at e
    cases e
theorem PotAt.nec {p c q : Addr} {H : Hp} (h : PotAt p c H) (e : H q = none) : q ≠ c := by
  obtain ⟨n, _, ns, e1, _⟩ := h
  exact fun z => by
    rw [z, e1] at e
    cases e
theorem Ext.new {p c q : Addr} {H H1 : Hp} {o : HO} (a : Ext p c H H1) (h : H1 q = none) : Ext p c H (upd H1 q o) := a.same (same_upd h)
/-- an object that H does not know may change -/
theorem Ext.mut {p c q : Addr} {H H1 : Hp} {o : HO} (h0 : PotAt p c H) (a : Ext p c H H1) (h : H q = none) : Ext p c H (upd H1 q o) := by
  have n1 := h0.nep h
  have n2 := h0.nec h
  obtain ⟨n, ⟨i, x, b, e⟩, ns, e2, l⟩ := a.pot
  exact ⟨fun r u er nr => by
    rw [upd_ne (ne_of_none er h)]
    exact a.keep r u er nr, n, ⟨i, x, b, by rw [upd_ne n1.symm]; exact e⟩, ns, by rw [upd_ne n2.symm]; exact e2, l⟩
theorem Ext.get {p c q : Addr} {H H1 : Hp} {o : HO} (a : Ext p c H H1) (h : H q = some o) (n : q ≠ p) : H1 q = some o := a.keep q o h n
theorem Ext.free {p c q : Addr} {H H1 : Hp} (a : Ext p c H H1) (h : H1 q = none) : H q = none := by
  cases e : H q with
  | none => rfl
  | some o =>
    by_cases n : q = p
    · obtain ⟨_, ⟨i, x, b, e1⟩, _⟩ := a.pot
      rw [n, e1] at h
      cases h
    · rw [a.keep q o e n] at h
      cases h
theorem Ext.seq {K : PySem.W.Frag} {p c l : Addr} {H H1 : Hp} {xs : List V} (a : Ext p c H H1) (n : l ≠ p) (h : SqL K H l xs) : SqL K H1 l xs := by
  rcases h with (h | ⟨o, h⟩) | h
  · exact .inl (.inl (a.keep _ _ h n))
  · exact .inl (.inr ⟨o, a.keep _ _ h n⟩)
  · exact .inr h
theorem Ext.seqT {K : PySem.W.Frag} {p c l : Addr} {H H1 : Hp} {xs : List V} (a : Ext p c H H1) (n : l ≠ p) (h : SqT K H l xs) : SqT K H1 l xs := by
  rcases h with (h | ⟨o, h⟩) | h
  · exact .inl (.inl (a.keep _ _ h n))
  · exact .inl (.inr ⟨o, a.keep _ _ h n⟩)
  · exact .inr h
/-- what of the built-ins' names the module leaves alone -/
structure Glb (mg : Str → Option Value) : Prop where
  int : mg "int" = none
  abs : mg "abs" = none
  range : mg "range" = none
  enumerate : mg "enumerate" = none
  len : mg "len" = none

/-! ### mathematics of the slices -/
theorem sIx_some {n d : Nat} {i : Int} (h : 0 ≤ i) : HT.sIx n d (some i) = min i.toNat n := by
  show (if i < 0 then (i + (n : Int)).toNat else min i.toNat n) = _
  rw [if_neg (by omega)]
theorem cut_to {xs : List V} {i : Int} (h : 0 ≤ i) : cutV xs none (some i) = xs.take i.toNat := by
  unfold cutV
  rw [HT.sIx_none, sIx_some h, List.drop_zero, Nat.sub_zero, Nat.min_comm]
  exact List.take_eq_take_iff.mpr (by omega)
theorem cut_from_to {xs : List V} {i j : Int} (h : 0 ≤ i) (h2 : i ≤ j) : cutV xs (some i) (some j) = (xs.drop i.toNat).take (j.toNat - i.toNat) := by
  unfold cutV
  rw [sIx_some h, sIx_some (by omega)]
  by_cases hi : i.toNat ≤ xs.length
  · rw [Nat.min_eq_left hi]
    refine List.take_eq_take_iff.mpr ?_
    rw [List.length_drop]
    omega
  · have e1 : xs.drop (min i.toNat xs.length) = [] := List.drop_eq_nil_of_le (by omega)
    have e2 : xs.drop i.toNat = [] := List.drop_eq_nil_of_le (by omega)
    rw [e1, e2, List.take_nil, List.take_nil]
/-! ### texts by their signs -/
theorem joinL_nil : ∀ l : List (List Nat), TL.joinL [] l = l.flatten
  | [] => rfl
  | [p] => by simp [TL.joinL]
  | p :: q :: r => by
    show p ++ ([] ++ TL.joinL [] (q :: r)) = _
    rw [joinL_nil (q :: r)]
    simp
theorem tl_join0 {x : Str} (hx : TL.tl x = []) (ys : List Str) : TL.tl (Txt.join x ys) = (ys.map TL.tl).flatten := by
  rw [TL.join_eq, TL.tl_join, hx, joinL_nil]
theorem sum_len_le {k : Nat} : ∀ {ys : List Str}, (∀ y ∈ ys, y.length ≤ k) → (ys.map (·.length)).sum ≤ ys.length * k
  | [], _ => Nat.zero_le _
  | y :: r, h => by
    rw [List.map_cons, List.sum_cons, List.length_cons, Nat.succ_mul]
    have h1 := h y List.mem_cons_self
    have h2 := sum_len_le (ys := r) fun z hz => h z (List.mem_cons_of_mem _ hz)
    omega
theorem flat_all {P : Nat → Prop} {ys : List Str} (h : ∀ y ∈ ys, ∀ c ∈ TL.tl y, P c) : ∀ c ∈ (ys.map TL.tl).flatten, P c := by
  intro c hc
  obtain ⟨l, hl, hc⟩ := List.mem_flatten.mp hc
  obtain ⟨y, hy, rfl⟩ := List.mem_map.mp hl
  exact h y hy c hc
theorem flat_len {k : Nat} {ys : List Str} (h : ∀ y ∈ ys, (TL.tl y).length ≤ k) : ((ys.map TL.tl).flatten).length ≤ ys.length * k := by
  induction ys with
  | nil => exact Nat.zero_le _
  | cons y r ih =>
    rw [List.map_cons, List.flatten_cons, List.length_append, List.length_cons, Nat.succ_mul]
    have h1 := h y List.mem_cons_self
    have h2 := ih fun z hz => h z (List.mem_cons_of_mem _ hz)
    omega
def Up (c : Nat) : Prop := 65 ≤ c ∧ c ≤ 90
def Lo (c : Nat) : Prop := 97 ≤ c ∧ c ≤ 122
instance (c : Nat) : Decidable (Up c) := by unfold Up; exact inferInstance
instance (c : Nat) : Decidable (Lo c) := by unfold Lo; exact inferInstance
/-- a drawn name: its head, its tail -/
structure Nm (z : Str) (h t : List Nat) : Prop where
  e : TL.tl z = h ++ t
  up : ∀ c ∈ h, Up c
  lo : ∀ c ∈ t, Lo c
  ne : h ++ t ≠ []
  lh : h.length ≤ 3
  lt : t.length ≤ 3

/-- the reading of a store, in one step -/
theorem set_read {te : TE} {g : TG} {t : TS} {D : Ends} {σ : L2.St} {H : Hp} (h : te σ H fun x H1 => g x σ H1 (t D)) : tSeq (tAsg te g) t D σ H := h

/-! ### places, loops over pairs -/
theorem ixN_lt {n : Nat} {k : Int} (h0 : 0 ≤ k) (h1 : k < n) : ixN n k = some k.toNat := by
  unfold ixN
  rw [if_pos h0, if_pos h1]
theorem atI_lt {α : Type} {xs : List α} {k : Int} (h0 : 0 ≤ k) (h1 : k < xs.length) : ∃ v, atI xs k = some v ∧ xs[k.toNat]? = some v := by
  have hk : k.toNat < xs.length := by omega
  refine ⟨xs[k.toNat], ?_, List.getElem?_eq_getElem hk⟩
  unfold atI
  rw [ixN_lt h0 h1]
  exact List.getElem?_eq_getElem hk
theorem atI_ints {ns : List Int} {k : Int} (h0 : 0 ≤ k) (h1 : k < ns.length) : ∃ z : Int, atI (ns.map V.int) k = some (.int z) := by
  obtain ⟨v, e, g⟩ := atI_lt (xs := ns.map V.int) h0 (by rw [List.length_map]; exact h1)
  rw [List.getElem?_map] at g
  cases q : ns[k.toNat]? with
  | none =>
    rw [q] at g
    cases g
  | some z =>
    rw [q] at g
    cases g
    exact ⟨z, e⟩
theorem map_item {ns : List Int} {i : Nat} {x : V} (h : (ns.map V.int)[i]? = some x) : ∃ z, x = .int z ∧ ns[i]? = some z := by
  rw [List.getElem?_map] at h
  cases q : ns[i]? with
  | none =>
    rw [q] at h
    cases h
  | some z =>
    rw [q] at h
    cases h
    exact ⟨z, rfl, rfl⟩
/-- for i, x in enumerate(xs), xs a list that the body leaves as it is -/
theorem for_enum {K : PySem.W.Frag} {a : Addr} {xs : List V} {g : TG} {tb : TS} {D : Ends} {σ : L2.St} {H : Hp} (Pv : Nat → L2.St → Hp → Prop) (h0 : Pv 0 σ H) (hl : ∀ i σ H, Pv i σ H → SqL K H a xs)
    (hs : ∀ (i : Nat) (x : V) (σ : L2.St) (H : Hp) (T : Addr), xs[i]? = some x → H T = none → Pv i σ H → g (.ref T) σ (upd H T (.tup [.int (i : Int), x])) fun σ2 H2 => tb { D with nx := Pv (i + 1), ct := Pv (i + 1), bk := D.nx } σ2 H2)
    (hd : ∀ σ H, Pv xs.length σ H → D.nx σ H) :
    ∃ W : Nat → Nat → L2.St → Hp → Prop, (∃ m, W 0 m σ H) ∧ ∀ i m σ H, W i m σ H →
      ((Ite K a).stop i H ∧ D.nx σ H) ∨ ((Ite K a).go i H ∧ ∃ N : L2.St → Hp → Prop, (∀ σ' H', N σ' H' → ∃ m', m' < m ∧ W (i + 1) m' σ' H') ∧ ∀ x H', (Ite K a).yld i H x H' → g x σ H' fun σ2 H2 => tb { D with nx := N, ct := N, bk := D.nx } σ2 H2) := by
  refine ⟨fun i m σ H => i + m = xs.length ∧ Pv i σ H, ⟨xs.length, Nat.zero_add _, h0⟩, ?_⟩
  rintro i m σ H ⟨em, p⟩
  have q := hl i σ H p
  cases m with
  | zero =>
    have e : i = xs.length := em
    subst e
    exact .inl ⟨⟨xs, q, Nat.le_refl _⟩, hd σ H p⟩
  | succ m =>
    have hi : i < xs.length := by omega
    refine .inr ⟨⟨xs, xs[i], q, List.getElem?_eq_getElem hi⟩, Pv (i + 1), fun σ' H' p' => ⟨m, Nat.lt_succ_self m, by omega, p'⟩, fun v H' y => ?_⟩
    obtain ⟨T, x, rfl, nT, rfl, f⟩ := y
    exact hs i x σ H T (f xs q) nT p

/-! ### the promises of the law's own helpers -/
def spKneaded : Sp := fun vs H Q _ => ∃ s l : Int, vs = [.int s, .int l] ∧ ∀ r : Int, Q (.int r) H
def spPotOf (K : PySem.W.Frag) : Sp := fun vs H Q _ => ∃ (a : Addr) (ns : List Int), vs = [.ref a] ∧ SqL K H a (ns.map V.int) ∧ ns.length ≤ 63 ∧ ∀ (p c : Addr) (H' : Hp), Same H H' → H p = none → PotAt p c H' → Q (.ref p) H'
def spBelow : Sp := fun vs H Q _ => ∃ (p c : Addr) (n : Int), vs = [.ref p, .int n] ∧ PotAt p c H ∧ 0 < n ∧ n < 1073741824 ∧ ∀ (r : Int) (H' : Hp), 0 ≤ r → r < n → Ext p c H H' → Q (.int r) H'
def spPick (K : PySem.W.Frag) : Sp := fun vs H Q _ => ∃ (p c l : Addr) (xs : List V), vs = [.ref p, .ref l] ∧ PotAt p c H ∧ SqL K H l xs ∧ l ≠ p ∧ 0 < xs.length ∧ xs.length ≤ 1000 ∧ ∀ (v : V) (H' : Hp), v ∈ xs → Ext p c H H' → Q v H'
def spName : Sp := fun vs H Q _ => ∃ (p c : Addr), vs = [.ref p] ∧ PotAt p c H ∧ ∀ (z : Str) (h t : List Nat) (H' : Hp), Nm z h t → Ext p c H H' → Q (.str z) H'
theorem pot_put {p c : Addr} {H H1 : Hp} {i a b : Int} (_h0 : PotAt p c H) (e : Ext p c H H1) : Ext p c H (upd H1 p (.lst [.ref c, .int i, .int a, .int b])) := by
  obtain ⟨n, _, ns, e2, l⟩ := e.pot
  exact ⟨fun q o eq nq => by
    rw [upd_ne nq]
    exact e.keep q o eq nq, n, ⟨i, a, b, upd_same⟩, ns, by rw [upd_ne n.symm]; exact e2, l⟩
theorem eqv_ints_nil (ns : List Int) : PyData.eqv (.list (ns.map PyData.int)) (.list []) = decide (ns = []) := by
  cases ns with
  | nil => rfl
  | cons x r =>
    rw [decide_eq_false (by simp)]
    rfl
theorem dp_ints {K : PySem.W.Frag} {H : Hp} : ∀ ns : List Int, DpAll K H (ns.map V.int) (ns.map PyData.int)
  | [] => .nil
  | x :: r => .cons (.int x) (dp_ints r)
theorem shaped_ints (ns : List Int) : SeqAt.shaped (.list (ns.map PyData.int)) = true := by
  have h1 : ∀ l : List Int, PyData.canLayAll0 (l.map PyData.int) = true := fun l => by
    induction l with
    | nil => rfl
    | cons x r ih => simpa [PyData.canLayAll0, PyData.canLay0] using ih
  have h2 : ∀ l : List Int, PyData.depthAll (l.map PyData.int) = 0 := fun l => by
    induction l with
    | nil => rfl
    | cons x r ih => simpa [PyData.depthAll, PyData.depth] using ih
  unfold SeqAt.shaped
  simp [PyData.canLay0, PyData.depth, h1, h2]

/-- ''.join([pick(pot, letters) for lap in range(below(pot, n))]) -/
theorem word_read {K : PySem.W.Frag} {p c : Addr} {σ : L2.St} {H : Hp} {n : Int} {iv : Nat} {letters : List Str} {tl : TA} {Q : VK} (hL : ∀ (σ : L2.St) (H : Hp) (Q : List V → Hp → Prop), Q (letters.map V.str) H → tl σ H Q) (hne : 0 < letters.length) (hle : letters.length ≤ 1000)
    (h1 : ∀ y ∈ letters, (TL.tl y).length ≤ 1) (hσ : σ[0]? = some (some (.ref p))) (hσ2 : ∀ v : Option V, ((wipe σ [iv]).set iv v)[0]? = some (some (.ref p))) (hw : ∀ v : Option V, wipe ((wipe σ [iv]).set iv v) [iv] = wipe σ [iv])
    (hP : PotAt p c H) (hn : 0 < n) (hn2 : n ≤ 1000) (k : ∀ (ys : List Str) (H' : Hp), (∀ y ∈ ys, y ∈ letters) → (ys.length : Int) < n → Ext p c H H' → Q (.str (Txt.join "" ys)) H') :
    tM1 (fun x xs H Q => ∃ a p, ∃ ys : List Str, x = .str a ∧ xs = [.ref p] ∧ (SqL K H p (ys.map V.str) ∨ SqT K H p (ys.map V.str)) ∧ (ys.map (·.length)).sum + ys.length * a.length ≤ 16777216 ∧ Q (.str (Txt.join a ys)) H)
      (tC (.str "")) (tLc (iRng1 (tCons (tCall spBelow [] E0 (tCons (tVar 0) (tCons (tC (.int n)) tNil))) tNil)) (gName iv) tYes (tCall (spPick K) [] E0 (tCons (tVar 0) (tCons (tLst tl) tNil))) [iv]) σ H Q := by
  refine ⟨⟨_, rfl⟩, _, hσ, p, c, n, rfl, hP, hn, by omega, fun r H1 r0 r1 e1 => ⟨r, rfl, by omega, by omega, fun D nD => ?_⟩⟩
  have nD0 := e1.free nD
  have nDp : D ≠ p := hP.nep nD0
  refine lc_range (lo := 0) (n := r.toNat) (fun i H' => Ext p c H H' ∧ ∃ ys : List Str, H' D = some (.lst (ys.map V.str)) ∧ ys.length = i ∧ ∀ y ∈ ys, y ∈ letters) ⟨e1.mut hP nD0, [], upd_same, rfl, fun y h => nomatch h⟩ ?_ ?_
  · rintro i H2 hi ⟨e2, ys, hD, hl, hy⟩
    refine ⟨hw _, _, hσ2 _, hL _ _ _ ⟨by rw [List.length_map]; exact Nat.le_of_lt (small1000 hle), fun l nl => ?_⟩⟩
    refine ⟨p, c, l, letters.map V.str, rfl, e2.pot.same (same_upd nl), SqL.of upd_same, e2.pot.nep nl, by rw [List.length_map]; exact hne, by rw [List.length_map]; exact hle, fun v H3 hv e3 => ?_⟩
    obtain ⟨y, my, rfl⟩ := List.mem_map.mp hv
    have e4 := e2.trans (Ext.pre (same_upd nl) e3)
    have hD3 : H3 D = some (.lst (ys.map V.str)) := e3.get (by rw [upd_ne (ne_of_none hD nl)]; exact hD) nDp
    refine ⟨_, hD3, by rw [List.length_map, hl]; exact small1000 (by omega), e4.mut hP nD0, ys ++ [y], by rw [upd_same, List.map_append]; rfl, by rw [List.length_append, hl]; rfl, fun z hz => ?_⟩
    rcases List.mem_append.mp hz with hz | hz
    · exact hy z hz
    · rw [List.mem_singleton.mp hz]
      exact my
  · rintro H2 ⟨e2, ys, hD, hl, hy⟩
    have hs : (ys.map (·.length)).sum ≤ ys.length * 1 := sum_len_le fun y h => by
      rw [TL.len_tl]
      exact h1 y (hy y h)
    exact ⟨"", D, ys, rfl, rfl, .inl (SqL.of hD), by
      show (ys.map (·.length)).sum + ys.length * 0 ≤ 16777216
      omega, k ys H2 hy (by omega) e2⟩
end Lk

/-! Repr0 -/
set_option Elab.async false
set_option maxRecDepth 100000
set_option maxHeartbeats 4000000
namespace Lk
open PySem PySem.Spec PyProof.Rows L2

/-! ### data of any form, dicts too -/
def keyD : Key → PyData
  | .inl i => .int i
  | .inr x => .str x
mutual
inductive Th (K : PySem.W.Frag) (H : Hp) : V → PyData → Prop
  | non : Th K H .non .none
  | bl (b : Bool) : Th K H (.bl b) (.bool b)
  | int (i : Int) : Th K H (.int i) (.int i)
  | str (x : Str) : Th K H (.str x) (.str x)
  | lst {a : Addr} {xs : List V} {ds : List PyData} : SqL K H a xs → ThAll K H xs ds → Th K H (.ref a) (.list ds)
  | tup {a : Addr} {xs : List V} {ds : List PyData} : SqT K H a xs → ThAll K H xs ds → Th K H (.ref a) (.tuple ds)
  | dct {a : Addr} {kvs : List (Key × V)} {ds : List (PyData × PyData)} : H a = some (.dK kvs) → ThAll K H (kvs.map (·.2)) (ds.map (·.2)) → ds.map (·.1) = kvs.map (fun p => keyD p.1) → Th K H (.ref a) (.dict ds)
inductive ThAll (K : PySem.W.Frag) (H : Hp) : List V → List PyData → Prop
  | nil : ThAll K H [] []
  | cons {v : V} {vs : List V} {d : PyData} {ds : List PyData} : Th K H v d → ThAll K H vs ds → ThAll K H (v :: vs) (d :: ds)
end
mutual
def noLst : PyData → Bool
  | .none | .bool _ | .int _ | .str _ => true
  | .list _ => false
  | .tuple xs => noLstAll xs
  | .dict kvs => noLstKv kvs
def noLstAll : List PyData → Bool
  | [] => true
  | x :: xs => noLst x && noLstAll xs
def noLstKv : List (PyData × PyData) → Bool
  | [] => true
  | (_, v) :: r => noLst v && noLstKv r
end
theorem noLstKv_map : ∀ ds : List (PyData × PyData), noLstAll (ds.map (·.2)) = noLstKv ds
  | [] => rfl
  | (k, v) :: r => by
    show (noLst v && noLstAll (r.map (·.2))) = (noLst v && noLstKv r)
    rw [noLstKv_map r]
/-- what may be shown -/
structure Wf (d : PyData) : Prop where
  sh : d.showable = true
  lv : d.leavesShort 13 = true
  bk : d.bulk ≤ 1000000
  dp : d.depth ≤ 60
  sy : d.hasDict = false ∨ noLst d = true
section
variable {X : Cx} {pins : List (Addr × Obj)} {σ : L2.St} {H : Hp} {s : Shared}
theorem keys_read {prog : Program} {w : World} {h : Heap} : ∀ {es : List DictEntry} {kvs : List (Key × V)} {vs : List (Key × Value)}, KV kvs vs → Pairs (mixKind prog w) es vs →
    ReadsAll h (es.map (·.key)) (kvs.map fun p => keyD p.1) [] ∧ Vals (kvs.map (·.2)) (es.map (·.val))
  | _, _, _, .nil, .nil => ⟨.nil, .nil⟩
  | _, _, _, .cons (a := a) q t, .cons (e := e) h1 h2 p => by
    obtain ⟨ih1, ih2⟩ := keys_read (h := h) t p
    obtain ⟨q1, q2⟩ := q
    rw [← q1] at h1
    refine ⟨?_, .cons (by show L2.RelV a.2 e.val; rw [h2]; exact q2) ih2⟩
    obtain ⟨k, v⟩ := a
    have h1' : keyIs k e.key = true := h1
    rcases keyIs_shape h1' with ⟨i, t, rfl, e1⟩ | ⟨x, t, rfl, e1⟩
    · have r : Reads h e.key (.int i) [] := by rw [e1]; exact Reads.int i t
      exact ReadsAll.cons r ih1
    · have r : Reads h e.key (.str x) [] := by rw [e1]; exact Reads.str x t
      exact ReadsAll.cons r ih1
theorem th_reads (I : Inv X pins σ H s) {v : V} {d : PyData} (h : Th X.K H v d) : ∀ u, RelV v u → ∃ as, Reads s.heap u d as ∧ (noLst d = true → sysModules ∉ as) := by
  refine Th.rec (motive_1 := fun v d _ => ∀ u, RelV v u → ∃ as, Reads s.heap u d as ∧ (noLst d = true → sysModules ∉ as)) (motive_2 := fun vs ds _ => ∀ us, Vals vs us → ∃ as, ReadsAll s.heap us ds as ∧ (noLstAll ds = true → sysModules ∉ as))
    ?_ ?_ ?_ ?_ ?_ ?_ ?_ ?_ ?_ h
  · intro u r
    cases r
    exact ⟨_, Reads.none, fun _ h => nomatch h⟩
  · intro b u r
    cases r
    exact ⟨_, Reads.bool b, fun _ h => nomatch h⟩
  · intro i u r
    obtain ⟨t, rfl⟩ := r
    exact ⟨_, Reads.int i t, fun _ h => nomatch h⟩
  · intro x u r
    obtain ⟨t, rfl⟩ := r
    exact ⟨_, Reads.str x t, fun _ h => nomatch h⟩
  · intro a xs ds hs _ ih u r
    cases r
    obtain ⟨its, rv, ⟨o, n, ho, hc, _, hd⟩, _⟩ := I.list hs
    obtain ⟨as, hr, _⟩ := ih its rv
    exact ⟨_, Reads.list ho hc hd hr, fun z => by simp [noLst] at z⟩
  · intro a xs ds hs _ ih u r
    cases r
    obtain ⟨its, rv, ⟨o, ho, hc, n, hd⟩, _⟩ := I.tuple hs
    obtain ⟨as, hr, hn⟩ := ih its rv
    exact ⟨_, Reads.tuple ho hc hd hr, fun z => hn (by simpa [noLst] using z)⟩
  · intro a kvs ds hs _ ek ih u r
    cases r
    obtain ⟨_, hsys, vs, kv, o, es, ep, ho, ex, hd, _, hp, _⟩ := (show ObjOk X.prog X.w H s.heap a (.dK kvs) from I.hok a _ hs)
    obtain ⟨rk, rv⟩ := keys_read (h := s.heap) kv hp
    obtain ⟨bs, hr, hn⟩ := ih _ rv
    refine ⟨_, Reads.dict ho ex.1 hd (by rw [ek]; exact rk) hr, fun z hm => ?_⟩
    rcases List.mem_append.mp hm with hm | hm
    · rw [List.mem_singleton.mp hm] at hsys
      exact absurd hsys (by simp)
    · refine hn ?_ hm
      rw [noLstKv_map]
      simpa [noLst] using z
  · intro us r
    cases r
    exact ⟨_, ReadsAll.nil, fun _ h => nomatch h⟩
  · intro v vs d ds _ _ ih1 ih2 us r
    cases r with
    | cons r1 r2 =>
      obtain ⟨as, q1, n1⟩ := ih1 _ r1
      obtain ⟨bs, q2, n2⟩ := ih2 _ r2
      refine ⟨_, ReadsAll.cons q1 q2, fun z hm => ?_⟩
      have z2 : noLst d = true ∧ noLstAll ds = true := by simpa [noLstAll] using z
      rcases List.mem_append.mp hm with hm | hm
      · exact n1 z2.1 hm
      · exact n2 z2.2 hm
theorem Wf.fits {d : PyData} (h : Wf d) : d.shown.length ≤ sizeLine := PyData.shown_fits_bulk (B := 13) (by decide) (by decide) h.lv (Nat.le_trans h.bk (by decide))
/-- repr(x), x data of any form -/
def rRepr (K : PySem.W.Frag) : List V → Hp → VK → Prop := fun xs H Q => ∃ v d, xs = [v] ∧ Th K H v d ∧ Wf d ∧ Q (.str d.shown) H
theorem call_repr (hg : X.A.guards = some []) (hu : X.A.units + 64 < cLine) : CallR X (.builtin "repr") (rRepr X.K) := by
  intro pins s σ H xs us Q I r h
  obtain ⟨v, d, rfl, ht, hw, q⟩ := h
  cases r with
  | cons r1 rr =>
    cases rr
    obtain ⟨as, hr, hn⟩ := th_reads I ht _ r1
    have hz := hw.fits
    have hsm : d.hasDict = true → sysModules ∉ as := fun z => by
      rcases hw.sy with e | e
      · rw [e] at z
        cases z
      · exact hn e
    have fin : ∀ (h' : Heap) (u tk : Nat), (∀ b o, s.heap.get? b = some o → h'.get? b = some o) → EP X pins σ Q (.str d.shown u) { s with heap := h', toks := tk } := fun h' u tk k => ⟨.str d.shown, H, I.kept (t' := tk) k, ⟨u, rfl⟩, q⟩
    have hd := hw.dp
    cases hr with
    | none => exact PySem.P.repr_of_none (fin s.heap _ _ fun _ _ e => e)
    | bool b => exact PySem.P.repr_of_bool (fin s.heap _ _ fun _ _ e => e)
    | int i t => exact PySem.P.repr_of_int (by simpa [PyData.showable] using hw.sh) (fin s.heap _ _ fun _ _ e => e)
    | str x t => exact PySem.P.repr_of_str (fin s.heap _ _ fun _ _ e => e) hz
    | list h1 h2 h3 h4 => exact repr_of_reads' (.list h1 h2 h3 h4) hw.sh hsm hg (by omega) (fun _ _ e => e) (fun h' u tk k => fin h' u tk k) hz
    | tuple h1 h2 h3 h4 => exact repr_of_reads' (.tuple h1 h2 h3 h4) hw.sh hsm hg (by omega) (fun _ _ e => e) (fun h' u tk k => fin h' u tk k) hz
    | dict h1 h2 h3 h4 h5 => exact repr_of_reads' (.dict h1 h2 h3 h4 h5) hw.sh hsm hg (by omega) (fun _ _ e => e) (fun h' u tk k => fin h' u tk k) hz
end
end Lk

/-! Grd0 -/
set_option Elab.async false
set_option maxRecDepth 100000
set_option maxHeartbeats 4000000
namespace Lk
open PySem PySem.Spec PyProof.Rows L2

/-! ### defs that are called where no guard is on the stack: they may show data -/
structure FnG (P : Program) (w : World) (K : PySem.W.Frag) (mg : Str → Option Value) (base : Heap) (CX : CXT) (k : Nat) (f : Addr) (fd : FuncData) (ps : List Str) (sp : Sp) : Prop where
  len : ∀ vs H Q E, sp vs H Q E → vs.length = ps.length
  go : ∀ (A : Around) (above : List Env) (s : Shared) (H : Hp) (args : Args) (us : List Value) (vs : List V) (Q : VK) (E : XK), Room k A → A.guards = some [] →
    Env0 P w K mg base A above s H → BindsTo s fd args (ps.zip us) → Vals vs us → sp vs H Q E → codeAny (model P w) A (.call (.ref f) args) (CR CX above P w H s Q E) s
section
variable {P : Program} {w : World} {K : PySem.W.Frag} {mg : Str → Option Value} {base : Heap} {CX : CXT}
theorem fnG_of {k : Nat} {f : Addr} {nm qn : Str} {pr : Arguments} {bd : List Stmt} {sc : Scope} {d1 d2 d3 d4 cv ct oc : Value} {an od : Option Addr} {sl : Array (Option Value)} {N ps : List Str} {sp : Sp}
    (at_ : K.lookup f = some ⟨oc, od, .func (PySem.W.fnOf nm qn pr bd sc d1 d2 d3 d4 an cv ct), sl⟩) (hc : PySem.W.codeIn K cv qn = true) (S : FnScope N ps sc) (len : ∀ vs H Q E, sp vs H Q E → vs.length = ps.length)
    (hb : ∀ (A : Around) (above : List Env) (s : Shared) (H : Hp) (vs : List V) (Q : VK) (E : XK), Room k (A.deeper (envOfC qn sc s.heap.objs.size f cv)) → (A.deeper (envOfC qn sc s.heap.objs.size f cv)).guards = some [] → sp vs H Q E →
      ∃ t, PSs (cxOf CX P w K mg base N qn sc f cv A above s H E) bd t ∧ t { nx := fun _ H' => Q .non H', rt := Q } (start N vs) H) :
    FnG P w K mg base CX (k + 1) f (PySem.W.fnOf nm qn pr bd sc d1 d2 d3 d4 an cv ct) ps sp := by
  constructor
  · exact len
  · intro A above s H args us vs Q E room gd env bind rel want
    have old : ∀ b o, base.get? b = some o → s.heap.get? b = some o := fun b o e => (env.bs b o e).1
    have kin := env.mod.kin.keeps old
    have mine : ∀ y ∈ ps.zip us, sc.names.lookup y.1 = some .local ∨ (sc.names.lookup y.1 = some .cell ∧ ((cellsFrom (s.heap.objs.size + 1) sc.names []).lookup y.1).isSome = true) := by
      rintro ⟨n, v⟩ hy
      have := S.par n (List.of_mem_zip hy).1
      exact this.imp id fun c => ⟨c, PySem.W.cellsFrom_some _ _ _ (.inl c)⟩
    apply codeAny_call_function room.depth (kin _ _ at_) rfl S.co S.gen rfl (PySem.W.codeRec_of kin hc)
    apply bind
    apply wpAny_newFunctionEnv_cells S.kind mine
    intro env1 he s1 inside
    subst he
    refine ⟨(env.mod.nolimit.keeps old).keeps inside.toInCall.keep, codeAny_func ?_⟩
    obtain ⟨t, walk, read⟩ := hb A above s H vs Q E (room.deeper _) gd want
    have I0 := inv_start (CX := CX) (P := P) (w := w) (E := E) S room.hd env (len _ _ _ _ want) rel inside
    apply wpAny_mono (walk.run [] s1 (start N vs) H _ I0 read)
    · intro fl s2 out
      match fl, out with
      | .ret u, ⟨v, σ', H', J, rv, q⟩ => exact ⟨v, H', J.os, J.bare, J.base, J.hok, rv, q⟩
      | .next, ⟨σ', H', J, q⟩ => exact ⟨V.non, H', J.os, J.bare, J.base, J.hok, rfl, q⟩
      | .brk, ⟨_, _, _, q⟩ => exact False.elim q
      | .cont, ⟨_, _, _, q⟩ => exact False.elim q
    · intro e s2 out
      exact out
structure CalG (P : Program) (w : World) (K : PySem.W.Frag) (mg : Str → Option Value) (base : Heap) (CX : CXT) (k : Nat) (x : String) (sp : Sp) : Prop where
  ex : ∃ (f : Addr) (fd : FuncData) (ps : List Str), FnG P w K mg base CX k f fd ps sp ∧ mg x = some (.ref f) ∧ PySem.W.keepIn K (.ref f) = true ∧ Binds K fd ps []
theorem mkCalG {x : String} {st : Stmt} {N ps : List Str} {k : Nat} {sp : Sp} (D : Def1 K mg x st) (S : FnScope N ps (defScope st))
    (hb : ∀ (kV doc pm : Value) (an : Option Addr) (cdv ct : Value) (us : List Value), us.length = ps.length → bindArgs (PySem.W.fnOf x x (defArgs st) (defBody st) (defScope st) .none kV doc pm an cdv ct) ⟨us, []⟩ = pure (ps.zip us))
    (len : ∀ vs H Q E, sp vs H Q E → vs.length = ps.length)
    (body : ∀ (f : Addr) (cdv : Value) (A : Around) (above : List Env) (s : Shared) (H : Hp) (vs : List V) (Q : VK) (E : XK), Room k (A.deeper (envOfC x (defScope st) s.heap.objs.size f cdv)) →
      (A.deeper (envOfC x (defScope st) s.heap.objs.size f cdv)).guards = some [] → sp vs H Q E →
      ∃ t, PSs (cxOf CX P w K mg base N x (defScope st) f cdv A above s H E) (defBody st) t ∧ t { nx := fun _ H' => Q .non H', rt := Q } (start N vs) H) : CalG P w K mg base CX (k + 1) x sp := by
  obtain ⟨f, fd, F, m⟩ := D.ex
  have b := F.binds hb
  have kp := F.kp
  obtain ⟨oc, od, kV, doc, pm, an, cdv, ct, sl, rfl, lk, hcd⟩ := F.ex
  exact ⟨f, _, ps, fnG_of lk hcd S len fun A above s H vs Q E hr hg h => body f cdv A above s H vs Q E hr hg h, m, kp, b⟩
/-- the whole law, from its promise -/
theorem lawG {mb : Str → Option Value} {k : Nat} {fa a : Addr} {fd : FuncData} {x : Str} {sp : Sp} {s : Shared} {vs : List Value} {ns : List Int}
    (KX : K.In s.heap) (gl : s.heap.Ns mainGlobals mg) (bl : s.heap.Ns builtinsNs mb) (bb : ∀ x : Str, x ≠ "__name__" → mb x = bootBuiltins x) (nl : s.heap.NoLimit) (gens : s.gens = #[])
    (ha : s.heap.get? a = some { cls := .type "list", data := .seq vs.toArray }) (hin : IntsAre vs ns) (short : ns.length ≤ sizeLine) (room : Room k callerA)
    (F : ∀ base : Heap, K.In base → base.Ns mainGlobals mg → FnG P w K mg base CX k fa fd [x] sp) (bind : ∀ (s : Shared) (u : Value), BindsTo s fd ⟨[u], []⟩ [(x, u)])
    (prom : ∀ H : Hp, Only H → SqL K H a (ns.map V.int) → sp [.ref a] H (fun v _ => v = .bl true) fun _ _ _ => False)
    (noX : ∀ H e s', CX [] H s (fun _ _ _ => False) e s' → False) :
    codeAny (model P w) callerA (.call (.ref fa) ⟨[.ref a], []⟩) (fun r s' => r = .ok (.ret (.bool true)) ∧ OldK s.heap s'.heap ∧ s'.os = s.os ∧ AllBare s'.gens) s := by
  have vals := vals_ints hin
  have run : ∀ H : Hp, Only H → SqL K H a (ns.map V.int) → HOk P w H s.heap → (∀ b, H b ≠ none → b = a ∧ K.lookup a = none) →
      codeAny (model P w) callerA (.call (.ref fa) ⟨[.ref a], []⟩) (fun r s' => r = .ok (.ret (.bool true)) ∧ OldK s.heap s'.heap ∧ s'.os = s.os ∧ AllBare s'.gens) s := by
    intro H only seq ok here
    have dicts : ∀ {b : Addr} {m : Str → Option Value}, s.heap.Ns b m → (hidT s.heap H).Ns b m := by
      rintro b m ⟨o, es, ep, e, d, r⟩
      refine ⟨o, es, ep, hidT_get e ?_, d, r⟩
      apply Classical.byContradiction
      intro z
      obtain ⟨rfl, _⟩ := here b z
      rw [ha] at e
      cases e
      cases d
    have kb : K.In (hidT s.heap H) := by
      intro b o e
      refine hidT_get (KX b o e) ?_
      apply Classical.byContradiction
      intro z
      obtain ⟨rfl, q⟩ := here b z
      rw [q] at e
      cases e
    have md : Mod K mg (hidT s.heap H) := ⟨kb, dicts gl, ⟨mb, dicts bl, bb⟩, by
      obtain ⟨mc, h1, h2⟩ := nl
      exact ⟨mc, dicts h1, h2⟩⟩
    have nof : ∀ b ∈ frs ([] : List Env), H b = none := by
      intro b i
      have i2 : b ∈ ([] : List Addr) := i
      cases i2
    have env : Env0 P w K mg (hidT s.heap H) callerA [] s H := ⟨rfl, md, fun b o e => of_hidT e, Nat.le_of_eq (hidT_size _ _), trivial, nof, ok, .of_eq gens⟩
    apply codeAny_mono ((F _ kb (dicts gl)).go callerA [] s H ⟨[.ref a], []⟩ [.ref a] [.ref a] _ _ room rfl env (bind s (.ref a)) (.cons rfl .nil) (prom H only seq))
    intro r s' out
    match r, out with
    | .error e, out => exact (noX H e s' out).elim
    | .ok .next, out => exact False.elim out
    | .ok .brk, out => exact False.elim out
    | .ok .cont, out => exact False.elim out
    | .ok (.ret u), ⟨v, H', os, bare, un, ok', rel, q⟩ =>
      have e1 : v = .bl true := q
      rw [e1] at rel
      have e2 : u = Value.bool true := rel
      rw [e2]
      refine ⟨rfl, OldK.of_keep ?_, os, bare⟩
      intro b o e
      rcases only b with z | ⟨ob, xs, z⟩
      · exact un.keep b o e z (by
          intro i
          have i2 : b ∈ ([] : List Addr) := i
          cases i2) (by
          intro i
          cases i)
      · have after := (ok' b _ (un.frzs b ob _ z)).1
        rw [(ok b _ z).1] at e
        cases e
        exact after
  match q : K.lookup a with
  | some o =>
    have same := KX a o q
    rw [ha] at same
    cases same
    exact run (fun _ => none) (fun _ => .inl rfl) (.inr ⟨_, vs.toArray, _, q, rfl, rfl, rfl, by rw [List.size_toArray, hin.length]; exact short, by simpa using vals⟩) (fun b u z => nomatch z) fun b z => absurd rfl z
  | none =>
    have mine : ∀ {b : Addr} {u : HO}, (fun b => if b = a then some (HO.frz { cls := .type "list", data := .seq vs.toArray } (.lst (ns.map V.int))) else none) b = some u → b = a ∧ u = HO.frz { cls := .type "list", data := .seq vs.toArray } (.lst (ns.map V.int)) := by
      intro b u z
      by_cases h : b = a
      · exact ⟨h, (Option.some.inj ((if_pos h).symm.trans z)).symm⟩
      · exact absurd ((if_neg h).symm.trans z) (by simp)
    refine run (fun b => if b = a then some (.frz { cls := .type "list", data := .seq vs.toArray } (.lst (ns.map V.int))) else none) (fun b => ?_) (.inl (.inr ⟨{ cls := .type "list", data := .seq vs.toArray }, if_pos rfl⟩)) (fun b u z => ?_) fun b z => ⟨?_, q⟩
    · by_cases h : b = a
      · exact .inr ⟨_, _, if_pos h⟩
      · exact .inl (if_neg h)
    · obtain ⟨rfl, rfl⟩ := mine z
      exact ⟨ha, by rw [List.length_map]; exact short, vs, _, vals, ha⟩
    · apply Classical.byContradiction
      intro h
      exact z (if_neg h)
end
/-- the goal that the law's head leaves, from the law's promise -/
theorem walkG {l : PySem.W.OpenLaw} {k : Nat} {q : Program} {loose : List Str} {XP : (Str → Option Value) → Heap → Prop} {YP : World → Heap → Prop} {d : DefRec} {K : Params → PySem.W.Frag} {CX : World → CXT} {sp : World → Sp} {x : Str}
    (most : l.most = some 63) (noD : d.params.defaults = []) (room : Room k callerA) (hY : ∀ (w : World) (h : Heap), YP w h → (K w.params).In h)
    (F : ∀ (w : World) (mg : Str → Option Value) (fa : Addr) (h : Heap), (K w.params).In h → h.Ns mainGlobals mg → mg d.name = some (.ref fa) →
      ∃ fd : FuncData, (∀ (s : Shared) (u : Value), BindsTo s fd ⟨[u], []⟩ [(x, u)]) ∧ ∀ base : Heap, (K w.params).In base → base.Ns mainGlobals mg → FnG l.prog w (K w.params) mg base (CX w) k fa fd [x] (sp w))
    (prom : ∀ (w : World) (H : Hp) (a : Addr) (ns : List Int), ns.length ≤ 63 → Only H → SqL (K w.params) H a (ns.map V.int) → sp w [.ref a] H (fun v _ => v = .bl true) fun _ _ _ => False)
    (noX : ∀ (w : World) (H : Hp) (s : Shared) (e : Value) (s' : Shared), CX w [] H s (fun _ _ _ => False) e s' → False) :
    PySem.W.WalkO q loose XP YP l.row.toRowW d [] (fun f vs => PySem.call f vs) := by
  apply Att.attach_call most noD
  intro w s0 s1 mg mb fa o pm cd doc a vs ns G Y ho hd hcd hmg hobj hints hlen hg
  obtain ⟨fd, hb, hF⟩ := F w mg fa _ (hY w _ Y) G.T.g hmg
  exact lawG (hY w _ Y) G.T.g G.T.b G.T.builtins G.T.nolimit hg hobj hints (Nat.le_trans hlen (by decide)) room hF hb (fun H only seq => prom w H a ns hlen only seq) fun H e s' => noX w H s1 e s'
end Lk

/-! Nam0 -/
set_option Elab.async false
set_option maxRecDepth 100000
set_option maxHeartbeats 4000000
namespace Lk
open PySem PySem.Spec PyProof.Rows L2

def upB (c : Nat) : Bool := decide (65 ≤ c) && decide (c ≤ 90)
def loB (c : Nat) : Bool := decide (97 ≤ c) && decide (c ≤ 122)
def capS : Str := "ABCDEFGHIJKLMNOPQRSTUVWXYZ"
def smaS : Str := "abcdefghijklmnopqrstuvwxyz"
theorem range_has {n k c : Nat} : (List.range' n k).contains c = (decide (n ≤ c) && decide (c < n + k)) := by
  rw [Bool.eq_iff_iff]
  simp [List.mem_range'_1]
theorem cap_has (c : Nat) : capS.cps.contains c = upB c := by
  have e : capS.cps.toList = List.range' 65 26 := by decide +kernel
  rw [← Array.contains_toList, e, range_has, Bool.eq_iff_iff]
  simp [upB]
  omega
theorem sma_has (c : Nat) : smaS.cps.contains c = loB c := by
  have e : smaS.cps.toList = List.range' 97 26 := by decide +kernel
  rw [← Array.contains_toList, e, range_has, Bool.eq_iff_iff]
  simp [loB]
  omega
/-! ### strip -/
theorem drop_tw (p : Nat → Bool) : ∀ l : List Nat, l.drop (l.takeWhile p).length = l.dropWhile p
  | [] => rfl
  | c :: r => by
    rw [List.takeWhile_cons, List.dropWhile_cons]
    by_cases h : p c = true
    · rw [if_pos h, if_pos h]
      exact drop_tw p r
    · rw [if_neg h, if_neg h]
      rfl
theorem tw_len (p : Nat → Bool) : ∀ l : List Nat, (l.takeWhile p).length ≤ l.length
  | [] => Nat.le_refl _
  | c :: r => by
    rw [List.takeWhile_cons]
    split
    · exact Nat.succ_le_succ (tw_len p r)
    · exact Nat.zero_le _
theorem tl_lstrip (p : Nat → Bool) (x : Str) : TL.tl (Txt.stripBy p true false x) = (TL.tl x).dropWhile p := by
  have hlo : stripLo p true x = ((TL.tl x).takeWhile p).length := if_pos rfl
  have hhi : stripHi p false x (stripLo p true x) = x.length := if_neg Bool.false_ne_true
  unfold Txt.stripBy
  by_cases h : stripSame p true false x = true
  · rw [if_pos h]
    have h0 : stripLo p true x = 0 := by
      unfold stripSame at h
      rw [Bool.and_eq_true] at h
      exact beq_iff_eq.mp h.1
    rw [← drop_tw, ← hlo, h0]
    rfl
  · rw [if_neg h]
    unfold stripped
    rw [hhi, TL.tl_strSub_end, hlo, drop_tw]
theorem dw_all {p : Nat → Bool} : ∀ l : List Nat, (l.dropWhile p = [] ↔ l.all p = true)
  | [] => by simp
  | c :: r => by
    rw [List.dropWhile_cons, List.all_cons]
    by_cases h : p c = true
    · rw [if_pos h, h, Bool.true_and]
      exact dw_all r
    · rw [if_neg h]
      simp [h]
theorem tl_strip (p : Nat → Bool) (x : Str) : TL.tl (Txt.stripBy p true true x) = [] ↔ (TL.tl x).all p = true := by
  have hl : x.length = (TL.tl x).length := TL.len_tl x
  have hlo : stripLo p true x = ((TL.tl x).takeWhile p).length := if_pos rfl
  have hhi : ∀ k, stripHi p true x k = x.length - (((TL.tl x).drop k).reverse.takeWhile p).length := fun k => if_pos rfl
  have key : TL.tl (Txt.stripBy p true true x) = ((TL.tl x).drop (stripLo p true x)).take (stripHi p true x (stripLo p true x) - stripLo p true x) := by
    unfold Txt.stripBy
    by_cases h : stripSame p true true x = true
    · rw [if_pos h]
      unfold stripSame at h
      rw [Bool.and_eq_true] at h
      have h0 := beq_iff_eq.mp h.1
      have h1 := beq_iff_eq.mp h.2
      rw [h1, h0, List.drop_zero, Nat.sub_zero, hl, List.take_length]
    · rw [if_neg h]
      unfold stripped
      rw [TL.tl_strSub]
  rw [key, hlo, drop_tw, hhi, drop_tw]
  cases e : (TL.tl x).dropWhile p with
  | nil =>
    rw [List.take_nil]
    exact ⟨fun _ => (dw_all _).mp e, fun _ => rfl⟩
  | cons c r =>
    have hc : p c = false := by
      have := List.head?_dropWhile_not p (TL.tl x)
      rw [e] at this
      simpa using this
    constructor
    · intro h
      exfalso
      have hlen : (c :: r).length + ((TL.tl x).takeWhile p).length = (TL.tl x).length := by
        rw [← e, ← drop_tw, List.length_drop]
        have := tw_len p (TL.tl x)
        omega
      have hrev : (((c :: r).reverse).takeWhile p).length ≤ r.length := by
        rw [List.reverse_cons]
        by_cases ha : r.reverse.all p = true
        · rw [List.takeWhile_append_of_pos (by simpa using ha), List.takeWhile_cons, if_neg (by rw [hc]; decide)]
          simp
        · have := tw_len p (r.reverse ++ [c])
          have h2 : ((r.reverse ++ [c]).takeWhile p).length ≠ (r.reverse ++ [c]).length := fun z => by
            have e2 : (r.reverse ++ [c]).takeWhile p = r.reverse ++ [c] := (List.takeWhile_sublist p).eq_of_length z
            have := List.all_takeWhile (p := p) (l := r.reverse ++ [c])
            rw [e2, List.all_append, Bool.and_eq_true] at this
            exact ha this.1
          rw [List.length_append, List.length_reverse, List.length_singleton] at this h2
          omega
      rw [List.length_cons] at hlen
      have : (List.take (x.length - (((c :: r).reverse).takeWhile p).length - ((TL.tl x).takeWhile p).length) (c :: r)).length = 0 := by rw [h]; rfl
      rw [List.length_take, List.length_cons] at this
      omega
    · intro h
      have := (dw_all _).mpr h
      rw [e] at this
      cases this

/-! ### what a name, an end, a pattern is -/
def nmB (l : List Nat) : Bool := !l.isEmpty && (l.dropWhile upB).all loB
def dName : PyData → Bool
  | .str x => nmB (TL.tl x)
  | _ => false
def dEnd (p : Nat → Bool) : PyData → Bool
  | .str x => decide (x.length ≤ 3) && (TL.tl x).all p
  | _ => false
def isE : PyData → Bool
  | .str x => decide (x = "")
  | _ => false
def dPat : PyData → Bool
  | .tuple [b, e] => dEnd upB b && (dEnd loB e && !(isE b && isE e))
  | _ => false
/-! ### types of data -/
def tyN : PyData → String
  | .none => "NoneType" | .bool _ => "bool" | .int _ => "int" | .str _ => "str" | .list _ => "list" | .tuple _ => "tuple" | .dict _ => "dict"
def isStr : PyData → Bool
  | .str _ => true
  | _ => false
def isTup : PyData → Bool
  | .tuple _ => true
  | _ => false
def isDct : PyData → Bool
  | .dict _ => true
  | _ => false
def isLst : PyData → Bool
  | .list _ => true
  | _ => false
theorem th_ty {K : PySem.W.Frag} {H : Hp} {v : V} {d : PyData} (h : Th K H v d) : TyX K H v (.type (tyN d)) := by
  cases h with
  | non => exact .base .non
  | bl b => exact .base (.bl b)
  | int i => exact .base (.int i)
  | str x => exact .base (.str x)
  | lst h _ =>
    rcases h with (h | ⟨o, h⟩) | ⟨o, its, n, h, hc, _⟩
    · exact .base (.lst h)
    · exact .base (.frz h)
    · exact .kList h hc
  | tup h _ =>
    rcases h with (h | ⟨o, h⟩) | ⟨o, its, n, h, hc, _⟩
    · exact .base (.tup h)
    · exact .fTuple h
    · exact .kTuple h hc
  | dct h _ _ => exact .base (.dK h)
theorem kit_str {K : PySem.W.Frag} : ∀ d : PyData, PySem.W.kitOne K (.type (tyN d)) (.type "str") = some (isStr d)
  | .none => kit_ty (show kitB "NoneType" "str" = some false by decide +kernel)
  | .bool _ => kit_ty (show kitB "bool" "str" = some false by decide +kernel)
  | .int _ => kit_ty (show kitB "int" "str" = some false by decide +kernel)
  | .str _ => kit_ty (show kitB "str" "str" = some true by decide +kernel)
  | .list _ => kit_ty (show kitB "list" "str" = some false by decide +kernel)
  | .tuple _ => kit_ty (show kitB "tuple" "str" = some false by decide +kernel)
  | .dict _ => kit_ty (show kitB "dict" "str" = some false by decide +kernel)
theorem kit_tup {K : PySem.W.Frag} : ∀ d : PyData, PySem.W.kitOne K (.type (tyN d)) (.type "tuple") = some (isTup d)
  | .none => kit_ty (show kitB "NoneType" "tuple" = some false by decide +kernel)
  | .bool _ => kit_ty (show kitB "bool" "tuple" = some false by decide +kernel)
  | .int _ => kit_ty (show kitB "int" "tuple" = some false by decide +kernel)
  | .str _ => kit_ty (show kitB "str" "tuple" = some false by decide +kernel)
  | .list _ => kit_ty (show kitB "list" "tuple" = some false by decide +kernel)
  | .tuple _ => kit_ty (show kitB "tuple" "tuple" = some true by decide +kernel)
  | .dict _ => kit_ty (show kitB "dict" "tuple" = some false by decide +kernel)
theorem kit_lst {K : PySem.W.Frag} : ∀ d : PyData, PySem.W.kitOne K (.type (tyN d)) (.type "list") = some (isLst d)
  | .none => kit_ty (show kitB "NoneType" "list" = some false by decide +kernel)
  | .bool _ => kit_ty (show kitB "bool" "list" = some false by decide +kernel)
  | .int _ => kit_ty (show kitB "int" "list" = some false by decide +kernel)
  | .str _ => kit_ty (show kitB "str" "list" = some false by decide +kernel)
  | .list _ => kit_ty (show kitB "list" "list" = some true by decide +kernel)
  | .tuple _ => kit_ty (show kitB "tuple" "list" = some false by decide +kernel)
  | .dict _ => kit_ty (show kitB "dict" "list" = some false by decide +kernel)
/-- a module's constant -/
def Con1 (mg : Str → Option Value) (x : String) (v : V) : Prop := ∃ u, mg x = some u ∧ RelV v u
section
variable {X : Cx} {x : String} {v : V} {pos : Pos}
theorem pe_con1 (h : Con1 X.mg x v) (hg : Gl X x := by rfl) (hd : ((x : Str) == ("__debug__" : Str)) = false := by decide) : PE X (.Name x pos) (tC v) := by
  obtain ⟨u, e, r⟩ := h
  exact pe_glob hg e r hd
/-- isinstance(e, T), T one built-in class -/
theorem pe_isi {T : String} {e : Expr} {te : TE} {p q pos : Pos} (he : PE X e te) (hm : X.mg "isinstance" = none) (hT : X.mg T = none) (hb : bootBuiltins T = some (.type T)) (hg : Gl X "isinstance" := by rfl) (hgT : Gl X T := by rfl)
    (hn : (T : Str) ≠ "__name__" := by decide) (hd : ((T : Str) == ("__debug__" : Str)) = false := by decide) (h1 : starEach [e, .Name T q] X.env = (false, eval e X.env) :: starEach [.Name T q] X.env := by rfl) (h2 : starEach [.Name T q] X.env = (false, eval (.Name T q) X.env) :: starEach [] X.env := by rfl)
    (h3 : (backTo pos (starEach [.Name T q] X.env)).any (·.1) = false := by rfl) :
    PE X (.Call (.Name "isinstance" p) [e, .Name T q] [] pos) (tCB (rIsi X.K) (tCons te (tCons (tC (.ty T)) tNil))) :=
  pe_callB call_isi hg hm (by decide +kernel) (pa_cons he (pa_cons (pe_bltn (v := .ty T) hgT hT hb rfl hn hd) pa_nil h2) h1) (he := h1) (hpl := h3)
end
/-! ### promises of the program's first functions -/
structure Glc (mg : Str → Option Value) : Prop where
  isinst : mg "isinstance" = none
  str : mg "str" = none
  tuple : mg "tuple" = none
  caps : Con1 mg "CAPITALS" (.str capS)
  smalls : Con1 mg "SMALLS" (.str smaS)
  ends : Con1 mg "MOST_END_LETTERS" (.int 3)
def spIsName (K : PySem.W.Frag) : Sp := fun vs H Q _ => ∃ v d, vs = [v] ∧ Th K H v d ∧ d.bulk ≤ 1000000 ∧ Q (.bl (dName d)) H
def spIsEnd (K : PySem.W.Frag) : Sp := fun vs H Q _ => ∃ v d L p, vs = [v, .str L] ∧ Th K H v d ∧ d.bulk ≤ 1000000 ∧ (∀ c, L.cps.contains c = p c) ∧ Q (.bl (dEnd p d)) H
def spIsPat (K : PySem.W.Frag) : Sp := fun vs H Q _ => ∃ v d, vs = [v] ∧ Th K H v d ∧ d.bulk ≤ 1000000 ∧ Q (.bl (dPat d)) H
def spIsSrc (K : PySem.W.Frag) : Sp := fun vs H Q _ => ∃ v d, vs = [v] ∧ Th K H v d ∧ d.bulk ≤ 1000000 ∧ Q (.bl (dPat d || dName d)) H
theorem not_str {d : PyData} (h : isStr d = false) : dName d = false ∧ (∀ p, dEnd p d = false) ∧ isE d = false := by
  cases d with
  | str x => cases h
  | _ => exact ⟨rfl, fun _ => rfl, rfl⟩
theorem th_str {K : PySem.W.Frag} {H : Hp} {v : V} {d : PyData} (h : Th K H v d) (e : isStr d = true) : ∃ x, v = .str x ∧ d = .str x := by
  cases h with
  | str x => exact ⟨x, rfl, rfl⟩
  | _ => cases e
theorem th_tup {K : PySem.W.Frag} {H : Hp} {v : V} {d : PyData} (h : Th K H v d) (e : isTup d = true) : ∃ a xs ds, v = .ref a ∧ d = .tuple ds ∧ SqT K H a xs ∧ ThAll K H xs ds := by
  cases h with
  | tup hs ha => exact ⟨_, _, _, rfl, rfl, hs, ha⟩
  | _ => cases e
theorem thAll_len {K : PySem.W.Frag} {H : Hp} : ∀ {xs : List V} {ds : List PyData}, ThAll K H xs ds → xs.length = ds.length
  | _, _, .nil => rfl
  | _, _, .cons _ t => congrArg (· + 1) (thAll_len t)
theorem tl_nil_iff {x : Str} : TL.tl x = [] ↔ x = "" := ⟨fun h => TL.ext_tl (by rw [h]; decide +kernel), fun h => by rw [h]; decide +kernel⟩
theorem not_pat {d : PyData} (h : isTup d = false) : dPat d = false := by
  cases d with
  | tuple xs => cases h
  | _ => rfl
theorem not_pat2 : ∀ {ds : List PyData}, ds.length ≠ 2 → dPat (.tuple ds) = false
  | [], _ => rfl
  | [_], _ => rfl
  | [_, _], h => absurd rfl h
  | _ :: _ :: _ :: _, _ => rfl
theorem th_two {K : PySem.W.Frag} {H : Hp} : ∀ {xs : List V} {ds : List PyData}, ThAll K H xs ds → xs.length = 2 → ∃ b c db dc, xs = [b, c] ∧ ds = [db, dc] ∧ Th K H b db ∧ Th K H c dc
  | _, _, .nil, h => nomatch h
  | _, _, .cons _ .nil, h => nomatch h
  | _, _, .cons h1 (.cons h2 .nil), _ => ⟨_, _, _, _, rfl, rfl, h1, h2⟩
  | _, _, .cons _ (.cons _ (.cons _ _)), h => by simp at h
theorem th_three {K : PySem.W.Frag} {H : Hp} : ∀ {xs : List V} {ds : List PyData}, ThAll K H xs ds → xs.length = 3 → ∃ a b c da db dc, xs = [a, b, c] ∧ ds = [da, db, dc] ∧ Th K H a da ∧ Th K H b db ∧ Th K H c dc
  | _, _, .nil, h => nomatch h
  | _, _, .cons _ .nil, h => nomatch h
  | _, _, .cons _ (.cons _ .nil), h => nomatch h
  | _, _, .cons h1 (.cons h2 (.cons h3 .nil)), _ => ⟨_, _, _, _, _, _, rfl, rfl, h1, h2, h3⟩
  | _, _, .cons _ (.cons _ (.cons _ (.cons _ _))), h => by simp at h
theorem end_str {p : Nat → Bool} {d : PyData} (h : dEnd p d = true) : isStr d = true := by
  cases d with
  | str x => rfl
  | _ => cases h
end Lk

/-! Nam1 -/
set_option Elab.async false
set_option maxRecDepth 100000
set_option maxHeartbeats 4000000
namespace Lk
open PySem PySem.Spec PyProof.Rows L2

theorem lt1 {c d : Nat} : decide (([c] : List Nat) < [d]) = decide (c < d) := by
  rw [Bool.eq_iff_iff, decide_eq_true_iff, decide_eq_true_iff, List.cons_lt_cons_iff]
  constructor
  · rintro (h | ⟨_, h⟩)
    · exact h
    · exact absurd h (List.lt_irrefl _)
  · exact fun h => .inl h
/-- a sign as a text -/
abbrev sg (c : Nat) : Str := ⟨#[c]⟩
theorem tl_sg (c : Nat) : TL.tl (sg c) = [c] := rfl
theorem le_sg {x : Str} {a c : Nat} (h : TL.tl x = [a]) : (!decide ((sg c).cps.toList < x.cps.toList)) = decide (a ≤ c) := by
  rw [show x.cps.toList = [a] from h]
  show (!decide (([c] : List Nat) < [a])) = _
  rw [lt1, Bool.eq_iff_iff]
  simp
theorem sg_le {x : Str} {a c : Nat} (h : TL.tl x = [a]) : (!decide (x.cps.toList < (sg c).cps.toList)) = decide (c ≤ a) := by
  rw [show x.cps.toList = [a] from h]
  show (!decide (([a] : List Nat) < [c])) = _
  rw [lt1, Bool.eq_iff_iff]
  simp
theorem tl_cut_to {z : Str} {k : Nat} (h : k ≤ z.length) : TL.tl (cutS z none (some (k : Int))) = (TL.tl z).take k := by
  show ((z.cps.toList.drop (HT.sIx z.length 0 none)).take (HT.sIx z.length z.length (some (k : Int)) - HT.sIx z.length 0 none)) = _
  rw [HT.sIx_none, HT.sIx_nat, Nat.min_eq_left h, List.drop_zero, Nat.sub_zero]
theorem tl_cut_from {z : Str} {k : Nat} (h : k ≤ z.length) : TL.tl (cutS z (some (k : Int)) none) = (TL.tl z).drop k := by
  show ((z.cps.toList.drop (HT.sIx z.length 0 (some (k : Int)))).take (HT.sIx z.length z.length none - HT.sIx z.length 0 (some (k : Int)))) = _
  rw [HT.sIx_none, HT.sIx_nat, Nat.min_eq_left h]
  refine List.take_of_length_le ?_
  have := TL.len_tl z
  rw [List.length_drop]
  show (TL.tl z).length - k ≤ _
  omega
/-- a comprehension over a text's signs: Pv by the signs taken -/
theorem lc_str {x : Str} {g : TG} {tt : TT} {te : TE} {vs : List Nat} {σ : L2.St} {H1 : Hp} {D : Addr} {Qd : Hp → Prop} (Pv : List Nat → Hp → Prop) (h0 : Pv [] (upd H1 D (.lst [])))
    (hs : ∀ pre c post H, TL.tl x = pre ++ c :: post → Pv pre H → g (.str (sg c)) (wipe σ vs) H fun σ2 H2 => wipe σ2 vs = wipe σ vs ∧ tt σ2 H2 fun b H3 =>
      if b = true then te σ2 H3 fun y H4 => ∃ acc, H4 D = some (.lst acc) ∧ acc.length < sizeLine ∧ Pv (pre ++ [c]) (upd H4 D (.lst (acc ++ [y]))) else Pv (pre ++ [c]) H3) (hd : ∀ H, Pv (TL.tl x) H → Qd H) :
    ∃ W : Nat → Nat → Hp → Prop, (∃ m, W 0 m (upd H1 D (.lst []))) ∧ ∀ i m H, W i m H →
      ((Its x).stop i H ∧ Qd H) ∨ ((Its x).go i H ∧ ∃ Nx : Hp → Prop, (∀ H', Nx H' → ∃ m', m' < m ∧ W (i + 1) m' H') ∧ ∀ y H', (Its x).yld i H y H' → g y (wipe σ vs) H' fun σ2 H2 => wipe σ2 vs = wipe σ vs ∧ tt σ2 H2 fun b H3 =>
        if b = true then te σ2 H3 fun y H4 => ∃ acc, H4 D = some (.lst acc) ∧ acc.length < sizeLine ∧ Nx (upd H4 D (.lst (acc ++ [y]))) else Nx H3) := by
  have hl : x.cps.size = (TL.tl x).length := TL.len_tl x
  refine ⟨fun i m H => i + m = (TL.tl x).length ∧ Pv ((TL.tl x).take i) H, ⟨_, Nat.zero_add _, h0⟩, ?_⟩
  rintro i m H ⟨em, p⟩
  cases m with
  | zero =>
    refine .inl ⟨by show x.cps.size ≤ i; omega, hd H ?_⟩
    rw [List.take_of_length_le (by omega)] at p
    exact p
  | succ m =>
    have hi : i < (TL.tl x).length := by omega
    have split : TL.tl x = (TL.tl x).take i ++ (TL.tl x)[i] :: (TL.tl x).drop (i + 1) := by
      rw [← List.drop_eq_getElem_cons hi, List.take_append_drop]
    have more : (TL.tl x).take (i + 1) = (TL.tl x).take i ++ [(TL.tl x)[i]] := List.take_succ_eq_append_getElem hi
    refine .inr ⟨by show i < x.cps.size; omega, Pv ((TL.tl x).take (i + 1)), fun H' p' => ⟨m, Nat.lt_succ_self m, by omega, p'⟩, ?_⟩
    rintro y H' ⟨rfl, c, hc, rfl⟩
    have ec : c = (TL.tl x)[i] := by
      have : (TL.tl x)[i]? = some c := by
        show x.cps.toList[i]? = some c
        rw [Array.getElem?_toList]
        exact hc
      rw [List.getElem?_eq_getElem hi] at this
      exact (Option.some.inj this).symm
    subst ec
    rw [more]
    exact hs _ _ _ _ split p
/-- for c in x, x a text -/
theorem for_str {x : Str} {g : TG} {tb : TS} {D : Ends} {σ : L2.St} {H : Hp} (Pv : List Nat → L2.St → Hp → Prop) (h0 : Pv [] σ H)
    (hs : ∀ pre c post σ H, TL.tl x = pre ++ c :: post → Pv pre σ H → g (.str (sg c)) σ H fun σ2 H2 => tb { D with nx := Pv (pre ++ [c]), ct := Pv (pre ++ [c]), bk := D.nx } σ2 H2)
    (hd : ∀ σ H, Pv (TL.tl x) σ H → D.nx σ H) :
    ∃ W : Nat → Nat → L2.St → Hp → Prop, (∃ m, W 0 m σ H) ∧ ∀ i m σ H, W i m σ H →
      ((Its x).stop i H ∧ D.nx σ H) ∨ ((Its x).go i H ∧ ∃ N : L2.St → Hp → Prop, (∀ σ' H', N σ' H' → ∃ m', m' < m ∧ W (i + 1) m' σ' H') ∧ ∀ y H', (Its x).yld i H y H' → g y σ H' fun σ2 H2 => tb { D with nx := N, ct := N, bk := D.nx } σ2 H2) := by
  have hl : x.cps.size = (TL.tl x).length := TL.len_tl x
  refine ⟨fun i m σ H => i + m = (TL.tl x).length ∧ Pv ((TL.tl x).take i) σ H, ⟨_, Nat.zero_add _, h0⟩, ?_⟩
  rintro i m σ H ⟨em, p⟩
  cases m with
  | zero =>
    refine .inl ⟨by show x.cps.size ≤ i; omega, hd σ H ?_⟩
    rw [List.take_of_length_le (by omega)] at p
    exact p
  | succ m =>
    have hi : i < (TL.tl x).length := by omega
    have split : TL.tl x = (TL.tl x).take i ++ (TL.tl x)[i] :: (TL.tl x).drop (i + 1) := by
      rw [← List.drop_eq_getElem_cons hi, List.take_append_drop]
    have more : (TL.tl x).take (i + 1) = (TL.tl x).take i ++ [(TL.tl x)[i]] := List.take_succ_eq_append_getElem hi
    refine .inr ⟨by show i < x.cps.size; omega, Pv ((TL.tl x).take (i + 1)), fun σ' H' p' => ⟨m, Nat.lt_succ_self m, by omega, p'⟩, ?_⟩
    rintro y H' ⟨rfl, c, hc, rfl⟩
    have ec : c = (TL.tl x)[i] := by
      have : (TL.tl x)[i]? = some c := by
        show x.cps.toList[i]? = some c
        rw [Array.getElem?_toList]
        exact hc
      rw [List.getElem?_eq_getElem hi] at this
      exact (Option.some.inj this).symm
    subst ec
    rw [more]
    exact hs _ _ _ _ _ split p
theorem take_tw {p : Nat → Bool} {l : List Nat} {k : Nat} (h : ∀ c ∈ l.take k, p c = true) (e : ∀ c, l[k]? = some c → p c = false) (hk : k ≤ l.length) : l.takeWhile p = l.take k ∧ l.dropWhile p = l.drop k := by
  induction l generalizing k with
  | nil => simp
  | cons a r ih =>
    cases k with
    | zero =>
      have := e a rfl
      simp [this]
    | succ k =>
      have ha := h a (by simp)
      obtain ⟨h1, h2⟩ := ih (k := k) (fun c hc => h c (by simp [hc])) (fun c hc => e c (by simpa using hc)) (by simpa using hk)
      simp [ha, h1, h2]
/-! ### lists of texts, compared with the empty one -/
theorem dp_strs {K : PySem.W.Frag} {H : Hp} : ∀ ys : List Str, DpAll K H (ys.map V.str) (ys.map PyData.str)
  | [] => .nil
  | x :: r => .cons (.str x) (dp_strs r)
theorem shaped_strs {ys : List Str} (h : ∀ y ∈ ys, PyData.strOk y = true) : SeqAt.shaped (.list (ys.map PyData.str)) = true := by
  have h1 : ∀ l : List Str, (∀ y ∈ l, PyData.strOk y = true) → PyData.canLayAll0 (l.map PyData.str) = true := fun l => by
    induction l with
    | nil => exact fun _ => rfl
    | cons x r ih =>
      intro h
      rw [List.map_cons, PyData.canLayAll0, PyData.canLay0, h x List.mem_cons_self, Bool.true_and]
      exact ih fun y hy => h y (List.mem_cons_of_mem _ hy)
  have h2 : ∀ l : List Str, PyData.depthAll (l.map PyData.str) = 0 := fun l => by
    induction l with
    | nil => rfl
    | cons x r ih => simpa [PyData.depthAll, PyData.depth] using ih
  unfold SeqAt.shaped
  simp [PyData.canLay0, PyData.depth, h1 ys h, h2]
/-- a text of code points, if it is a text -/
def okS : PyData → Bool
  | .str x => PyData.strOk x
  | _ => true
theorem ok_sg {x : Str} {c : Nat} (h : PyData.strOk x = true) (hc : c ∈ TL.tl x) : PyData.strOk (sg c) = true := by
  unfold PyData.strOk at h ⊢
  rw [Array.all_eq_true'] at h
  have := h c (by simpa using hc)
  simpa using this
theorem eqv_strs_nil (ys : List Str) : PyData.eqv (.list (ys.map PyData.str)) (.list []) = decide (ys = []) := by
  cases ys with
  | nil => rfl
  | cons x r =>
    rw [decide_eq_false (by simp)]
    rfl
/-- the law's own helpers' promises -/
def spSplit : Sp := fun vs H Q _ => ∃ x : Str, vs = [.str x] ∧ x.length ≤ 100000 ∧ ∀ (p : Addr) (hs ts : Str), H p = none → TL.tl hs = (TL.tl x).takeWhile upB → TL.tl ts = (TL.tl x).dropWhile upB → Q (.ref p) (upd H p (.tup [.str hs, .str ts]))
def spLName (K : PySem.W.Frag) : Sp := fun vs H Q _ => ∃ v d, vs = [v] ∧ Th K H v d ∧ d.bulk ≤ 100000 ∧ okS d = true ∧ ∀ H', Same H H' → Q (.bl (dName d)) H'
def spLEnd (K : PySem.W.Frag) : Sp := fun vs H Q _ => ∃ v d x y a b, vs = [v, .str x, .str y] ∧ TL.tl x = [a] ∧ TL.tl y = [b] ∧ Th K H v d ∧ d.bulk ≤ 100000 ∧ okS d = true ∧ ∀ H', Same H H' → Q (.bl (dEnd (fun c => decide (a ≤ c) && decide (c ≤ b)) d)) H'
def spLPat (K : PySem.W.Frag) : Sp := fun vs H Q _ => ∃ v d, vs = [v] ∧ Th K H v d ∧ d.bulk ≤ 100000 ∧ (isTup d = true → SeqAt.shaped d = true) ∧ ∀ H', Same H H' → Q (.bl (dPat d)) H'
theorem th_same {K : PySem.W.Frag} {H H' : Hp} (s : Same H H') {v : V} {d : PyData} (h : Th K H v d) : Th K H' v d := by
  refine Th.rec (motive_1 := fun v d _ => Th K H' v d) (motive_2 := fun vs ds _ => ThAll K H' vs ds) ?_ ?_ ?_ ?_ ?_ ?_ ?_ ?_ ?_ h
  · exact .non
  · exact .bl
  · exact .int
  · exact .str
  · exact fun hs _ ih => .lst (s.seq hs) ih
  · exact fun hs _ ih => .tup (Same.seqT s hs) ih
  · exact fun hs _ ek ih => .dct (s _ _ hs) ih ek
  · exact .nil
  · exact fun _ _ i1 i2 => .cons i1 i2
theorem th_dp {K : PySem.W.Frag} {H : Hp} {v : V} {d : PyData} (h : Th K H v d) : d.canLay0 = true → Dp K H v d := by
  refine Th.rec (motive_1 := fun v d _ => d.canLay0 = true → Dp K H v d) (motive_2 := fun vs ds _ => PyData.canLayAll0 ds = true → DpAll K H vs ds) ?_ ?_ ?_ ?_ ?_ ?_ ?_ ?_ ?_ h
  · exact fun _ => .non
  · exact fun b _ => .bl b
  · exact fun i _ => .int i
  · exact fun x _ => .str x
  · exact fun hs _ ih c => .lst hs (ih (by simpa only [PyData.canLay0] using c))
  · exact fun hs _ ih c => .tup hs (ih (by simpa only [PyData.canLay0] using c))
  · exact fun _ _ _ _ c => by simp [PyData.canLay0] at c
  · exact fun _ => .nil
  · intro v vs d ds _ _ i1 i2 c
    have c2 : d.canLay0 = true ∧ PyData.canLayAll0 ds = true := by simpa only [PyData.canLayAll0, Bool.and_eq_true] using c
    exact .cons (i1 c2.1) (i2 c2.2)
theorem ok_of_lay {d : PyData} (h : d.canLay0 = true) : okS d = true := by
  cases d with
  | str x => exact h
  | _ => rfl
theorem eqv_empty (d : PyData) : PyData.eqv d (.str "") = isE d := by
  cases d with
  | str x =>
    show (x == ("" : Str)) = decide (x = "")
    rw [Bool.eq_iff_iff, beq_iff_eq, decide_eq_true_iff]
  | _ => rfl
/-- ''.join([pick(pot, letters) for lap in range(below(pot, n))]), the letters a list that stands -/
theorem word_readT {K : PySem.W.Frag} {p c : Addr} {σ : L2.St} {H : Hp} {n : Int} {iv : Nat} {letters : List Str} {te : TE} {Q : VK}
    (hte : ∀ (H' : Hp) (v : Option V) (Q : VK), Ext p c H H' → (∀ (l : Addr), SqL K H' l (letters.map V.str) → l ≠ p → Q (.ref l) H') → te ((wipe σ [iv]).set iv v) H' Q) (hne : 0 < letters.length) (hle : letters.length ≤ 1000)
    (h1 : ∀ y ∈ letters, (TL.tl y).length ≤ 1) (hσ : σ[0]? = some (some (.ref p))) (hσ2 : ∀ v : Option V, ((wipe σ [iv]).set iv v)[0]? = some (some (.ref p))) (hw : ∀ v : Option V, wipe ((wipe σ [iv]).set iv v) [iv] = wipe σ [iv])
    (hP : PotAt p c H) (hn : 0 < n) (hn2 : n ≤ 1000) (k : ∀ (ys : List Str) (H' : Hp), (∀ y ∈ ys, y ∈ letters) → (ys.length : Int) < n → Ext p c H H' → Q (.str (Txt.join "" ys)) H') :
    tM1 (fun x xs H Q => ∃ a p, ∃ ys : List Str, x = .str a ∧ xs = [.ref p] ∧ (SqL K H p (ys.map V.str) ∨ SqT K H p (ys.map V.str)) ∧ (ys.map (·.length)).sum + ys.length * a.length ≤ 16777216 ∧ Q (.str (Txt.join a ys)) H)
      (tC (.str "")) (tLc (iRng1 (tCons (tCall spBelow [] E0 (tCons (tVar 0) (tCons (tC (.int n)) tNil))) tNil)) (gName iv) tYes (tCall (spPick K) [] E0 (tCons (tVar 0) (tCons te tNil))) [iv]) σ H Q := by
  refine ⟨⟨_, rfl⟩, _, hσ, p, c, n, rfl, hP, hn, by omega, fun r H1 r0 r1 e1 => ⟨r, rfl, by omega, by omega, fun D nD => ?_⟩⟩
  have nD0 := e1.free nD
  have nDp : D ≠ p := hP.nep nD0
  refine lc_range (lo := 0) (n := r.toNat) (fun i H' => Ext p c H H' ∧ ∃ ys : List Str, H' D = some (.lst (ys.map V.str)) ∧ ys.length = i ∧ ∀ y ∈ ys, y ∈ letters) ⟨e1.mut hP nD0, [], upd_same, rfl, fun y h => nomatch h⟩ ?_ ?_
  · rintro i H2 hi ⟨e2, ys, hD, hl, hy⟩
    refine ⟨hw _, _, hσ2 _, hte _ _ _ e2 fun l hS nl => ?_⟩
    refine ⟨p, c, l, letters.map V.str, rfl, e2.pot, hS, nl, by rw [List.length_map]; exact hne, by rw [List.length_map]; exact hle, fun v H3 hv e3 => ?_⟩
    obtain ⟨y, my, rfl⟩ := List.mem_map.mp hv
    have e4 := e2.trans e3
    have hD3 : H3 D = some (.lst (ys.map V.str)) := e3.get hD nDp
    refine ⟨_, hD3, by rw [List.length_map, hl]; exact small1000 (by omega), e4.mut hP nD0, ys ++ [y], by rw [upd_same, List.map_append]; rfl, by rw [List.length_append, hl]; rfl, fun z hz => ?_⟩
    rcases List.mem_append.mp hz with hz | hz
    · exact hy z hz
    · rw [List.mem_singleton.mp hz]
      exact my
  · rintro H2 ⟨e2, ys, hD, hl, hy⟩
    have hs : (ys.map (·.length)).sum ≤ ys.length * 1 := sum_len_le fun y h => by
      rw [TL.len_tl]
      exact h1 y (hy y h)
    exact ⟨"", D, ys, rfl, rfl, .inl (SqL.of hD), by
      show (ys.map (·.length)).sum + ys.length * 0 ≤ 16777216
      omega, k ys H2 hy (by omega) e2⟩
def spSome : Sp := fun vs H Q _ => ∃ (p c : Addr), vs = [.ref p] ∧ PotAt p c H ∧ ∀ (z : Str) (H' : Hp), z.length ≤ 6 → PyData.strOk z = true → Ext p c H H' → Q (.str z) H'
theorem ok_of_all {z : Str} (h : ∀ c ∈ TL.tl z, c < 1114112) : PyData.strOk z = true := by
  unfold PyData.strOk
  rw [Array.all_eq_true']
  intro c hc
  exact decide_eq_true (h c (by simpa using hc))
theorem Nm.ok {z : Str} {h t : List Nat} (n : Nm z h t) : PyData.strOk z = true := ok_of_all fun c hc => by
  rw [n.e] at hc
  rcases List.mem_append.mp hc with hc | hc
  · have := (n.up c hc).2
    omega
  · have := (n.lo c hc).2
    omega
theorem Nm.len {z : Str} {h t : List Nat} (n : Nm z h t) : z.length ≤ 6 := by
  rw [TL.len_tl, n.e, List.length_append]
  have := n.lh
  have := n.lt
  omega
end Lk

/-! Mak0 -/
set_option Elab.async false
set_option maxRecDepth 100000
set_option linter.all false
set_option maxHeartbeats 4000000
namespace Lk
open PySem PySem.Spec PyProof.Rows L2

/-! ### text * int -/
theorem rep_fold (a : Array Nat) : ∀ (k : Nat) (acc : Array Nat), ((List.replicate k a).foldl (· ++ ·) acc).toList = acc.toList ++ (List.replicate k a.toList).flatten
  | 0, acc => by simp
  | k + 1, acc => by
    rw [List.replicate_succ, List.foldl_cons, rep_fold a k, List.replicate_succ, List.flatten_cons, Array.toList_append, List.append_assoc]
def rStrRep : R2 := fun x y H Q => ∃ (a : Str) (k : Nat), x = .str a ∧ y = .int (k : Int) ∧ 2 ≤ k ∧ k ≤ 5000 ∧ a.length ≤ 1000 ∧ ∀ z : Str, TL.tl z = (List.replicate k (TL.tl a)).flatten → Q (.str z) H
theorem op_strRep {X : Cx} : OpR X (binaryOp .Mult) rStrRep := by
  intro pins s σ H x y v u Q I rx ry h
  obtain ⟨a, k, rfl, rfl, k1, k2, ha, q⟩ := h
  obtain ⟨t, rfl⟩ := rx
  obtain ⟨t', rfl⟩ := ry
  have hm : a.length * k ≤ 5000000 := by
    have := Nat.mul_le_mul ha k2
    omega
  have hl := TL.len_tl a
  have long : Builtin.Str.tooLong (a.length * k) = false := by
    unfold Builtin.Str.tooLong
    refine decide_eq_false (Nat.not_lt.mpr (Nat.le_trans hm ?_))
    decide
  refine PySem.P.mul_str (by rw [decide_eq_false (by omega), decide_eq_false (by omega)]; rfl) (fun _ _ => ?_) (fun _ _ => by rw [Int.toNat_natCast]; exact long) ?_
  · refine Int.not_lt.mpr (Int.le_ediv_of_mul_le (by omega) ?_)
    have : ((a.length * k : Nat) : Int) = (a.length : Int) * (k : Int) := Int.natCast_mul _ _
    omega
  · rw [if_neg (by omega), Int.toNat_natCast]
    have big : ((k : Int) == 1) = false := beq_eq_false_iff_ne.mpr (by omega)
    rw [big, Bool.false_or]
    by_cases h0 : a.length = 0
    · rw [if_pos (beq_iff_eq.mpr h0)]
      have e0 : TL.tl a = [] := List.length_eq_zero_iff.mp (by omega)
      exact ⟨.str a, H, I, ⟨_, rfl⟩, q a (by rw [e0]; simp)⟩
    · rw [if_neg (by rw [beq_iff_eq]; exact h0)]
      have e : TL.tl ⟨(List.replicate k a.cps).foldl (· ++ ·) #[]⟩ = (List.replicate k (TL.tl a)).flatten := by
        show ((List.replicate k a.cps).foldl (· ++ ·) #[]).toList = _
        rw [rep_fold, List.nil_append]
      refine ⟨?_, .str _, H, I.tok _, ⟨_, rfl⟩, q _ e⟩
      rw [TL.len_tl, e, List.length_flatten, List.map_replicate, List.sum_replicate_nat, ← hl, Nat.mul_comm]
      exact Nat.le_trans hm (by decide)

/-! ### made data: an expression's reading gives data, and only adds to the heap -/
def Mk1 (K : PySem.W.Frag) (te : TE) (σ : L2.St) (H0 : Hp) (d : PyData) : Prop := ∀ H, Same H0 H → ∀ Q : VK, (∀ v H', Same H H' → Th K H' v d → Q v H') → te σ H Q
def MkA (K : PySem.W.Frag) (ta : TA) (σ : L2.St) (H0 : Hp) (ds : List PyData) : Prop := ∀ H, Same H0 H → ∀ Q : List V → Hp → Prop, (∀ vs H', Same H H' → ThAll K H' vs ds → Q vs H') → ta σ H Q
/-- .. gives a list that stands by itself -/
def MkL (K : PySem.W.Frag) (te : TE) (σ : L2.St) (H0 : Hp) (ds : List PyData) : Prop := ∀ H, Same H0 H → ∀ Q : VK, (∀ p xs H', Same H H' → H' p = some (.lst xs) → ThAll K H' xs ds → Q (.ref p) H') → te σ H Q
section
variable {K : PySem.W.Frag} {σ : L2.St} {H0 : Hp} {te tf : TE} {ta : TA} {d e : PyData} {ds es : List PyData}
theorem thAll_same {H H' : Hp} (s : Same H H') : ∀ {vs : List V} {ds : List PyData}, ThAll K H vs ds → ThAll K H' vs ds
  | _, _, .nil => .nil
  | _, _, .cons h t => .cons (th_same s h) (thAll_same s t)
theorem thAll_app {H : Hp} : ∀ {vs ws : List V} {ds es : List PyData}, ThAll K H vs ds → ThAll K H ws es → ThAll K H (vs ++ ws) (ds ++ es)
  | _, _, _, _, .nil, h => h
  | _, _, _, _, .cons h t, g => .cons h (thAll_app t g)
theorem mk_var {i : Nat} {v : V} (h : σ[i]? = some (some v)) (t : Th K H0 v d) : Mk1 K (tVar i) σ H0 d := fun H s Q q => ⟨v, h, q v H (Same.refl H) (th_same s t)⟩
theorem mk_non : Mk1 K (tC .non) σ H0 .none := fun H _ Q q => q _ H (Same.refl H) .non
theorem mk_int {i : Int} : Mk1 K (tC (.int i)) σ H0 (.int i) := fun H _ Q q => q _ H (Same.refl H) (.int i)
theorem mk_bl {b : Bool} : Mk1 K (tC (.bl b)) σ H0 (.bool b) := fun H _ Q q => q _ H (Same.refl H) (.bl b)
theorem mk_str {x : Str} : Mk1 K (tC (.str x)) σ H0 (.str x) := fun H _ Q q => q _ H (Same.refl H) (.str x)
theorem mk_nil : MkA K tNil σ H0 [] := fun H _ Q q => q _ H (Same.refl H) .nil
theorem mk_cons (h : Mk1 K te σ H0 d) (t : MkA K ta σ H0 ds) : MkA K (tCons te ta) σ H0 (d :: ds) := fun H s Q q =>
  h H s _ fun v H1 s1 h1 => t H1 (s.trans s1) _ fun vs H2 s2 h2 => q _ H2 (s1.trans s2) (.cons (th_same s2 h1) h2)
theorem mk_tup (h : MkA K ta σ H0 ds) (hl : ds.length ≤ 1000) : Mk1 K (tTup ta) σ H0 (.tuple ds) := fun H s Q q =>
  h H s _ fun vs H1 s1 h1 => ⟨by rw [thAll_len h1]; exact Nat.le_of_lt (small1000 hl), fun p np => q _ _ (s1.trans (same_upd np)) (.tup (.inl (.inl upd_same)) (thAll_same (same_upd np) h1))⟩
theorem mk_lstL (h : MkA K ta σ H0 ds) (hl : ds.length ≤ 1000) : MkL K (tLst ta) σ H0 ds := fun H s Q q =>
  h H s _ fun vs H1 s1 h1 => ⟨by rw [thAll_len h1]; exact Nat.le_of_lt (small1000 hl), fun p np => q _ _ _ (s1.trans (same_upd np)) upd_same (thAll_same (same_upd np) h1)⟩
theorem MkL.mk (h : MkL K te σ H0 ds) : Mk1 K te σ H0 (.list ds) := fun H s Q q => h H s _ fun p xs H1 s1 e h1 => q _ H1 s1 (.lst (SqL.of e) h1)
theorem mk_lst (h : MkA K ta σ H0 ds) (hl : ds.length ≤ 1000) : Mk1 K (tLst ta) σ H0 (.list ds) := (mk_lstL h hl).mk
theorem mk_varL {i : Nat} {p : Addr} {xs : List V} (h : σ[i]? = some (some (.ref p))) (e : H0 p = some (.lst xs)) (t : ThAll K H0 xs ds) : MkL K (tVar i) σ H0 ds := fun H s Q q => ⟨_, h, q p xs H (Same.refl H) (s _ _ e) (thAll_same s t)⟩
theorem mk_cat (h : MkL K te σ H0 ds) (g : MkL K tf σ H0 es) (hl : ds.length + es.length ≤ 1000) : MkL K (tOp rCat te tf) σ H0 (ds ++ es) := fun H s Q q =>
  h H s _ fun p xs H1 s1 e1 h1 => g H1 (s.trans s1) _ fun r ys H2 s2 e2 h2 => ⟨p, r, xs, ys, rfl, rfl, s2 _ _ e1, e2, by rw [thAll_len h1, thAll_len h2]; exact Nat.le_of_lt (small1000 hl), fun l nl =>
    q l _ _ ((s1.trans s2).trans (same_upd nl)) upd_same (thAll_same (same_upd nl) (thAll_app (thAll_same s2 h1) h2))⟩
theorem mk_dict0 : Mk1 K tDNewK σ H0 (.dict []) := fun H _ Q q p np => q _ _ (same_upd np) (.dct upd_same .nil rfl)
theorem mk_dict1 {x y : Str} {i j : Nat} (hi : σ[i]? = some (some (.str x))) (hj : σ[j]? = some (some (.str y))) : Mk1 K (tDisp [(tVar i, tVar j)]) σ H0 (.dict [(.str x, .str y)]) := fun H _ Q q p np =>
  ⟨_, hi, _, hj, upd_same, [(Sum.inr x, .str y)], rfl, (by show 1 ≤ 15; decide), q _ _ (by rw [upd_upd]; exact same_upd np) (.dct upd_same (.cons (.str y) .nil) rfl)⟩
theorem mk_addstr {i j : Nat} {x y : Str} (hi : σ[i]? = some (some (.str x))) (hj : σ[j]? = some (some (.str y))) (hl : x.length + y.length ≤ 1000) :
    Mk1 K (tOp (fun x y H Q => ∃ i j, x = .str i ∧ y = .str j ∧ i.length + j.length ≤ sizeLine ∧ Q (.str (i ++ j)) H) (tVar i) (tVar j)) σ H0 (.str (x ++ y)) := fun H _ Q q =>
  ⟨_, hi, _, hj, x, y, rfl, rfl, Nat.le_of_lt (small1000 hl), q _ H (Same.refl H) (.str _)⟩
end
end Lk

/-! Siz0 -/
set_option Elab.async false
set_option maxRecDepth 100000
set_option linter.all false
set_option maxHeartbeats 4000000
namespace Lk
open PySem PySem.Spec PyProof.Rows L2
/-- data without dicts: how large, how deep -/
structure Sz (n k : Nat) (d : PyData) : Prop where
  sh : d.showable = true
  lv : d.leavesShort 13 = true
  bk : d.bulk ≤ n
  dp : d.depth ≤ k
  cl : d.canLay0 = true
theorem Sz.mono {n k m j : Nat} {d : PyData} (h : Sz n k d) (h1 : n ≤ m) (h2 : k ≤ j) : Sz m j d := ⟨h.sh, h.lv, Nat.le_trans h.bk h1, Nat.le_trans h.dp h2, h.cl⟩
theorem Sz.str {n : Nat} {x : Str} (hl : x.length ≤ n) (ho : PyData.strOk x = true) : Sz n 0 (.str x) := by
  refine ⟨rfl, ?_, hl, Nat.le_refl _, ho⟩
  unfold PyData.strOk at ho
  rw [Array.all_eq_true'] at ho
  show (x.cps.toList.all fun c => decide (c < 16 ^ 8)) = true
  rw [List.all_eq_true]
  intro c hc
  have := of_decide_eq_true (ho c (by simpa using hc))
  exact decide_eq_true (Nat.lt_trans this (by decide))
theorem Sz.none {n k : Nat} : Sz n k .none := ⟨rfl, rfl, Nat.zero_le _, Nat.zero_le _, rfl⟩
theorem Sz.bool {n k : Nat} (b : Bool) : Sz n k (.bool b) := ⟨rfl, rfl, Nat.zero_le _, Nat.zero_le _, rfl⟩
theorem Sz.zero {n k : Nat} : Sz n k (.int 0) := ⟨rfl, by decide +kernel, Nat.zero_le _, Nat.zero_le _, rfl⟩
theorem sz_all {n k : Nat} : ∀ {ds : List PyData}, (∀ d ∈ ds, Sz n k d) → PyData.showableAll ds = true ∧ PyData.leavesShortAll 13 ds = true ∧ PyData.bulkAll ds ≤ ds.length * (n + 1) ∧ PyData.depthAll ds ≤ k ∧ PyData.canLayAll0 ds = true
  | [], _ => ⟨rfl, rfl, Nat.zero_le _, Nat.zero_le _, rfl⟩
  | d :: r, h => by
    obtain ⟨h1, h2, h3, h4, h5⟩ := sz_all (ds := r) fun e he => h e (List.mem_cons_of_mem _ he)
    have hd := h d List.mem_cons_self
    refine ⟨?_, ?_, ?_, ?_, ?_⟩
    · rw [PyData.showableAll, hd.sh, h1]; rfl
    · rw [PyData.leavesShortAll, hd.lv, h2]; rfl
    · have := hd.bk
      rw [PyData.bulkAll, List.length_cons, Nat.succ_mul]
      omega
    · rw [PyData.depthAll]
      exact Nat.max_le.mpr ⟨hd.dp, h4⟩
    · rw [PyData.canLayAll0, hd.cl, h5]; rfl
theorem Sz.tuple {n k m : Nat} {ds : List PyData} (h : ∀ d ∈ ds, Sz n k d) (hm : ds.length * (n + 1) ≤ m) : Sz m (k + 1) (.tuple ds) := by
  obtain ⟨h1, h2, h3, h4, h5⟩ := sz_all h
  exact ⟨by simpa only [PyData.showable] using h1, by simpa only [PyData.leavesShort] using h2, by simpa only [PyData.bulk] using Nat.le_trans h3 hm, by simp only [PyData.depth]; omega, by simpa only [PyData.canLay0] using h5⟩
theorem Sz.list {n k m : Nat} {ds : List PyData} (h : ∀ d ∈ ds, Sz n k d) (hm : ds.length * (n + 1) ≤ m) : Sz m (k + 1) (.list ds) := by
  obtain ⟨h1, h2, h3, h4, h5⟩ := sz_all h
  exact ⟨by simpa only [PyData.showable] using h1, by simpa only [PyData.leavesShort] using h2, by simpa only [PyData.bulk] using Nat.le_trans h3 hm, by simp only [PyData.depth]; omega, by simpa only [PyData.canLay0] using h5⟩
/-- what the law's functions ask of a thing -/
structure Okd (d : PyData) : Prop where
  wf : Wf d
  bk : d.bulk ≤ 100000
  os : okS d = true
  sh : isTup d = true → SeqAt.shaped d = true
theorem Sz.okd {n k : Nat} {d : PyData} (h : Sz n k d) (hn : n ≤ 100000) (hk : k ≤ 60) : Okd d := by
  have hb : d.bulk ≤ 100000 := Nat.le_trans h.bk hn
  have hd : d.depth ≤ 60 := Nat.le_trans h.dp hk
  refine ⟨⟨h.sh, h.lv, by omega, hd, .inl (PyData.hasDict_of_canLay d h.cl)⟩, hb, ok_of_lay h.cl, fun _ => ?_⟩
  unfold SeqAt.shaped
  rw [h.cl, decide_eq_true (by omega)]
  rfl
theorem okd_dict0 : Okd (.dict []) := ⟨⟨by decide +kernel, by decide +kernel, by decide +kernel, by decide +kernel, .inr (by decide +kernel)⟩, by decide +kernel, rfl, fun h => nomatch h⟩
theorem okd_dict1 {x y : Str} (hx : Sz 1000 0 (.str x)) (hy : Sz 1000 0 (.str y)) : Okd (.dict [(.str x, .str y)]) := by
  have e1 := hx.lv
  have e2 := hy.lv
  have b1 := hx.bk
  have b2 := hy.bk
  refine ⟨⟨rfl, ?_, ?_, (by show 1 + max (max 0 0) 0 ≤ 60; decide), .inr rfl⟩, ?_, rfl, fun h => nomatch h⟩
  · simp [PyData.leavesShort, PyData.leavesShortKv] at e1 e2 ⊢
    exact ⟨e1, e2⟩
  · simp only [PyData.bulk, PyData.bulkKv] at b1 b2 ⊢
    omega
  · simp only [PyData.bulk, PyData.bulkKv] at b1 b2 ⊢
    omega
theorem wf_b3 (a b c : Bool) : Wf (.tuple [.bool a, .bool b, .bool c]) := by
  have h : Sz 1000 1 (.tuple [.bool a, .bool b, .bool c]) := Sz.tuple (n := 0) (k := 0) (fun d hd => by
    simp only [List.mem_cons, List.mem_nil_iff, or_false] at hd
    rcases hd with rfl | rfl | rfl <;> exact Sz.bool _) (by show 3 * 1 ≤ 1000; decide)
  exact (h.okd (by decide) (by decide)).wf
def spLaw (K : PySem.W.Frag) : Sp := fun vs H Q _ => ∃ (a : Addr) (ns : List Int), vs = [.ref a] ∧ SqL K H a (ns.map V.int) ∧ ns.length ≤ 63 ∧ ∀ H', Q (.bl true) H'
/-- a law's def, nothing raised -/
theorem mkCalG0 {P : Program} {w : World} {K : PySem.W.Frag} {mg : Str → Option Value} {base : Heap} {x : String} {st : Stmt} {N ps : List Str} {k : Nat} {sp : Sp} (D : Def1 K mg x st) (S : FnScope N ps (defScope st))
    (hb : ∀ (kV doc pm : Value) (an : Option Addr) (cdv ct : Value) (us : List Value), us.length = ps.length → bindArgs (PySem.W.fnOf x x (defArgs st) (defBody st) (defScope st) .none kV doc pm an cdv ct) ⟨us, []⟩ = pure (ps.zip us))
    (len : ∀ vs H Q E, sp vs H Q E → vs.length = ps.length)
    (body : ∀ (f : Addr) (cdv : Value) (A : Around) (above : List Env) (s : Shared) (H : Hp) (vs : List V) (Q : VK) (E : XK), Room k (A.deeper (envOfC x (defScope st) s.heap.objs.size f cdv)) →
      (A.deeper (envOfC x (defScope st) s.heap.objs.size f cdv)).guards = some [] → sp vs H Q E →
      ∃ t, PSs (cxOf CX0 P w K mg base N x (defScope st) f cdv A above s H E).nox (defBody st) t ∧ t { nx := fun _ H' => Q .non H', rt := Q } (start N vs) H) : CalG P w K mg base CX0 (k + 1) x sp :=
  mkCalG D S hb len fun f cdv A above s H vs Q E hr hg h => by
    obtain ⟨t, ht, q⟩ := body f cdv A above s H vs Q E hr hg h
    exact ⟨t, ht.nox, q⟩
theorem iteF' {b : Bool} {A B : Prop} (hb : b = false) (h : B) : if b = true then A else B := by
  rw [hb]
  exact iteF h
theorem iteT' {b : Bool} {A B : Prop} (hb : b = true) (h : A) : if b = true then A else B := by
  rw [hb]
  exact iteT h
/-! ### stores and loops over made data -/
section
variable {K : PySem.W.Frag} {σ : L2.St} {H : Hp} {te : TE} {g : TG} {t : TS} {D : Ends} {ds : List PyData}
theorem set_mkL (h : MkL K te σ H ds) (q : ∀ p xs H', Same H H' → H' p = some (.lst xs) → ThAll K H' xs ds → g (.ref p) σ H' (t D)) : tSeq (tAsg te g) t D σ H := h H (Same.refl H) _ q
theorem thAll_get : ∀ {xs : List V} {ds : List PyData} {i : Nat} {x : V}, ThAll K H xs ds → xs[i]? = some x → ∃ d, d ∈ ds ∧ Th K H x d
  | _, _, _, _, .nil, h => by simp at h
  | _, _, 0, _, .cons h _, e => by
    simp at e
    subst e
    exact ⟨_, List.mem_cons_self, h⟩
  | _, _, i + 1, x, .cons _ tl, e => by
    obtain ⟨d, m, h⟩ := thAll_get (i := i) (x := x) tl (by simpa using e)
    exact ⟨d, List.mem_cons_of_mem _ m, h⟩
def zrep (k : Nat) (x : Str) : Str := ⟨((List.replicate k (TL.tl x)).flatten).toArray⟩
theorem tl_zrep (k : Nat) (x : Str) : TL.tl (zrep k x) = (List.replicate k (TL.tl x)).flatten := rfl
theorem mk_rep {i k : Nat} {x : Str} (h : σ[i]? = some (some (.str x))) (k1 : 2 ≤ k) (k2 : k ≤ 5000) (hx : x.length ≤ 1000) : Mk1 K (tOp rStrRep (tVar i) (tC (.int (k : Int)))) σ H (.str (zrep k x)) := fun H1 _ Q q =>
  ⟨_, h, x, k, rfl, rfl, k1, k2, hx, fun z e => by
    have : z = zrep k x := TL.ext_tl e
    subst this
    exact q _ H1 (Same.refl H1) (.str _)⟩
theorem ok_cut {z : Str} {lo hi : Option Int} (h : PyData.strOk z = true) : PyData.strOk (cutS z lo hi) = true := by
  refine ok_of_all fun c hc => ?_
  have hc2 : c ∈ TL.tl z := (List.drop_sublist _ _).subset ((List.take_sublist _ _).subset hc)
  unfold PyData.strOk at h
  rw [Array.all_eq_true'] at h
  exact of_decide_eq_true (h c (by simpa using hc2))
theorem ok_sub {z y : Str} (h : PyData.strOk z = true) (hs : ∀ c ∈ TL.tl y, c ∈ TL.tl z) : PyData.strOk y = true := by
  refine ok_of_all fun c hc => ?_
  unfold PyData.strOk at h
  rw [Array.all_eq_true'] at h
  exact of_decide_eq_true (h c (by simpa using hs c hc))
theorem ok_rep {k : Nat} {x : Str} (h : PyData.strOk x = true) : PyData.strOk (zrep k x) = true := ok_sub h fun c hc => by
  rw [tl_zrep] at hc
  obtain ⟨l, hl, hc⟩ := List.mem_flatten.mp hc
  rw [(List.mem_replicate.mp hl).2] at hc
  exact hc
theorem ok_add {x y : Str} (h : PyData.strOk x = true) (g : PyData.strOk y = true) : PyData.strOk (x ++ y) = true := by
  refine ok_of_all fun c hc => ?_
  unfold PyData.strOk at h g
  rw [Array.all_eq_true'] at h g
  rw [TL.tl_append] at hc
  rcases List.mem_append.mp hc with hc | hc
  · exact of_decide_eq_true (h c (by simpa using hc))
  · exact of_decide_eq_true (g c (by simpa using hc))
theorem len_add (x y : Str) : (x ++ y).length = x.length + y.length := strLen_append x y
theorem len_rep (k : Nat) (x : Str) : (zrep k x).length = k * x.length := by
  rw [TL.len_tl, tl_zrep, List.length_flatten, List.map_replicate, List.sum_replicate_nat, TL.len_tl x]
end
theorem nmB_app {u l : List Nat} (hu : u.all upB = true) (hl : l.all loB = true) (ne : u ++ l ≠ []) : nmB (u ++ l) = true := by
  have e : (u ++ l).dropWhile upB = l := by
    have e1 : ∀ u : List Nat, u.all upB = true → (u ++ l).dropWhile upB = l.dropWhile upB := fun u => by
      induction u with
      | nil => exact fun _ => rfl
      | cons c r ih =>
        intro h
        rw [List.all_cons, Bool.and_eq_true] at h
        rw [List.cons_append, List.dropWhile_cons, if_pos h.1]
        exact ih h.2
    rw [e1 u hu]
    cases l with
    | nil => rfl
    | cons c r =>
      rw [List.all_cons, Bool.and_eq_true] at hl
      have : upB c = false := by
        have h1 := hl.1
        simp only [loB, Bool.and_eq_true, decide_eq_true_eq] at h1
        simp only [upB, Bool.and_eq_false_iff, decide_eq_false_iff_not]
        omega
      rw [List.dropWhile_cons, if_neg (by rw [this]; exact Bool.false_ne_true)]
  unfold nmB
  rw [e, hl, Bool.and_true]
  cases q : u ++ l with
  | nil => exact absurd q ne
  | cons c r => rfl
theorem nmB_bad {u : List Nat} {c : Nat} (hu : u.all upB = true) (h1 : upB c = false) (h2 : loB c = false) : nmB (u ++ [c]) = false := by
  have e : (u ++ [c]).dropWhile upB = [c] := by
    induction u with
    | nil => rw [List.nil_append, List.dropWhile_cons, if_neg (by rw [h1]; exact Bool.false_ne_true)]
    | cons d r ih =>
      rw [List.all_cons, Bool.and_eq_true] at hu
      rw [List.cons_append, List.dropWhile_cons, if_pos hu.1]
      exact ih hu.2
  unfold nmB
  rw [e, List.all_cons, h2, Bool.false_and, Bool.and_false]
theorem all_rep {k c : Nat} {x : Str} (p : Nat → Bool) (hx : TL.tl x = [c]) (hc : p c = true) : (TL.tl (zrep k x)).all p = true := by
  rw [tl_zrep, hx, List.all_eq_true]
  intro d hd
  obtain ⟨l, hl, hd⟩ := List.mem_flatten.mp hd
  rw [(List.mem_replicate.mp hl).2] at hd
  rw [List.mem_singleton.mp hd]
  exact hc
/-- for x in e, e a list of made data -/
theorem for_mkL {K K' : PySem.W.Frag} {σ : L2.St} {H : Hp} {te : TE} {g : TG} {tb : TS} {D : Ends} {ds : List PyData} (h : MkL K te σ H ds)
    (q : ∀ (L : Addr) (xs : List V) (H' : Hp), Same H H' → H' L = some (.lst xs) → ThAll K H' xs ds → ∃ Pv : Nat → L2.St → Hp → Prop, Pv 0 σ H' ∧ (∀ i σ H2, Pv i σ H2 → H2 L = some (.lst xs)) ∧
      (∀ (i : Nat) (x : V) (d : PyData) (σ : L2.St) (H2 : Hp), d ∈ ds → Th K H' x d → Pv i σ H2 → g x σ H2 fun σ2 H3 => tb { D with nx := Pv (i + 1), ct := Pv (i + 1), bk := D.nx } σ2 H3) ∧ ∀ σ H2, Pv xs.length σ H2 → D.nx σ H2) :
    tFor (iList K' te) g tb D σ H := h H (Same.refl H) _ fun L xs H' s e t => by
  obtain ⟨Pv, p0, pl, ps, pd⟩ := q L xs H' s e t
  exact ⟨L, rfl, ⟨_, SqL.of e⟩, for_list (K := K') (a := L) (xs := xs) Pv p0 (fun i σ H2 _ p => SqL.of (pl i σ H2 p)) (fun i x σ H2 hx p => by
    obtain ⟨d, hd, ht⟩ := thAll_get t hx
    exact ps i x d σ H2 hd ht p) pd⟩
theorem or_pat {K : PySem.W.Frag} {σ : L2.St} {H : Hp} {i : Nat} {v : V} {d : PyData} {Q : VK} (hv : σ[i]? = some (some v)) (th : Th K H v d) (ok : Okd d) (h : ∀ H', Same H H' → Q (.bl (dName d || dPat d)) H') :
    if dName d = true then Q (.bl true) H else tCall (spLPat K) [] E0 (tCons (tVar i) tNil) σ H Q := by
  cases e : dName d with
  | true =>
    rw [e, Bool.true_or] at h
    exact iteT (h H (Same.refl H))
  | false =>
    rw [e, Bool.false_or] at h
    exact iteF ⟨v, hv, v, d, rfl, th, ok.bk, ok.sh, h⟩
theorem mkFnG {P : Program} {w : World} {K : PySem.W.Frag} {mg : Str → Option Value} {base : Heap} {CX : CXT} {x : String} {st : Stmt} {f : Addr} {fd : FuncData} {N ps : List Str} {k : Nat} {sp : Sp} (F : L2.Fun K x x st f fd) (S : FnScope N ps (defScope st))
    (len : ∀ vs H Q E, sp vs H Q E → vs.length = ps.length)
    (body : ∀ (cdv : Value) (A : Around) (above : List Env) (s : Shared) (H : Hp) (vs : List V) (Q : VK) (E : XK), Room k (A.deeper (envOfC x (defScope st) s.heap.objs.size f cdv)) →
      (A.deeper (envOfC x (defScope st) s.heap.objs.size f cdv)).guards = some [] → sp vs H Q E →
      ∃ t, PSs (cxOf CX P w K mg base N x (defScope st) f cdv A above s H E) (defBody st) t ∧ t { nx := fun _ H' => Q .non H', rt := Q } (start N vs) H) : FnG P w K mg base CX (k + 1) f fd ps sp := by
  obtain ⟨oc, od, kV, doc, pm, an, cdv, ct, sl, rfl, lk, hcd⟩ := F.ex
  exact fnG_of lk hcd S len fun A above s H vs Q E hr hg h => body cdv A above s H vs Q E hr hg h
theorem mkFnG0 {P : Program} {w : World} {K : PySem.W.Frag} {mg : Str → Option Value} {base : Heap} {x : String} {st : Stmt} {f : Addr} {fd : FuncData} {N ps : List Str} {k : Nat} {sp : Sp} (F : L2.Fun K x x st f fd) (S : FnScope N ps (defScope st))
    (len : ∀ vs H Q E, sp vs H Q E → vs.length = ps.length)
    (body : ∀ (cdv : Value) (A : Around) (above : List Env) (s : Shared) (H : Hp) (vs : List V) (Q : VK) (E : XK), Room k (A.deeper (envOfC x (defScope st) s.heap.objs.size f cdv)) →
      (A.deeper (envOfC x (defScope st) s.heap.objs.size f cdv)).guards = some [] → sp vs H Q E →
      ∃ t, PSs (cxOf CX0 P w K mg base N x (defScope st) f cdv A above s H E).nox (defBody st) t ∧ t { nx := fun _ H' => Q .non H', rt := Q } (start N vs) H) : FnG P w K mg base CX0 (k + 1) f fd ps sp :=
  mkFnG F S len fun cdv A above s H vs Q E hr hg h => by
    obtain ⟨t, ht, q⟩ := body cdv A above s H vs Q E hr hg h
    exact ⟨t, ht.nox, q⟩
end Lk

/-! Try0 -/
set_option Elab.async false
set_option maxRecDepth 100000
set_option linter.all false
set_option maxHeartbeats 4000000
namespace Lk
open PySem PySem.Spec PyProof.Rows L2

abbrev Suite := Addr → Value → Option Addr → TS
/-- the ends of a suite «as n»: behind it n's slot is empty -/
def endsAs (i : Nat) (D : Ends) : Ends := { nx := fun σ H => D.nx (σ.set i none) H, rt := D.rt, bk := fun σ H => D.bk (σ.set i none) H, ct := fun σ H => D.ct (σ.set i none) H }
/-- several clauses «except C as n», the same n: one of them takes what the body raises -/
def wAsL (K : PySem.W.Frag) (i : Nat) (D : Ends) : List (Value × Suite) → WX
  | [] => fun _ _ _ _ => False
  | (c, ts) :: more => fun cls d σ H => ∃ b, PySem.W.exmOne K cls c = some b ∧ (b = true → ∀ a, H a = none → ts a cls d (endsAs i D) (σ.set i (some (.ref a))) H) ∧ (b = false → wAsL K i D more cls d σ H)
inductive HdAs (X : Cx) (n : Str) : List ExceptHandler → List (Value × Suite) → Prop
  | none : HdAs X n [] []
  | more {x : Str} {c : Value} {ts : Suite} {st : Stmt} {sts : List Stmt} {p1 p2 : Pos} {hds : List ExceptHandler} {l : List (Value × Suite)} (names : Names X x c)
      (run : ∀ (a : Addr) (oe : Obj) (cls : Value) (d : Option Addr) (pn : List (Addr × Obj)), Zc cls d oe → (∃ vs, oe.data = .fields vs) → PSs (X.suite a ((a, oe) :: pn)) (st :: sts) (ts a cls d)) (rest : HdAs X n hds l) :
      HdAs X n (.ExceptHandler (some (.Name x p1)) (some n) (st :: sts) p2 :: hds) ((c, ts) :: l)
section
variable {X : Cx} {n : Str} {i : Nat} {body : List Stmt} {hd : ExceptHandler} {hds : List ExceptHandler} {l : List (Value × Suite)} {pos : Pos} {tb : WX → TS}
theorem ps_try_asL (top : X.stack = X.env :: X.outer) (fr : X.env.frame = some X.env.locals) (nd : X.N.Nodup) (slot : X.N[i]? = some n) (loc : X.env.kindOf n = some .local)
    (bodyOk : ∀ (W : WX) (pn : List (Addr × Obj)) (xe : Value → Shared → Prop), Takes (X.tr pn xe) W → PassesOwn (model X.prog X.w) X.A X.env xe → PSs (X.tr pn xe) body (tb W)) (clauses : HdAs X n (hd :: hds) l) :
    PS X (.Try body (hd :: hds) [] [] pos) (fun D σ H => tb (wAsL X.K i D l) D σ H) := by
  constructor
  intro pins s σ H D I rd
  have xok := I.ok
  have frames : X.A.frames = some (X.env :: X.outer) := xok.frames.trans (congrArg some top)
  apply wpAny_Try_except
  let caught : Value → Shared → Prop := fun e s₁ => wpAny (model X.prog X.w) X.A (noteFrame e X.env) (fun _ s₂ => wpAny (model X.prog X.w) X.A (setFlight e none) (fun _ s₃ => wpAny (model X.prog X.w) X.A (handleBy e X.env (hd :: hds)) (SP X pins D) X.xe s₃) X.xe s₂) X.xe s₁
  have takes : Takes (X.tr (X.pn ++ pins) caught) (wAsL X.K i D l) := by
    rintro u s1 ⟨a, B, sI, pins1, σ1, H1, cls, d, rfl, J0, nb, up, sky, fresh, os, ag, want⟩
    have J : Inv X pins σ1 H1 sI := J0.ofTry xok
    rw [show (X.tr (X.pn ++ pins) caught).stack = X.stack from rfl, top] at sky
    show wpAny (model X.prog X.w) X.A (noteFrame (.ref a) X.env) _ _ _
    apply Sky.land Zc.steady frames fr sky
    intro h2 fly up2
    have J2 : Inv X pins σ1 H1 { s1 with heap := h2 } := J.landed nb fly.1 (up.trans up2) os ag
    obtain ⟨o2, vs2, at2, z2, dat2⟩ := fly.there
    have apart : a ∉ frs (X.env :: X.outer) := by
      intro hm
      obtain ⟨_, o', e', hnf⟩ := fly.2.2.1.mem hm
      rw [at2] at e'
      cases e'
      exact hnf _ dat2
    have nL : a ≠ X.env.locals := by
      rintro rfl
      exact apart (List.mem_filterMap.mpr ⟨X.env, List.mem_cons_self, fr⟩)
    have nF : a ∉ X.fs := by
      intro hm
      obtain ⟨e, he, q⟩ := List.mem_filterMap.mp hm
      exact apart (List.mem_filterMap.mpr ⟨e, List.mem_cons_of_mem _ he, q⟩)
    have S2 := J2.suite at2 dat2 fresh nL nF
    have each : ∀ {hs : List ExceptHandler} {ls : List (Value × Suite)}, HdAs X n hs ls → wAsL X.K i D ls cls d σ1 H1 → wpAny (model X.prog X.w) X.A (handleBy (.ref a) X.env hs) (SP X pins D) X.xe { s1 with heap := h2 } := by
      intro hs ls hk
      induction hk with
      | none => exact fun w => w.elim
      | @more x c ts st sts p1 p2 hds2 l2 names run rest ih =>
        rintro ⟨b, matches_, yes, no⟩
        apply wpAny_handleBy_cons (codeAny_handlers_test ?_) (by intro q; cases q)
        have looksT : PySem.W.Looks (model X.prog X.w) h2 (typeOf (.ref a)) cls := fun A Q E s k q => wpAny_typeOf_ref (k _ _ at2) (by rw [z2.1]; exact q)
        have looksM := PySem.W.exm_one (M := model X.prog X.w) J2.kIn looksT matches_
        have named : ∀ {Q : Value → Shared → Prop} {E : Value → Shared → Prop}, Q c { s1 with heap := h2 } → wpAny (model X.prog X.w) (X.A.mark (some (.ref a))) (eval (.Name x p1) X.env) Q E { s1 with heap := h2 } := by
          intro Q E q
          rcases names with ⟨hg, hdbg, hm | ⟨hm, hv, hnn⟩⟩
          · exact ld_glob (X := X.suite a ((a, o2) :: (X.pn ++ pins))) S2 hg hm q hdbg
          · exact ld_blt (X := X.suite a ((a, o2) :: (X.pn ++ pins))) S2 hg hm hv q hnn hdbg
        apply named
        apply looksM.here
        match b, yes, no with
        | false, _, no => exact ih (no rfl)
        | true, yes, _ =>
          apply codeAny_handlers_suite_as
          apply HandSPX.lands_againZ fly
          intro h3 fly3 up3
          have J3 : Inv X pins σ1 H1 { s1 with heap := h3 } := J.landed nb fly3.1 ((up.trans up2).trans up3) os ag
          obtain ⟨o3, vs3, at3, z3, dat3⟩ := fly3.there
          have S3 := J3.suite at3 dat3 fresh nL nF
          apply store_ok (X := X.suite a ((a, o3) :: (X.pn ++ pins))) (v := .ref a) S3 nd slot (.inl loc) rfl (fun s4 S4 => ?_) (.inr loc)
          apply wpAny_mono ((run a o3 cls d (X.pn ++ pins) z3 ⟨_, dat3⟩).run [] s4 _ H1 _ S4 (yes rfl a fresh)) ?_ (fun _ _ z => False.elim z)
          intro fl s5 out
          have close : ∀ {σ6 : L2.St} {H6 : Hp} {Q : Shared → Prop}, Inv (X.suite a ((a, o3) :: (X.pn ++ pins))) [] σ6 H6 s5 → (∀ s7, Inv X pins (σ6.set i Option.none) H6 s7 → Q s7) →
              wpAny (model X.prog X.w) X.A (do bindName X.env n .none; unbindBehindTheSuite X.env n p2) (fun _ s7 => Q s7) X.xe s5 := fun S6 hq => gone_ok (S6.unsuite xok) nd slot loc hq
          match fl, out with
          | .next, ⟨_, _, S6, q6⟩ => exact close S6 fun _ J7 => ⟨_, _, J7, q6⟩
          | .brk, ⟨_, _, S6, q6⟩ => exact close S6 fun _ J7 => ⟨_, _, J7, q6⟩
          | .cont, ⟨_, _, S6, q6⟩ => exact close S6 fun _ J7 => ⟨_, _, J7, q6⟩
          | .ret _, ⟨_, _, _, S6, r6, q6⟩ => exact close S6 fun _ J7 => ⟨_, _, _, J7, r6, q6⟩
    exact each clauses want
  apply wpAny_mono ((bodyOk _ _ caught takes PassesOwn.looking).run [] s σ H D (I.toTry _) rd) ?_ (fun _ _ he => he)
  intro fl s1 out
  match fl, out with
  | .next, ⟨_, _, J, q⟩ => exact wpAny_execs_nil ⟨_, _, J.ofTry xok, q⟩
  | .brk, ⟨_, _, J, q⟩ => exact ⟨_, _, J.ofTry xok, q⟩
  | .cont, ⟨_, _, J, q⟩ => exact ⟨_, _, J.ofTry xok, q⟩
  | .ret _, ⟨_, _, _, J, r, q⟩ => exact ⟨_, _, _, J.ofTry xok, r, q⟩
end
end Lk

/-! Ne0 -/
set_option Elab.async false
set_option maxRecDepth 100000
set_option linter.all false
set_option maxHeartbeats 4000000
namespace PySem
open PySem.SeqAt
section
variable {prog : Program} {w : World} {A : Around} {E : Value → Shared → Prop} {s : Shared}
theorem lk_dict_ne_str (l : Addr) (es : Array DictEntry) (n : Nat) (dd : Option Addr) (sl : Array (Option Value)) (b : Str) (u : Tok) :
    Meets (Builtin.«dict.__ne__» ⟨[.ref l, .str b u], []⟩) (fun _ R s => s.heap.get? l = some { cls := .type "dict", dict := dd, data := .dict es n, slots := sl } ∧ R (.ok (.ret .notImplemented)) s) := by
  refine .of_wp ?_
  rintro prog w A R ⟨hp, g, d, tk, os⟩ ⟨there, h⟩
  have noSub := F.sub_str_dict
  wp_walk using wpAny_loadPart' there, wpAny_load there
  exact ⟨_, rfl, h⟩
theorem lk_str_ne_dict (l : Addr) (es : Array DictEntry) (n : Nat) (dd : Option Addr) (sl : Array (Option Value)) (b : Str) (u : Tok) :
    Meets (Builtin.«str.__ne__» ⟨[.str b u, .ref l], []⟩) (fun _ R s => s.heap.get? l = some { cls := .type "dict", dict := dd, data := .dict es n, slots := sl } ∧ R (.ok (.ret .notImplemented)) s) := by
  refine .of_wp ?_
  rintro prog w A R ⟨hp, g, d, tk, os⟩ ⟨there, h⟩
  wp_walk using wpAny_loadPart' there, wpAny_load there
  exact ⟨_, rfl, h⟩
theorem lk_rc_dict_str {l : Addr} {o : Obj} {es : Array DictEntry} {n : Nat} (b : Str) (u : Tok) (ho : s.heap.get? l = some o) (hc : o.cls = .type "dict") (hd : o.data = .dict es n) (hu : A.units < cLine) {Q : Value → Shared → Prop} (h : Q (.bool true) s) :
    wpAny (model prog w) A (richCompare .NotEq (.ref l) (.str b u)) Q E s := by
  obtain ⟨cls, dd, data, sl⟩ := o
  simp only at hc hd
  subst hc hd
  refine rc_ne_decline_or (a := .ref l) (b := .str b u) (s := s) (k := false) (show s.TypeIs (.ref l) "dict" from ⟨_, ho, rfl⟩) (typeIs_str s b u) (by decide) F.sub_str_dict F.slot_dict_ne F.slot_str_ne_refl ?_ ?_ ?_ ?_ ?_
  · exact fun _ hq => call_meets F.slot_dict_ne ⟨_, ho, rfl⟩ F.entry_dict_ne (F.args_dict_ne_2 _ _) (lk_dict_ne_str l es n dd sl b u) ⟨ho, hq⟩
  · exact fun _ hq => call_meets F.slot_str_ne_refl (typeIs_str s b u) F.entry_str_ne (F.args_str_ne_2 _ _) (lk_str_ne_dict l es n dd sl b u) ⟨ho, hq⟩
  · exact fun _ hq => wpAny_of_eq (rfl : isSame (.ref l) (.str b u) = pure false) hq
  · exact .inr hu
  · exact h
end
end PySem
namespace Lk
open PySem PySem.Spec PyProof.Rows L2
/-- thing != '', thing of any form -/
def rNeE (K : PySem.W.Frag) : R2 := fun x y H Q => ∃ d, y = .str "" ∧ Th K H x d ∧ (d.hasDict = true → isDct d = true) ∧ (d.hasDict = false → SeqAt.shaped d = true) ∧ Q (.bl (!isE d)) H
theorem op_neE {X : Cx} (hu : X.A.units + 64 < cLine) : OpR X (compareOp .NotEq) (rNeE X.K) := by
  intro pins s σ H x y v u Q I rx ry h
  obtain ⟨d, rfl, ht, hd, hs, q⟩ := h
  cases e : d.hasDict with
  | false =>
    have sh := hs e
    refine op_neD hu pins s σ H x (.str "") v u Q I rx ry ⟨d, .str "", th_dp ht (SeqAt.canLay_of_shaped sh), .str _, sh, by decide +kernel, ?_⟩
    rw [eqv_empty]
    exact q
  | true =>
    have hh := hd e
    cases ht with
    | dct ha _ _ =>
      obtain ⟨t, rfl⟩ := ry
      cases rx
      obtain ⟨_, _, vs, kv, o, es, ep, ho, ex, hda, _⟩ := (show ObjOk X.prog X.w H s.heap _ (.dK _) from I.hok _ _ ha)
      exact PySem.lk_rc_dict_str _ _ ho ex.1 hda (by omega) ⟨.bl true, H, I, rfl, q⟩
    | _ => cases hh
end Lk

/-! Xr0 -/
set_option Elab.async false
set_option maxRecDepth 100000
set_option linter.all false
set_option maxHeartbeats 4000000
namespace Lk
open PySem PySem.Spec PyProof.Rows L2
/-- an own class of errors, under ValueError -/
structure Err (K : PySem.W.Frag) (mg : Str → Option Value) (x : String) (C : Addr) : Prop where
  gC : mg x = some (.ref C)
  xC : PySem.W.excIn K C [.type "ValueError", .type "Exception", .type "BaseException", .type "object"] "ValueError.__new__" = true
  kC : PySem.W.keepIn K (.ref C) = true
  bC : PySem.W.subIn K (.ref C) (.type "BaseException") = some true
  tC : PySem.W.typeIn K (.ref C) = some (.type "type")
/-- an error of the class at S, a clause that names the class at T -/
theorem exm_of {K : PySem.W.Frag} {S T : Addr} {b : Bool} (h1 : PySem.W.subIn K (.ref T) (.type "BaseException") = some true) (h2 : PySem.W.isClsIn K T = true) (h3 : PySem.W.typeIn K (.ref T) = some (.type "type")) (h4 : PySem.W.subIn K (.ref S) (.ref T) = some b) :
    PySem.W.exmOne K (.ref S) (.ref T) = some b := by
  have e1 : (PySem.W.subIn K (.ref T) (.type "BaseException") == some true) = true := by rw [h1] <;> rfl
  have e2 : ((PySem.W.clsIn K T).isSome && PySem.W.typeIn K (.ref T) == some (.type "type")) = true := by
    have h2' : (PySem.W.clsIn K T).isSome = true := h2
    rw [h2', h3] <;> rfl
  show (if (PySem.W.subIn K (.ref T) (.type "BaseException") == some true) = true then (if ((PySem.W.clsIn K T).isSome && PySem.W.typeIn K (.ref T) == some (.type "type")) = true then PySem.W.subIn K (.ref S) (.ref T) else none) else none) = some b
  rw [if_pos e1, if_pos e2]
  exact h4
section
variable {X : Cx} {C : Addr} {W : WX} {x : String}
/-- raise C('m') -/
theorem ps_err (R : Err X.K X.mg x C) (calm : X.calm = true) (tk : Takes X W) {m : Str} {j : Nat} {p p2 p3 pos : Pos} (hg : Gl X x := by rfl) (hdb : ((x : Str) == ("__debug__" : Str)) = false := by decide) :
    PS X (.Raise (some (.Call (.Name x p) [.Constant (.str m) j p2] [] p3)) none pos) (fun _ σ H => W (.ref C) none σ H) :=
  ps_raise calm tk (pmk_own PySem.F.excBase_ValueError R.xC R.gC R.kC (raises_own R.bC R.tC) hg hdb)
end
/-- a def that may raise, called by its name -/
structure CalX (P : Program) (w : World) (K : PySem.W.Frag) (mg : Str → Option Value) (base : Heap) (k : Nat) (x : String) (sp : Sp) : Prop where
  ex : ∃ (f : Addr) (fd : FuncData) (ps : List Str), FnOk P w K mg base (L2.CX P w) k f fd ps sp ∧ mg x = some (.ref f) ∧ PySem.W.keepIn K (.ref f) = true ∧ Binds K fd ps []
section
variable {P : Program} {w : World} {K : PySem.W.Frag} {mg : Str → Option Value} {base : Heap}
theorem mkCalX {x : String} {st : Stmt} {N ps : List Str} {k : Nat} {sp : Sp} (D : Def1 K mg x st) (S : FnScope N ps (defScope st))
    (hb : ∀ (kV doc pm : Value) (an : Option Addr) (cdv ct : Value) (us : List Value), us.length = ps.length → bindArgs (PySem.W.fnOf x x (defArgs st) (defBody st) (defScope st) .none kV doc pm an cdv ct) ⟨us, []⟩ = pure (ps.zip us))
    (len : ∀ vs H Q E, sp vs H Q E → vs.length = ps.length)
    (hbody : ∀ (f : Addr) (cdv : Value) (A : Around) (outer : List Env) (s : Shared) (H : Hp) (vs : List V) (Q : VK) (E : XK), Room k (A.deeper (envOfC x (defScope st) s.heap.objs.size f cdv)) → sp vs H Q E →
      ∃ t, PSs (cxOf (L2.CX P w) P w K mg base N x (defScope st) f cdv A outer s H E) (defBody st) t ∧ t { nx := fun _ H' => Q .non H', rt := Q } (start N vs) H) : CalX P w K mg base (k + 1) x sp := by
  obtain ⟨f, fd, F, m⟩ := D.ex
  exact ⟨f, fd, ps, F.okX S len fun cdv A outer s H vs Q E hr h => hbody f cdv A outer s H vs Q E hr h, m, F.kp, F.binds hb⟩
end
section
variable {X : Cx} {k j : Nat} {x : String} {sp : Sp} {p pos : Pos} {e : Expr} {es : List Expr} {t : TA}
/-- called in a def that lets its errors out -/
theorem pe_calX {E : XK} (c : CalX X.prog X.w X.K X.mg X.base k x sp) (hr : Room j X.A) (hk : k ≤ j) (tk : Takes X (fun cls d _ H => E cls d H)) (ha : PA X (e :: es) t) (hg : Gl X x := by rfl)
    (hdb : ((x : Str) == ("__debug__" : Str)) = false := by decide) (he : starEach (e :: es) X.env = (false, eval e X.env) :: starEach es X.env := by rfl) (hpl : (backTo pos (starEach es X.env)).any (·.1) = false := by rfl) :
    PE X (.Call (.Name x p) (e :: es) [] pos) (tCall sp [] E t) := by
  obtain ⟨f, fd, ps, F, m, kp, b⟩ := c.ex
  exact pe_call F (hr.mono hk) hg m kp b .nil (passes_call tk fun _ _ _ _ h => h) ha hdb he hpl
/-- called in a try's body -/
theorem pe_calT {W : WX} (c : CalX X.prog X.w X.K X.mg X.base k x sp) (hr : Room j X.A) (hk : k ≤ j) (tk : Takes X W) (ha : PA X (e :: es) t) (hg : Gl X x := by rfl)
    (hdb : ((x : Str) == ("__debug__" : Str)) = false := by decide) (he : starEach (e :: es) X.env = (false, eval e X.env) :: starEach es X.env := by rfl) (hpl : (backTo pos (starEach es X.env)).any (·.1) = false := by rfl) :
    PE X (.Call (.Name x p) (e :: es) [] pos) (tCallS sp (WE W) t) := by
  obtain ⟨f, fd, ps, F, m, kp, b⟩ := c.ex
  exact pe_callS F (hr.mono hk) hg m kp b (fun σ => passAt tk σ) ha hdb he hpl
/-- a def that asks for no guard on the stack -/
theorem pe_calG (c : CalG X.prog X.w X.K X.mg X.base CX0 k x sp) (hr : Room j X.A) (hk : k ≤ j) (gd : X.A.guards = some []) (ha : PA X (e :: es) t) (hg : Gl X x := by rfl)
    (hdb : ((x : Str) == ("__debug__" : Str)) = false := by decide) (he : starEach (e :: es) X.env = (false, eval e X.env) :: starEach es X.env := by rfl) (hpl : (backTo pos (starEach es X.env)).any (·.1) = false := by rfl) :
    PE X (.Call (.Name x p) (e :: es) [] pos) (tCall sp [] E0 t) := by
  obtain ⟨f, fd, ps, F, m, kp, b⟩ := c.ex
  refine ⟨fun pins s σ H Q I h => ?_⟩
  refine wpAny_Call_Name_kw (ld_glob I hg m ?_ hdb)
  refine PySem.W.callWith_K (h₀ := X.base) I.ok.mod.kin kp (thn (ha.run pos pins s σ H _ I h) fun us s1 ⟨vs, H1, I1, r, q⟩ => ⟨I1.kIn, ?_⟩) he hpl
  replace q : sp (vs ++ []) H1 Q E0 := q
  rw [List.append_nil] at q
  have hl : us.length = ps.length := by rw [← r.length]; exact F.len _ _ _ _ q
  have b2 := b s1 us I1.kIn (by rw [List.append_nil]; exact hl)
  rw [List.append_nil] at b2
  refine wpAny_call (codeAny_mono (F.go X.A X.stack s1 H1 ⟨us, []⟩ us vs Q E0 (hr.mono hk) gd I1.env0 b2 r q) fun r' s' hq => ?_)
  cases r' with
  | error e' => exact pass0 pins σ H1 s1 e' s' I1 hq
  | ok fl =>
    cases fl with
    | ret u => exact I1.after hq
    | next => exact False.elim hq
    | brk => exact False.elim hq
    | cont => exact False.elim hq
end
/-! ### data stands when the pot changes -/
def potLike : List PyData → Bool
  | [_, .int _, .int _, .int _] => true
  | _ => false
mutual
def noPot : PyData → Bool
  | .none | .bool _ | .int _ | .str _ => true
  | .list xs => !potLike xs && noPotAll xs
  | .tuple xs => noPotAll xs
  | .dict kvs => noPotKv kvs
def noPotAll : List PyData → Bool
  | [] => true
  | x :: xs => noPot x && noPotAll xs
def noPotKv : List (PyData × PyData) → Bool
  | [] => true
  | (_, v) :: r => noPot v && noPotKv r
end
theorem noPotKv_map : ∀ ds : List (PyData × PyData), noPotAll (ds.map (·.2)) = noPotKv ds
  | [] => rfl
  | (k, v) :: r => by
    show (noPot v && noPotAll (r.map (·.2))) = (noPot v && noPotKv r)
    rw [noPotKv_map r]
theorem potLike_of {K : PySem.W.Frag} {H : Hp} {x : V} {i a b : Int} : ∀ {ds : List PyData}, ThAll K H [x, .int i, .int a, .int b] ds → potLike ds = true
  | _, .cons _ (.cons (.int _) (.cons (.int _) (.cons (.int _) .nil))) => rfl
theorem th_ext {K : PySem.W.Frag} {p c : Addr} {H H' : Hp} (hP : PotAt p c H) (e : Ext p c H H') {v : V} {d : PyData} (h : Th K H v d) : noPot d = true → Th K H' v d := by
  obtain ⟨_, ⟨i, a, b, hp⟩, _⟩ := hP
  refine Th.rec (motive_1 := fun v d _ => noPot d = true → Th K H' v d) (motive_2 := fun vs ds _ => noPotAll ds = true → ThAll K H' vs ds) ?_ ?_ ?_ ?_ ?_ ?_ ?_ ?_ ?_ h
  · exact fun _ => .non
  · exact fun b _ => .bl b
  · exact fun i _ => .int i
  · exact fun x _ => .str x
  · intro q xs ds hs ha ih n
    have n2 : potLike ds = false ∧ noPotAll ds = true := by simpa only [noPot, Bool.and_eq_true, Bool.not_eq_true'] using n
    by_cases z : q = p
    · rcases hs with (hs | ⟨o, hs⟩) | hs
      · rw [z, hp] at hs
        cases hs
        rw [potLike_of ha] at n2
        cases n2.1
      · rw [z, hp] at hs
        cases hs
      · exact .lst (.inr hs) (ih n2.2)
    · exact .lst (e.seq z hs) (ih n2.2)
  · intro q xs ds hs ha ih n
    have n2 : noPotAll ds = true := by simpa only [noPot] using n
    by_cases z : q = p
    · rcases hs with (hs | ⟨o, hs⟩) | hs
      · rw [z, hp] at hs
        cases hs
      · rw [z, hp] at hs
        cases hs
      · exact .tup (.inr hs) (ih n2)
    · exact .tup (e.seqT z hs) (ih n2)
  · intro q kvs ds hs _ ek ih n
    have n2 : noPotAll (ds.map (·.2)) = true := by
      rw [noPotKv_map]
      simpa only [noPot] using n
    by_cases z : q = p
    · rw [z, hp] at hs
      cases hs
    · exact .dct (e.get hs z) (ih n2) ek
  · exact fun _ => .nil
  · intro v vs d ds _ _ i1 i2 n
    have n2 : noPot d = true ∧ noPotAll ds = true := by simpa only [noPotAll, Bool.and_eq_true] using n
    exact .cons (i1 n2.1) (i2 n2.2)
theorem thAll_ext {K : PySem.W.Frag} {p c : Addr} {H H' : Hp} (hP : PotAt p c H) (e : Ext p c H H') : ∀ {vs : List V} {ds : List PyData}, ThAll K H vs ds → noPotAll ds = true → ThAll K H' vs ds
  | _, _, .nil, _ => .nil
  | _ :: _, d :: ds, .cons h t, n => by
    have n2 : noPot d = true ∧ noPotAll ds = true := by simpa only [noPotAll, Bool.and_eq_true] using n
    exact .cons (th_ext hP e h n2.1) (thAll_ext hP e t n2.2)
end Lk

/-! Clr0 -/
set_option Elab.async false
set_option maxRecDepth 100000
set_option linter.all false
set_option maxHeartbeats 4000000
namespace Lk
open PySem PySem.Spec PyProof.Rows L2
structure Wf0 (d : PyData) : Prop where
  sh : d.showable = true
  lv : d.leavesShort 13 = true
  bk : d.bulk ≤ 1000000
  dp : d.depth ≤ 60
theorem Wf.wf0 {d : PyData} (h : Wf d) : Wf0 d := ⟨h.sh, h.lv, h.bk, h.dp⟩
/-- its lists are not the table of modules -/
inductive Clr (K : PySem.W.Frag) (H : Hp) : V → PyData → Prop
  | flat {v : V} {d : PyData} : Th K H v d → noLst d = true → Clr K H v d
  | lst {p : Addr} {xs : List V} {ds : List PyData} : SqL K H p xs → (p == sysModules) = false → ThAll K H xs ds → noLstAll ds = true → Clr K H (.ref p) (.list ds)
  | two {q : Addr} {v1 v2 : V} {d1 d2 : PyData} : SqT K H q [v1, v2] → Clr K H v1 d1 → Clr K H v2 d2 → Clr K H (.ref q) (.tuple [d1, d2])
section
variable {X : Cx} {pins : List (Addr × Obj)} {σ : L2.St} {H : Hp} {s : Shared}
theorem all_reads (I : Inv X pins σ H s) : ∀ {vs : List V} {ds : List PyData}, ThAll X.K H vs ds → noLstAll ds = true → ∀ us, Vals vs us → ∃ as, ReadsAll s.heap us ds as ∧ sysModules ∉ as
  | _, _, .nil, _, us, r => by
    cases r
    exact ⟨_, ReadsAll.nil, fun h => nomatch h⟩
  | _ :: _, d :: ds, .cons h t, n, us, r => by
    have n2 : noLst d = true ∧ noLstAll ds = true := by simpa [noLstAll] using n
    cases r with
    | cons r1 r2 =>
      obtain ⟨as, q1, m1⟩ := th_reads I h _ r1
      obtain ⟨bs, q2, m2⟩ := all_reads I t n2.2 _ r2
      refine ⟨_, ReadsAll.cons q1 q2, fun hm => ?_⟩
      rcases List.mem_append.mp hm with hm | hm
      · exact m1 n2.1 hm
      · exact m2 hm
theorem clr_reads (I : Inv X pins σ H s) {v : V} {d : PyData} (h : Clr X.K H v d) : ∀ u, RelV v u → ∃ as, Reads s.heap u d as ∧ sysModules ∉ as := by
  induction h with
  | flat h n =>
    intro u r
    obtain ⟨as, q, m⟩ := th_reads I h u r
    exact ⟨as, q, m n⟩
  | lst hs hp ha n =>
    intro u r
    cases r
    obtain ⟨its, rv, ⟨o, k, ho, hc, _, hd⟩, _⟩ := I.list hs
    obtain ⟨as, hr, m⟩ := all_reads I ha n its rv
    refine ⟨_, Reads.list ho hc hd hr, fun hm => ?_⟩
    rcases List.mem_cons.mp hm with hm | hm
    · rw [hm] at hp
      exact absurd hp (by simp)
    · exact m hm
  | two hs _ _ ih1 ih2 =>
    intro u r
    cases r
    obtain ⟨its, rv, ⟨o, ho, hc, n, hd⟩, _⟩ := I.tuple hs
    cases rv with
    | cons r1 rr =>
      cases rr with
      | cons r2 rz =>
        cases rz
        obtain ⟨as, q1, m1⟩ := ih1 _ r1
        obtain ⟨bs, q2, m2⟩ := ih2 _ r2
        refine ⟨_, Reads.tuple ho hc hd (ReadsAll.cons q1 (ReadsAll.cons q2 ReadsAll.nil)), fun hm => ?_⟩
        rcases List.mem_append.mp hm with hm | hm
        · exact m1 hm
        · rcases List.mem_append.mp hm with hm | hm
          · exact m2 hm
          · exact nomatch hm
def rReprC (K : PySem.W.Frag) : List V → Hp → VK → Prop := fun xs H Q => ∃ v d, xs = [v] ∧ Th K H v d ∧ Wf0 d ∧ (d.hasDict = true → Clr K H v d) ∧ Q (.str d.shown) H
theorem call_reprC (hg : X.A.guards = some []) (hu : X.A.units + 64 < cLine) : CallR X (.builtin "repr") (rReprC X.K) := by
  intro pins s σ H xs us Q I r h
  obtain ⟨v, d, rfl, ht, hw, hc, q⟩ := h
  cases r with
  | cons r1 rr =>
    cases rr
    obtain ⟨as, hr, hsm⟩ : ∃ as, Reads s.heap _ d as ∧ (d.hasDict = true → sysModules ∉ as) := by
      cases e : d.hasDict with
      | true =>
        obtain ⟨as, a, b⟩ := clr_reads I (hc e) _ r1
        exact ⟨as, a, fun _ => b⟩
      | false =>
        obtain ⟨as, a, b⟩ := th_reads I ht _ r1
        exact ⟨as, a, fun z => nomatch z⟩
    have hz : d.shown.length ≤ sizeLine := PyData.shown_fits_bulk (B := 13) (by decide) (by decide) hw.lv (Nat.le_trans hw.bk (by decide))
    have fin : ∀ (h' : Heap) (u tk : Nat), (∀ b o, s.heap.get? b = some o → h'.get? b = some o) → EP X pins σ Q (.str d.shown u) { s with heap := h', toks := tk } := fun h' u tk k => ⟨.str d.shown, H, I.kept (t' := tk) k, ⟨u, rfl⟩, q⟩
    have hd := hw.dp
    cases hr with
    | none => exact PySem.P.repr_of_none (fin s.heap _ _ fun _ _ e => e)
    | bool b => exact PySem.P.repr_of_bool (fin s.heap _ _ fun _ _ e => e)
    | int i t => exact PySem.P.repr_of_int (by simpa [PyData.showable] using hw.sh) (fin s.heap _ _ fun _ _ e => e)
    | str x t => exact PySem.P.repr_of_str (fin s.heap _ _ fun _ _ e => e) hz
    | list h1 h2 h3 h4 => exact repr_of_reads' (.list h1 h2 h3 h4) hw.sh hsm hg (by omega) (fun _ _ e => e) (fun h' u tk k => fin h' u tk k) hz
    | tuple h1 h2 h3 h4 => exact repr_of_reads' (.tuple h1 h2 h3 h4) hw.sh hsm hg (by omega) (fun _ _ e => e) (fun h' u tk k => fin h' u tk k) hz
    | dict h1 h2 h3 h4 h5 => exact repr_of_reads' (.dict h1 h2 h3 h4 h5) hw.sh hsm hg (by omega) (fun _ _ e => e) (fun h' u tk k => fin h' u tk k) hz
/-- a list display; the new list is not the table of modules -/
def tLstS (t : TA) : TE := fun σ H Q => t σ H fun xs H1 => xs.length ≤ sizeLine ∧ ∀ p, H1 p = none → (p == sysModules) = false → Q (.ref p) (upd H1 p (.lst xs))
theorem pe_lstS {es : List Expr} {t : TA} {pos : Pos} (h : PA X es t) : PE X (.List es pos) (tLstS t) := by
  refine ⟨fun pins s σ H Q I hq => ?_⟩
  refine wpAny_List_spliced (thn (h.run pos pins s σ H _ I hq) fun us s1 ⟨xs, H1, I1, r, z, q⟩ => ⟨by rw [← r.length]; exact z, ?_⟩)
  have hf : H1 s1.heap.objs.size = none := I1.hok.fresh (Nat.le_refl _)
  have hm : (s1.heap.objs.size == sysModules) = false := beq_eq_false_iff_ne.mpr (Nat.ne_of_gt I1.big)
  refine ⟨.ref s1.heap.objs.size, upd H1 s1.heap.objs.size (.lst xs), I1.laid (t' := s1.toks) (fun b u e => Heap.get?_push_of_some _ e) (Nat.le_refl _) ?_, rfl, q _ hf hm⟩
  exact ⟨z, us, 0, r, Heap.get?_push_size _ rfl⟩
end
theorem Clr.same {K : PySem.W.Frag} {H H' : Hp} (s : Same H H') {v : V} {d : PyData} (h : Clr K H v d) : Clr K H' v d := by
  induction h with
  | flat h n => exact .flat (th_same s h) n
  | lst hs hp ha n => exact .lst (s.seq hs) hp (thAll_same s ha) n
  | two hs _ _ i1 i2 => exact .two (Same.seqT s hs) i1 i2
end Lk

/-! SetG0 -/
set_option Elab.async false
set_option maxRecDepth 100000
set_option linter.all false
set_option maxHeartbeats 4000000
namespace Lk
open PySem PySem.Spec PyProof.Rows L2
/-! ### a set whose members are told by keys, with a table that can be walked -/
section
variable {P : Program} {w : World} {κ : Type} [DecidableEq κ] {knd : KeyKind P w κ}
/-- the entries l bear the keys ks, none twice -/
def Keyed (knd : KeyKind P w κ) (l : List (Int × Value)) (ks : List κ) : Prop :=
  ∃ f : Int × Value → κ, (∀ e ∈ l, (knd.is (f e) e.2 = true ∧ e.1 = knd.hash (f e)) ∧ e.2.scannable = true) ∧ (l.map f).Perm ks ∧ ks.Nodup
theorem Keyed.elems {l : List (Int × Value)} {ks : List κ} (h : Keyed knd l ks) : ElemsOf knd l := by
  obtain ⟨f, g, _⟩ := h
  exact fun e he => ⟨⟨f e, (g e he).1⟩, (g e he).2⟩
theorem Keyed.mem {l : List (Int × Value)} {ks : List κ} (h : Keyed knd l ks) (k : κ) : k ∈ ks ↔ ∃ e ∈ l, knd.is k e.2 = true := by
  obtain ⟨f, g, pm, _⟩ := h
  rw [← pm.mem_iff, List.mem_map]
  constructor
  · rintro ⟨e, he, rfl⟩
    exact ⟨e, he, (g e he).1.1⟩
  · rintro ⟨e, he, q⟩
    rw [KeyKind.is_eq_decide (g e he).1.1 k, decide_eq_true_eq] at q
    exact ⟨e, he, q.symm⟩
theorem Keyed.perm {l l' : List (Int × Value)} {ks : List κ} (h : Keyed knd l ks) (p : l'.Perm l) : Keyed knd l' ks := by
  obtain ⟨f, g, pm, nd⟩ := h
  exact ⟨f, fun e he => g e (p.mem_iff.mp he), (p.map f).trans pm, nd⟩
theorem Keyed.len {l : List (Int × Value)} {ks : List κ} (h : Keyed knd l ks) : l.length = ks.length := by
  obtain ⟨f, _, pm, _⟩ := h
  rw [← pm.length_eq, List.length_map]
theorem Keyed.more {l : List (Int × Value)} {ks : List κ} {k : κ} {x : Value} (h : Keyed knd l ks) (hx : knd.is k x = true) (sx : x.scannable = true) (n : k ∉ ks) : Keyed knd ((knd.hash k, x) :: l) (k :: ks) := by
  have no : ∀ e ∈ l, knd.is k e.2 = false := fun e he => by
    cases q : knd.is k e.2 with
    | false => rfl
    | true => exact absurd ((h.mem k).2 ⟨e, he, q⟩) n
  obtain ⟨f, g, pm, nd⟩ := h
  obtain ⟨F, F0, F1⟩ : ∃ F : Int × Value → κ, F (knd.hash k, x) = k ∧ ∀ e ∈ l, F e = f e := ⟨fun e => if knd.is k e.2 = true then k else f e, if_pos hx, fun e he => if_neg (by rw [no e he]; exact Bool.false_ne_true)⟩
  refine ⟨F, fun e he => ?_, ?_, List.nodup_cons.mpr ⟨n, nd⟩⟩
  · rcases List.mem_cons.mp he with rfl | he
    · rw [F0]
      exact ⟨⟨hx, rfl⟩, sx⟩
    · rw [F1 e he]
      exact g e he
  · rw [List.map_cons, F0, List.map_congr_left F1]
    exact pm.cons k
def GSet (knd : KeyKind P w κ) (h : Heap) (a : Addr) (ks : List κ) : Prop :=
  ∃ o es ep t, h.get? a = some o ∧ o.ExactSet ∧ o.data = .set es ep t ∧ Keyed knd es.toList ks ∧ es.size < scanBound ∧ t.fits es.size = true ∧ Ris t.place.toList ∧ (w.params.followText "set-order" = true ∨ t.led = true)
theorem GSet.at {h h' : Heap} {a : Addr} {ks : List κ} (R : GSet knd h a ks) (k : ∀ o, h.get? a = some o → h'.get? a = some o) : GSet knd h' a ks := by
  obtain ⟨o, es, ep, t, ho, r⟩ := R
  exact ⟨o, es, ep, t, k o ho, r⟩
end
section
variable {P : Program} {w : World} {κ : Type} [DecidableEq κ] {knd : KeyKind P w κ} {A : Around} {E : Value → Shared → Prop} {s : Shared} {a : Addr} {ks : List κ}
/-- the store behind an add, and the wider table where it is too full -/
theorem gset_tail {g : Bool → Sem Unit} (quiet : ∀ (b : Bool) (s₁ : Shared) (Q' : Unit → Shared → Prop), Q' () s₁ → wpAny (model P w) A (g b) Q' E s₁) {o : Obj} {es es1 : Array (Int × Value)} {ep : Nat} {t t1 : SetTable} {ls : List κ}
    (there : s.heap.get? a = some o) (ex : o.ExactSet) (dat : o.data = .set es ep t) (ky : Keyed knd es1.toList ls) (few : es1.size < scanBound) (fit : t1.fits es1.size = true) (ris : Ris t1.place.toList) (led : w.params.followText "set-order" = true ∨ t1.led = true) {dummy : Bool} {R : Option Bool → Shared → Prop}
    (done : ∀ h', Heap.SameBut a s.heap h' → GSet knd h' a ls → R (some true) { s with heap := h' }) :
    wpAny (model P w) A (do
        storeSet a es1 t1
        if (!dummy && t1.tooFull) = true then do
            g (relayAll t1 es1 (SetTable.grown es1.size)).2.2
            storeSet a (relayAll t1 es1 (SetTable.grown es1.size)).1 (relayAll t1 es1 (SetTable.grown es1.size)).2.1
            pure (some true)
          else pure (some true)) R E s := by
  have at1 := store_at (es' := es1) (t' := t1) there dat
  have but1 := Heap.SameBut.update s.heap a (Obj.putSet es1 t1)
  refine wpAny_bind (wpAny_storeSet_of there dat ?_ (fits_of_scanBound few))
  split
  · obtain ⟨pm, ft, rs, ld⟩ := (⟨relayAll_perm t1 es1 (SetTable.grown es1.size), relayAll_fits t1 es1 (SetTable.grown es1.size), relayAll_ris t1 es1 (SetTable.grown es1.size), relayAll_led t1 es1 (SetTable.grown es1.size)⟩ :
      (relayAll t1 es1 (SetTable.grown es1.size)).1.toList.Perm es1.toList ∧ (relayAll t1 es1 (SetTable.grown es1.size)).2.1.fits (relayAll t1 es1 (SetTable.grown es1.size)).1.size = true ∧ Ris (relayAll t1 es1 (SetTable.grown es1.size)).2.1.place.toList ∧ (relayAll t1 es1 (SetTable.grown es1.size)).2.1.led = t1.led)
    revert pm ft rs ld
    generalize relayAll t1 es1 (SetTable.grown es1.size) = Z
    intro pm ft rs ld
    have few2 : Z.1.size < scanBound := by rw [← Array.length_toList, pm.length_eq, Array.length_toList]; exact few
    refine wpAny_bind (quiet _ _ _ (wpAny_bind (wpAny_storeSet_of at1 rfl ?_ (fits_of_scanBound few2))))
    exact wpAny_pure (done _ (but1.trans (Heap.SameBut.update _ a _)) ⟨_, _, _, _, store_at (es' := Z.1) (t' := Z.2.1) at1 rfl, ex, rfl, ky.perm pm, few2, ft, rs, led.imp id fun z => by rw [ld]; exact z⟩)
  · exact wpAny_pure (done _ but1 ⟨_, _, _, _, at1, ex, rfl, ky, few, fit, ris, led⟩)
/-- one more into the set -/
theorem gset_add {k : κ} {x : Value} {Q : Bool → Shared → Prop} (R : GSet knd s.heap a ks) (hx : knd.is k x = true) (sx : x.scannable = true) (room : ks.length + 1 < scanBound)
    (old : k ∈ ks → Q false s) (new : k ∉ ks → ∀ h', Heap.SameBut a s.heap h' → GSet knd h' a (k :: ks) → Q true { s with heap := h' }) : wpAny (model P w) A (setAddHashed a x (knd.hash k)) Q E s := by
  obtain ⟨o, es, ep, t, there, ex, dat, ky, few, fit, ris, led⟩ := R
  have el := ky.elems
  unfold setAddHashed setAddHashedIn
  refine wpAny_holding (wpAny_bind (wpAny_setState_of there dat fit ?_))
  dsimp only
  rw [byScan_of sx few el]
  simp only [↓reduceIte]
  unfold setAddByScan
  refine wpAny_bind (wpAny_bind (wpAny_rule (wpAny_bind (wpAny_setScan_of hx there dat fit el ?_))))
  cases found : List.findIdx? (fun e => knd.is k e.2) es.toList with
  | some j =>
    obtain ⟨hj, pj, _⟩ := List.findIdx?_eq_some_iff_getElem.mp found
    exact wpAny_pure (wpAny_pure (old ((ky.mem k).2 ⟨_, List.getElem_mem hj, pj⟩)))
  | none =>
    have nk : k ∉ ks := fun z => by
      obtain ⟨e, he, q⟩ := (ky.mem k).1 z
      have c := List.findIdx?_eq_none_iff.mp found e he
      rw [q] at c
      cases c
    dsimp only
    have gaveWay : ∀ (b : Bool) {s₁ : Shared} {Q' : Unit → Shared → Prop}, Q' () s₁ → wpAny (model P w) A (match b with | true => rule "set.scan.the-table-gave-way" | false => pure ()) Q' E s₁ := fun b s₁ Q' q => by
      cases b
      · exact wpAny_pure q
      · exact wpAny_rule q
    have pm := layNew_perm t es (knd.hash k) x
    have ft := layNew_fits t es (knd.hash k) x
    have rs := layNew_ris t es (knd.hash k) x ris
    have ld := layNew_led t es (knd.hash k) x
    generalize layNew t es (knd.hash k) x = Z at pm ft rs ld ⊢
    obtain ⟨es1, t1, dummy, gave⟩ := Z
    dsimp only at pm ft rs ld ⊢
    rw [Array.toList_push] at pm
    have pc : es1.toList.Perm ((knd.hash k, x) :: es.toList) := pm.trans (List.perm_append_singleton _ _)
    have ky1 : Keyed knd es1.toList (k :: ks) := (ky.more hx sx nk).perm pc
    have few1 : es1.size < scanBound := by
      rw [← Array.length_toList, ky1.len, List.length_cons]
      exact room
    have led1 : w.params.followText "set-order" = true ∨ t1.led = true := led.imp id fun z => by rw [ld]; exact z
    refine wpAny_bind (gaveWay _ ?_)
    split
    · refine wpAny_bind ?_
      rw [hashByValue_scannable 8 sx]
      refine wpAny_pure ?_
      refine gset_tail (knd := knd) (ls := k :: ks) (fun b s₁ Q' q => gaveWay b q) there ex dat ky1 few1 ?_ ?_ ?_ fun h' sb r => by dsimp only; exact wpAny_pure (new nk h' sb r)
      · first | exact ft | (split <;> first | exact ft | exact SetTable.fits_plain_off ft)
      · first | exact rs | (split <;> exact rs)
      · first | exact led1 | (split <;> exact led1)
    · refine wpAny_bind (wpAny_pure ?_)
      simp only [↓reduceIte]
      exact gset_tail (knd := knd) (ls := k :: ks) (fun b s₁ Q' q => gaveWay b q) there ex dat ky1 few1 ft rs led1 fun h' sb r => by dsimp only; exact wpAny_pure (new nk h' sb r)
end
end Lk

/-! SetG1 -/
set_option Elab.async false
set_option maxRecDepth 100000
set_option linter.all false
set_option maxHeartbeats 4000000
namespace Lk
open PySem PySem.Spec PyProof.Rows L2
section
variable {P : Program} {w : World} {κ : Type} [DecidableEq κ] {knd : KeyKind P w κ} {A : Around} {E : Value → Shared → Prop} {s : Shared}
/-- s.update(..), turn by turn: the keys so far -/
theorem gset_loop {I S : Addr} {fp wr : List Addr} {G : Array GenState → Array GenState → Prop} {n : Nat} {Pv : Nat → Value → Prop} {St : Nat → Shared → Prop} {R : Result → Shared → Prop} (W : WalksS P w A.in1 I fp wr G n Pv St) (apart : S ∉ fp) {ks : List κ}
    (len : n = ks.length) (room : ks.length + 1 < scanBound) (item : ∀ i v, Pv i v → ∃ k, ks[i]? = some k ∧ knd.is k v = true ∧ v.scannable = true)
    (done : ∀ s' us, Moved (S :: wr) G s s' → GSet knd s'.heap S us → (∀ k, k ∈ us ↔ k ∈ ks) → R (.ok (.ret .none)) s') :
    ∀ (m i : Nat) (s1 : Shared) (us : List κ), n - i = m → i ≤ n → St i s1 → Moved (S :: wr) G s s1 → GSet knd s1.heap S us → (∀ k, k ∈ us ↔ k ∈ ks.take i) → us.length ≤ i →
      codeAny (model P w) A (.builtin "set.update.loop" ⟨[.ref S, .ref I], []⟩) R s1 := by
  have aw : S ∉ wr := fun z => apart (W.sub _ z)
  have up : ∀ b ∈ wr, b ∈ S :: wr := fun b hb => List.mem_cons_of_mem _ hb
  intro m
  induction m with
  | zero =>
    intro i s1 us em hi st mv R1 mem _
    have ei : i = n := by omega
    rw [ei] at st mem
    refine codeAny_builtin F.entry_set_update_loop ?_
    rw [Around.under_plainId F.plain_set_update_loop _]
    show wpAny _ A.in1 (pyNext (.ref I) >>= _) _ _ s1
    refine wpAny_bind (W.done s1 _ _ st fun s2 mv2 => ?_)
    show wpAny _ A.in1 (ret Value.none) _ _ s2
    rw [List.take_of_length_le (Nat.le_of_eq len.symm)] at mem
    exact wpAny_pure (done s2 us (Moved.trans W.gtrans mv (mv2.mono up)) (R1.at fun o e => mv2.heap S o aw e) mem)
  | succ m ih =>
    intro i s1 us em hi st mv R1 mem few
    have lt : i < n := by omega
    refine codeAny_builtin F.entry_set_update_loop ?_
    rw [Around.under_plainId F.plain_set_update_loop _]
    show wpAny _ A.in1 (pyNext (.ref I) >>= _) _ _ s1
    refine wpAny_bind (W.item i s1 _ _ lt st fun v s2 pv st2 mv2 => ?_)
    obtain ⟨k, hk, iv, sv⟩ := item i v pv
    have R2 := R1.at (h' := s2.heap) fun o e => mv2.heap S o aw e
    have next : ∀ j, j ∈ ks.take (i + 1) ↔ j ∈ ks.take i ∨ j = k := fun j => by
      rw [List.take_add_one, hk]
      simp [List.mem_append]
    show wpAny _ A.in1 (holding [v] (setAdd S v) >>= _) _ _ s2
    refine wpAny_bind (wpAny_holding ?_)
    unfold setAdd
    refine wpAny_holding (wpAny_bind (knd.pyHash iv ?_))
    have mv12 := Moved.trans W.gtrans mv (mv2.mono up)
    refine gset_add (s := { s2 with toks := s2.toks + 1 }) R2 iv sv (by omega) (fun old => ?_) fun nk h3 sb R3 => ?_
    · refine wpAny_pure ⟨plainId_quiet F.plain_set_update_loop _, ih (i + 1) _ us (by omega) lt (W.frame _ s2 _ _ st2 (Nat.le_succ _) fun b hb o e => e) (mv12.then_heap (Nat.le_succ _) fun b o hb e => e) R2 (fun j => ?_) (by omega)⟩
      rw [next j, mem j]
      exact ⟨.inl, fun z => z.elim id fun e => e ▸ (mem k).1 old⟩
    · refine wpAny_pure ⟨plainId_quiet F.plain_set_update_loop _, ih (i + 1) _ (k :: us) (by omega) lt (W.frame _ s2 _ _ st2 (Nat.le_succ _) fun b hb o e => ?_) (mv12.then_heap (Nat.le_succ _) fun b o hb e => ?_) R3 (fun j => ?_) (by rw [List.length_cons]; omega)⟩
      · rw [sb.2 b (fun z : b = S => apart (by rw [← z]; exact hb))]
        exact e
      · rw [sb.2 b (fun z : b = S => hb (by rw [z]; exact List.mem_cons_self))]
        exact e
      · rw [next j, List.mem_cons, mem j]
        exact Or.comm
theorem gset_loop0 {I S : Addr} {fp wr : List Addr} {G : Array GenState → Array GenState → Prop} {n : Nat} {Pv : Nat → Value → Prop} {St : Nat → Shared → Prop} {R : Result → Shared → Prop} (W : WalksS P w A.in1 I fp wr G n Pv St) (apart : S ∉ fp) {ks : List κ}
    (len : n = ks.length) (room : ks.length + 1 < scanBound) (item : ∀ i v, Pv i v → ∃ k, ks[i]? = some k ∧ knd.is k v = true ∧ v.scannable = true) (st : St 0 s) (R0 : GSet knd s.heap S [])
    (done : ∀ s' us, Moved (S :: wr) G s s' → GSet knd s'.heap S us → (∀ k, k ∈ us ↔ k ∈ ks) → R (.ok (.ret .none)) s') : codeAny (model P w) A (.builtin "set.update.loop" ⟨[.ref S, .ref I], []⟩) R s :=
  gset_loop W apart len room item done (n - 0) 0 s [] rfl (Nat.zero_le _) st (Moved.refl W.grefl) R0 (fun k => by simp) (Nat.le_refl 0)
theorem gset_new {h : Heap} {a : Addr} (ho : h.get? a = some { cls := .type "set", dict := none, data := .set #[] 0 (.fresh 0 0 (!w.params.followText "set-order")) }) (f : Int × Value → κ) : GSet knd h a [] :=
  ⟨_, #[], 0, _, ho, ⟨rfl, rfl, rfl⟩, rfl, ⟨f, fun e he => by simp at he, List.Perm.nil, List.nodup_nil⟩, by decide, by rfl, List.Pairwise.nil, by
    show _ ∨ (!w.params.followText "set-order") = true
    cases w.params.followText "set-order"
    · exact .inr rfl
    · exact .inl rfl⟩
end
end Lk

/-! SetG2 -/
set_option Elab.async false
set_option maxRecDepth 100000
set_option linter.all false
set_option maxHeartbeats 4000000
namespace Lk
open PySem PySem.Spec PyProof.Rows L2
section
variable {P : Program} {w : World} {κ : Type} [DecidableEq κ] {knd : KeyKind P w κ} {A : Around} {E : Value → Shared → Prop} {s : Shared}
set_option maxRecDepth 100000 in
theorem call_set_L {l : Addr} {items : Array Value} {ks : List κ} {Q : Value → Shared → Prop} (hh : A.handled = none) (hl : s.heap.IsList l items) (f : Int × Value → κ) (len : items.size = ks.length) (room : ks.length + 1 < scanBound)
    (item : ∀ (i : Nat) (v : Value), items[i]? = some v → ∃ k, ks[i]? = some k ∧ knd.is k v = true ∧ v.scannable = true)
    (h : ∀ (h' : Heap) (tk : Nat) (us : List κ), GSet knd h' s.heap.objs.size us → (∀ k, k ∈ us ↔ k ∈ ks) → (∀ b o, s.heap.get? b = some o → h'.get? b = some o) → Q (.ref s.heap.objs.size) { s with heap := h', toks := tk }) :
    wpAny (model P w) A (call (.type "set") [.ref l]) Q E s := by
  obtain ⟨c, tl, hmro⟩ := F.called_set.mro
  have hmade := F.called_set.made
  have hsub := F.called_set.sub
  refine wpAny_call (codeAny_of_tree ?_)
  show wpAny _ _ (callAny (.type "set") _) _ _ _
  refine wpAny_pure ⟨Code.quiet_builtin _ (by decide +kernel), codeAny_builtin F.entry_type_call ?_⟩
  rw [Around.under_plain (weight_type_call_type "set" [.ref l] []) rfl]
  have h1 := F.called_set.notType
  have h2 := F.called_set.canCreate
  have hct := F.typeCall_set_1 (.ref l)
  repeat (any_goals (first | assumption | wp_step))
  refine codeAny_mono (code_set_led1 (.ref l) (E := E) (Q₁ := fun obj s₁ => obj = .ref s.heap.objs.size ∧ s₁ = { s with heap := s.heap.push { cls := .type "set", dict := none, data := .set #[] 0 (.fresh 0 0 (!w.params.followText "set-order")) } }) ⟨rfl, rfl⟩) fun r s₁ hr => ?_
  match r, hr with
  | .error e, hr => exact hr
  | .ok .next, hr => exact hr.elim
  | .ok .brk, hr => exact hr.elim
  | .ok .cont, hr => exact hr.elim
  | .ok (.ret obj), ⟨eo, es⟩ =>
    subst eo es
    have hS : (s.heap.push { cls := .type "set", dict := none, data := .set #[] 0 (.fresh 0 0 (!w.params.followText "set-order")) }).get? s.heap.objs.size = some { cls := .type "set", dict := none, data := .set #[] 0 (.fresh 0 0 (!w.params.followText "set-order")) } := Heap.get?_push_size _ rfl
    have hT : Shared.TypeIs { s with heap := s.heap.push { cls := .type "set", dict := none, data := .set #[] 0 (.fresh 0 0 (!w.params.followText "set-order")) } } (.ref s.heap.objs.size) "set" := ⟨_, hS, rfl⟩
    have hli := F.called_set.init.lookup
    have hbi := F.called_set.init.bind (.ref s.heap.objs.size)
    repeat (any_goals (first | assumption | wp_step))
    refine codeAny_mono (codeAny_call_builtin (R := wants (fun r s₂ => r = .none ∧ ∃ h' tk us, s₂ = { s with heap := h', toks := tk } ∧ GSet knd h' s.heap.objs.size us ∧ (∀ k, k ∈ us ↔ k ∈ ks) ∧
        (∀ b o, s.heap.get? b = some o → h'.get? b = some o)) E) F.called_set.init.plain F.entry_set_init (check_set_init_1 hT ?_)) fun r₂ s₂ hr₂ => ?_
    · obtain ⟨⟨ocls, odict, odata, oslots⟩, hol, hcl, nl, hdl⟩ := hl
      simp only at hcl hdl
      subst hcl hdl
      have hol' : (s.heap.push { cls := .type "set", dict := none, data := .set #[] 0 (.fresh 0 0 (!w.params.followText "set-order")) }).get? l = some { cls := .type "list", dict := odict, data := .seq items nl, slots := oslots } := Heap.get?_push_of_some _ hol
      have hsls := F.sub_list_set
      have hslf := F.sub_list_frozenset
      have hne : (Value.type "list" == Value.type "dict") = false := by decide
      have hl1 : (s.heap.push { cls := .type "set", dict := none, data := .set #[] 0 (.fresh 0 0 (!w.params.followText "set-order")) }).IsList l items := ⟨_, hol', rfl, nl, rfl⟩
      unfold Builtin.«set.__init__» noKeywords Builtin.Frozenset.updateFrom
      generalize hPI : pyIter = PI
      wp_walk
      subst hPI
      refine wpAny_pyIter_list hl1 ?_
      refine wpAny_bind (wpAny_runValue ?_)
      have lt : l < s.heap.objs.size := Heap.lt_size hol
      have sz : (s.heap.push { cls := .type "set", dict := none, data := .set #[] 0 (.fresh 0 0 (!w.params.followText "set-order")) }).objs.size = s.heap.objs.size + 1 := Heap.size_push ..
      have quiet : A.in1.in1.in1.handled = none := by simp [hh]
      have n1 : l ≠ (s.heap.push { cls := .type "set", dict := none, data := .set #[] 0 (.fresh 0 0 (!w.params.followText "set-order")) }).objs.size := by
        rw [Heap.size_push]
        exact Nat.ne_of_lt (Nat.lt_succ_of_lt lt)
      have n2 : s.heap.objs.size ∉ [(s.heap.push { cls := .type "set", dict := none, data := .set #[] 0 (.fresh 0 0 (!w.params.followText "set-order")) }).objs.size, l] := by
        rw [Heap.size_push]
        simp only [List.mem_cons, List.not_mem_nil, or_false, not_or]
        exact ⟨Nat.ne_of_lt (Nat.lt_succ_self _), Nat.ne_of_gt lt⟩
      refine gset_loop0 (knd := knd) (ks := ks) ((Walks.list quiet _ l n1 items).toS) n2 len room item ⟨⟨_, Heap.get?_push_size _ rfl, rfl, rfl⟩, (hl1.push _)⟩ ?hS0 ?hR
      case hS0 => exact gset_new (Heap.get?_push_of_some _ hS) f
      case hR =>
        rintro ⟨h', g2, d', tk', os'⟩ us mv R2 mem
        have eg := mv.gens
        have ed := mv.drawn
        have eo := mv.os
        dsimp only at eg ed eo
        subst eg ed eo
        show wpAny _ _ _ _ _ _
        refine wpAny_pure ?_
        show wpAny _ _ (ret Value.none) _ _ _
        refine wpAny_pure ⟨rfl, h', tk', us, rfl, R2, mem, fun b o e => ?_⟩
        have lb := Heap.lt_size e
        refine mv.heap b o ?_ (Heap.get?_push_of_some _ (Heap.get?_push_of_some _ e))
        rw [Heap.size_push]
        simp only [List.mem_cons, List.not_mem_nil, or_false, not_or]
        exact ⟨Nat.ne_of_lt lb, Nat.ne_of_lt (Nat.lt_succ_of_lt lb)⟩
    · match r₂, hr₂ with
      | .error e, hr₂ => exact hr₂
      | .ok .next, hr₂ => exact hr₂.elim
      | .ok .brk, hr₂ => exact hr₂.elim
      | .ok .cont, hr₂ => exact hr₂.elim
      | .ok (.ret r), ⟨er, h', tk, us, es, R2, mem, kp⟩ =>
        subst er es
        repeat (any_goals (first | assumption | wp_step))
        exact h _ _ _ R2 mem kp
end
end Lk

/-! SetG3 -/
set_option Elab.async false
set_option maxRecDepth 100000
set_option linter.all false
set_option maxHeartbeats 4000000
namespace Lk
open PySem PySem.Spec PyProof.Rows L2
section
variable {P : Program} {w : World} {κ : Type} [DecidableEq κ] {knd : KeyKind P w κ} {A : Around} {E : Value → Shared → Prop} {s : Shared}
set_option maxRecDepth 100000 in
theorem call_set_T {l : Addr} {items : Array Value} {ks : List κ} {Q : Value → Shared → Prop} (hh : A.handled = none) (hl : s.heap.IsTuple l items) (f : Int × Value → κ) (len : items.size = ks.length) (room : ks.length + 1 < scanBound)
    (item : ∀ (i : Nat) (v : Value), items[i]? = some v → ∃ k, ks[i]? = some k ∧ knd.is k v = true ∧ v.scannable = true)
    (h : ∀ (h' : Heap) (tk : Nat) (us : List κ), GSet knd h' s.heap.objs.size us → (∀ k, k ∈ us ↔ k ∈ ks) → (∀ b o, s.heap.get? b = some o → h'.get? b = some o) → Q (.ref s.heap.objs.size) { s with heap := h', toks := tk }) :
    wpAny (model P w) A (call (.type "set") [.ref l]) Q E s := by
  obtain ⟨c, tl, hmro⟩ := F.called_set.mro
  have hmade := F.called_set.made
  have hsub := F.called_set.sub
  refine wpAny_call (codeAny_of_tree ?_)
  show wpAny _ _ (callAny (.type "set") _) _ _ _
  refine wpAny_pure ⟨Code.quiet_builtin _ (by decide +kernel), codeAny_builtin F.entry_type_call ?_⟩
  rw [Around.under_plain (weight_type_call_type "set" [.ref l] []) rfl]
  have h1 := F.called_set.notType
  have h2 := F.called_set.canCreate
  have hct := F.typeCall_set_1 (.ref l)
  repeat (any_goals (first | assumption | wp_step))
  refine codeAny_mono (code_set_led1 (.ref l) (E := E) (Q₁ := fun obj s₁ => obj = .ref s.heap.objs.size ∧ s₁ = { s with heap := s.heap.push { cls := .type "set", dict := none, data := .set #[] 0 (.fresh 0 0 (!w.params.followText "set-order")) } }) ⟨rfl, rfl⟩) fun r s₁ hr => ?_
  match r, hr with
  | .error e, hr => exact hr
  | .ok .next, hr => exact hr.elim
  | .ok .brk, hr => exact hr.elim
  | .ok .cont, hr => exact hr.elim
  | .ok (.ret obj), ⟨eo, es⟩ =>
    subst eo es
    have hS : (s.heap.push { cls := .type "set", dict := none, data := .set #[] 0 (.fresh 0 0 (!w.params.followText "set-order")) }).get? s.heap.objs.size = some { cls := .type "set", dict := none, data := .set #[] 0 (.fresh 0 0 (!w.params.followText "set-order")) } := Heap.get?_push_size _ rfl
    have hT : Shared.TypeIs { s with heap := s.heap.push { cls := .type "set", dict := none, data := .set #[] 0 (.fresh 0 0 (!w.params.followText "set-order")) } } (.ref s.heap.objs.size) "set" := ⟨_, hS, rfl⟩
    have hli := F.called_set.init.lookup
    have hbi := F.called_set.init.bind (.ref s.heap.objs.size)
    repeat (any_goals (first | assumption | wp_step))
    refine codeAny_mono (codeAny_call_builtin (R := wants (fun r s₂ => r = .none ∧ ∃ h' tk us, s₂ = { s with heap := h', toks := tk } ∧ GSet knd h' s.heap.objs.size us ∧ (∀ k, k ∈ us ↔ k ∈ ks) ∧
        (∀ b o, s.heap.get? b = some o → h'.get? b = some o)) E) F.called_set.init.plain F.entry_set_init (check_set_init_1 hT ?_)) fun r₂ s₂ hr₂ => ?_
    · obtain ⟨⟨ocls, odict, odata, oslots⟩, hol, hcl, nl, hdl⟩ := hl
      simp only at hcl hdl
      subst hcl hdl
      have hol' : (s.heap.push { cls := .type "set", dict := none, data := .set #[] 0 (.fresh 0 0 (!w.params.followText "set-order")) }).get? l = some { cls := .type "tuple", dict := odict, data := .seq items nl, slots := oslots } := Heap.get?_push_of_some _ hol
      have hsls := F.sub_tuple_set
      have hslf := F.sub_tuple_frozenset
      have hne : (Value.type "tuple" == Value.type "dict") = false := by decide
      have hl1 : (s.heap.push { cls := .type "set", dict := none, data := .set #[] 0 (.fresh 0 0 (!w.params.followText "set-order")) }).IsTuple l items := ⟨_, hol', rfl, nl, rfl⟩
      unfold Builtin.«set.__init__» noKeywords Builtin.Frozenset.updateFrom
      generalize hPI : pyIter = PI
      wp_walk
      subst hPI
      refine wpAny_pyIter_tuple hl1 ?_
      refine wpAny_bind (wpAny_runValue ?_)
      have lt : l < s.heap.objs.size := Heap.lt_size hol
      have sz : (s.heap.push { cls := .type "set", dict := none, data := .set #[] 0 (.fresh 0 0 (!w.params.followText "set-order")) }).objs.size = s.heap.objs.size + 1 := Heap.size_push ..
      have quiet : A.in1.in1.in1.handled = none := by simp [hh]
      have n1 : l ≠ (s.heap.push { cls := .type "set", dict := none, data := .set #[] 0 (.fresh 0 0 (!w.params.followText "set-order")) }).objs.size := by
        rw [Heap.size_push]
        exact Nat.ne_of_lt (Nat.lt_succ_of_lt lt)
      have n2 : s.heap.objs.size ∉ [(s.heap.push { cls := .type "set", dict := none, data := .set #[] 0 (.fresh 0 0 (!w.params.followText "set-order")) }).objs.size, l] := by
        rw [Heap.size_push]
        simp only [List.mem_cons, List.not_mem_nil, or_false, not_or]
        exact ⟨Nat.ne_of_lt (Nat.lt_succ_self _), Nat.ne_of_gt lt⟩
      refine gset_loop0 (knd := knd) (ks := ks) ((Walks.tuple quiet _ l n1 items).toS) n2 len room item ⟨⟨_, Heap.get?_push_size _ rfl, rfl, rfl⟩, (hl1.push _)⟩ ?hS0 ?hR
      case hS0 => exact gset_new (Heap.get?_push_of_some _ hS) f
      case hR =>
        rintro ⟨h', g2, d', tk', os'⟩ us mv R2 mem
        have eg := mv.gens
        have ed := mv.drawn
        have eo := mv.os
        dsimp only at eg ed eo
        subst eg ed eo
        show wpAny _ _ _ _ _ _
        refine wpAny_pure ?_
        show wpAny _ _ (ret Value.none) _ _ _
        refine wpAny_pure ⟨rfl, h', tk', us, rfl, R2, mem, fun b o e => ?_⟩
        have lb := Heap.lt_size e
        refine mv.heap b o ?_ (Heap.get?_push_of_some _ (Heap.get?_push_of_some _ e))
        rw [Heap.size_push]
        simp only [List.mem_cons, List.not_mem_nil, or_false, not_or]
        exact ⟨Nat.ne_of_lt lb, Nat.ne_of_lt (Nat.lt_succ_of_lt lb)⟩
    · match r₂, hr₂ with
      | .error e, hr₂ => exact hr₂
      | .ok .next, hr₂ => exact hr₂.elim
      | .ok .brk, hr₂ => exact hr₂.elim
      | .ok .cont, hr₂ => exact hr₂.elim
      | .ok (.ret r), ⟨er, h', tk, us, es, R2, mem, kp⟩ =>
        subst er es
        repeat (any_goals (first | assumption | wp_step))
        exact h _ _ _ R2 mem kp
end
end Lk

/-! SetS0 -/
set_option Elab.async false
set_option maxRecDepth 100000
set_option linter.all false
set_option maxHeartbeats 4000000
namespace Lk
open PySem PySem.Spec PyProof.Rows L2
/-! ### sorted(s), s a set of texts -/
def strOf : Value → Str
  | .str x _ => x
  | _ => Str.empty
def leT (x y : Str) : Bool := decide (x.cps.toList ≤ y.cps.toList)
theorem leT_data : PySem.W.dataLe false PyData.str = leT := PySem.W.dataLe_str (β := Str) (fun x => x)
theorem leT_trans (x y z : Str) (h : leT x y = true) (g : leT y z = true) : leT x z = true := decide_eq_true (List.le_trans (of_decide_eq_true h) (of_decide_eq_true g))
theorem leT_total (x y : Str) : (leT x y || leT y x) = true := by
  rw [Bool.or_eq_true]
  exact (List.le_total x.cps.toList y.cps.toList).imp (fun h => decide_eq_true h) fun h => decide_eq_true h
theorem leT_anti (x y : Str) (h : leT x y = true) (g : leT y x = true) : x = y := TL.ext_tl (List.le_antisymm (of_decide_eq_true h) (of_decide_eq_true g))
section
variable {P : Program} {w : World} {A : Around} {E : Value → Shared → Prop} {s : Shared} {a : Addr} {us : List Str}
theorem is_strOf {k : Str} {v : Value} (h : (strKind P w).is k v = true) : ∃ t, v = .str k t := by
  cases v with
  | str x t =>
    have e : x = k := by
      have h2 : Value.isStrOf k (.str x t) = true := h
      simpa [Value.isStrOf] using h2
    exact ⟨t, by rw [e]⟩
  | _ => exact Bool.noConfusion (show false = true from h)
theorem sorted_gset {Q : Value → Shared → Prop} (R : GSet (strKind P w) s.heap a us) (hh : A.handled = none) (hu : A.units + 64 < cLine)
    (hQ : ∀ s' p (out : List Value) (c : Nat) (cs : List Str), (∀ b o, s.heap.get? b = some o → s'.heap.get? b = some o) → s'.gens = s.gens → s'.os = s.os → s.heap.objs.size ≤ p →
      s'.heap.get? p = some (seqObj "list" out.toArray c) → PySem.W.EachIs (fun v x => ∃ t, v = Value.str x t) out cs → cs.Perm us → cs.Pairwise (fun x y => leT x y = true) → Q (.ref p) s') :
    wpAny (model P w) A (call (.builtin "sorted") [.ref a]) Q E s := by
  obtain ⟨o, es, ep, t, ho, hex, hd, ky, few, fit, ris, led⟩ := R
  refine Calls.call_function_entry kind_sorted plain_sorted entry_sorted (args_sorted1 _) ?_
  unfold Builtin.«sorted»
  refine wpAny_bind (m := checkCount "sorted" 1 1 _) (wpAny_pure ?_)
  refine wpAny_bind (collect_set (A := A.in1) hh ⟨o, ho, hex.1, hd⟩ fit few ris led fun s1 vs k1 hz g1 o1 pm => ?_)
  obtain ⟨f, hf, pf, nd⟩ := ky
  have each : ∀ v ∈ vs, ∃ t, v = Value.str (strOf v) t := fun v hv => by
    obtain ⟨e, he, rfl⟩ := List.mem_map.mp (pm.mem_iff.mp hv)
    obtain ⟨t, z⟩ := is_strOf (hf e he).1.1
    rw [z]
    exact ⟨t, rfl⟩
  have pu : (vs.map strOf).Perm us := by
    refine (pm.map strOf).trans ?_
    rw [List.map_map]
    refine List.Perm.trans (List.Perm.of_eq (List.map_congr_left fun e he => ?_)) pf
    obtain ⟨t, z⟩ := is_strOf (hf e he).1.1
    show strOf e.2 = f e
    rw [z]
    rfl
  have hvl : vs.length ≤ sizeLine := by
    rw [pm.length_eq, List.length_map, Array.length_toList]
    exact fits_of_scanBound few
  refine wpAny_bind (wpAny_newList ?_ hvl)
  have hoL : (s1.heap.push (seqObj "list" vs.toArray 0)).get? s1.heap.objs.size = some (seqObj "list" vs.toArray 0) := Heap.get?_push_size _ rfl
  have ev : ∀ {l : List Value}, (∀ v ∈ l, ∃ t, v = Value.str (strOf v) t) → PySem.W.EachIs (fun v x => ∃ t, v = Value.str x t) l (l.map strOf) := by
    intro l
    induction l with
    | nil => exact fun _ => .nil
    | cons v r ih => exact fun h => .cons (h v List.mem_cons_self) (ih fun u hu => h u (List.mem_cons_of_mem _ hu))
  have er : ∀ {l : List Value} {h : Heap}, (∀ v ∈ l, ∃ t, v = Value.str (strOf v) t) → PySem.W.EachIs (fun v x => ∃ as, Reads h v (.str x) as ∧ s1.heap.objs.size ∉ as) l (l.map strOf) := by
    intro l h
    induction l with
    | nil => exact fun _ => .nil
    | cons v r ih =>
      refine fun hv => .cons ?_ (ih fun u hu => hv u (List.mem_cons_of_mem _ hu))
      obtain ⟨t, z⟩ := hv v List.mem_cons_self
      rw [z]
      exact ⟨[], Reads.str _ t, fun h => nomatch h⟩
  refine wpAny_bind (wpAny_holding (PySem.W.list_sort_data (enc := PyData.str) (s := { s1 with heap := s1.heap.push (seqObj "list" vs.toArray 0) }) hoL (ev each) (er each) (PySem.W.AllAlike.of fun _ _ => rfl) (PySem.W.Sortable.others fun _ => ⟨(fun z => nomatch z), (fun _ z => nomatch z)⟩) (by rw [List.length_map]; exact hvl) (fun _ _ => by show A.in1.units + 1 + 0 < cLine; simp; omega) fun out len eo => ?_))
  rw [leT_data] at eo
  obtain ⟨c, hc⟩ := sortedHeap_at (vs := vs) (out := out.toArray) hoL
  refine wpAny_pure ⟨_, rfl, hQ _ s1.heap.objs.size out c _ (fun b u e => ?_) g1 o1 hz hc eo ((List.mergeSort_perm _ _).trans pu) ?_⟩
  · have q := k1 b u e
    have hlt := Heap.lt_size q
    show (sortedHeap (s1.heap.push (seqObj "list" vs.toArray 0)) s1.heap.objs.size vs out.toArray).get? b = some u
    rw [sortedHeap_old (Nat.ne_of_lt hlt) (by rw [size_push']; exact Nat.lt_succ_of_lt hlt)]
    exact Heap.get?_push_of_some _ q
  · exact List.pairwise_mergeSort leT_trans leT_total _
end
end Lk

/-! SetS1 -/
set_option Elab.async false
set_option maxRecDepth 100000
set_option linter.all false
set_option maxHeartbeats 4000000
namespace Lk
open PySem PySem.Spec PyProof.Rows L2
/-! ### sets of texts over the layer -/
def SetTx (P : Program) (w : World) (a : Addr) (us : List Str) : HO := .ext fun h => GSet (strKind P w) h a us
section
variable {X : Cx}
theorem setTx_ok {H : Hp} {h : Heap} {a : Addr} {us : List Str} (R : GSet (strKind X.prog X.w) h a us) : ObjOk X.prog X.w H h a (SetTx X.prog X.w a us) :=
  ⟨R, (by
    obtain ⟨o, _, _, _, ho, _⟩ := R
    exact ⟨o, ho⟩), fun _ _ z k => z.at k⟩
theorem strs_item {us : List Value} {ss : List Str} (r : StrsAre us ss) : ∀ (i : Nat) (v : Value), us.toArray[i]? = some v → ∃ k, ss[i]? = some k ∧ (strKind X.prog X.w).is k v = true ∧ v.scannable = true := fun i v h => by
  have h2 : us[i]? = some v := by simpa using h
  obtain ⟨t, e⟩ := SS.strs_at r i v h2
  have lt : i < ss.length := by
    rw [← StrsAre.length r]
    exact (List.getElem?_eq_some_iff.mp h2).1
  refine ⟨ss[i], List.getElem?_eq_getElem lt, ?_, by rw [e]; rfl⟩
  rw [e, List.getD_eq_getElem?_getD, List.getElem?_eq_getElem lt]
  exact strKind_is _ _ _ _
def rSetS (K : PySem.W.Frag) (P : Program) (w : World) : List V → Hp → VK → Prop := fun xs H Q => ∃ (l : Addr) (ss : List Str), xs = [.ref l] ∧ (SqL K H l (ss.map V.str) ∨ SqT K H l (ss.map V.str)) ∧ ss.length + 1 < scanBound ∧
  ∀ (p : Addr) (us : List Str), H p = none → us.Nodup → (∀ x, x ∈ us ↔ x ∈ ss) → Q (.ref p) (upd H p (SetTx P w p us))
theorem call_setS (calm : X.calm = true) : CallR X (.type "set") (rSetS X.K X.prog X.w) := by
  intro pins s σ H xs us Q I r h
  obtain ⟨l, ss, rfl, hl, room, q⟩ := h
  rw [Vals.ref1 r]
  have hn : H s.heap.objs.size = none := I.hok.fresh (Nat.le_refl _)
  have fin : ∀ (h' : Heap) (tk : Nat) (us : List Str), GSet (strKind X.prog X.w) h' s.heap.objs.size us → (∀ k, k ∈ us ↔ k ∈ ss) → (∀ b o, s.heap.get? b = some o → h'.get? b = some o) → EP X pins σ Q (.ref s.heap.objs.size) { s with heap := h', toks := tk } := fun h' tk us R m k =>
    ⟨.ref s.heap.objs.size, upd H s.heap.objs.size (SetTx X.prog X.w s.heap.objs.size us), I.laid (t' := tk) k (Nat.le_refl _) (setTx_ok R), rfl, q _ us hn (by
      obtain ⟨_, _, _, _, _, _, _, ⟨_, _, _, nd⟩, _⟩ := R
      exact nd) m⟩
  rcases hl with hl | hl
  · obtain ⟨its, rv, pl, hz⟩ := I.list hl
    have rs := strs_of_vals rv
    exact call_set_L (knd := strKind X.prog X.w) (ks := ss) (I.ok.hd calm) pl.isList (fun e => strOf e.2) (by rw [List.size_toArray]; exact StrsAre.length rs) room (strs_item rs) fin
  · obtain ⟨its, rv, pl, hz⟩ := I.tuple hl
    have rs := strs_of_vals rv
    exact call_set_T (knd := strKind X.prog X.w) (ks := ss) (I.ok.hd calm) (by
      obtain ⟨o, ho, hc, n, hd⟩ := pl
      exact ⟨o, ho, hc, n, hd⟩) (fun e => strOf e.2) (by rw [List.size_toArray]; exact StrsAre.length rs) room (strs_item rs) fin
theorem vals_each : ∀ {out : List Value} {cs : List Str}, PySem.W.EachIs (fun v x => ∃ t, v = Value.str x t) out cs → Vals (cs.map V.str) out
  | _, _, .nil => .nil
  | _, _, .cons h t => .cons h (vals_each t)
/-- sorted(s), s a set of texts -/
def rSortedS (P : Program) (w : World) : List V → Hp → VK → Prop := fun xs H Q => ∃ (a : Addr) (us : List Str), xs = [.ref a] ∧ H a = some (SetTx P w a us) ∧
  ∀ (p : Addr) (cs : List Str), H p = none → cs.Perm us → cs.Pairwise (fun x y => leT x y = true) → Q (.ref p) (upd H p (.lst (cs.map V.str)))
theorem call_sortedS (calm : X.calm = true) (hu : X.A.units + 64 < cLine) : CallR X (.builtin "sorted") (rSortedS X.prog X.w) := by
  intro pins s σ H xs us Q I r h
  obtain ⟨a, ks, rfl, ha, q⟩ := h
  have R : GSet (strKind X.prog X.w) s.heap a ks := (I.hok a _ ha).1
  rw [Vals.ref1 r]
  refine sorted_gset R (I.ok.hd calm) hu fun s' p out c cs k g o hp hg ev pm pw => ?_
  have hn : H p = none := I.hok.fresh hp
  have few : ks.length < scanBound := by
    obtain ⟨_, es, _, _, _, _, _, ky, few, _⟩ := R
    rw [← ky.len, Array.length_toList]
    exact few
  have hlen : (cs.map V.str).length ≤ sizeLine := by
    rw [List.length_map, pm.length_eq]
    exact fits_of_scanBound few
  have J : Inv X pins σ (upd H p (.lst (cs.map V.str))) { s with heap := s'.heap, gens := s'.gens, drawn := s'.drawn, toks := s'.toks } :=
    I.call (ch := []) (Un.laid k hp hn) (I.hok.laid k hp ⟨hlen, out, c, vals_each ev, hg⟩) (by rw [g]; exact I.bare) (fun _ z => nomatch z)
  have e : s' = { s with heap := s'.heap, gens := s'.gens, drawn := s'.drawn, toks := s'.toks } := by
    cases s'
    cases s
    cases o
    rfl
  rw [e]
  exact ⟨.ref p, _, J, rfl, q p cs hn pm pw⟩
end
end Lk

/-! SetS2 -/
set_option Elab.async false
set_option maxRecDepth 100000
set_option linter.all false
set_option maxHeartbeats 4000000
namespace Lk
open PySem PySem.Spec PyProof.Rows L2
/-! ### sorted(xs, key=len), xs a list of texts -/
def leL (x y : Str) : Bool := decide ((x.length : Int) ≤ (y.length : Int))
theorem leL_data : PySem.W.dataLe false (fun x : Str => PyData.int x.length) = leL := PySem.W.dataLe_int (β := Str) (fun x => (x.length : Int))
theorem each_vals : ∀ {us : List Value} {ss : List Str}, StrsAre us ss → PySem.W.EachIs (fun v x => ∃ t, v = Value.str x t) us ss
  | _, _, .nil => .nil
  | _, _, .cons x t h => .cons ⟨t, rfl⟩ (each_vals h)
section
variable {X : Cx}
def tSortLen (K : PySem.W.Frag) (te : TE) : TE := fun σ H Q => te σ H fun x H1 => ∃ (l : Addr) (ss : List Str), x = .ref l ∧ SqL K H1 l (ss.map V.str) ∧ (∀ y ∈ ss, y.length ≤ sizeLine) ∧ ∀ p, H1 p = none → Q (.ref p) (upd H1 p (.lst ((ss.mergeSort leL).map V.str)))
theorem pe_sortLen {e : Expr} {te : TE} {p p2 kp pos : Pos} (he : PE X e te) (hm : X.mg "sorted" = none) (hl : X.mg "len" = none) (hu : X.A.units + 64 < cLine) (hg : Gl X "sorted" := by rfl) (hgl : Gl X "len" := by rfl)
    (h1 : backTo pos (starEach [e] X.env) = (false, eval e X.env) :: backTo pos (starEach [] X.env) := by rfl) (h2 : (backTo pos (starEach [e] X.env)).any (·.1) = false := by rfl)
    (hs : starEach [e] X.env = (false, eval e X.env) :: starEach [] X.env := by rfl) :
    PE X (.Call (.Name "sorted" p) [e] [⟨some "key", .Name "len" p2, kp⟩] pos) (tSortLen X.K te) := by
  refine ⟨fun pins s σ H Q I h => ?_⟩
  refine wpAny_Call_Name_kw (ld_blt I hg hm (show bootBuiltins "sorted" = some (.builtin "sorted") by decide +kernel) ?_ (by decide) (by decide))
  let Q' : List V → Hp → Prop := fun vs H1 => match vs with
    | [x] => ∃ (l : Addr) (ss : List Str), x = .ref l ∧ SqL X.K H1 l (ss.map V.str) ∧ (∀ y ∈ ss, y.length ≤ sizeLine) ∧ ∀ p, H1 p = none → Q (.ref p) (upd H1 p (.lst ((ss.mergeSort leL).map V.str)))
    | _ => False
  refine PyProof.Rows.callWith_kw (thn ((pa_cons he pa_nil hs).run pos pins s σ H Q' I h) fun us s1 ⟨vs, H1, I1, r1, q1⟩ => ?_) h1 h2 (by rfl) (by rfl)
  match vs, r1, q1 with
  | [x], r1, ⟨l, ss, ex, hl2, hz, q⟩ =>
    subst ex
    have eu := Vals.ref1 r1
    subst eu
    show wpAny _ _ (evalAll ((do let v ← eval (.Name "len" p2) X.env; standAt pos; pure v) :: [])) _ _ s1
    refine wpAny_evalAll_cons (wpAny_bind (ld_blt I1 hgl hl (show bootBuiltins "len" = some (.builtin "len") by decide +kernel) (wpAny_bind (wpAny_standAt (wpAny_pure ?_))) (by decide) (by decide)))
    refine wpAny_evalAll_nil ?_
    show wpAny _ _ (call (.builtin "sorted") [.ref l] [(Str.ofString "key", .builtin "len")]) _ _ s1
    obtain ⟨its, rv, pl, hz2⟩ := I1.list hl2
    have rs := strs_of_vals rv
    rw [List.length_map] at hz2
    have pm := List.mergeSort_perm ss leL
    refine PySem.W.sorted_key_data (k := fun x : Str => PyData.int x.length) (b := false) (f := .builtin "len") pl.isList (each_vals rs) (PySem.W.AllAlike.of fun _ _ => rfl) (PySem.W.Sortable.others fun _ => ⟨(fun z => nomatch z), (fun _ z => nomatch z)⟩) hz2
      (fun _ _ => by show X.A.units + 2 + 0 < cLine; omega) (PyProof.Rows.ksk_s1 _ _) (fun _ => PyProof.Rows.ksk_l1 _ _) (fun _ => PyProof.Rows.ksk_t4 _ _) (fun v y hv hy h2 tk kp => ?_) fun out c h' tk kp fr hD len eo => ?_
    · obtain ⟨t, rfl⟩ := hv
      have hy2 := hz y hy
      rw [sizeLine_eq] at hy2
      exact len_str (by omega) ⟨h2, _, rfl, fun _ _ q => q, Reads.int _ _⟩
    · rw [leL_data] at eo
      have hlen : ((ss.mergeSort leL).map V.str).length ≤ sizeLine := by
        rw [List.length_map, pm.length_eq]
        exact hz2
      exact ⟨.ref _, upd H1 (s1.heap.objs.size + 1) (.lst ((ss.mergeSort leL).map V.str)), I1.laid (t' := tk) kp (Nat.le_succ _) ⟨hlen, out, c, vals_each eo, hD⟩, rfl, q _ (I1.hok.fresh (Nat.le_succ _))⟩
end
end Lk

/-! Asc0 -/
set_option Elab.async false
set_option maxRecDepth 100000
set_option linter.all false
set_option maxHeartbeats 4000000
namespace Lk
open PySem PySem.Spec PyProof.Rows L2
/-! ### the order of names -/
def leA (x y : Str) : Prop := x.length < y.length ∨ (x.length = y.length ∧ leT x y = true)
/-- the ascending list of the different ones -/
structure IsAsc (cs ss : List Str) : Prop where
  nd : cs.Nodup
  mem : ∀ x, x ∈ cs ↔ x ∈ ss
  pw : cs.Pairwise leA
theorem leA_anti {x y : Str} (h : leA x y) (g : leA y x) : x = y := by
  rcases h with h | ⟨e, h⟩
  · rcases g with g | ⟨f, g⟩ <;> omega
  · rcases g with g | ⟨f, g⟩
    · omega
    · exact leT_anti x y h g
theorem IsAsc.uniq {cs ds ss : List Str} (h : IsAsc cs ss) (g : IsAsc ds ss) : cs = ds :=
  List.Perm.eq_of_pairwise (fun _ _ _ _ a b => leA_anti a b) h.pw g.pw ((List.perm_ext_iff_of_nodup h.nd g.nd).mpr fun x => (h.mem x).trans (g.mem x).symm)
theorem IsAsc.same {cs ss ts : List Str} (h : IsAsc cs ss) (e : ∀ x, x ∈ ss ↔ x ∈ ts) : IsAsc cs ts := ⟨h.nd, fun x => (h.mem x).trans (e x), h.pw⟩
theorem two_way {α : Type} {x y : α} (ne : x ≠ y) : ∀ {l : List α}, x ∈ l → y ∈ l → List.Sublist [x, y] l ∨ List.Sublist [y, x] l
  | a :: l, hx, hy => by
    rcases List.mem_cons.mp hx with e1 | h1
    · rcases List.mem_cons.mp hy with e2 | h2
      · exact absurd (e1.trans e2.symm) ne
      · rw [← e1]
        exact .inl (List.Sublist.cons_cons _ (List.singleton_sublist.mpr h2))
    · rcases List.mem_cons.mp hy with e2 | h2
      · rw [← e2]
        exact .inr (List.Sublist.cons_cons _ (List.singleton_sublist.mpr h1))
      · exact (two_way ne h1 h2).imp (fun z => z.cons _) fun z => z.cons _
theorem one_way {α : Type} {x y : α} (ne : x ≠ y) : ∀ {l : List α}, l.Nodup → List.Sublist [x, y] l → List.Sublist [y, x] l → False
  | [], _, h, _ => by cases h
  | a :: l, nd, h, g => by
    obtain ⟨na, nl⟩ := List.nodup_cons.mp nd
    cases h with
    | cons _ h =>
      cases g with
      | cons _ g => exact one_way ne nl h g
      | cons_cons _ g => exact na (h.subset (by simp))
    | cons_cons _ h =>
      cases g with
      | cons _ g => exact na (g.subset (by simp))
      | cons_cons _ g => exact ne rfl
theorem leL_trans (x y z : Str) (h : leL x y = true) (g : leL y z = true) : leL x z = true := by
  have h2 := of_decide_eq_true h
  have g2 := of_decide_eq_true g
  exact decide_eq_true (by omega)
theorem leL_total (x y : Str) : (leL x y || leL y x) = true := by
  rw [Bool.or_eq_true]
  by_cases h : (x.length : Int) ≤ (y.length : Int)
  · exact .inl (decide_eq_true h)
  · exact .inr (decide_eq_true (by omega))
theorem asc_of {us ss cs : List Str} (nd : us.Nodup) (mem : ∀ x, x ∈ us ↔ x ∈ ss) (pm : cs.Perm us) (pw : cs.Pairwise (fun x y => leT x y = true)) : IsAsc (cs.mergeSort leL) ss := by
  have p2 := (List.mergeSort_perm cs leL).trans pm
  have n2 := p2.nodup_iff.mpr nd
  refine ⟨n2, fun x => (p2.mem_iff).trans (mem x), List.pairwise_iff_forall_sublist.mpr fun {x y} hs => ?_⟩
  have hL : leL x y = true := List.pairwise_iff_forall_sublist.mp (List.pairwise_mergeSort leL_trans leL_total cs) hs
  have h2 := of_decide_eq_true hL
  by_cases lt : x.length < y.length
  · exact .inl lt
  have eq : x.length = y.length := by omega
  refine .inr ⟨eq, ?_⟩
  have ne : x ≠ y := List.pairwise_iff_forall_sublist.mp n2 hs
  have hx : x ∈ cs := (List.mergeSort_perm cs leL).mem_iff.mp (hs.subset (by simp))
  have hy : y ∈ cs := (List.mergeSort_perm cs leL).mem_iff.mp (hs.subset (by simp))
  rcases two_way ne hx hy with z | z
  · exact List.pairwise_iff_forall_sublist.mp pw z
  · have hL2 : leL y x = true := decide_eq_true (by omega)
    exact (one_way ne n2 hs (List.pair_sublist_mergeSort leL_trans leL_total hL2 z)).elim
end Lk

/-! Stem0 -/
set_option Elab.async false
set_option maxRecDepth 100000
set_option linter.all false
set_option maxHeartbeats 4000000
namespace Lk
open PySem PySem.Spec PyProof.Rows L2
/-! ### stems -/
theorem starts_tl {x y : Str} : Txt.startswith x y = true ↔ ∃ r, TL.tl x = TL.tl y ++ r := by
  unfold Txt.startswith
  rw [StrLaws.subAt_eq, Bool.and_eq_true, decide_eq_true_eq, beq_iff_eq, List.drop_zero]
  constructor
  · rintro ⟨_, h⟩
    exact ⟨(TL.tl x).drop y.length, by
      have e : TL.tl x = (TL.tl x).take y.length ++ (TL.tl x).drop y.length := (List.take_append_drop _ _).symm
      rw [show (TL.tl x).take y.length = TL.tl y from h] at e
      exact e⟩
  · rintro ⟨r, h⟩
    have l1 : x.length = (TL.tl y ++ r).length := by rw [TL.len_tl, h]
    rw [List.length_append, ← TL.len_tl] at l1
    refine ⟨by omega, ?_⟩
    show (TL.tl x).take y.length = TL.tl y
    rw [h, TL.len_tl, List.take_left]
theorem ends_tl {x y : Str} : Txt.endswith x y = true ↔ ∃ r, TL.tl x = r ++ TL.tl y := by
  unfold Txt.endswith
  rw [StrLaws.subAt_eq, Bool.and_eq_true, decide_eq_true_eq, beq_iff_eq]
  constructor
  · rintro ⟨l, h⟩
    refine ⟨(TL.tl x).take (x.length - y.length), ?_⟩
    have h2 : ((TL.tl x).drop (x.length - y.length)).take y.length = TL.tl y := h
    have l2 : ((TL.tl x).drop (x.length - y.length)).length ≤ y.length := by
      rw [List.length_drop, ← TL.len_tl]
      omega
    rw [List.take_of_length_le l2] at h2
    rw [← h2, List.take_append_drop]
  · rintro ⟨r, h⟩
    have l1 : x.length = (r ++ TL.tl y).length := by rw [TL.len_tl, h]
    rw [List.length_append, ← TL.len_tl] at l1
    refine ⟨by omega, ?_⟩
    show ((TL.tl x).drop (x.length - y.length)).take y.length = TL.tl y
    rw [h, show x.length - y.length = r.length by omega, List.drop_left, TL.len_tl y, List.take_length]
/-- what lies between two ends, where the one are capitals and the other small letters -/
theorem mid_of {z b e : List Nat} (hb : ∀ c ∈ b, upB c = true) (he : ∀ c ∈ e, loB c = true) (h1 : ∃ r, z = b ++ r) (h2 : ∃ r, z = r ++ e) : ∃ m, z = b ++ m ++ e := by
  obtain ⟨r, rfl⟩ := h1
  obtain ⟨q, h2⟩ := h2
  rcases List.append_eq_append_iff.mp h2 with ⟨m, e1, e2⟩ | ⟨m, e1, e2⟩
  · exact ⟨m, by rw [e2, List.append_assoc]⟩
  · cases m with
    | nil => exact ⟨[], by rw [e2]; simp⟩
    | cons c t =>
      have u := hb c (by rw [e1]; simp)
      have v := he c (by rw [e2]; simp)
      simp only [upB, loB, Bool.and_eq_true, decide_eq_true_eq] at u v
      omega
theorem cut_mid {z : Str} {b m e : List Nat} (h : TL.tl z = b ++ m ++ e) : TL.tl (cutS z (some (b.length : Int)) (some ((z.length : Int) - (e.length : Int)))) = m := by
  have l : z.length = b.length + m.length + e.length := by
    rw [TL.len_tl, h, List.length_append, List.length_append]
  show ((TL.tl z).drop (HT.sIx z.length 0 (some (b.length : Int)))).take (HT.sIx z.length z.length (some ((z.length : Int) - (e.length : Int))) - HT.sIx z.length 0 (some (b.length : Int))) = m
  rw [show ((z.length : Int) - (e.length : Int)) = ((b.length + m.length : Nat) : Int) by omega, HT.sIx_nat, HT.sIx_nat, Nat.min_eq_left (by omega), Nat.min_eq_left (by omega), h, List.append_assoc, List.drop_left, show b.length + m.length - b.length = m.length by omega, List.take_left]
end Lk

/-! EnT0 -/
set_option Elab.async false
set_option maxRecDepth 100000
set_option linter.all false
set_option maxHeartbeats 4000000
namespace Lk
open PySem PySem.Spec PyProof.Rows L2
/-! ### enumerate(t), t a tuple -/
theorem enum_one {v : Value} {o : Obj} {Hh : Heap → Prop} (B : Begins v o Hh) :
    Meets (Builtin.«enumerate.__new__» ⟨[.type "enumerate", v], []⟩) (fun _ R s => Hh s.heap ∧
      R (.ok (.ret (.ref (s.heap.push o).objs.size))) { s with heap := (s.heap.push o).push { cls := .type "enumerate", data := .fields #[.none, .bool false, .ref s.heap.objs.size, rawInt 0, .none, .none] } }) :=
  .of_wp fun prog w A R s h => by
    obtain ⟨hp, g, d, tk, os⟩ := s
    obtain ⟨h1, h⟩ := h
    have hsub := sub_enumerate
    have q1 : ∀ {A' : Around} {E : Value → Shared → Prop} {Q : Value → Shared → Prop}, Q (.ref hp.objs.size) ⟨hp.push o, g, d, tk, os⟩ → wpAny (model prog w) A' (pyIter v) Q E ⟨hp, g, d, tk, os⟩ :=
      fun q => B.iter prog w _ _ ⟨hp, g, d, tk, os⟩ _ (B.keeps _ _ h1 fun b o' e => e) q
    wp_walk
    refine wpAny_stack_any fun st => wpAny_pure ?_
    split
    · rename_i c _ _ _ _ _
      cases (c == Value.type "enumerate")
      · wp_walk using q1
        exact ⟨_, rfl, h⟩
      · wp_walk using q1
        exact ⟨_, rfl, h⟩
    · wp_walk using q1
      exact ⟨_, rfl, h⟩
section
variable {prog : Program} {w : World} {A : Around} {E : Value → Shared → Prop} {s : Shared}
theorem call_enum_tup {l : Addr} {items : Array Value} {Q : Value → Shared → Prop} (hT : s.heap.IsTuple l items)
    (h : ∀ h', IsEnum h' (s.heap.objs.size + 1) s.heap.objs.size 0 .none → h'.IsTupleIter s.heap.objs.size l 0 → h'.objs.size = s.heap.objs.size + 2 →
      (∀ b o, s.heap.get? b = some o → h'.get? b = some o) → Q (.ref (s.heap.objs.size + 1)) { s with heap := h' }) :
    wpAny (model prog w) A (call (.type "enumerate") [.ref l]) Q E s := by
  refine callType_new F.called_enumerate (by decide) (F.typeCall_enumerate_1 _) (F.newCall_enumerate_1 _) (fun obj => F.args_object_init_2 obj _) F.entry_enumerate_new (enum_one (begins_tuple l items)) ⟨hT, ?_⟩
  have z1 : (s.heap.push { cls := .type "tuple_iterator", data := .fields #[.ref l, .int 0 0] }).objs.size = s.heap.objs.size + 1 := Heap.size_push ..
  show _ ∧ _
  have at1 := Heap.get?_push_size (s.heap.push { cls := .type "tuple_iterator", data := .fields #[.ref l, .int 0 0] }) (o := { cls := .type "enumerate", data := .fields #[.none, .bool false, .ref s.heap.objs.size, rawInt 0, .none, .none] }) rfl
  rw [z1] at at1 ⊢
  exact ⟨⟨_, at1, rfl⟩, h _ at1 ⟨_, Heap.get?_push_of_some _ (Heap.get?_push_size _ rfl), rfl, rfl⟩ (by rw [Heap.size_push, z1]) fun b o x => Heap.get?_push_of_some _ (Heap.get?_push_of_some _ x)⟩
end
/-- the pairs of a tuple at a -/
def IteT (K : PySem.W.Frag) (a : Addr) : It :=
  ⟨fun i H => ∃ (xs : List V) (x : V), SqT K H a xs ∧ xs[i]? = some x, fun i H v H' => ∃ T x, v = .ref T ∧ H T = none ∧ H' = upd H T (.tup [.int (i : Nat), x]) ∧ ∀ xs, SqT K H a xs → xs[i]? = some x, fun i H => ∃ xs : List V, SqT K H a xs ∧ xs.length = i⟩
theorem apart_of {h : Heap} {e it a i : Addr} {n : Int} {old : Value} {items : Array Value} (he : IsEnum h e it n old) (hit : h.IsTupleIter it a i) (ht : h.IsTuple a items) : a ≠ it ∧ e ∉ [it, a] ∨ e = it := by
  by_cases q : e = it
  · exact .inr q
  · refine .inl ⟨fun z => ?_, fun m => ?_⟩
    · obtain ⟨o1, h1, c1, _⟩ := hit
      obtain ⟨o2, h2, c2, _⟩ := ht
      rw [z, h1] at h2
      cases h2
      rw [c1] at c2
      exact absurd c2 (by decide)
    · rcases List.mem_cons.mp m with z | m
      · exact q z
      · have z := List.mem_singleton.mp m
        obtain ⟨o2, h2, c2, _⟩ := ht
        rw [← z] at h2
        unfold IsEnum at he
        rw [he] at h2
        injection h2 with h2
        rw [← h2] at c2
        have c3 : Value.type "enumerate" = Value.type "tuple" := c2
        injection c3 with c3
        exact absurd c3 (by decide)
theorem turn_enT {P : Program} {w : World} {K : PySem.W.Frag} {elts : List Expr} {kk : Nat} {tpos : Pos} (a e it : Addr) :
    Turn P w K (.Tuple elts kk tpos) (IteT K a) [e, it] e (fun i h => (∃ old, IsEnum h e it ((i : Nat) : Int) old) ∧ h.IsTupleIter it a i ∧ e ≠ it) where
  mem := by simp
  obj := fun i h st b hb => by
    obtain ⟨⟨old, he⟩, ⟨o, ho, hc, hd⟩, _⟩ := st
    have e' : b = e ∨ b = it := by simpa using hb
    rcases e' with z | z
    · rw [z]
      exact ⟨_, he, fun v q => nomatch q⟩
    · rw [z]
      exact ⟨o, ho, fun v q => by rw [hd] at q; cases q⟩
  keep := fun i h h' st k => let ⟨⟨old, he⟩, hi, hne⟩ := st; ⟨⟨old, k e (by simp) _ he⟩, hi.at fun o q => k it (by simp) o q, hne⟩
  item := by
    intro X hP hw hK hc i pins s σ H E I hf st hg
    subst hP hw hK
    obtain ⟨⟨old, he⟩, hit, hne⟩ := st
    obtain ⟨xs, x, hq, hx⟩ := hg
    obtain ⟨its, rv, p, hz⟩ := I.tuple hq
    obtain ⟨u, hu, ru⟩ := rv.get hx
    have hel : e < s.heap.objs.size := Heap.lt_size he
    have hil : it < s.heap.objs.size := by obtain ⟨_, q, _⟩ := hit; exact Heap.lt_size q
    have ap := (apart_of he hit p).resolve_right hne
    have quiet : X.A.in1.handled = none := by
      have z := I.ok.hd hc
      simp [z]
    refine wpAny_pyNext_enum_itemD (Draws.tuple quiet it a ap.1 its.toArray) he ⟨hit, p⟩ (i := i) (by
      have z := (List.getElem?_eq_some_iff.mp hu).1
      simpa using z) hne ap.2 fun v h' tk pv ho st' hT hsz hk => ?_
    have ev : v = u := by
      have z : its[i]? = some v := by simpa using pv
      rw [hu] at z
      exact (Option.some.inj z).symm
    subst ev
    refine ⟨_, rfl, wpAny_letOwnedTupleGo_enum (s := { s with heap := h', toks := tk + 1 }) ho fun h'' he' sb => ?_⟩
    have hT2 : h''.get? s.heap.objs.size = some { cls := .type "tuple", data := .seq #[.int i tk, v] } := (sb.2 _ (Nat.ne_of_gt hel)).trans hT
    have new : ObjOk X.prog X.w (upd H s.heap.objs.size (.tup [.int (i : Nat), x])) h'' s.heap.objs.size (.tup [.int (i : Nat), x]) :=
      ⟨by show 2 ≤ sizeLine; decide, [.int i tk, v], .cons ⟨_, rfl⟩ (.cons ru .nil), ⟨_, hT2, rfl, _, rfl⟩⟩
    have I1 : Inv X pins σ (upd H s.heap.objs.size (.tup [.int (i : Nat), x])) { s with heap := h'', toks := tk + 1 } :=
      I.turnedNew (ch := [e, it]) (fun b ob hb q => (sb.2 b (fun z => hb (by simp [z]))).trans (hk b ob (fun z => hb (by simp [z])) (fun z => hb (by simp [z])) q)) hf (Nat.le_refl _) new
    refine ⟨.ref s.heap.objs.size, _, I1, rfl, ⟨_, x, rfl, I.hok.fresh (Nat.le_refl _), rfl, fun ys hy => by rw [I.tuple_inj hy hq]; exact hx⟩, ⟨⟨v, ?_⟩, st'.1.at fun o q => (sb.2 it (Ne.symm hne)).trans q, hne⟩, fun b hb => ?_⟩
    · have e1 : ((i + 1 : Nat) : Int) = (i : Int) + 1 := by omega
      rw [e1]
      exact he'
    · have hb' : b < s.heap.objs.size := by
        have e' : b = e ∨ b = it := by simpa using hb
        rcases e' with z | z
        · rw [z]; exact hel
        · rw [z]; exact hil
      rw [upd_ne (Nat.ne_of_lt hb')]
      exact (hf b hb).1
  done := by
    intro X hP hw hK hc i pins s σ H E I hf st hg
    subst hP hw hK
    obtain ⟨⟨old, he⟩, hit, hne⟩ := st
    obtain ⟨xs, hq, hx⟩ := hg
    obtain ⟨its, rv, p, hz⟩ := I.tuple hq
    obtain ⟨f0, f1, f2, f3, f4, f5⟩ := hf it (by simp)
    have hl := rv.length
    have ap := (apart_of he hit p).resolve_right hne
    have quiet : X.A.in1.handled = none := by
      have z := I.ok.hd hc
      simp [z]
    have ei : i = its.toArray.size := by
      rw [List.size_toArray, ← hl, hx]
    subst ei
    exact wpAny_pyNext_enum_endD (Draws.tuple quiet it a ap.1 its.toArray) he ⟨hit, p⟩ fun h' eb => ⟨rfl, I.turned (t' := s.toks) (fun b o hb q => eb b o hb q) f0 f1 f3 f4 f5⟩
  self := fun A i s Q E st h => let ⟨⟨_, he⟩, _⟩ := st; wpAny_pyIter_enum he h
def iEnT (K : PySem.W.Frag) (ta : TA) : TI := fun σ H R => ta σ H fun vs H1 => ∃ a xs, vs = [.ref a] ∧ SqT K H1 a xs ∧ R (IteT K a) H1
theorem pi_enT {X : Cx} {e : Expr} {ta : TA} {p pos tpos : Pos} {elts : List Expr} {kk : Nat} (hg : Gl X "enumerate") (hm : X.mg "enumerate" = none) (ha : PA X [e] ta) (hs : starEach [e] X.env = [(false, eval e X.env)] := by rfl) :
    PI X (.Tuple elts kk tpos) (.Call (.Name "enumerate" p) [e] [] pos) (iEnT X.K ta) := by
  refine ⟨fun pins s σ H R I h => ?_⟩
  refine Call_ (ld_blt I hg hm boot_enumerate (PyProof.Rows.callWith_type1 (thn (ha.run pos pins s σ H _ I h) fun us s1 ⟨vs, H1, I1, r1, q1⟩ => ?_) hs rfl))
  obtain ⟨a, xs, ex, hq, q⟩ := q1
  subst ex
  cases r1 with
  | cons r rr =>
    cases rr
    cases r
    obtain ⟨its, rv, p', hz⟩ := I1.tuple hq
    refine call_enum_tup p' fun h' he hit hsz hk => wpAny_pyIter_enum he ?_
    have I2 : Inv X pins σ H1 { s1 with heap := h' } := I1.kept (t' := s1.toks) hk
    refine ⟨s1.heap.objs.size + 1, [s1.heap.objs.size + 1, s1.heap.objs.size], _, _, H1, rfl, I2, turn_enT a (s1.heap.objs.size + 1) s1.heap.objs.size, ⟨⟨.none, he⟩, hit, Nat.succ_ne_self _⟩, fun b hb => ?_, q⟩
    have e' : b = s1.heap.objs.size + 1 ∨ b = s1.heap.objs.size := by simpa using hb
    have hle : s1.heap.objs.size ≤ b := by
      rcases e' with z | z
      · rw [z]; exact Nat.le_add_right _ _
      · rw [z]; exact Nat.le_refl _
    exact I1.fpOk hle (I1.hok.fresh hle)
theorem for_enT {K : PySem.W.Frag} {a : Addr} {xs : List V} {g : TG} {tb : TS} {D : Ends} {σ : L2.St} {H : Hp} (Pv : Nat → L2.St → Hp → Prop) (h0 : Pv 0 σ H) (hl : ∀ i σ H, Pv i σ H → SqT K H a xs)
    (hs : ∀ (i : Nat) (x : V) (σ : L2.St) (H : Hp) (T : Addr), xs[i]? = some x → H T = none → Pv i σ H → g (.ref T) σ (upd H T (.tup [.int (i : Int), x])) fun σ2 H2 => tb { D with nx := Pv (i + 1), ct := Pv (i + 1), bk := D.nx } σ2 H2)
    (hd : ∀ σ H, Pv xs.length σ H → D.nx σ H) :
    ∃ W : Nat → Nat → L2.St → Hp → Prop, (∃ m, W 0 m σ H) ∧ ∀ i m σ H, W i m σ H →
      ((IteT K a).stop i H ∧ D.nx σ H) ∨ ((IteT K a).go i H ∧ ∃ N : L2.St → Hp → Prop, (∀ σ' H', N σ' H' → ∃ m', m' < m ∧ W (i + 1) m' σ' H') ∧ ∀ x H', (IteT K a).yld i H x H' → g x σ H' fun σ2 H2 => tb { D with nx := N, ct := N, bk := D.nx } σ2 H2) := by
  refine ⟨fun i m σ H => i + m = xs.length ∧ Pv i σ H, ⟨xs.length, Nat.zero_add _, h0⟩, ?_⟩
  rintro i m σ H ⟨em, p⟩
  have q := hl i σ H p
  cases m with
  | zero =>
    have e : i = xs.length := em
    subst e
    exact .inl ⟨⟨xs, q, rfl⟩, hd σ H p⟩
  | succ m =>
    have lt : i < xs.length := by omega
    have hx := List.getElem?_eq_getElem lt
    refine .inr ⟨⟨xs, _, q, hx⟩, fun σ' H' => Pv (i + 1) σ' H', fun σ' H' p' => ⟨m, Nat.lt_succ_self m, by omega, p'⟩, ?_⟩
    rintro v H' ⟨T, x, rfl, nT, rfl, each⟩
    exact hs i x σ H T (each xs q) nT p
theorem walk_enT {K : PySem.W.Frag} {a : Addr} {xs : List V} : Walk (IteT K a) xs.length (fun H => SqT K H a xs) (YPair (fun i => some (.int (i : Nat))) (fun i => xs[i]?)) := by
  refine ⟨fun i _ hi q => ⟨xs, xs[i], q, by simp [hi]⟩, fun _ q => ⟨xs, q, rfl⟩, fun i H v H' _ q y => ?_⟩
  obtain ⟨T, x, h1, h2, h3, h4⟩ := y
  exact ⟨T, .int (i : Nat), x, h1, h2, h3, rfl, h4 xs q⟩
end Lk

/-! Pick0 -/
set_option Elab.async false
set_option maxRecDepth 100000
set_option linter.all false
set_option maxHeartbeats 4000000
namespace Lk
open PySem PySem.Spec PyProof.Rows L2
/-! ### one of a display (law04b.tpl has its own copies: do not build both together) -/
section
variable {K : PySem.W.Frag} {H H' : Hp} {p c : Addr} {σ : L2.St}
theorem th_of_mem : ∀ {xs : List V} {ds : List PyData} {x : V}, ThAll K H xs ds → x ∈ xs → ∃ d, d ∈ ds ∧ Th K H x d
  | _, _, _, .nil, h => by simp at h
  | _, _, x, .cons h t, m => by
    rcases List.mem_cons.mp m with rfl | m
    · exact ⟨_, List.mem_cons_self, h⟩
    · obtain ⟨d, hd, ht⟩ := th_of_mem t m
      exact ⟨d, List.mem_cons_of_mem _ hd, ht⟩
theorem noPot_of : ∀ {ds : List PyData} {d : PyData}, noPotAll ds = true → d ∈ ds → noPot d = true
  | e :: r, d, h, m => by
    have n2 : noPot e = true ∧ noPotAll r = true := by simpa only [noPotAll, Bool.and_eq_true] using h
    rcases List.mem_cons.mp m with rfl | m
    · exact n2.1
    · exact noPot_of n2.2 m
/-- one of a new display; the list may have any length -/
theorem pick_new {ta : TA} {ds : List PyData} {Q : VK} {i : Nat} (h : MkA K ta σ H ds) (hn : noPotAll ds = true) (l0 : 0 < ds.length) (l1 : ds.length ≤ 1000) (hP : PotAt p c H) (hi : σ[i]? = some (some (.ref p)))
    (k : ∀ v d H', d ∈ ds → Th K H' v d → Ext p c H H' → Q v H') : tCall (spPick K) [] E0 (tCons (tVar i) (tCons (tLst ta) tNil)) σ H Q :=
  ⟨_, hi, h H (Same.refl H) _ fun xs H1 s1 t1 => by
    have hl := thAll_len t1
    refine ⟨Nat.le_trans (Nat.le_of_eq hl) (Nat.le_trans l1 (by decide)), fun l nl => ?_⟩
    have P1 := hP.same s1
    have s2 : Same H1 (upd H1 l (.lst xs)) := same_upd nl
    refine ⟨p, c, l, xs, rfl, P1.same s2, SqL.of upd_same, P1.nep nl, by omega, by omega, fun v H2 hv e2 => ?_⟩
    obtain ⟨d, hd, ht⟩ := th_of_mem t1 hv
    exact k v d H2 hd (th_ext (P1.same s2) e2 (th_same s2 ht) (noPot_of hn hd)) (Ext.pre (s1.trans s2) e2)⟩
/-- data without lists stands when a list changes -/
theorem th_mutL {D : Addr} {ys : List V} {o : HO} (hD : H D = some (.lst ys)) {v : V} {d : PyData} (h : Th K H v d) : noLst d = true → Th K (upd H D o) v d := by
  refine Th.rec (motive_1 := fun v d _ => noLst d = true → Th K (upd H D o) v d) (motive_2 := fun vs ds _ => noLstAll ds = true → ThAll K (upd H D o) vs ds) ?_ ?_ ?_ ?_ ?_ ?_ ?_ ?_ ?_ h
  · exact fun _ => .non
  · exact fun b _ => .bl b
  · exact fun i _ => .int i
  · exact fun x _ => .str x
  · intro q xs ds _ _ _ n
    simp [noLst] at n
  · intro q xs ds hs ha ih n
    have n2 : noLstAll ds = true := by simpa only [noLst] using n
    rcases hs with (hs | ⟨u, hs⟩) | hs
    · have ne : q ≠ D := fun z => by
        rw [z, hD] at hs
        cases hs
      exact .tup (.inl (.inl (by rw [upd_ne ne]; exact hs))) (ih n2)
    · have ne : q ≠ D := fun z => by
        rw [z, hD] at hs
        cases hs
      exact .tup (.inl (.inr ⟨u, by rw [upd_ne ne]; exact hs⟩)) (ih n2)
    · exact .tup (.inr hs) (ih n2)
  · intro q kvs ds hs _ ek ih n
    have n2 : noLstAll (ds.map (·.2)) = true := by
      rw [noLstKv_map]
      simpa only [noLst] using n
    have ne : q ≠ D := fun z => by
      rw [z, hD] at hs
      cases hs
    exact .dct (by rw [upd_ne ne]; exact hs) (ih n2) ek
  · exact fun _ => .nil
  · intro v vs d ds _ _ i1 i2 n
    have n2 : noLst d = true ∧ noLstAll ds = true := by simpa only [noLstAll, Bool.and_eq_true] using n
    exact .cons (i1 n2.1) (i2 n2.2)
theorem thAll_mutL {D : Addr} {ys : List V} {o : HO} (hD : H D = some (.lst ys)) : ∀ {vs : List V} {ds : List PyData}, ThAll K H vs ds → noLstAll ds = true → ThAll K (upd H D o) vs ds
  | _, _, .nil, _ => .nil
  | _ :: _, d :: ds, .cons h t, n => by
    have n2 : noLst d = true ∧ noLstAll ds = true := by simpa only [noLstAll, Bool.and_eq_true] using n
    exact .cons (th_mutL hD h n2.1) (thAll_mutL hD t n2.2)
/-- what stands ready: a list that grows while the pot moves -/
theorem grow {H0 : Hp} {D : Addr} {n iv : Nat} {te : TE} {α : Type} {f : α → PyData} {Ok : α → Prop} {Qd : Hp → Prop} (flat : ∀ a, noLst (f a) = true ∧ noPot (f a) = true) (hP : PotAt p c H0) (hD0 : H0 D = none) (small : n ≤ 1000)
    (wp : ∀ (x : V), wipe ((wipe σ [iv]).set iv (some x)) [iv] = wipe σ [iv])
    (call : ∀ (x : V) (H' : Hp) (R : VK), PotAt p c H' → (∀ v a H2, Ok a → Ext p c H' H2 → Th K H2 v (f a) → R v H2) → te ((wipe σ [iv]).set iv (some x)) H' R)
    (k : ∀ (vs : List V) (as : List α) (H' : Hp), H' D = some (.lst vs) → ThAll K H' vs (as.map f) → (∀ a ∈ as, Ok a) → as.length = n → Ext p c H0 H' → Qd H') :
    ∃ W : Nat → Nat → Hp → Prop, (∃ m, W 0 m (upd H0 D (.lst []))) ∧ ∀ i m H, W i m H →
      ((Itr 0 n).stop i H ∧ Qd H) ∨ ((Itr 0 n).go i H ∧ ∃ Nx : Hp → Prop, (∀ H', Nx H' → ∃ m', m' < m ∧ W (i + 1) m' H') ∧ ∀ x H', (Itr 0 n).yld i H x H' → gName iv x (wipe σ [iv]) H' fun σ2 H2 => wipe σ2 [iv] = wipe σ [iv] ∧ tYes σ2 H2 fun b H3 =>
        if b = true then te σ2 H3 fun y H4 => ∃ acc, H4 D = some (.lst acc) ∧ acc.length < sizeLine ∧ Nx (upd H4 D (.lst (acc ++ [y]))) else Nx H3) := by
  have nd := hP.nep hD0
  have flatA : ∀ as : List α, noLstAll (as.map f) = true ∧ noPotAll (as.map f) = true := fun as => by
    induction as with
    | nil => exact ⟨rfl, rfl⟩
    | cons a r ih => exact ⟨by rw [List.map_cons, noLstAll, (flat a).1, ih.1]; rfl, by rw [List.map_cons, noPotAll, (flat a).2, ih.2]; rfl⟩
  refine lc_range (lo := 0) (n := n) (fun i H' => ∃ vs as, H' D = some (.lst vs) ∧ ThAll K H' vs (as.map f) ∧ (∀ a ∈ as, Ok a) ∧ as.length = i ∧ Ext p c H0 H') ⟨[], [], upd_same, .nil, (fun _ h => by simp at h), rfl, Ext.mut hP hP.ref hD0⟩ ?_ ?_
  · rintro i H' hi ⟨vs, as, hD, ta, ok, len, e⟩
    refine ⟨wp _, call _ H' _ e.pot fun v a H2 oka e2 th => ⟨vs, e2.get hD nd, ?_, vs ++ [v], as ++ [a], upd_same, ?_, ?_, ?_, Ext.mut hP (e.trans e2) hD0⟩⟩
    · have := thAll_len ta
      rw [List.length_map] at this
      exact small1000 (by omega)
    · rw [List.map_append]
      exact thAll_app (thAll_mutL (e2.get hD nd) (thAll_ext e.pot e2 ta (flatA as).2) (flatA as).1) (.cons (th_mutL (e2.get hD nd) th (flat a).1) .nil)
    · intro y hy
      rcases List.mem_append.mp hy with hy | hy
      · exact ok y hy
      · rw [List.mem_singleton.mp hy]
        exact oka
    · rw [List.length_append, List.length_singleton, len]
  · rintro H' ⟨vs, as, hD, ta, ok, len, e⟩
    exact k vs as H' hD ta ok len e
end
end Lk

/-! Clr1 -/
set_option Elab.async false
set_option maxRecDepth 100000
set_option linter.all false
set_option maxHeartbeats 4000000
namespace Lk
open PySem PySem.Spec PyProof.Rows L2
/-! ### repr of a tuple of whatever many things -/
inductive ClrAll (K : PySem.W.Frag) (H : Hp) : List V → List PyData → Prop
  | nil : ClrAll K H [] []
  | cons {v : V} {d : PyData} {vs : List V} {ds : List PyData} : Clr K H v d → ClrAll K H vs ds → ClrAll K H (v :: vs) (d :: ds)
theorem ClrAll.same {K : PySem.W.Frag} {H H' : Hp} (s : Same H H') : ∀ {vs : List V} {ds : List PyData}, ClrAll K H vs ds → ClrAll K H' vs ds
  | _, _, .nil => .nil
  | _, _, .cons h t => .cons (h.same s) (t.same s)
section
variable {X : Cx} {pins : List (Addr × Obj)} {σ : L2.St} {H : Hp} {s : Shared}
theorem clrAll_reads (I : Inv X pins σ H s) : ∀ {vs : List V} {ds : List PyData}, ClrAll X.K H vs ds → ∀ us, Vals vs us → ∃ as, ReadsAll s.heap us ds as ∧ sysModules ∉ as
  | _, _, .nil, us, r => by
    cases r
    exact ⟨_, ReadsAll.nil, fun h => nomatch h⟩
  | _ :: _, _, .cons h t, us, r => by
    cases r with
    | cons r1 r2 =>
      obtain ⟨as, a1, a2⟩ := clr_reads I h _ r1
      obtain ⟨bs, c1, c2⟩ := clrAll_reads I t _ r2
      exact ⟨_, ReadsAll.cons a1 c1, fun m => (List.mem_append.mp m).elim a2 c2⟩
def rReprE (K : PySem.W.Frag) : List V → Hp → VK → Prop := fun xs H Q => ∃ (q : Addr) (vs : List V) (ds : List PyData), xs = [.ref q] ∧ SqT K H q vs ∧ ThAll K H vs ds ∧ Wf0 (.tuple ds) ∧ ((PyData.tuple ds).hasDict = true → ClrAll K H vs ds) ∧ Q (.str (PyData.tuple ds).shown) H
theorem call_reprE (hg : X.A.guards = some []) (hu : X.A.units + 64 < cLine) : CallR X (.builtin "repr") (rReprE X.K) := by
  intro pins s σ H xs us Q I r h
  obtain ⟨a, vs, ds, rfl, hq, ht, hw, hc, q⟩ := h
  cases r with
  | cons r1 rr =>
    cases rr
    have hz : (PyData.tuple ds).shown.length ≤ sizeLine := PyData.shown_fits_bulk (B := 13) (by decide) (by decide) hw.lv (Nat.le_trans hw.bk (by decide))
    have done : ∀ (h' : Heap) (u tk : Nat), (∀ b o, s.heap.get? b = some o → h'.get? b = some o) → EP X pins σ Q (.str (PyData.tuple ds).shown u) { s with heap := h', toks := tk } := fun h' u tk k =>
      ⟨.str (PyData.tuple ds).shown, H, I.kept (t' := tk) k, ⟨u, rfl⟩, q⟩
    have hd := hw.dp
    by_cases e : (PyData.tuple ds).hasDict = true
    · cases r1
      obtain ⟨its, rv, ⟨o, ho, hk, n, hdt⟩, _⟩ := I.tuple hq
      obtain ⟨as, hr, hm⟩ := clrAll_reads I (hc e) _ rv
      exact repr_of_reads' (.tuple ho hk hdt hr) hw.sh (fun _ => hm) hg (by omega) (fun _ _ z => z) (fun h' u tk k => done h' u tk k) hz
    · obtain ⟨as, hr, _⟩ := th_reads I (.tup hq ht) _ r1
      cases r1
      exact repr_of_reads' hr hw.sh (fun z => absurd z e) hg (by omega) (fun _ _ z => z) (fun h' u tk k => done h' u tk k) hz
end
end Lk

/-! Rev0 -/
set_option Elab.async false
set_option maxRecDepth 100000
set_option linter.all false
set_option maxHeartbeats 4000000
namespace Lk
open PySem PySem.Spec PyProof.Rows L2
/-! ### t[::-1], t a tuple -/
section
variable {P : Program} {w : World} {A : Around} {E : Value → Shared → Prop} {s : Shared}
theorem rev_pick (xs : Array Value) : ((List.range xs.size).filterMap fun (k : Nat) => xs[(((xs.size : Int) - 1) + (k : Int) * (-1)).toNat]?) = xs.toList.reverse := by
  have e : ∀ l : List Nat, (∀ k ∈ l, k < xs.size) → (l.filterMap fun (k : Nat) => xs[(((xs.size : Int) - 1) + (k : Int) * (-1)).toNat]?) = l.filterMap fun k => xs.toList.reverse[k]? := by
    intro l
    induction l with
    | nil => exact fun _ => rfl
    | cons k l ih =>
      intro h
      have hk := h k List.mem_cons_self
      have ek : (((xs.size : Int) - 1) + (k : Int) * (-1)).toNat = xs.size - 1 - k := by omega
      have e1 : xs[(((xs.size : Int) - 1) + (k : Int) * (-1)).toNat]? = xs.toList.reverse[k]? := by
        rw [ek, List.getElem?_reverse (by rw [Array.length_toList]; exact hk), Array.length_toList, Array.getElem?_toList]
      simp only [List.filterMap_cons, e1, ih fun j hj => h j (List.mem_cons_of_mem _ hj)]
  rw [e _ fun k hk => List.mem_range.mp hk]
  have n : xs.toList.reverse.length = xs.size := by rw [List.length_reverse, Array.length_toList]
  rw [← n]
  generalize xs.toList.reverse = l
  clear n e
  induction l with
  | nil => rfl
  | cons b bs ih =>
    rw [List.length_cons, List.range_succ_eq_map, List.filterMap_cons_some (show (b :: bs)[0]? = some b from rfl), List.filterMap_map]
    exact congrArg (b :: ·) ih
theorem item_rev {t sl : Addr} {items : Array Value} {u : Tok} {Q : Value → Shared → Prop} (ht : IsTup s.heap t items) (hs : s.heap.IsSliceOf sl .none .none (.int (-1) u)) (h : Q (.ref s.heap.objs.size) { s with heap := s.heap.push { cls := .type "tuple", data := .seq items.toList.reverse.toArray } })
    (small : items.size ≤ sizeLine) : wpAny (model P w) A (getItem (.ref t) (.ref sl)) Q E s := by
  have fits : sizeOk (.seq items.toList.reverse.toArray) := by
    show items.toList.reverse.toArray.size ≤ sizeLine
    rw [List.size_toArray, List.length_reverse, Array.length_toList]
    exact small
  obtain ⟨os, hos, hcs, hds⟩ := id hs
  have sT : s.TypeIs (.ref sl) "slice" := ⟨os, hos, hcs⟩
  unfold getItem
  try with_reducible refine wpAny_holding ?_
  first | refine wpAny_bind (wpAny_pure ?_) | skip
  refine wpAny_bind (wpAny_sequenceKey (IsTup.typeIs ht) (by decide) ?_)
  refine wpAny_bind (wpAny_callSpecial?_slot (name := Str.ofString "__getitem__") (IsTup.typeIs ht) PyProof.Rows.slot_tuple_getitem (wpAny_call_entry PyProof.Rows.slot_tuple_getitem (IsTup.typeIs ht) entry_tuple_getitem ?_ (args_tuple_getitem _ _)))
  show wpAny _ _ (Builtin.Tuple.tupleItemsOf (.ref t) >>= _) _ _ s
  refine wpAny_bind (tupleItemsOf_ (t := t) ht (wpAny_bind (wpAny_typeOf sT ?_)))
  simp only [show (Value.type "slice" == Value.type "slice") = true by decide, if_true]
  refine wpAny_bind ?_
  unfold Builtin.Slice.sliceApplied Builtin.Slice.sliceFields
  refine wpAny_bind (wpAny_bind (wpAny_field (a := sl) hos hds (x := .none) rfl (wpAny_bind (wpAny_field (a := sl) hos hds (x := .none) rfl (wpAny_bind (wpAny_field (a := sl) hos hds (x := .int (-1) u) rfl (wpAny_pure ?_)))))))
  refine wpAny_bind (slicePart_int ?_)
  show wpAny _ _ (if ((-1 : Int) == 0) = true then _ else _) _ _ s
  rw [if_neg (by decide)]
  refine wpAny_bind (slicePart_none (wpAny_bind (slicePart_none (wpAny_bind (wpAny_pure ?_)))))
  have adj : Builtin.Slice.sliceAdjust none none (-1) (items.size : Int) = ((items.size : Int) - 1, -1) := rfl
  have pl : Builtin.Slice.slicePlaces ((items.size : Int) - 1) (-1) (-1) = items.size := by
    unfold Builtin.Slice.slicePlaces
    simp only [show ¬ ((-1 : Int) > 0) by decide, if_false]
    split
    · simp only [Int.neg_neg, Int.ediv_one]
      omega
    · omega
  show wpAny _ _ (match Builtin.Slice.sliceAdjust none none (-1) (items.size : Int) with | (lo, hi) => pure (lo, (-1 : Int), Builtin.Slice.slicePlaces lo hi (-1))) _ _ s
  rw [adj]
  dsimp only
  rw [pl]
  refine wpAny_pure ?_
  dsimp only
  have no : (((items.size : Int) - 1 == 0) && ((-1 : Int) == 1) && (items.size == items.size)) = false := by
    rw [show ((-1 : Int) == 1) = false by decide, Bool.and_false, Bool.false_and]
  rw [no, rev_pick]
  simp only [Bool.false_eq_true, if_false]
  first
    | exact wpAny_bind (m := Builtin.Tuple.tupleExact _) (wpAny_newObj_type (wpAny_pure ⟨_, rfl, wpAny_pure h⟩) fits)
    | exact wpAny_bind (m := Builtin.Tuple.tupleExact _) (wpAny_newObj_type (wpAny_bind (wpAny_pure (wpAny_pure ⟨_, rfl, wpAny_pure h⟩))) fits)
    | exact wpAny_bind (wpAny_bind (m := Builtin.Tuple.tupleExact _) (wpAny_newObj_type (wpAny_pure (wpAny_pure ⟨_, rfl, wpAny_pure h⟩)) fits))
    | exact wpAny_bind (wpAny_bind (m := Builtin.Tuple.tupleExact _) (wpAny_newObj_type (wpAny_pure ⟨_, rfl, wpAny_pure h⟩) fits))
end
section
variable {X : Cx}
def tRevT (K : PySem.W.Frag) (te : TE) : TE := fun σ H Q => te σ H fun x H1 => ∃ a xs, x = .ref a ∧ SqT K H1 a xs ∧ ∀ p, H1 p = none → Q (.ref p) (upd H1 p (.tup xs.reverse))
theorem vals_rev : ∀ {xs : List V} {us : List Value}, Vals xs us → Vals xs.reverse us.reverse
  | _, _, .nil => .nil
  | _, _, .cons r t => by
    rw [List.reverse_cons, List.reverse_cons]
    exact Vals.append (vals_rev t) (.cons r .nil)
theorem pe_revT {e : Expr} {te : TE} {pos p1 p2 p3 : Pos} (he : PE X e te) : PE X (.Subscript e (.Slice none none (some (.UnaryOp .USub (.Constant (.int 1) 0 p1) p2)) p3) pos) (tRevT X.K te) := by
  refine ⟨fun pins s σ H Q I h => ?_⟩
  refine Subscript_ (thn (he.run pins s σ H _ I h) fun v s1 ⟨x, H1, I1, r1, q1⟩ => ?_)
  obtain ⟨a, xs, rfl, hx, q⟩ := q1
  cases r1
  refine wpAny_Slice ?_
  rw [evalPart_none]
  refine wpAny_pure (wpAny_pure ?_)
  rw [evalPart_some]
  have hm : PE X (.UnaryOp .USub (.Constant (.int 1) 0 p1) p2) _ := pe_un un_neg pe_int
  refine thn (hm.run pins s1 σ H1 (fun y H2 => y = .int (-1) ∧ H2 = H1) I1 ⟨1, rfl, rfl, rfl⟩) fun vk s2 ⟨y, H2, I2, r2, ey, eH⟩ => ?_
  subst ey eH
  obtain ⟨tk, rfl⟩ := r2
  have I4 : Inv X pins σ H2 { s2 with heap := s2.heap.push { cls := .type "slice", data := .fields #[.none, .none, .int (-1) tk] } } := I2.kept (t' := s2.toks) fun b ob z => Heap.get?_push_of_some _ z
  obtain ⟨its, r, ht, hz⟩ := I4.tuple hx
  have len : its.toArray.size = xs.length := by rw [List.size_toArray]; exact r.length.symm
  show wpAny (model X.prog X.w) X.A (subscriptTail e _ (.ref a) (.ref s2.heap.objs.size)) (EP X pins σ Q) X.xe { s2 with heap := s2.heap.push { cls := .type "slice", data := .fields #[.none, .none, .int (-1) tk] } }
  refine tail_any (ops := [.ref a, .ref s2.heap.objs.size]) (IsTup.typeIs ht) PyProof.Rows.slot_tuple_getitem.lookup (item_rev (u := tk) ht (Heap.IsSliceOf.new ..) ?_ (by rw [len]; exact hz)) (by with_unfolding_all rfl)
  refine ⟨.ref (s2.heap.push { cls := .type "slice", data := .fields #[.none, .none, .int (-1) tk] }).objs.size, _, I4.laid (t' := s2.toks) (o := .tup xs.reverse) (fun b ob z => Heap.get?_push_of_some _ z) (Nat.le_refl _) ?_, rfl, q _ (I4.hok.fresh (Nat.le_refl _))⟩
  exact ⟨by rw [List.length_reverse]; exact hz, _, vals_rev r, IsTup.new _ _⟩
end
/-! ### text * int, from 1 on -/
def rStrRep1 : R2 := fun x y H Q => ∃ (a : Str) (k : Nat), x = .str a ∧ y = .int (k : Int) ∧ 1 ≤ k ∧ k ≤ 5000 ∧ a.length ≤ 1000 ∧ ∀ z : Str, TL.tl z = (List.replicate k (TL.tl a)).flatten → Q (.str z) H
theorem op_strRep1 {X : Cx} : OpR X (binaryOp .Mult) rStrRep1 := by
  intro pins s σ H x y v u Q I rx ry h
  obtain ⟨a, k, rfl, rfl, k1, k2, ha, q⟩ := h
  obtain ⟨t, rfl⟩ := rx
  obtain ⟨t', rfl⟩ := ry
  have hm : a.length * k ≤ 5000000 := by
    have := Nat.mul_le_mul ha k2
    omega
  have hl := TL.len_tl a
  have long : Builtin.Str.tooLong (a.length * k) = false := by
    unfold Builtin.Str.tooLong
    refine decide_eq_false (Nat.not_lt.mpr (Nat.le_trans hm ?_))
    decide
  refine PySem.P.mul_str (by rw [decide_eq_false (by omega), decide_eq_false (by omega)]; rfl) (fun _ _ => ?_) (fun _ _ => by rw [Int.toNat_natCast]; exact long) ?_
  · refine Int.not_lt.mpr (Int.le_ediv_of_mul_le (by omega) ?_)
    have : ((a.length * k : Nat) : Int) = (a.length : Int) * (k : Int) := Int.natCast_mul _ _
    omega
  · rw [if_neg (by omega), Int.toNat_natCast]
    by_cases one : k = 1
    · rw [if_pos (by rw [one]; rfl)]
      exact ⟨.str a, H, I, ⟨_, rfl⟩, q a (by rw [one]; simp)⟩
    have big : ((k : Int) == 1) = false := beq_eq_false_iff_ne.mpr (by omega)
    rw [big, Bool.false_or]
    by_cases h0 : a.length = 0
    · rw [if_pos (beq_iff_eq.mpr h0)]
      have e0 : TL.tl a = [] := List.length_eq_zero_iff.mp (by omega)
      exact ⟨.str a, H, I, ⟨_, rfl⟩, q a (by rw [e0]; simp)⟩
    · rw [if_neg (by rw [beq_iff_eq]; exact h0)]
      have e : TL.tl ⟨(List.replicate k a.cps).foldl (· ++ ·) #[]⟩ = (List.replicate k (TL.tl a)).flatten := by
        show ((List.replicate k a.cps).foldl (· ++ ·) #[]).toList = _
        rw [rep_fold, List.nil_append]
      refine ⟨?_, .str _, H, I.tok _, ⟨_, rfl⟩, q _ e⟩
      rw [TL.len_tl, e, List.length_flatten, List.map_replicate, List.sum_replicate_nat, ← hl, Nat.mul_comm]
      exact Nat.le_trans hm (by decide)

end Lk

/-! Rep0 -/
set_option Elab.async false
set_option maxRecDepth 100000
set_option linter.all false
set_option maxHeartbeats 4000000
namespace Lk
open PySem PySem.Spec PyProof.Rows L2
/-! ### text * int, from 0 on -/
def rStrRep0 : R2 := fun x y H Q => ∃ (a : Str) (k : Nat), x = .str a ∧ y = .int (k : Int) ∧ k ≤ 5000 ∧ a.length ≤ 1000 ∧ ∀ z : Str, TL.tl z = (List.replicate k (TL.tl a)).flatten → Q (.str z) H
theorem op_strRep0 {X : Cx} : OpR X (binaryOp .Mult) rStrRep0 := by
  intro pins s σ H x y v u Q I rx ry h
  obtain ⟨a, k, rfl, rfl, k2, ha, q⟩ := h
  by_cases h0 : k = 0
  · subst h0
    obtain ⟨t, rfl⟩ := rx
    obtain ⟨t', rfl⟩ := ry
    exact PySem.P.mul_str_none (by decide) (by decide) ⟨.str Str.empty, H, I.tok _, ⟨_, rfl⟩, q _ rfl⟩
  · exact op_strRep1 pins s σ H _ _ v u Q I rx ry ⟨a, k, rfl, rfl, by omega, k2, ha, q⟩
/-! ### data that repr shows: tuples of such -/
structure Pl (k : Nat) (d : PyData) : Prop where
  sh : d.showable = true
  lv : d.leavesShort 13 = true
  dp : d.depth ≤ k
  hd : d.hasDict = false
theorem pl_all {k : Nat} : ∀ {ds : List PyData}, (∀ d ∈ ds, Pl k d) → PyData.showableAll ds = true ∧ PyData.leavesShortAll 13 ds = true ∧ PyData.depthAll ds ≤ k ∧ PyData.hasDictAll ds = false
  | [], _ => ⟨rfl, rfl, Nat.zero_le _, rfl⟩
  | d :: ds, h => by
    obtain ⟨a, b, c, e⟩ := pl_all fun x m => h x (List.mem_cons_of_mem _ m)
    have q := h d List.mem_cons_self
    refine ⟨?_, ?_, ?_, ?_⟩
    · rw [PyData.showableAll, q.sh, a]
      rfl
    · rw [PyData.leavesShortAll, q.lv, b]
      rfl
    · rw [PyData.depthAll]
      have z := q.dp
      omega
    · rw [PyData.hasDictAll, q.hd, e]
      rfl
theorem pl_tup {k : Nat} {ds : List PyData} (h : ∀ d ∈ ds, Pl k d) : Pl (k + 1) (.tuple ds) := by
  obtain ⟨a, b, c, e⟩ := pl_all h
  refine ⟨?_, ?_, ?_, ?_⟩
  · rw [PyData.showable]
    exact a
  · rw [PyData.leavesShort]
    exact b
  · rw [PyData.depth]
    omega
  · rw [PyData.hasDict]
    exact e
theorem Pl.le {k j : Nat} {d : PyData} (h : Pl k d) (le : k ≤ j) : Pl j d := ⟨h.sh, h.lv, Nat.le_trans h.dp le, h.hd⟩
theorem Pl.wf {k : Nat} {d : PyData} (h : Pl k d) (k60 : k ≤ 60) (b : d.bulk ≤ 1000000) : Wf d := ⟨h.sh, h.lv, b, Nat.le_trans h.dp k60, .inl h.hd⟩
end Lk

/-! Mak1 -/
set_option Elab.async false
set_option maxRecDepth 100000
set_option linter.all false
set_option maxHeartbeats 4000000
namespace Lk
open PySem PySem.Spec PyProof.Rows L2
/-! ### made data: tuples put together, cut, told again and again -/
def cutL {α : Type} (l : List α) (lo hi : Option Int) : List α := (l.drop (HT.sIx l.length 0 lo)).take (HT.sIx l.length l.length hi - HT.sIx l.length 0 lo)
theorem mem_cutL {α : Type} {l : List α} {lo hi : Option Int} {x : α} (h : x ∈ cutL l lo hi) : x ∈ l := (List.drop_sublist _ _).subset ((List.take_sublist _ _).subset h)
theorem len_cutL {α : Type} (l : List α) (lo hi : Option Int) : (cutL l lo hi).length ≤ l.length := by
  unfold cutL
  rw [List.length_take, List.length_drop]
  omega
section
variable {K : PySem.W.Frag} {σ : L2.St} {H0 : Hp} {te tf : TE} {ds es : List PyData}
theorem thAll_drop {H : Hp} : ∀ (n : Nat) {vs : List V} {ds : List PyData}, ThAll K H vs ds → ThAll K H (vs.drop n) (ds.drop n)
  | 0, _, _, h => h
  | n + 1, _, _, .nil => .nil
  | n + 1, _, _, .cons _ t => thAll_drop n t
theorem thAll_take {H : Hp} : ∀ (n : Nat) {vs : List V} {ds : List PyData}, ThAll K H vs ds → ThAll K H (vs.take n) (ds.take n)
  | 0, _, _, _ => .nil
  | n + 1, _, _, .nil => .nil
  | n + 1, _, _, .cons h t => .cons h (thAll_take n t)
theorem thAll_cut {H : Hp} {vs : List V} {ds : List PyData} (lo hi : Option Int) (h : ThAll K H vs ds) : ThAll K H (cutV vs lo hi) (cutL ds lo hi) := by
  unfold cutV cutL
  rw [thAll_len h]
  exact thAll_take _ (thAll_drop _ h)
theorem thAll_reps {H : Hp} {vs : List V} {ds : List PyData} (h : ThAll K H vs ds) : ∀ k, ThAll K H (List.replicate k vs).flatten (List.replicate k ds).flatten
  | 0 => .nil
  | k + 1 => by
    rw [List.replicate_succ, List.replicate_succ, List.flatten_cons, List.flatten_cons]
    exact thAll_app h (thAll_reps h k)
theorem th_of_tup {H : Hp} {v : V} {ds : List PyData} (h : Th K H v (.tuple ds)) : ∃ a xs, v = .ref a ∧ SqT K H a xs ∧ ThAll K H xs ds := by
  cases h with
  | tup hs ha => exact ⟨_, _, rfl, hs, ha⟩
theorem mk_catT (h : Mk1 K te σ H0 (.tuple ds)) (g : Mk1 K tf σ H0 (.tuple es)) (hl : ds.length + es.length ≤ 1000) : Mk1 K (tOp (rCatA K) te tf) σ H0 (.tuple (ds ++ es)) := fun H s Q q =>
  h H s _ fun v H1 s1 h1 => g H1 (s.trans s1) _ fun u H2 s2 h2 => by
    obtain ⟨a, xs, rfl, ha, ta⟩ := th_of_tup (th_same s2 h1)
    obtain ⟨b, ys, rfl, hb, tb⟩ := th_of_tup h2
    have l1 := thAll_len ta
    have l2 := thAll_len tb
    refine ⟨a, b, xs, ys, rfl, rfl, ha, hb, Nat.le_of_lt (small1000 (by omega)), fun e => ?_, fun _ e => ?_, fun _ _ p np => ?_⟩
    · have ed : ds = [] := List.length_eq_zero_iff.mp (by rw [← l1, e]; rfl)
      rw [ed] at q
      exact q _ H2 (s1.trans s2) h2
    · have ed : es = [] := List.length_eq_zero_iff.mp (by rw [← l2, e]; rfl)
      rw [ed, List.append_nil] at q
      exact q _ H2 (s1.trans s2) (th_same s2 h1)
    · exact q _ _ ((s1.trans s2).trans (same_upd np)) (.tup (.inl (.inl upd_same)) (thAll_same (same_upd np) (thAll_app ta tb)))
/-- a part of a slice -/
def MkP (t : TO) (σ : L2.St) (H0 : Hp) (o : Option Int) : Prop := ∀ H, Same H0 H → ∀ Q : Option Int → Hp → Prop, (∀ H', Same H H' → Q o H') → t σ H Q
theorem mkp_none : MkP tNoPart σ H0 none := fun H _ Q q => q H (Same.refl H)
theorem mkp_int {i : Int} : MkP (tPart (tC (.int i))) σ H0 (some i) := fun H _ Q q => ⟨i, rfl, q H (Same.refl H)⟩
theorem mkp_var {i : Int} {j : Nat} (h : σ[j]? = some (some (.int i))) : MkP (tPart (tVar j)) σ H0 (some i) := fun H _ Q q => ⟨_, h, i, rfl, q H (Same.refl H)⟩
theorem mkp_more {i k : Int} {j : Nat} (h : σ[j]? = some (some (.int i))) : MkP (tPart (tOp (rI0 fun a b => V.int (a + b)) (tVar j) (tC (.int k)))) σ H0 (some (i + k)) := fun H _ Q q => ⟨_, h, i, k, rfl, rfl, _, rfl, q H (Same.refl H)⟩
theorem mk_slT {tl th : TO} {lo hi : Option Int} (h : Mk1 K te σ H0 (.tuple ds)) (hl : MkP tl σ H0 lo) (hh : MkP th σ H0 hi) : Mk1 K (tSl (rSlA K) te tl th) σ H0 (.tuple (cutL ds lo hi)) := fun H s Q q =>
  h H s _ fun v H1 s1 h1 => hl H1 (s.trans s1) _ fun H2 s2 => hh H2 ((s.trans s1).trans s2) _ fun H3 s3 => by
    obtain ⟨a, xs, rfl, ha, ta⟩ := th_of_tup (th_same (s2.trans s3) h1)
    have l1 := thAll_len ta
    have x3 := (s1.trans s2).trans s3
    refine ⟨a, xs, rfl, ha, fun e => ?_, fun _ p np => ?_⟩
    · have ec : cutL ds lo hi = ds := by
        unfold cutL
        rw [← l1, e.1, e.2, List.drop_zero, Nat.sub_zero, List.take_of_length_le (Nat.le_of_eq l1.symm)]
      rw [ec] at q
      exact q _ H3 x3 (.tup ha ta)
    · exact q _ _ (x3.trans (same_upd np)) (.tup (.inl (.inl upd_same)) (thAll_same (same_upd np) (thAll_cut lo hi ta)))
theorem mk_revT (h : Mk1 K te σ H0 (.tuple ds)) : Mk1 K (tRevT K te) σ H0 (.tuple ds.reverse) := fun H s Q q =>
  h H s _ fun v H1 s1 h1 => by
    obtain ⟨a, xs, rfl, ha, ta⟩ := th_of_tup h1
    have rev : ∀ {vs : List V} {ds : List PyData}, ThAll K H1 vs ds → ThAll K H1 vs.reverse ds.reverse := fun {vs ds} t => by
      induction vs generalizing ds with
      | nil => cases t; exact .nil
      | cons v vs ih =>
        cases t with
        | cons r t =>
          rw [List.reverse_cons, List.reverse_cons]
          exact thAll_app (ih t) (.cons r .nil)
    exact ⟨a, xs, rfl, ha, fun p np => q _ _ (s1.trans (same_upd np)) (.tup (.inl (.inl upd_same)) (thAll_same (same_upd np) (rev ta)))⟩
/-- list(t) -/
theorem mk_listT (h : Mk1 K te σ H0 (.tuple ds)) : MkL K (tCB (fun xs H Q => ∃ p ys, xs = [.ref p] ∧ (SqL K H p ys ∨ SqT K H p ys) ∧ ∀ l, H l = none → Q (.ref l) (upd H l (.lst ys))) (tCons te tNil)) σ H0 ds := fun H s Q q =>
  h H s _ fun v H1 s1 h1 => by
    obtain ⟨a, xs, rfl, ha, ta⟩ := th_of_tup h1
    exact ⟨a, xs, rfl, .inr ha, fun l nl => q l xs _ (s1.trans (same_upd nl)) upd_same (thAll_same (same_upd nl) ta)⟩
/-- tuple(l) -/
theorem mk_tupL (h : MkL K te σ H0 ds) : Mk1 K (tCB (fun xs H Q => ∃ p ys, xs = [.ref p] ∧ ((SqL K H p ys ∧ ∀ l, H l = none → Q (.ref l) (upd H l (.tup ys))) ∨ (SqT K H p ys ∧ Q (.ref p) H))) (tCons te tNil)) σ H0 (.tuple ds) := fun H s Q q =>
  h H s _ fun p xs H1 s1 e1 t1 => ⟨p, xs, rfl, .inl ⟨SqL.of e1, fun l nl => q _ _ (s1.trans (same_upd nl)) (.tup (.inl (.inl upd_same)) (thAll_same (same_upd nl) t1))⟩⟩
/-- t * k -/
theorem mk_repT {k : Nat} (h : Mk1 K te σ H0 (.tuple ds)) (ne : ds ≠ []) (k1 : 2 ≤ k) (k2 : k ≤ 1000) (hl : ds.length ≤ 1000) : Mk1 K (tOp (rRepT K) te (tC (.int (k : Int)))) σ H0 (.tuple (List.replicate k ds).flatten) := fun H s Q q =>
  h H s _ fun v H1 s1 h1 => by
    obtain ⟨a, xs, rfl, ha, ta⟩ := th_of_tup h1
    have l1 := thAll_len ta
    refine ⟨a, k, xs, rfl, rfl, ha, fun e => ne (List.length_eq_zero_iff.mp (by rw [← l1, e]; rfl)), by omega, by omega, by omega, fun p np => q _ _ (s1.trans (same_upd np)) (.tup (.inl (.inl upd_same)) ?_)⟩
    rw [Int.toNat_natCast]
    exact thAll_same (same_upd np) (thAll_reps ta k)
/-- a list that is new -/
def MkN (K : PySem.W.Frag) (te : TE) (σ : L2.St) (H0 : Hp) (ds : List PyData) : Prop := ∀ H, Same H0 H → ∀ Q : VK, (∀ p xs H1, Same H H1 → H1 p = none → ThAll K H1 xs ds → Q (.ref p) (upd H1 p (.lst xs))) → te σ H Q
theorem mk_catN (h : MkL K te σ H0 ds) (g : MkL K tf σ H0 es) (hl : ds.length + es.length ≤ 1000) : MkN K (tOp rCat te tf) σ H0 (ds ++ es) := fun H s Q q =>
  h H s _ fun p xs H1 s1 e1 h1 => g H1 (s.trans s1) _ fun r ys H2 s2 e2 h2 => ⟨p, r, xs, ys, rfl, rfl, s2 _ _ e1, e2, by rw [thAll_len h1, thAll_len h2]; exact Nat.le_of_lt (small1000 hl), fun l nl =>
    q l _ H2 (s1.trans s2) nl (thAll_app (thAll_same s2 h1) h2)⟩
end
end Lk

/-! Eq0 -/
set_option Elab.async false
set_option maxRecDepth 100000
set_option linter.all false
set_option maxHeartbeats 4000000
namespace PySem
open PySem.SeqAt
section
variable {prog : Program} {w : World} {A : Around} {E : Value → Shared → Prop} {s : Shared}
theorem lk_dict_eq_tup (l q : Addr) (es : Array DictEntry) (n : Nat) (dd dq : Option Addr) (sl sq : Array (Option Value)) (its : Array Value) (m : Nat) :
    Meets (Builtin.«dict.__eq__» ⟨[.ref l, .ref q], []⟩) (fun _ R s => s.heap.get? l = some { cls := .type "dict", dict := dd, data := .dict es n, slots := sl } ∧ s.heap.get? q = some { cls := .type "tuple", dict := dq, data := .seq its m, slots := sq } ∧ R (.ok (.ret .notImplemented)) s) := by
  refine .of_wp ?_
  rintro prog w A R ⟨hp, g, d, tk, os⟩ ⟨there, tq, h⟩
  have no1 := F.sub_tuple_dict
  wp_walk using wpAny_loadPart' there, wpAny_load there, wpAny_loadPart' tq, wpAny_load tq
  exact ⟨_, rfl, h⟩
theorem lk_tup_eq_dict (l q : Addr) (es : Array DictEntry) (n : Nat) (dd dq : Option Addr) (sl sq : Array (Option Value)) (its : Array Value) (m : Nat) :
    Meets (Builtin.«tuple.__eq__» ⟨[.ref q, .ref l], []⟩) (fun _ R s => s.heap.get? l = some { cls := .type "dict", dict := dd, data := .dict es n, slots := sl } ∧ s.heap.get? q = some { cls := .type "tuple", dict := dq, data := .seq its m, slots := sq } ∧ R (.ok (.ret .notImplemented)) s) := by
  refine .of_wp ?_
  rintro prog w A R ⟨hp, g, d, tk, os⟩ ⟨there, tq, h⟩
  have no1 := F.sub_dict_tuple
  wp_walk using wpAny_loadPart' there, wpAny_load there, wpAny_loadPart' tq, wpAny_load tq
  exact ⟨_, rfl, h⟩
end
end PySem
namespace PySem
open PySem.SeqAt
section
variable {prog : Program} {w : World} {A : Around} {E : Value → Shared → Prop} {s : Shared}
theorem lk_rc_dict_tup {l q : Addr} {o oq : Obj} {es : Array DictEntry} {n m : Nat} {its : Array Value} (ho : s.heap.get? l = some o) (hc : o.cls = .type "dict") (hd : o.data = .dict es n) (hoq : s.heap.get? q = some oq) (hcq : oq.cls = .type "tuple") (hdq : oq.data = .seq its m)
    (hu : A.units < cLine) {Q : Value → Shared → Prop} (h : Q (.bool false) s) : wpAny (model prog w) A (richCompare .Eq (.ref l) (.ref q)) Q E s := by
  obtain ⟨cls, dd, data, sl⟩ := o
  obtain ⟨clsq, ddq, dataq, slq⟩ := oq
  simp only at hc hd hcq hdq
  subst hc hd hcq hdq
  have ne : (l == q) = false := by
    rw [beq_eq_false_iff_ne]
    intro z
    rw [z, hoq] at ho
    exact absurd (show Value.type "tuple" = Value.type "dict" from congrArg Obj.cls (Option.some.inj ho)) (by decide)
  refine rc_eq_decline_or (a := .ref l) (b := .ref q) (s := s) (k := false) (show s.TypeIs (.ref l) "dict" from ⟨_, ho, rfl⟩) (show s.TypeIs (.ref q) "tuple" from ⟨_, hoq, rfl⟩) (by decide) F.sub_tuple_dict F.slot_dict_eq F.slot_tuple_eq_refl ?_ ?_ ?_ ?_ ?_
  · exact fun _ hq => call_meets F.slot_dict_eq ⟨_, ho, rfl⟩ F.entry_dict_eq (F.args_dict_eq_2 _ _) (lk_dict_eq_tup l q es n dd ddq sl slq its m) ⟨ho, hoq, hq⟩
  · exact fun _ hq => call_meets F.slot_tuple_eq_refl ⟨_, hoq, rfl⟩ F.entry_tuple_eq (F.args_tuple_eq_2 _ _) (lk_tup_eq_dict l q es n dd ddq sl slq its m) ⟨ho, hoq, hq⟩
  · intro Q' hq
    unfold isSame
    dsimp only
    rw [if_neg (by rw [ne]; decide)]
    refine wpAny_bind (wpAny_load ho ?_)
    refine wpAny_bind (wpAny_load hoq ?_)
    exact wpAny_pure hq
  · exact .inr hu
  · exact h
end
end PySem
namespace Lk
open PySem PySem.Spec PyProof.Rows L2
/-- thing == t, t a tuple, thing of any form -/
def rEqT (K : PySem.W.Frag) : R2 := fun x y H Q => ∃ d es, Th K H x d ∧ Th K H y (.tuple es) ∧ (d.hasDict = true → isDct d = true) ∧ (d.hasDict = false → SeqAt.shaped d = true) ∧ SeqAt.shaped (.tuple es) = true ∧ Q (.bl (!isDct d && PyData.eqv d (.tuple es))) H
theorem op_eqT {X : Cx} (hu : X.A.units + 64 < cLine) : OpR X (compareOp .Eq) (rEqT X.K) := by
  intro pins s σ H x y v u Q I rx ry h
  obtain ⟨d, es, ht, hy, hd, hs, sh, q⟩ := h
  cases e : d.hasDict with
  | false =>
    have s1 := hs e
    have nd : isDct d = false := by
      cases d with
      | dict _ => cases e
      | _ => rfl
    rw [nd, Bool.not_false, Bool.true_and] at q
    exact op_eqD hu pins s σ H x y v u Q I rx ry ⟨d, .tuple es, th_dp ht (SeqAt.canLay_of_shaped s1), th_dp hy (SeqAt.canLay_of_shaped sh), s1, sh, q⟩
  | true =>
    have hh := hd e
    rw [hh, Bool.not_true, Bool.false_and] at q
    cases ht with
    | dct ha _ _ =>
      cases hy with
      | tup hq hx =>
        cases rx
        cases ry
        obtain ⟨_, _, vs, kv, o, es, ep, ho, ex, hda, _⟩ := (show ObjOk X.prog X.w H s.heap _ (.dK _) from I.hok _ _ ha)
        obtain ⟨its, rv, ⟨oq, hoq, hcq, m, hdq⟩, _⟩ := I.tuple hq
        exact PySem.lk_rc_dict_tup ho ex.1 hda hoq hcq hdq (by omega) ⟨.bl false, H, I, rfl, q⟩
    | _ => cases hh
end Lk

/-! TabB0 -/
set_option Elab.async false
set_option maxRecDepth 100000
set_option linter.all false
set_option maxHeartbeats 4000000
namespace Lk
open PySem PySem.Spec PyProof.Rows L2
/-! ### tables of up to 2048 slots -/
/-- the slots that the round meets, as the bits of a number -/
def metBits (m : Nat) : Nat → Nat → Nat → Nat
  | 0, _, acc => acc
  | f + 1, x, acc => metBits m f ((x * 5 + 1) % (m + 1)) (acc ||| 2 ^ x)
def lastOf (m : Nat) : Nat → Nat → Nat
  | 0, x => x
  | f + 1, x => lastOf m f ((x * 5 + 1) % (m + 1))
theorem met_bits (m : Nat) : ∀ (f b acc j : Nat), (metBits m f (lcgN m b) acc).testBit j = true → acc.testBit j = true ∨ ∃ c, c < b + f ∧ lcgN m c = j
  | 0, b, acc, j, h => .inl h
  | f + 1, b, acc, j, h => by
    rcases met_bits m f (b + 1) (acc ||| 2 ^ lcgN m b) j h with z | ⟨c, lt, e⟩
    · rw [Nat.testBit_or, Bool.or_eq_true, Nat.testBit_two_pow, decide_eq_true_eq] at z
      exact z.imp id fun e => ⟨b, by omega, e⟩
    · exact .inr ⟨c, by omega, e⟩
theorem last_of (m : Nat) : ∀ f b : Nat, lastOf m f (lcgN m b) = lcgN m (b + f)
  | 0, _ => rfl
  | f + 1, b => by
    have z := last_of m f (b + 1)
    rw [show b + (f + 1) = b + 1 + f by omega]
    exact z
def MaskB (m : Nat) : Prop := m = 7 ∨ m = 31 ∨ m = 127 ∨ m = 511 ∨ m = 2047 ∨ m = 8191
theorem round7 : (metBits 7 8 0 0 == 2 ^ 8 - 1 && lastOf 7 8 0 == 0) = true := by decide +kernel
theorem round31 : (metBits 31 32 0 0 == 2 ^ 32 - 1 && lastOf 31 32 0 == 0) = true := by decide +kernel
theorem round127 : (metBits 127 128 0 0 == 2 ^ 128 - 1 && lastOf 127 128 0 == 0) = true := by decide +kernel
theorem round511 : (metBits 511 512 0 0 == 2 ^ 512 - 1 && lastOf 511 512 0 == 0) = true := by decide +kernel
theorem round2047 : (metBits 2047 2048 0 0 == 2 ^ 2048 - 1 && lastOf 2047 2048 0 == 0) = true := by decide +kernel
theorem round8191 : (metBits 8191 8192 0 0 == 2 ^ 8192 - 1 && lastOf 8191 8192 0 == 0) = true := by decide +kernel
theorem roundB {m : Nat} (hm : MaskB m) : (metBits m (m + 1) 0 0 == 2 ^ (m + 1) - 1 && lastOf m (m + 1) 0 == 0) = true := by
  rcases hm with e | e | e | e | e | e <;> subst e
  · exact round7
  · exact round31
  · exact round127
  · exact round511
  · exact round2047
  · exact round8191
theorem circleB {m : Nat} (hm : MaskB m) {j : Nat} (hj : j ≤ m) : ∃ b, b ≤ m ∧ lcgN m b = j := by
  have z := roundB hm
  rw [Bool.and_eq_true, beq_iff_eq, beq_iff_eq] at z
  rcases met_bits m (m + 1) 0 0 j (by
    show (metBits m (m + 1) 0 0).testBit j = true
    rw [z.1, Nat.testBit_two_pow_sub_one, decide_eq_true_eq]
    omega) with e | ⟨c, lt, e⟩
  · rw [Nat.zero_testBit] at e
    cases e
  · exact ⟨c, by omega, e⟩
theorem againB {m : Nat} (hm : MaskB m) (k : Nat) : lcgN m (m + 1 + k) = lcgN m k := by
  have z := roundB hm
  rw [Bool.and_eq_true, beq_iff_eq, beq_iff_eq] at z
  have e : lcgN m (m + 1) = 0 := by
    have y := last_of m (m + 1) 0
    rw [Nat.zero_add] at y
    exact y.symm.trans z.2
  rw [← lcgN_add, e]
  have y := lcgN_add m 0 k
  rw [Nat.zero_add] at y
  exact y
/-- a search meets each slot as the start of a run -/
theorem meetB {m : Nat} (hm : MaskB m) (h : Int) {j : Nat} (hj : j ≤ m) : ∃ n, n ≤ m + 12 ∧ runI m (SetTable.bits h) n = j := by
  obtain ⟨a, ha, ea⟩ := circleB hm (runI_le m (SetTable.bits h) 12)
  obtain ⟨b, hb, eb⟩ := circleB hm hj
  have go : ∀ k, lcgI m (runI m (SetTable.bits h) 12) k = lcgN m (a + k) := fun k => by rw [← ea, lcgN_add]
  by_cases c : a ≤ b
  · exact ⟨12 + (b - a), by omega, by rw [runI_tail (bits_lt h), go, Nat.add_sub_cancel' c, eb]⟩
  · exact ⟨12 + (b + (m + 1) - a), by omega, by
      rw [runI_tail (bits_lt h), go, show a + (b + (m + 1) - a) = m + 1 + b by omega, againB hm, eb]⟩
theorem wayB (m : Nat) (h : Int) (k : Nat) : way m h k ≤ m := by
  have lt : SetTable.bits h % (m + 1) ≤ m := Nat.le_of_lt_succ (Nat.mod_lt _ (Nat.succ_pos _))
  have r := runEnd_bd lt
  exact Nat.le_trans (Nat.le_add_right _ _) (nth_in k (runAt m (SetTable.bits h % (m + 1)) (SetTable.bits h)) (show SetTable.bits h % (m + 1) + (SetTable.runEnd m (SetTable.bits h % (m + 1)) - SetTable.bits h % (m + 1)) ≤ m by omega))
/-- a table whose members all are found again by their hashes -/
structure TabB (t : SetTable) (hs : List Int) : Prop where
  ris : Ris t.place.toList
  dm : t.dummies = #[]
  sz : t.place.size = hs.length
  mok : MaskB t.mask
  bd : ∀ x ∈ t.place.toList, x ≤ t.mask
  reach : ∀ (i : Nat) (h : Int) (j : Nat), hs[i]? = some h → t.place.toList[i]? = some j → ∃ k, way t.mask h k = j ∧ ∀ k', k' < k → way t.mask h k' ∈ t.place.toList
theorem oddB {m : Nat} (h : MaskB m) : m % 2 = 1 := by
  rcases h with e | e | e | e | e | e <;> subst e <;> rfl
theorem topB {m : Nat} (h : MaskB m) : m ≤ 8191 := by
  rcases h with e | e | e | e | e | e <;> omega
section
variable {t : SetTable} {hs : List Int}
theorem TabB.first (T : TabB t hs) (hl : hs.length ≤ t.mask) (h : Int) : ∃ K, K < 10 * SetTable.turns t.mask ∧ way t.mask h K ∉ t.place.toList ∧ ∀ k, k < K → way t.mask h k ∈ t.place.toList := by
  obtain ⟨j, hj, hn⟩ := st_missing t.place.toList (t.mask + 1) (by rw [Array.length_toList, T.sz]; omega)
  obtain ⟨n, le, e⟩ := meetB T.mok h (Nat.le_of_lt_succ hj)
  obtain ⟨k, lk, ek⟩ := run_nth t.mask (SetTable.bits h) n
  have free : way t.mask h k ∉ t.place.toList := by
    have z : way t.mask h k = j := (congrArg SetTable.Probe.j ek).trans e
    rwa [z]
  obtain ⟨K, h1, h2, h3⟩ := st_least (p := fun k => way t.mask h k ∉ t.place.toList) k free
  exact ⟨K, by unfold SetTable.turns; omega, h2, fun k' lt => Classical.byContradiction (h3 k' lt)⟩
theorem TabB.before (T : TabB t hs) {h : Int} {K i j : Nat} (hK : way t.mask h K ∉ t.place.toList) (hi : hs[i]? = some h) (hj : t.place.toList[i]? = some j) : ∃ k, k < K ∧ way t.mask h k = j := by
  obtain ⟨k, e, hb⟩ := T.reach i h j hi hj
  refine ⟨k, Nat.lt_of_not_le fun le => hK ?_, e⟩
  rcases Nat.eq_or_lt_of_le le with c | c
  · rw [c, e]
    exact List.mem_of_getElem? hj
  · exact hb K c
theorem TabB.put (T : TabB t hs) {h : Int} {K : Nat} (hK : way t.mask h K ∉ t.place.toList) (hb : ∀ k, k < K → way t.mask h k ∈ t.place.toList) {p : Nat} (ep : p = SetTable.below t.place (way t.mask h K)) :
    (t.put (way t.mask h K)).2 = p ∧ p ≤ hs.length ∧ TabB (t.put (way t.mask h K)).1 (hs.take p ++ h :: hs.drop p) ∧ (t.put (way t.mask h K)).1.mask = t.mask ∧ (t.put (way t.mask h K)).1.led = t.led ∧ (t.put (way t.mask h K)).1.fill = hs.length + 1 := by
  have top := wayB t.mask h K
  have pp := put_place t (way t.mask h K)
  have pd := put_dm T.dm (way t.mask h K)
  obtain ⟨c1, _, _⟩ := below_cut T.ris (way t.mask h K)
  rw [← ep] at pp c1
  have long : t.place.toList.length = hs.length := by
    rw [Array.length_toList]
    exact T.sz
  have hp1 : p ≤ t.place.toList.length := by
    rw [Array.length_toList]
    exact c1
  have hp2 : p ≤ hs.length := by rw [← long]; exact hp1
  have n1 : (t.put (way t.mask h K)).1.place.size = hs.length + 1 := by rw [← Array.length_toList, pp, len_ins _ hp1, long]
  have up : ∀ x ∈ t.place.toList, x ∈ (t.put (way t.mask h K)).1.place.toList := fun x m => by
    rw [pp]
    exact mem_ins.2 (.inr m)
  refine ⟨ep.symm, hp2, ⟨ris_insert T.ris fun e => hK (List.mem_of_getElem? (by rw [Array.getElem?_toList]; exact e)), pd, by rw [len_ins _ hp2]; exact n1, T.mok, fun x m => ?_, fun i h' j h1 h2 => ?_⟩, rfl, rfl, ?_⟩
  · rw [pp] at m
    rcases mem_ins.1 m with e | m
    · rw [e]
      exact top
    · exact T.bd x m
  · rw [tins_get hs hp2] at h1
    rw [pp, tins_get _ hp1] at h2
    have old : ∀ i', hs[i']? = some h' → t.place.toList[i']? = some j → ∃ k, way t.mask h' k = j ∧ ∀ k', k' < k → way t.mask h' k' ∈ (t.put (way t.mask h K)).1.place.toList := fun i' g1 g2 => by
      obtain ⟨k, e, z⟩ := T.reach i' h' j g1 g2
      exact ⟨k, e, fun k' lt => up _ (z k' lt)⟩
    by_cases c : i < p
    · rw [if_pos c] at h1 h2
      exact old i h1 h2
    · rw [if_neg c] at h1 h2
      by_cases d : i = p
      · rw [if_pos d] at h1 h2
        cases h1
        cases h2
        exact ⟨K, rfl, fun k' lt => up _ (hb k' lt)⟩
      · rw [if_neg d] at h1 h2
        exact old (i - 1) h1 h2
  · show (t.put (way t.mask h K)).1.place.size + (t.put (way t.mask h K)).1.dummies.size = hs.length + 1
    rw [n1, pd]
    rfl
end
/-! laid out anew -/
theorem freeB {m : Nat} (hm : MaskB m) (owner : Array (Option Nat)) (h : Int) {j : Nat} (hj : j ≤ m) (hf : oAt owner j = none) :
    ∃ K, SetTable.layClean.free m owner (SetTable.turns m) (SetTable.bits h % (m + 1)) (SetTable.bits h) = some (way m h K) ∧ oAt owner (way m h K) = none ∧ ∀ k, k < K → oAt owner (way m h k) ≠ none := by
  obtain ⟨n, le, e⟩ := meetB hm h hj
  have hit : oAt owner (way m h (off m (SetTable.bits h % (m + 1)) (SetTable.bits h) n)) = none := by
    have z : way m h (off m (SetTable.bits h % (m + 1)) (SetTable.bits h) n) = j := by
      have y := congrArg SetTable.Probe.j (nth_off m n (SetTable.bits h % (m + 1)) (SetTable.bits h))
      rw [itL_run] at y
      exact y.trans e
    rw [z]
    exact hf
  obtain ⟨K, k1, k2, k3⟩ := st_least (p := fun k => oAt owner (way m h k) = none) _ hit
  refine ⟨K, free_spec m owner (SetTable.turns m) n _ _ K (by unfold SetTable.turns; omega) k1 (fun k lt => ?_) (by rw [show oAt owner _ = none from k2]; rfl), k2, k3⟩
  have y := k3 k lt
  cases z : oAt owner (nth m (runAt m (SetTable.bits h % (m + 1)) (SetTable.bits h)) k).j with
  | none => exact absurd z y
  | some _ => rfl
theorem sitB {m : Nat} (hm : MaskB m) {done : List Int} {owner : Array (Option Nat)} (W : Own m done owner) (hl : done.length ≤ m) (h : Int) :
    ∃ j, SetTable.layClean.free m owner (SetTable.turns m) (SetTable.bits h % (m + 1)) (SetTable.bits h) = some j ∧ Own m (done ++ [h]) (owner.setIfInBounds j (some done.length)) := by
  obtain ⟨ps, n, hin⟩ := W.ps
  obtain ⟨j0, lt0, no0⟩ := st_missing ps (m + 1) (by omega)
  have free0 : oAt owner j0 = none := Classical.byContradiction fun z => no0 (hin j0 (Nat.le_of_lt_succ lt0) z)
  obtain ⟨K, e1, e2, e3⟩ := freeB hm owner h (Nat.le_of_lt_succ lt0) free0
  have top := wayB m h K
  refine ⟨way m h K, e1, ?_⟩
  generalize ej : way m h K = j at e1 e2 top
  have self := oAt_set_self (owner := owner) (j := j) (some done.length) (by rw [W.sz]; omega)
  have keep : ∀ i, i ≠ j → oAt (owner.setIfInBounds j (some done.length)) i = oAt owner i := fun i => oAt_set_ne _
  have busy : ∀ i, oAt owner i ≠ none → oAt (owner.setIfInBounds j (some done.length)) i ≠ none := fun i hi => by
    rw [keep i fun z => hi (by rw [z, e2])]
    exact hi
  constructor
  · rw [Array.size_setIfInBounds]
    exact W.sz
  · intro i k hi e
    by_cases c : i = j
    · subst c
      rw [self] at e
      cases e
      exact ⟨h, K, by simp, ej, fun k' lt => busy _ (e3 k' lt)⟩
    · rw [keep i c] at e
      obtain ⟨h', K', a1, a2, a3⟩ := W.at_ i k hi e
      exact ⟨h', K', by rw [List.getElem?_append_left (List.getElem?_eq_some_iff.mp a1).1]; exact a1, a2, fun k' lt => busy _ (a3 k' lt)⟩
  · intro k lt
    rw [List.length_append, List.length_singleton] at lt
    rcases Nat.lt_or_ge k done.length with c | c
    · obtain ⟨i, hi, e⟩ := W.all k c
      exact ⟨i, hi, by rw [keep i fun z => by rw [z, e2] at e; cases e]; exact e⟩
    · have z : k = done.length := by omega
      subst z
      exact ⟨j, top, self⟩
  · refine ⟨j :: ps, by rw [List.length_cons, List.length_append, n]; rfl, fun i hi e => ?_⟩
    by_cases c : i = j
    · rw [c]
      exact List.mem_cons_self
    · rw [keep i c] at e
      exact List.mem_cons_of_mem _ (hin i hi e)
theorem layB {m : Nat} (hm : MaskB m) : ∀ (rest done : List Int) (owner : Array (Option Nat)), Own m done owner → done.length + rest.length ≤ m →
    ∃ owner' n, rest.foldl (stepF m) (some (owner, done.length)) = some (owner', n) ∧ Own m (done ++ rest) owner'
  | [], done, owner, W, _ => ⟨owner, done.length, rfl, by rw [List.append_nil]; exact W⟩
  | h :: rest, done, owner, W, hl => by
    rw [List.length_cons] at hl
    obtain ⟨j, e, W1⟩ := sitB hm W (by omega) h
    have n1 : (done ++ [h]).length = done.length + 1 := by rw [List.length_append]; rfl
    obtain ⟨owner', n, f, W2⟩ := layB hm rest _ _ W1 (by omega)
    rw [List.append_assoc] at W2
    refine ⟨owner', n, ?_, W2⟩
    rw [List.foldl_cons, stepF_some e, ← n1]
    exact f
theorem relaidB (t : SetTable) {hs : Array Int} {wanted M : Nat} (hw : SetTable.sizeAbove wanted = M + 1) (hM : MaskB M) (hn : hs.size ≤ M) :
    ∃ t' order, t.relaid hs wanted = some (t', order) ∧ order.toList.Perm (List.range hs.size) ∧ TabB t' (order.toList.map fun i => hs.getD i 0) ∧ t'.mask = M ∧ t'.led = t.led := by
  obtain ⟨owner, n, f, W⟩ := layB hM hs.toList [] _ (Own.init M) (by rw [Array.length_toList]; show 0 + hs.size ≤ M; omega)
  rw [List.nil_append] at W
  have lc : SetTable.layClean M hs = some owner := by
    rw [layClean_eq]
    exact congrArg (Option.map Prod.fst) f
  have made : t.relaid hs wanted = some (tabOf t M owner, ((liveOf M owner).map (·.2)).toArray) := by
    rw [relaid_eq, show SetTable.sizeAbove wanted - 1 = M by omega, lc]
    rfl
  obtain ⟨r1, r2⟩ : Ris ((liveOf M owner).map (·.1)) ∧ ∀ x ∈ (liveOf M owner).map (·.1), x ∈ List.range (M + 1) := ris_live (fun j => owner.getD j none) (List.range (M + 1)) (by
    unfold Ris
    first | exact List.pairwise_lt_range | exact List.pairwise_lt_range _)
  have every : ∀ k, k < hs.size → k ∈ (liveOf M owner).map (·.2) := fun k lt => by
    obtain ⟨j, b1, b2⟩ := W.all k (by rw [Array.length_toList]; exact lt)
    exact List.mem_map.mpr ⟨(j, k), (mem_live W.sz).2 ⟨b1, b2⟩, rfl⟩
  have many : (liveOf M owner).length = hs.size := by
    obtain ⟨ps, p1, p2⟩ := W.ps
    have a := nat_nodup_len ((liveOf M owner).map (·.1)) ps (show ((liveOf M owner).map (·.1)).Nodup from List.Pairwise.imp (fun h => Nat.ne_of_lt h) r1) fun x m => by
      obtain ⟨⟨y, k⟩, m2, rfl⟩ := List.mem_map.mp m
      obtain ⟨b1, b2⟩ := (mem_live W.sz).1 m2
      exact p2 y b1 (by rw [b2]; exact fun z => nomatch z)
    have b := nat_nodup_len (List.range hs.size) ((liveOf M owner).map (·.2)) List.nodup_range fun k m => every k (List.mem_range.mp m)
    rw [List.length_map] at a
    rw [List.length_map, List.length_range] at b
    have hz : hs.toList.length = hs.size := rfl
    omega
  refine ⟨_, _, made, perm_range hs.size _ (by show ((liveOf M owner).map (·.2)).length = _; rw [List.length_map]; exact many) every, ⟨r1, rfl, ?_, hM, fun x m => Nat.le_of_lt_succ (List.mem_range.mp (r2 x m)), fun i h j h1 h2 => ?_⟩, rfl, rfl⟩
  · show ((liveOf M owner).map (·.1)).toArray.size = (((liveOf M owner).map (·.2)).map fun i => hs.getD i 0).length
    simp
  · replace h1 : (((liveOf M owner).map (·.2)).map fun i => hs.getD i 0)[i]? = some h := h1
    replace h2 : ((liveOf M owner).map (·.1))[i]? = some j := h2
    rw [List.getElem?_map, Option.map_eq_some_iff] at h2
    obtain ⟨⟨j1, k⟩, at_, ej⟩ := h2
    replace ej : j1 = j := ej
    subst ej
    obtain ⟨b1, b2⟩ := (mem_live W.sz).1 (List.mem_of_getElem? at_)
    obtain ⟨h', K, g1, g2, g3⟩ := W.at_ j1 k b1 b2
    rw [List.getElem?_map, List.getElem?_map, at_] at h1
    have eh : h' = h := by
      have z : hs.getD k 0 = h := Option.some.inj h1
      rw [Array.getElem?_toList] at g1
      rw [← z, Array.getD_eq_getD_getElem?, g1]
      rfl
    subst eh
    refine ⟨K, g2, fun k' lt => ?_⟩
    cases z : oAt owner (way M h' k') with
    | none => exact absurd z (g3 k' lt)
    | some k2 => exact List.mem_map.mpr ⟨(way M h' k', k2), (mem_live W.sz).2 ⟨wayB M h' k', z⟩, rfl⟩
end Lk

/-! TupG0 -/
set_option Elab.async false
set_option maxRecDepth 100000
set_option linter.all false
set_option maxHeartbeats 4000000
namespace Lk
open PySem PySem.Spec PyProof.Rows L2
/-! ### a set whose members are told by what stands at their addresses: tuples of whatever kind, found by the table -/
section
variable {α β : Type} {R : α → β → Prop}
theorem each_at : ∀ {as : List α} {bs : List β}, PySem.W.EachIs R as bs → ∀ {i : Nat} {b : β}, bs[i]? = some b → ∃ a, as[i]? = some a ∧ R a b
  | _, _, .nil, i, b, h => by cases h
  | _, _, .cons r t, 0, b, h => by
    cases h
    exact ⟨_, rfl, r⟩
  | _, _, .cons r t, i + 1, b, h => each_at t (i := i) h
theorem each_app : ∀ {as cs : List α} {bs ds : List β}, PySem.W.EachIs R as bs → PySem.W.EachIs R cs ds → PySem.W.EachIs R (as ++ cs) (bs ++ ds)
  | _, _, _, _, .nil, g => g
  | _, _, _, _, .cons r t, g => .cons r (each_app t g)
theorem each_take : ∀ {as : List α} {bs : List β} (p : Nat), PySem.W.EachIs R as bs → PySem.W.EachIs R (as.take p) (bs.take p)
  | _, _, 0, _ => .nil
  | _, _, p + 1, .nil => .nil
  | _, _, p + 1, .cons r t => .cons r (each_take p t)
theorem each_drop : ∀ {as : List α} {bs : List β} (p : Nat), PySem.W.EachIs R as bs → PySem.W.EachIs R (as.drop p) (bs.drop p)
  | _, _, 0, h => h
  | _, _, p + 1, .nil => .nil
  | _, _, p + 1, .cons r t => each_drop p t
theorem each_ins {as : List α} {bs : List β} {a : α} {b : β} (p : Nat) (h : PySem.W.EachIs R as bs) (r : R a b) : PySem.W.EachIs R (as.take p ++ a :: as.drop p) (bs.take p ++ b :: bs.drop p) :=
  each_app (each_take p h) (.cons r (each_drop p h))
/-- some of them, by their places -/
theorem each_pick {as : List α} {bs : List β} (h : PySem.W.EachIs R as bs) : ∀ l : List Nat, (∀ i ∈ l, i < bs.length) → PySem.W.EachIs R (l.filterMap fun i => as[i]?) (l.filterMap fun i => bs[i]?)
  | [], _ => .nil
  | i :: l, hl => by
    have e := List.getElem?_eq_getElem (hl i List.mem_cons_self)
    obtain ⟨a, ea, r⟩ := each_at h e
    rw [List.filterMap_cons_some ea, List.filterMap_cons_some e]
    exact .cons r (each_pick h l fun j hj => hl j (List.mem_cons_of_mem _ hj))
theorem pick_all : ∀ bs : List β, (List.range bs.length).filterMap (fun i => bs[i]?) = bs
  | [] => rfl
  | b :: bs => by
    rw [List.length_cons, List.range_succ_eq_map, List.filterMap_cons_some (show (b :: bs)[0]? = some b from rfl), List.filterMap_map]
    exact congrArg (b :: ·) (pick_all bs)
theorem pick_perm {bs : List β} {l : List Nat} (h : l.Perm (List.range bs.length)) : (l.filterMap fun i => bs[i]?).Perm bs := by
  have z := h.filterMap fun i => bs[i]?
  rw [pick_all] at z
  exact z
theorem ins_perm (l : List β) (p : Nat) (b : β) : (l.take p ++ b :: l.drop p).Perm (b :: l) := by
  have z : (l.take p ++ b :: l.drop p).Perm (b :: (l.take p ++ l.drop p)) := List.perm_middle
  rwa [List.take_append_drop] at z
end
/-! the steps of a search -/
def stp (m : Nat) (h : Int) (c : Nat) : SetTable.Probe := nth m (runAt m (SetTable.bits h % (m + 1)) (SetTable.bits h)) c
theorem stp_on (m : Nat) (h : Int) (c q : Nat) : nth m (stp m h c) q = stp m h (c + q) := (nth_add m c _ q).symm
theorem stp_clean (m : Nat) (h : Int) : ∀ c, (stp m h c).dummy = none
  | 0 => rfl
  | c + 1 => by
    have e : stp m h (c + 1) = adv m (stp m h c) := nth_succ m _ c
    rw [e]
    unfold adv
    split
    · exact stp_clean m h c
    · exact stp_clean m h c
/-- what the probe meets from the c-th step on, in steps from the start -/
theorem probe_met {t : SetTable} {hs : List Int} (T : TabB t hs) {h : Int} {g : Nat → Int} {K c : Nat} (lim : K < 10 * SetTable.turns t.mask) (free : way t.mask h K ∉ t.place.toList) (busy : ∀ d, d < K → way t.mask h d ∈ t.place.toList) (le : c ≤ K) :
    (∃ d i, c ≤ d ∧ d < K ∧ t.place.toList[i]? = some (way t.mask h d) ∧ (∀ d' i', c ≤ d' → d' < d → t.place.toList[i']? = some (way t.mask h d') → g i' ≠ h) ∧ t.probe g h (stp t.mask h c) = some (.candidate (way t.mask h d) i (stp t.mask h (d + 1)))) ∨
    ((∀ d' i', c ≤ d' → d' < K → t.place.toList[i']? = some (way t.mask h d') → g i' ≠ h) ∧ t.probe g h (stp t.mask h c) = some (.empty (way t.mask h K) none)) := by
  have ej : ∀ q, (nth t.mask (stp t.mask h c) q).j = way t.mask h (c + q) := fun q => congrArg SetTable.Probe.j (stp_on t.mask h c q)
  have eK : c + (K - c) = K := by omega
  have shift : ∀ {d : Nat}, c ≤ d → way t.mask h d = (nth t.mask (stp t.mask h c) (d - c)).j := fun {d} hd => by
    rw [ej]
    exact congrArg (way t.mask h) (by omega)
  rcases go_spec t T.ris T.dm g h (10 * SetTable.turns t.mask) (K - c) (stp t.mask h c) (stp_clean _ _ _) (by omega) (fun q hq => by
    rw [ej]
    exact busy _ (by omega)) (by rw [ej, eK]; exact free) with ⟨q, i, lt, at_, _, early, e⟩ | ⟨early, e⟩
  · refine .inl ⟨c + q, i, Nat.le_add_right _ _, by omega, by rw [← ej]; exact at_, fun d' i' h1 h2 h3 => early (d' - c) i' (by omega) (by rw [← shift h1]; exact h3), ?_⟩
    rw [ej, stp_on] at e
    exact e
  · refine .inr ⟨fun d' i' h1 h2 h3 => early (d' - c) i' (by omega) (by rw [← shift h1]; exact h3), ?_⟩
    rw [ej, eK] at e
    exact e
section
variable {P : Program} {w : World} {κ : Type} [DecidableEq κ]
/-- what a set asks of such members, besides hash and equality -/
structure Mem (knd : HeapKind P w κ) : Prop where
  st : knd.Stays
  cls : ∀ {A : Around} {E : Value → Shared → Prop} {s : Shared} {k : κ} {b : Addr} {Q : Bool → Shared → Prop}, knd.is s.heap k b → Q false s → wpAny (model P w) A (ofAClassStatement 8 (.ref b)) Q E s
  byV : ∀ {A : Around} {E : Value → Shared → Prop} {s : Shared} {k : κ} {b : Addr} {Q : Bool → Shared → Prop}, knd.is s.heap k b → (∀ v, Q v s) → wpAny (model P w) A (hashByValue 8 (.ref b)) Q E s
variable {knd : HeapKind P w κ}
theorem Mem.keep (M : Mem knd) {h h' : Heap} {k : κ} {b : Addr} (x : knd.is h k b) (kp : ∀ c u, h.get? c = some u → h'.get? c = some u) : knd.is h' k b := M.st.stays (fun c u _ _ hc _ => kp c u hc) x
/-- an entry of the table, and the key that it bears; B tells which key stands at which address -/
def Row (knd : HeapKind P w κ) (B : κ → Addr → Prop) (e : Int × Value) (k : κ) : Prop := ∃ b, e = (knd.hash k, Value.ref b) ∧ B k b
structure TRow (knd : HeapKind P w κ) (B : κ → Addr → Prop) (h : Heap) (a : Addr) (ks : List κ) (es : Array (Int × Value)) (ep : Nat) (t : SetTable) : Prop where
  here : ∃ o, h.get? a = some o ∧ o.ExactSet ∧ o.data = .set es ep t
  each : PySem.W.EachIs (Row knd B) es.toList ks
  tab : TabB t (ks.map knd.hash)
  diff : ks.Nodup
  led : w.params.followText "set-order" = true ∨ t.led = true
  loose : ks.length * 5 < t.mask * 3
  few : ks.length ≤ 4000
def Sees (knd : HeapKind P w κ) (B : κ → Addr → Prop) (h : Heap) : Prop := ∀ k b, B k b → knd.is h k b
variable {B : κ → Addr → Prop} {A : Around} {E : Value → Shared → Prop} {s : Shared} {a : Addr} {ks : List κ} {es : Array (Int × Value)} {ep : Nat} {t : SetTable}
theorem TRow.many (R : TRow knd B s.heap a ks es ep t) : es.size = ks.length := by
  have z := R.each.length
  rwa [Array.length_toList] at z
theorem fits_tab {hs : List Int} (T : TabB t hs) {n : Nat} (e : hs.length = n) (le : n ≤ t.mask) : t.fits n = true := by
  have z := T.sz
  unfold SetTable.fits SetTable.fill
  simp only [T.dm, Bool.and_eq_true, beq_iff_eq, decide_eq_true_eq, List.size_toArray, List.length_nil]
  omega
theorem TRow.fit (R : TRow knd B s.heap a ks es ep t) : t.fits es.size = true := by
  have z := R.loose
  exact fits_tab R.tab (by rw [List.length_map, R.many]) (by rw [R.many]; omega)
theorem TRow.at (R : TRow knd B s.heap a ks es ep t) {i : Nat} {k : κ} (h : ks[i]? = some k) : ∃ b, es[i]? = some (knd.hash k, Value.ref b) ∧ B k b := by
  obtain ⟨e, he, b, eb, z⟩ := each_at R.each h
  refine ⟨b, ?_, z⟩
  rw [← Array.getElem?_toList, he, eb]
theorem TRow.odd (R : TRow knd B s.heap a ks es ep t) : t.gaveWay = false := by
  unfold SetTable.gaveWay
  rw [oddB R.tab.mok]
  rfl
/-- a search shows nothing of such members -/
theorem seen_none (M : Mem knd) {k : κ} {x : Addr} {Q : Bool → Shared → Prop} (hx : knd.is s.heap k x) {ys : List Value} (hy : ∀ y ∈ ys, ∃ k' c, y = Value.ref c ∧ knd.is s.heap k' c) (q : Q false s) : wpAny (model P w) A (searchCouldBeSeen (.ref x) ys) Q E s := by
  unfold searchCouldBeSeen
  refine wpAny_bind (wpAny_forIn_list _ (fun l z u => z.1 = none ∧ u = s ∧ ∀ y ∈ l, y ∈ ys) _ ?step ?stop _ _ ⟨rfl, rfl, fun _ m => m⟩)
  case step =>
    rintro v l z u ⟨hz, rfl, sub⟩
    obtain ⟨k', c, rfl, hc⟩ := hy v (sub v List.mem_cons_self)
    have on : ∀ y ∈ l, y ∈ ys := fun y m => sub y (List.mem_cons_of_mem _ m)
    dsimp only
    by_cases same : (x == c || (carriedByValue (.ref x) && carriedByValue (.ref c))) = true
    · exact wp_if_pos same (wpAny_pure ⟨rfl, rfl, on⟩)
    · refine wp_if_neg same (wpAny_bind (knd.quiet hx ?_))
      simp only [Bool.not_true, Bool.false_eq_true, if_false]
      refine wpAny_bind (knd.quiet hc ?_)
      simp only [Bool.not_true, Bool.false_eq_true, if_false]
      refine wpAny_bind (M.cls hx ?_)
      simp only [Bool.false_eq_true, if_false]
      refine wpAny_bind (M.cls hc ?_)
      simp only [Bool.false_eq_true, if_false]
      exact wpAny_pure ⟨rfl, rfl, on⟩
  case stop =>
    rintro ⟨z1, z2⟩ u ⟨hz, rfl, _⟩
    cases hz
    exact wpAny_pure q
/-- the search from the c-th step on -/
theorem search_on (M : Mem knd) (C : Sees knd B s.heap) (R : TRow knd B s.heap a ks es ep t) {x : Addr} {k : κ} (hx : knd.is s.heap k x) (room : knd.room A) {K : Nat} (lim : K < 10 * SetTable.turns t.mask) (free : way t.mask (knd.hash k) K ∉ t.place.toList)
    (busy : ∀ d, d < K → way t.mask (knd.hash k) d ∈ t.place.toList) {Q : SetFound → Shared → Prop} (old : k ∈ ks → Q (.there none) s) (new : k ∉ ks → Q (.free (way t.mask (knd.hash k) K) false) s) :
    ∀ (f c : Nat) (stand : Option SetTable.Probe), stand.getD (t.probeStart (knd.hash k)) = stp t.mask (knd.hash k) c → c ≤ K → K - c < f → (∀ i : Nat, ks[i]? = some k → ∃ d, c ≤ d ∧ d < K ∧ t.place.toList[i]? = some (way t.mask (knd.hash k) d)) →
      wpAny (model P w) A (setSearchFrom a (.ref x) (knd.hash k) true f stand) Q E s := by
  obtain ⟨o, ho, hex, hd⟩ := R.here
  intro f
  induction f with
  | zero => exact fun c _ _ _ lt => absurd lt (Nat.not_lt_zero _)
  | succ f ih =>
    intro c stand es0 le lt ahead
    rw [setSearchFrom_succ]
    refine wpAny_bind (wpAny_setState_of (a := a) ho hd (TRow.fit R) ?_)
    dsimp only
    rw [R.odd]
    simp only [Bool.false_eq_true, if_false]
    try refine wpAny_bind (wpAny_pure ?_)
    rw [es0]
    have bears : ∀ (i : Nat) (k' : κ), ks[i]? = some k' → (es[i]?.map (·.1)).getD 0 = knd.hash k' := fun i k' h => by
      obtain ⟨b, e, _⟩ := R.at h
      rw [e]
      rfl
    rcases probe_met R.tab (g := fun i => (es[i]?.map (·.1)).getD 0) lim free busy le with ⟨d, i, h1, h2, h3, early, e⟩ | ⟨early, e⟩
    · rw [e]
      dsimp only
      have lti : i < ks.length := by
        have z := (List.getElem?_eq_some_iff.mp h3).1
        have z2 := R.tab.sz
        rw [List.length_map] at z2
        rw [Array.length_toList] at z
        omega
      have hk : ks[i]? = some ks[i] := List.getElem?_eq_getElem lti
      generalize ks[i] = k' at hk
      obtain ⟨b, eb, hb⟩ := R.at hk
      have live : t.slot (way t.mask (knd.hash k) d) = .live i := slot_live R.tab.ris h3
      have tail : wpAny (model P w) A (searchRest a (.ref x) (knd.hash k) true f es t (way t.mask (knd.hash k) d) i (stp t.mask (knd.hash k) (d + 1))) Q E s := by
        unfold searchRest
        rw [eb]
        dsimp only
        refine wpAny_bind (wpAny_holding (knd.eqBool room (C _ _ hb) hx ?_))
        refine wpAny_bind (wpAny_setState_of (a := a) ho hd (TRow.fit R) ?_)
        dsimp only
        by_cases eq : k' = k
        · refine wp_if_pos (by rw [decide_eq_true eq]; rfl) (wpAny_pure (old ?_))
          rw [← eq]
          exact List.mem_of_getElem? hk
        · refine wp_if_neg (by rw [decide_eq_false eq]; exact Bool.false_ne_true) ?_
          try refine wpAny_bind (wpAny_pure ?_)
          rw [sameMem]
          dsimp only
          simp only [↓reduceIte, live, eb]
          refine wpAny_bind (wpAny_isSame_ref_self (wpAny_bind (wpAny_pure ?_)))
          simp only [↓reduceIte]
          refine wp_if_neg (by rw [decide_eq_false eq]; exact Bool.false_ne_true) ?_
          refine ih (d + 1) _ rfl h2 (by omega) fun i0 h0 => ?_
          obtain ⟨d0, g1, g2, g3⟩ := ahead i0 h0
          refine ⟨d0, ?_, g2, g3⟩
          rcases Nat.lt_trichotomy d0 d with z | z | z
          · exact absurd (bears i0 k h0) (early d0 i0 g1 z g3)
          · rw [z] at g3
            have s0 := slot_live R.tab.ris g3
            rw [live] at s0
            injection s0 with s0
            rw [s0, h0] at hk
            exact absurd (Option.some.inj hk).symm eq
          · exact z
      by_cases hl : t.led = true
      · rw [hl]
        simp only [Bool.not_true, Bool.false_eq_true, if_false]
        try refine wpAny_bind (wpAny_pure ?_)
        exact tail
      · rw [Bool.not_eq_true] at hl
        rw [hl]
        simp only [Bool.not_false, if_true]
        refine wpAny_bind (seen_none M hx (fun y hy => ?_) ?_)
        · obtain ⟨e1, m, ey⟩ := List.mem_map.mp hy
          have m2 : e1 ∈ es.toList := by
            have z : e1 ∈ es ∧ e1.1 = knd.hash k := by simpa using m
            exact Array.mem_toList_iff.mpr z.1
          obtain ⟨k2, _, b2, z2, z3⟩ := PySem.W.EachIs.left R.each e1 m2
          refine ⟨k2, b2, ?_, C _ _ z3⟩
          rw [← ey, z2]
        · simp only [Bool.false_eq_true, if_false]
          try refine wpAny_bind (wpAny_pure ?_)
          exact tail
    · rw [e]
      dsimp only
      refine wpAny_pure (new fun m => ?_)
      obtain ⟨i0, lt0, e0⟩ := List.getElem_of_mem m
      have h0 : ks[i0]? = some k := by rw [List.getElem?_eq_getElem lt0, e0]
      obtain ⟨d0, g1, g2, g3⟩ := ahead i0 h0
      exact early d0 i0 g1 g2 g3 (bears i0 k h0)
theorem search_all (M : Mem knd) (C : Sees knd B s.heap) (R : TRow knd B s.heap a ks es ep t) {x : Addr} {k : κ} (hx : knd.is s.heap k x) (room : knd.room A) {Q : SetFound → Shared → Prop} (old : k ∈ ks → Q (.there none) s)
    (new : ∀ K, k ∉ ks → way t.mask (knd.hash k) K ∉ t.place.toList → (∀ d, d < K → way t.mask (knd.hash k) d ∈ t.place.toList) → Q (.free (way t.mask (knd.hash k) K) false) s) : wpAny (model P w) A (setSearch a (.ref x) (knd.hash k) true) Q E s := by
  have lo := R.loose
  obtain ⟨K, lim, free, busy⟩ := R.tab.first (by rw [List.length_map]; omega) (knd.hash k)
  have big : 10 * SetTable.turns t.mask ≤ 90000 := by
    have z := topB R.tab.mok
    unfold SetTable.turns
    omega
  unfold setSearch
  refine search_on M C R hx room lim free busy old (fun n => new K n free busy) 100000 0 none rfl (Nat.zero_le _) (by omega) fun i hi => ?_
  have h1 : (ks.map knd.hash)[i]? = some (knd.hash k) := by rw [List.getElem?_map, hi]; rfl
  have h2 : i < t.place.toList.length := by
    have z := (List.getElem?_eq_some_iff.mp h1).1
    rw [Array.length_toList, R.tab.sz]
    exact z
  have h3 := List.getElem?_eq_getElem h2
  obtain ⟨d, lt, e⟩ := R.tab.before free h1 h3
  exact ⟨d, Nat.zero_le _, lt, by rw [h3, e]⟩
end
end Lk

/-! TupG1 -/
set_option Elab.async false
set_option maxRecDepth 100000
set_option linter.all false
set_option maxHeartbeats 4000000
namespace Lk
open PySem PySem.Spec PyProof.Rows L2
section
variable {P : Program} {w : World} {κ : Type} [DecidableEq κ] {knd : HeapKind P w κ} {A : Around} {E : Value → Shared → Prop} {s : Shared} {a : Addr} {B : κ → Addr → Prop}
/-- a set with these keys, in whatever order -/
def TSet (knd : HeapKind P w κ) (B : κ → Addr → Prop) (h : Heap) (a : Addr) (ks : List κ) : Prop := ∃ ls es ep t, TRow knd B h a ls es ep t ∧ ls.Perm ks
theorem size_308 : SetTable.sizeAbove (SetTable.grown 77) = 512 := by decide +kernel
theorem size_1228 : SetTable.sizeAbove (SetTable.grown 307) = 2048 := by decide +kernel
theorem size_4914 : SetTable.sizeAbove (SetTable.grown 1229) = 8192 := by decide +kernel
/-- a table laid out anew, with more room -/
theorem tset_relay {o : Obj} {es : Array (Int × Value)} {ep : Nat} {t : SetTable} {ls ks : List κ} (ho : s.heap.get? a = some o) (hex : o.ExactSet) (hd : o.data = .set es ep t) (each : PySem.W.EachIs (Row knd B) es.toList ls) (T : TabB t (ls.map knd.hash)) (inside : ls.length ≤ t.mask)
    (pm : ls.Perm ks) (nd : ks.Nodup) (led : w.params.followText "set-order" = true ∨ t.led = true) (few : ks.length ≤ 4000) {wanted N : Nat} (hw : SetTable.sizeAbove wanted = N + 1) (hN : MaskB N) (loose : ks.length * 5 < N * 3) {Q : Unit → Shared → Prop}
    (q : ∀ h', Heap.SameBut a s.heap h' → TSet knd B h' a ks → Q () { s with heap := h' }) : wpAny (model P w) A (setRelay a wanted) Q E s := by
  have n0 : es.size = ls.length := by
    have z := each.length
    rwa [Array.length_toList] at z
  have n1 : ls.length = ks.length := pm.length_eq
  have nN := topB hN
  obtain ⟨t', order, e, hp, T', em, el⟩ := relaidB t (hs := es.map (·.1)) (wanted := wanted) (M := N) hw hN (by rw [Array.size_map]; omega)
  rw [Array.size_map, n0] at hp
  have sub : ∀ i ∈ order.toList, i < ls.length := fun i hi => List.mem_range.mp (hp.mem_iff.mp hi)
  have each' := each_pick each order.toList sub
  have perm' : (order.toList.filterMap fun i => ls[i]?).Perm ls := pick_perm hp
  have hashes : ∀ l : List Nat, (∀ i ∈ l, i < ls.length) → (l.filterMap fun i => ls[i]?).map knd.hash = l.map fun i => (es.map (·.1)).getD i 0 := by
    intro l
    induction l with
    | nil => exact fun _ => rfl
    | cons i l ih =>
      intro hl
      have lt := hl i List.mem_cons_self
      have ei := List.getElem?_eq_getElem lt
      obtain ⟨e1, he, b, eb, _⟩ := each_at each ei
      rw [Array.getElem?_toList] at he
      have eh : (es.map (·.1)).getD i 0 = knd.hash (ls[i]'lt) := by
        rw [Array.getD_eq_getD_getElem?, Array.getElem?_map, he, eb]
        rfl
      rw [List.filterMap_cons_some ei, List.map_cons, List.map_cons, ih fun j hj => hl j (List.mem_cons_of_mem _ hj), eh]
  rw [← hashes _ sub] at T'
  have toL : (order.filterMap (es[·]?)).toList = order.toList.filterMap fun i => es.toList[i]? := by
    simp
  have n2 : (order.filterMap (es[·]?)).size = es.size := by
    rw [← Array.length_toList, toL, each'.length, perm'.length_eq, n0]
  have sb : Heap.SameBut a s.heap (s.heap.update a (Obj.putSet (order.filterMap (es[·]?)) t')) := Heap.SameBut.update ..
  rw [setRelay_eq]
  refine wpAny_bind (wpAny_setState_of (a := a) ho hd (fits_tab T (by rw [List.length_map, n0]) (by omega)) ?_)
  dsimp only
  refine wp_if_neg (by rw [hw, sizeLine_eq]; omega) ?_
  try refine wpAny_bind (wpAny_pure ?_)
  rw [e]
  dsimp only
  refine wpAny_bind (wp_if_neg (by rw [n2]; simp) ?_)
  try refine wpAny_bind (wpAny_pure ?_)
  refine wpAny_pure ?_
  dsimp only
  refine wpAny_storeSet_of (a := a) ho hd (q _ sb ⟨_, order.filterMap (es[·]?), ep + 1, t', ⟨⟨_, store_at ho hd, ⟨hex.1, hex.2.1, hex.2.2⟩, rfl⟩, ?_, T', ?_, ?_, ?_, ?_⟩, perm'.trans pm⟩) (by rw [n2, n0, sizeLine_eq]; omega)
  · rw [toL]
    exact each'
  · exact (perm'.trans pm).nodup_iff.mpr nd
  · exact led.imp id fun z => by rw [el]; exact z
  · rw [(perm'.trans pm).length_eq, em]
    exact loose
  · rw [(perm'.trans pm).length_eq]
    exact few
/-- one more -/
theorem tset_add (M : Mem knd) {ks : List κ} (C : Sees knd B s.heap) (R0 : TSet knd B s.heap a ks) {x : Addr} {k : κ} (hx : B k x) (room : knd.room A) (few : ks.length + 1 ≤ 4000) {Q : Bool → Shared → Prop} (old : k ∈ ks → Q false s)
    (new : k ∉ ks → ∀ h', Heap.SameBut a s.heap h' → TSet knd B h' a (k :: ks) → Q true { s with heap := h' }) : wpAny (model P w) A (setAddHashed a (.ref x) (knd.hash k)) Q E s := by
  obtain ⟨ls, es, ep, t, R, pm⟩ := R0
  obtain ⟨o, ho, hex, hd⟩ := R.here
  have n0 := R.many
  have n1 : ls.length = ks.length := pm.length_eq
  have lo := R.loose
  unfold setAddHashed
  refine wpAny_holding ?_
  rw [show (100000 : Nat) = 99999 + 1 from rfl, setAddHashedIn_succ]
  refine wpAny_bind (wpAny_setState_of (a := a) ho hd (TRow.fit R) ?_)
  dsimp only
  refine wp_if_neg (by simp [byScan, Value.scannable]) ?_
  try refine wpAny_bind (wpAny_pure ?_)
  refine wpAny_bind (search_all M C R (C _ _ hx) room (fun m => ?_) fun K m free busy => ?_)
  · dsimp only
    exact wpAny_pure (old (pm.mem_iff.mp m))
  · have nm : k ∉ ks := fun z => m (pm.mem_iff.mpr z)
    dsimp only
    refine wpAny_bind (wpAny_setState_of (a := a) ho hd (TRow.fit R) ?_)
    dsimp only
    obtain ⟨q1, q2, q3, q4, q5, q9⟩ := R.tab.put free busy rfl
    generalize t.put (way t.mask (knd.hash k) K) = Z at q1 q3 q4 q5 q9 ⊢
    obtain ⟨t1, p⟩ := Z
    dsimp only at q1 q3 q4 q5 q9 ⊢
    rw [← q1] at q3
    have hs1 : (ls.map knd.hash).take p ++ knd.hash k :: (ls.map knd.hash).drop p = (ls.take p ++ k :: ls.drop p).map knd.hash := by
      rw [List.map_append, List.map_cons, List.map_take, List.map_drop]
    rw [hs1] at q3
    have toL : (SetTable.insertAt es p (knd.hash k, Value.ref x)).toList = es.toList.take p ++ (knd.hash k, Value.ref x) :: es.toList.drop p := SetTable.toList_insertAt ..
    have each1 : PySem.W.EachIs (Row knd B) (SetTable.insertAt es p (knd.hash k, Value.ref x)).toList (ls.take p ++ k :: ls.drop p) := by
      rw [toL]
      exact each_ins p R.each ⟨x, rfl, hx⟩
    have pm1 : (ls.take p ++ k :: ls.drop p).Perm (k :: ks) := (ins_perm ls p k).trans (pm.cons k)
    have nd1 : (k :: ks).Nodup := List.nodup_cons.mpr ⟨nm, pm.nodup_iff.mp R.diff⟩
    have n3 : (ls.take p ++ k :: ls.drop p).length = ks.length + 1 := pm1.length_eq
    rw [List.length_map, n1] at q9
    generalize SetTable.insertAt es p (knd.hash k, Value.ref x) = es1 at toL each1 ⊢
    generalize ls.take p ++ k :: ls.drop p = l1 at each1 pm1 q3 n3
    have n4 : es1.size = ks.length + 1 := by
      rw [← Array.length_toList, each1.length, n3]
    have led1 : w.params.followText "set-order" = true ∨ t1.led = true := R.led.imp id fun z => by rw [q5]; exact z
    -- whatever the table says of its members' hashes from here on, the rest is the same
    have rest : ∀ t2 : SetTable, TabB t2 (l1.map knd.hash) → t2.mask = t.mask → (w.params.followText "set-order" = true ∨ t2.led = true) → t2.fill = ks.length + 1 →
        wpAny (model P w) A (do
          storeSet a es1 t2
          if (!false && t2.tooFull) = true then setRelay a (SetTable.grown (es.size + 1))
          pure true) Q E s := by
      intro t2 T2 em led2 fl
      have sb : Heap.SameBut a s.heap (s.heap.update a (Obj.putSet es1 t2)) := Heap.SameBut.update ..
      have at2 := store_at (es' := es1) (t' := t2) ho hd
      refine wpAny_bind (wpAny_storeSet_of (a := a) ho hd ?_ (by rw [n4, sizeLine_eq]; omega))
      generalize s.heap.update a (Obj.putSet es1 t2) = h1 at sb at2 ⊢
      by_cases full : t2.tooFull = true
      · have tight : (ks.length + 1) * 5 ≥ t.mask * 3 := by
          have z := full
          unfold SetTable.tooFull at z
          rw [decide_eq_true_eq, fl, em] at z
          exact z
        have two : (t.mask = 7 ∧ ks.length = 4) ∨ (t.mask = 31 ∧ ks.length = 18) ∨ (t.mask = 127 ∧ ks.length = 76) ∨ (t.mask = 511 ∧ ks.length = 306) ∨ (t.mask = 2047 ∧ ks.length = 1228) := by
          rcases R.tab.mok with e | e | e | e | e | e
          · exact .inl ⟨e, by omega⟩
          · exact .inr (.inl ⟨e, by omega⟩)
          · exact .inr (.inr (.inl ⟨e, by omega⟩))
          · exact .inr (.inr (.inr (.inl ⟨e, by omega⟩)))
          · exact .inr (.inr (.inr (.inr ⟨e, by omega⟩)))
          · omega
        simp only [full, Bool.not_false, Bool.and_true, if_true]
        rw [n0, n1]
        have go : ∀ N, SetTable.sizeAbove (SetTable.grown (ks.length + 1)) = N + 1 → MaskB N → (ks.length + 1) * 5 < N * 3 → wpAny (model P w) A (setRelay a (SetTable.grown (ks.length + 1)) >>= fun _ => pure true) Q E { s with heap := h1 } := fun N c1 c2 c3 =>
          wpAny_bind (tset_relay (s := { s with heap := h1 }) at2 ⟨hex.1, hex.2.1, hex.2.2⟩ rfl each1 T2 (by rw [em]; rcases two with ⟨e, f⟩ | ⟨e, f⟩ | ⟨e, f⟩ | ⟨e, f⟩ | ⟨e, f⟩ <;> omega) pm1 nd1 led2 few c1 c2 c3 fun h2 sb2 r => wpAny_pure (new nm h2 (sb.trans sb2) r))
        rcases two with ⟨_, e⟩ | ⟨_, e⟩ | ⟨_, e⟩ | ⟨_, e⟩ | ⟨_, e⟩
        · exact go 31 (by rw [e]; exact size_20) (.inr (.inl rfl)) (by omega)
        · exact go 127 (by rw [e]; exact size_76) (.inr (.inr (.inl rfl))) (by omega)
        · exact go 511 (by rw [e]; exact size_308) (.inr (.inr (.inr (.inl rfl)))) (by omega)
        · exact go 2047 (by rw [e]; exact size_1228) (.inr (.inr (.inr (.inr (.inl rfl))))) (by omega)
        · exact go 8191 (by rw [e]; exact size_4914) (.inr (.inr (.inr (.inr (.inr rfl))))) (by omega)
      · rw [Bool.not_eq_true] at full
        simp only [full, Bool.not_false, Bool.and_false, Bool.false_eq_true, if_false]
        refine wpAny_bind (wpAny_pure (wpAny_pure (new nm h1 sb ⟨l1, es1, ep + 1, t2, ⟨⟨_, at2, ⟨hex.1, hex.2.1, hex.2.2⟩, rfl⟩, each1, T2, pm1.nodup_iff.mpr nd1, led2, ?_, by omega⟩, pm1⟩)))
        unfold SetTable.tooFull at full
        rw [decide_eq_false_iff_not, fl, em] at full
        rw [n3, em]
        omega
    have plainOff : TabB { t1 with plain := false } (l1.map knd.hash) := ⟨q3.ris, q3.dm, q3.sz, q3.mok, q3.bd, q3.reach⟩
    by_cases pl : t1.plain = true
    · rw [pl]
      simp only [if_true]
      refine wpAny_bind (M.byV (C _ _ hx) fun v => ?_)
      cases v
      · exact rest { t1 with plain := false } plainOff q4 led1 q9
      · exact rest t1 q3 q4 led1 q9
    · rw [Bool.not_eq_true] at pl
      rw [pl]
      simp only [Bool.false_eq_true, if_false]
      refine wpAny_bind (wpAny_pure ?_)
      exact rest t1 q3 q4 led1 q9
end
end Lk

/-! TupG2 -/
set_option Elab.async false
set_option maxRecDepth 100000
set_option linter.all false
set_option maxHeartbeats 4000000
namespace Lk
open PySem PySem.Spec PyProof.Rows L2
section
variable {P : Program} {w : World} {κ : Type} [DecidableEq κ] {knd : HeapKind P w κ} {B : κ → Addr → Prop} {A : Around} {E : Value → Shared → Prop} {s : Shared}
theorem TSet.at {h h' : Heap} {a : Addr} {ks : List κ} (R : TSet knd B h a ks) (ha : ∀ o, h.get? a = some o → h'.get? a = some o) : TSet knd B h' a ks := by
  obtain ⟨ls, es, ep, t, r, pm⟩ := R
  obtain ⟨o, ho, hx⟩ := r.here
  exact ⟨ls, es, ep, t, ⟨⟨o, ha o ho, hx⟩, r.each, r.tab, r.diff, r.led, r.loose, r.few⟩, pm⟩
theorem TSet.nodup {h : Heap} {a : Addr} {ks : List κ} (R : TSet knd B h a ks) : ks.Nodup := by
  obtain ⟨_, _, _, _, r, pm⟩ := R
  exact pm.nodup_iff.mp r.diff
theorem tset_new {h : Heap} {a : Addr} (ho : h.get? a = some { cls := .type "set", dict := none, data := .set #[] 0 (.fresh 0 0 (!w.params.followText "set-order")) }) : TSet knd B h a [] :=
  ⟨[], #[], 0, _, ⟨⟨_, ho, ⟨rfl, rfl, rfl⟩, rfl⟩, .nil, ⟨List.Pairwise.nil, rfl, rfl, .inl rfl, fun x m => (by cases m), fun i z j hi => (by cases hi)⟩, List.nodup_nil, by
    show _ ∨ (!w.params.followText "set-order") = true
    cases w.params.followText "set-order"
    · exact .inr rfl
    · exact .inl rfl, (by decide : 0 * 5 < 7 * 3), (by decide : 0 ≤ 4000)⟩, .nil⟩
/-- s.update(..), turn by turn; h0: a heap in which the members stand, and which is not written -/
theorem tset_loop (M : Mem knd) {I S : Addr} {fp wr : List Addr} {G : Array GenState → Array GenState → Prop} {n : Nat} {Pv : Nat → Value → Prop} {St : Nat → Shared → Prop} {R : Result → Shared → Prop} (W : WalksS P w A.in1 I fp wr G n Pv St) (apart : S ∉ fp) {ks : List κ}
    (len : n = ks.length) (few : ks.length ≤ 4000) (room : knd.room A.in1) {h0 : Heap} (fresh : ∀ b ∈ S :: wr, h0.get? b = none) (C : Sees knd B h0) (item : ∀ i v, Pv i v → ∃ k b, ks[i]? = some k ∧ v = .ref b ∧ B k b)
    (done : ∀ s' us, Moved (S :: wr) G s s' → (∀ b o, h0.get? b = some o → s'.heap.get? b = some o) → TSet knd B s'.heap S us → (∀ k, k ∈ us ↔ k ∈ ks) → R (.ok (.ret .none)) s') :
    ∀ (m i : Nat) (s1 : Shared) (us : List κ), n - i = m → i ≤ n → St i s1 → Moved (S :: wr) G s s1 → (∀ b o, h0.get? b = some o → s1.heap.get? b = some o) → TSet knd B s1.heap S us → (∀ k, k ∈ us ↔ k ∈ ks.take i) → us.length ≤ i →
      codeAny (model P w) A (.builtin "set.update.loop" ⟨[.ref S, .ref I], []⟩) R s1 := by
  have aw : S ∉ wr := fun z => apart (W.sub _ z)
  have up : ∀ b ∈ wr, b ∈ S :: wr := fun b hb => List.mem_cons_of_mem _ hb
  have kept : ∀ {s1 s2 : Shared}, Moved wr G s1 s2 → (∀ b o, h0.get? b = some o → s1.heap.get? b = some o) → ∀ b o, h0.get? b = some o → s2.heap.get? b = some o := fun mv kp b o e =>
    mv.heap b o (fun hb => by
      rw [fresh b (up b hb)] at e
      cases e) (kp b o e)
  intro m
  induction m with
  | zero =>
    intro i s1 us em hi st mv kp R1 mem _
    have ei : i = n := by omega
    rw [ei] at st mem
    refine codeAny_builtin F.entry_set_update_loop ?_
    rw [Around.under_plainId F.plain_set_update_loop _]
    show wpAny _ A.in1 (pyNext (.ref I) >>= _) _ _ s1
    refine wpAny_bind (W.done s1 _ _ st fun s2 mv2 => ?_)
    show wpAny _ A.in1 (ret Value.none) _ _ s2
    rw [List.take_of_length_le (Nat.le_of_eq len.symm)] at mem
    exact wpAny_pure (done s2 us (Moved.trans W.gtrans mv (mv2.mono up)) (kept mv2 kp) (R1.at fun o e => mv2.heap S o aw e) mem)
  | succ m ih =>
    intro i s1 us em hi st mv kp R1 mem most
    have lt : i < n := by omega
    refine codeAny_builtin F.entry_set_update_loop ?_
    rw [Around.under_plainId F.plain_set_update_loop _]
    show wpAny _ A.in1 (pyNext (.ref I) >>= _) _ _ s1
    refine wpAny_bind (W.item i s1 _ _ lt st fun v s2 pv st2 mv2 => ?_)
    obtain ⟨k, b, hk, ev, hb⟩ := item i v pv
    subst ev
    have kp2 := kept mv2 kp
    have C2 : Sees knd B s2.heap := fun k b z => M.keep (C k b z) kp2
    have R2 := R1.at (h' := s2.heap) fun o e => mv2.heap S o aw e
    have next : ∀ j, j ∈ ks.take (i + 1) ↔ j ∈ ks.take i ∨ j = k := fun j => by
      rw [List.take_add_one, hk]
      simp [List.mem_append]
    show wpAny _ A.in1 (holding [Value.ref b] (setAdd S (.ref b)) >>= _) _ _ s2
    refine wpAny_bind (wpAny_holding ?_)
    unfold setAdd
    refine wpAny_holding (wpAny_bind (knd.pyHash room (C2 _ _ hb) ?_))
    have mv12 := Moved.trans W.gtrans mv (mv2.mono up)
    refine tset_add (s := { s2 with toks := s2.toks + knd.draws k }) M C2 R2 hb room (by omega) (fun old => ?_) fun nk h3 sb R3 => ?_
    · refine wpAny_pure ⟨plainId_quiet F.plain_set_update_loop _, ih (i + 1) _ us (by omega) lt (W.frame _ s2 _ _ st2 (Nat.le_add_right _ _) fun b hb o e => e) (mv12.then_heap (Nat.le_add_right _ _) fun b o hb e => e) kp2 R2 (fun j => ?_) (by omega)⟩
      rw [next j, mem j]
      exact ⟨.inl, fun z => z.elim id fun e => e ▸ (mem k).1 old⟩
    · refine wpAny_pure ⟨plainId_quiet F.plain_set_update_loop _, ih (i + 1) _ (k :: us) (by omega) lt (W.frame _ s2 _ _ st2 (Nat.le_add_right _ _) fun b hb o e => ?_) (mv12.then_heap (Nat.le_add_right _ _) fun b o hb e => ?_) (fun b o e => ?_) R3 (fun j => ?_) (by rw [List.length_cons]; omega)⟩
      · rw [sb.2 b (fun z : b = S => apart (by rw [← z]; exact hb))]
        exact e
      · rw [sb.2 b (fun z : b = S => hb (by rw [z]; exact List.mem_cons_self))]
        exact e
      · refine (sb.2 b fun z => ?_).trans (kp2 b o e)
        rw [z, fresh S List.mem_cons_self] at e
        cases e
      · rw [next j, List.mem_cons, mem j]
        exact Or.comm
end
end Lk

/-! TupG3 -/
set_option Elab.async false
set_option maxRecDepth 100000
set_option linter.all false
set_option maxHeartbeats 4000000
namespace Lk
open PySem PySem.Spec PyProof.Rows L2
section
variable {P : Program} {w : World} {κ : Type} [DecidableEq κ] {knd : HeapKind P w κ} {B : κ → Addr → Prop} {A : Around} {E : Value → Shared → Prop} {s : Shared}
set_option maxRecDepth 100000 in
theorem call_set_M (M : Mem knd) {l : Addr} {items : Array Value} {ks : List κ} {Q : Value → Shared → Prop} (hh : A.handled = none) (hl : s.heap.IsList l items) (len : items.size = ks.length) (few : ks.length ≤ 4000) (room : ∀ A' : Around, A'.units ≤ A.units + 8 → knd.room A') (C : Sees knd B s.heap)
    (item : ∀ (i : Nat) (v : Value), items[i]? = some v → ∃ k b, ks[i]? = some k ∧ v = .ref b ∧ B k b)
    (h : ∀ (h' : Heap) (tk : Nat) (us : List κ), TSet knd B h' s.heap.objs.size us → (∀ k, k ∈ us ↔ k ∈ ks) → (∀ b o, s.heap.get? b = some o → h'.get? b = some o) → Q (.ref s.heap.objs.size) { s with heap := h', toks := tk }) :
    wpAny (model P w) A (call (.type "set") [.ref l]) Q E s := by
  obtain ⟨c, tl, hmro⟩ := F.called_set.mro
  have hmade := F.called_set.made
  have hsub := F.called_set.sub
  refine wpAny_call (codeAny_of_tree ?_)
  show wpAny _ _ (callAny (.type "set") _) _ _ _
  refine wpAny_pure ⟨Code.quiet_builtin _ (by decide +kernel), codeAny_builtin F.entry_type_call ?_⟩
  rw [Around.under_plain (weight_type_call_type "set" [.ref l] []) rfl]
  have h1 := F.called_set.notType
  have h2 := F.called_set.canCreate
  have hct := F.typeCall_set_1 (.ref l)
  repeat (any_goals (first | assumption | wp_step))
  refine codeAny_mono (code_set_led1 (.ref l) (E := E) (Q₁ := fun obj s₁ => obj = .ref s.heap.objs.size ∧ s₁ = { s with heap := s.heap.push { cls := .type "set", dict := none, data := .set #[] 0 (.fresh 0 0 (!w.params.followText "set-order")) } }) ⟨rfl, rfl⟩) fun r s₁ hr => ?_
  match r, hr with
  | .error e, hr => exact hr
  | .ok .next, hr => exact hr.elim
  | .ok .brk, hr => exact hr.elim
  | .ok .cont, hr => exact hr.elim
  | .ok (.ret obj), ⟨eo, es⟩ =>
    subst eo es
    have hS : (s.heap.push { cls := .type "set", dict := none, data := .set #[] 0 (.fresh 0 0 (!w.params.followText "set-order")) }).get? s.heap.objs.size = some { cls := .type "set", dict := none, data := .set #[] 0 (.fresh 0 0 (!w.params.followText "set-order")) } := Heap.get?_push_size _ rfl
    have hT : Shared.TypeIs { s with heap := s.heap.push { cls := .type "set", dict := none, data := .set #[] 0 (.fresh 0 0 (!w.params.followText "set-order")) } } (.ref s.heap.objs.size) "set" := ⟨_, hS, rfl⟩
    have hli := F.called_set.init.lookup
    have hbi := F.called_set.init.bind (.ref s.heap.objs.size)
    repeat (any_goals (first | assumption | wp_step))
    refine codeAny_mono (codeAny_call_builtin (R := wants (fun r s₂ => r = .none ∧ ∃ h' tk us, s₂ = { s with heap := h', toks := tk } ∧ TSet knd B h' s.heap.objs.size us ∧ (∀ k, k ∈ us ↔ k ∈ ks) ∧
        (∀ b o, s.heap.get? b = some o → h'.get? b = some o)) E) F.called_set.init.plain F.entry_set_init (check_set_init_1 hT ?_)) fun r₂ s₂ hr₂ => ?_
    · obtain ⟨⟨ocls, odict, odata, oslots⟩, hol, hcl, nl, hdl⟩ := hl
      simp only at hcl hdl
      subst hcl hdl
      have hol' : (s.heap.push { cls := .type "set", dict := none, data := .set #[] 0 (.fresh 0 0 (!w.params.followText "set-order")) }).get? l = some { cls := .type "list", dict := odict, data := .seq items nl, slots := oslots } := Heap.get?_push_of_some _ hol
      have hsls := F.sub_list_set
      have hslf := F.sub_list_frozenset
      have hne : (Value.type "list" == Value.type "dict") = false := by decide
      have hl1 : (s.heap.push { cls := .type "set", dict := none, data := .set #[] 0 (.fresh 0 0 (!w.params.followText "set-order")) }).IsList l items := ⟨_, hol', rfl, nl, rfl⟩
      unfold Builtin.«set.__init__» noKeywords Builtin.Frozenset.updateFrom
      generalize hPI : pyIter = PI
      wp_walk
      subst hPI
      refine wpAny_pyIter_list hl1 ?_
      refine wpAny_bind (wpAny_runValue ?_)
      have lt : l < s.heap.objs.size := Heap.lt_size hol
      have sz : (s.heap.push { cls := .type "set", dict := none, data := .set #[] 0 (.fresh 0 0 (!w.params.followText "set-order")) }).objs.size = s.heap.objs.size + 1 := Heap.size_push ..
      have quiet : A.in1.in1.in1.handled = none := by simp [hh]
      have n1 : l ≠ (s.heap.push { cls := .type "set", dict := none, data := .set #[] 0 (.fresh 0 0 (!w.params.followText "set-order")) }).objs.size := by
        rw [Heap.size_push]
        exact Nat.ne_of_lt (Nat.lt_succ_of_lt lt)
      have n2 : s.heap.objs.size ∉ [(s.heap.push { cls := .type "set", dict := none, data := .set #[] 0 (.fresh 0 0 (!w.params.followText "set-order")) }).objs.size, l] := by
        rw [Heap.size_push]
        simp only [List.mem_cons, List.not_mem_nil, or_false, not_or]
        exact ⟨Nat.ne_of_lt (Nat.lt_succ_self _), Nat.ne_of_gt lt⟩
      have none_at : ∀ b, s.heap.objs.size ≤ b → s.heap.get? b = none := fun b hb => by
        cases q : s.heap.get? b with
        | none => rfl
        | some o => exact absurd (Nat.lt_of_lt_of_le (Heap.lt_size q) hb) (Nat.lt_irrefl _)
      refine tset_loop (knd := knd) (B := B) (ks := ks) (h0 := s.heap) M ((Walks.list quiet _ l n1 items).toS) n2 len few (room _ (by simp)) (fun b hb => ?fresh) C item ?hR (items.size - 0) 0 _ [] rfl (Nat.zero_le _) ⟨⟨_, Heap.get?_push_size _ rfl, rfl, rfl⟩, (hl1.push _)⟩ (Moved.refl fun _ => rfl) (fun b o e => Heap.get?_push_of_some _ (Heap.get?_push_of_some _ e)) ?hS0 (fun k => by simp) (Nat.le_refl 0)
      case fresh =>
        rcases List.mem_cons.mp hb with e | hb
        · rw [e]
          exact none_at _ (Nat.le_refl _)
        · rw [List.mem_singleton.mp hb, Heap.size_push]
          exact none_at _ (Nat.le_succ _)
      case hS0 => exact tset_new (Heap.get?_push_of_some _ hS)
      case hR =>
        rintro ⟨h', g2, d', tk', os'⟩ us mv kp R2 mem
        have eg := mv.gens
        have ed := mv.drawn
        have eo := mv.os
        dsimp only at eg ed eo
        subst eg ed eo
        show wpAny _ _ _ _ _ _
        refine wpAny_pure ?_
        show wpAny _ _ (ret Value.none) _ _ _
        exact wpAny_pure ⟨rfl, h', tk', us, rfl, R2, mem, kp⟩
    · match r₂, hr₂ with
      | .error e, hr₂ => exact hr₂
      | .ok .next, hr₂ => exact hr₂.elim
      | .ok .brk, hr₂ => exact hr₂.elim
      | .ok .cont, hr₂ => exact hr₂.elim
      | .ok (.ret r), ⟨er, h', tk, us, es, R2, mem, kp⟩ =>
        subst er es
        repeat (any_goals (first | assumption | wp_step))
        exact h _ _ _ R2 mem kp
end
end Lk

/-! TupS0 -/
set_option Elab.async false
set_option maxRecDepth 100000
set_option linter.all false
set_option maxHeartbeats 4000000
namespace Lk
open PySem PySem.Spec PyProof.Rows L2
/-! ### sorted(s), s a set of tuples -/
theorem each_perm {α β : Type} {R : α → β → Prop} {as' as : List α} (p : as'.Perm as) : ∀ {bs : List β}, PySem.W.EachIs R as bs → ∃ bs', PySem.W.EachIs R as' bs' ∧ bs'.Perm bs := by
  induction p with
  | nil => exact fun h => ⟨_, h, .refl _⟩
  | cons a _ ih =>
    intro bs h
    cases h with
    | cons r t =>
      obtain ⟨cs, h1, h2⟩ := ih t
      exact ⟨_, .cons r h1, h2.cons _⟩
  | swap a b l =>
    intro bs h
    cases h with
    | cons r t =>
      cases t with
      | cons r2 t => exact ⟨_, .cons r2 (.cons r t), List.Perm.swap ..⟩
  | trans _ _ ih1 ih2 =>
    intro bs h
    obtain ⟨cs, h1, h2⟩ := ih2 h
    obtain ⟨ds, h3, h4⟩ := ih1 h1
    exact ⟨ds, h3, h4.trans h2⟩
theorem each_map_left {α β γ : Type} {R : α → β → Prop} {S : γ → β → Prop} {f : α → γ} (g : ∀ a b, R a b → S (f a) b) : ∀ {as : List α} {bs : List β}, PySem.W.EachIs R as bs → PySem.W.EachIs S (as.map f) bs
  | _, _, .nil => .nil
  | _, _, .cons r t => .cons (g _ _ r) (each_map_left g t)
theorem each_with {α β : Type} {R : α → β → Prop} {p : β → Prop} : ∀ {as : List α} {bs : List β}, PySem.W.EachIs R as bs → (∀ b ∈ bs, p b) → PySem.W.EachIs (fun a b => R a b ∧ p b) as bs
  | _, _, .nil, _ => .nil
  | _, _, .cons r t, h => .cons ⟨r, h _ List.mem_cons_self⟩ (each_with t fun b m => h b (List.mem_cons_of_mem _ m))
section
variable {P : Program} {w : World} {κ : Type} [DecidableEq κ] {knd : HeapKind P w κ} {B : κ → Addr → Prop} {A : Around} {E : Value → Shared → Prop} {s : Shared} {a : Addr} {ks : List κ}
def At (B : κ → Addr → Prop) (v : Value) (k : κ) : Prop := ∃ b, v = .ref b ∧ B k b
theorem tset_sorted {Q : Value → Shared → Prop} (R0 : TSet knd B s.heap a ks) (hh : A.handled = none) (enc : κ → PyData) (rd : ∀ k b, k ∈ ks → B k b → Reads s.heap (.ref b) (enc k) []) (al : PySem.W.AllAlike (ks.map enc)) (so : PySem.W.Sortable (ks.map enc)) (hu : ∀ k ∈ ks, A.units + 2 + (enc k).depth < cLine)
    (hQ : ∀ s' p (out : List Value) (c : Nat) (cs : List κ), (∀ b o, s.heap.get? b = some o → s'.heap.get? b = some o) → s'.gens = s.gens → s'.os = s.os → s.heap.objs.size ≤ p →
      s'.heap.get? p = some (seqObj "list" out.toArray c) → PySem.W.EachIs (At B) out cs → cs.Perm ks → cs.Pairwise (fun x y => PySem.W.dataLe false enc x y = true) → Q (.ref p) s') :
    wpAny (model P w) A (call (.builtin "sorted") [.ref a]) Q E s := by
  obtain ⟨ls, es, ep, t, R, pm0⟩ := R0
  obtain ⟨o, ho, hex, hd⟩ := R.here
  have n0 : ks.length ≤ 4000 := by
    rw [← pm0.length_eq]
    exact R.few
  have n1 : es.size = ks.length := by
    rw [R.many]
    exact pm0.length_eq
  refine Calls.call_function_entry kind_sorted plain_sorted entry_sorted (args_sorted1 _) ?_
  unfold Builtin.«sorted»
  refine wpAny_bind (m := checkCount "sorted" 1 1 _) (wpAny_pure ?_)
  refine wpAny_bind (collect_set (A := A.in1) hh ⟨o, ho, hex.1, hd⟩ (TRow.fit R) (by unfold scanBound; omega) R.tab.ris R.led fun s1 vs kp hz g1 o1 pm => ?_)
  obtain ⟨cs, each, pc⟩ := each_perm pm (each_map_left (S := At B) (f := Prod.snd) (fun e k ⟨b, e1, h⟩ => ⟨b, by rw [e1], h⟩) R.each)
  have pk : cs.Perm ks := pc.trans pm0
  have n2 : cs.length = ks.length := pk.length_eq
  have n3 : vs.length = ks.length := each.length.trans n2
  refine wpAny_bind (wpAny_newList ?_ (by rw [n3, sizeLine_eq]; omega))
  have hoL : (s1.heap.push (seqObj "list" vs.toArray 0)).get? s1.heap.objs.size = some (seqObj "list" vs.toArray 0) := Heap.get?_push_size _ rfl
  have kp1 : ∀ b u, s.heap.get? b = some u → (s1.heap.push (seqObj "list" vs.toArray 0)).get? b = some u := fun b u e => Heap.get?_push_of_some _ (kp b u e)
  have er : PySem.W.EachIs (fun v k => ∃ as, Reads (s1.heap.push (seqObj "list" vs.toArray 0)) v (enc k) as ∧ s1.heap.objs.size ∉ as) vs cs := by
    refine (each_with each fun k m => pk.mem_iff.mp m).mono fun v k ⟨⟨b, ev, hb⟩, m⟩ => ⟨[], ?_, fun z => nomatch z⟩
    rw [ev]
    exact PyProof.Rows.Reads.keeps kp1 (rd k b m hb)
  have al' : PySem.W.AllAlike (cs.map enc) := fun d m d' m' => al d ((pk.map enc).mem_iff.mp m) d' ((pk.map enc).mem_iff.mp m')
  have so' : PySem.W.Sortable (cs.map enc) := so.imp (fun z d m => z d ((pk.map enc).mem_iff.mp m)) fun z d m => z d ((pk.map enc).mem_iff.mp m)
  refine wpAny_bind (wpAny_holding (PySem.W.list_sort_data (enc := enc) (s := { s1 with heap := s1.heap.push (seqObj "list" vs.toArray 0) }) hoL each er al' so' (by rw [n2, sizeLine_eq]; omega) (fun k m => ?_) fun out len eo => ?_))
  · have z := hu k (pk.mem_iff.mp m)
    show A.in1.units + 1 + (enc k).depth < cLine
    simp
    omega
  · obtain ⟨c, hc⟩ := sortedHeap_at (vs := vs) (out := out.toArray) hoL
    refine wpAny_pure ⟨_, rfl, hQ _ s1.heap.objs.size out c _ (fun b u e => ?_) g1 o1 hz hc eo ((List.mergeSort_perm _ _).trans pk) (PySem.W.sort_pairwise (PySem.W.sortLe_total _ _ _) _)⟩
    have q := kp b u e
    have lt := Heap.lt_size q
    show (sortedHeap (s1.heap.push (seqObj "list" vs.toArray 0)) s1.heap.objs.size vs out.toArray).get? b = some u
    rw [sortedHeap_old (Nat.ne_of_lt lt) (by rw [size_push']; exact Nat.lt_succ_of_lt lt)]
    exact Heap.get?_push_of_some _ q
end
/-! ### tuples of ints and texts as members -/
section
variable {P : Program} {w : World}
theorem mix_items {k : List Key} {vs : List Value} (h : ItemsAre (mixKind P w) k vs) : ∀ v ∈ vs, (∃ i t, v = Value.int i t) ∨ ∃ x t, v = Value.str x t := by
  induction h with
  | nil => exact fun v m => nomatch m
  | cons r _ ih =>
    intro v m
    rcases List.mem_cons.mp m with e | m
    · rcases keyIs_shape r with ⟨i, t, e2, _⟩ | ⟨x, t, e2, _⟩
      · exact .inl ⟨i, t, e.trans (by first | exact e2 | exact (by assumption))⟩
      · exact .inr ⟨x, t, e.trans (by first | exact e2 | exact (by assumption))⟩
    · exact ih v m
theorem mixMem : Mem (tupleKind (mixKind P w)) where
  st := tupleKind_stays
  cls := fun {A E s k b Q} x q => by
    have hT := IsTupleKey.typeIs x
    obtain ⟨o, its, n, ho, _, hd, hi⟩ := x
    have low : ∀ (d : Nat) (v : Value), v ∈ its.toList → ofAClassStatement d v = pure false := fun d v m => by
      rcases mix_items hi v m with ⟨i, t, rfl⟩ | ⟨z, t, rfl⟩ <;> cases d <;> rfl
    unfold ofAClassStatement
    refine wpAny_bind (wpAny_typeOf hT ?_)
    dsimp only
    simp only [show (("tuple" : String) == "tuple") = true by decide, if_true, Bool.not_true, Bool.false_eq_true, if_false]
    try refine wpAny_bind (wpAny_pure ?_)
    try simp only [Bool.not_true, Bool.false_eq_true, if_false]
    refine wpAny_bind (wpAny_seqItems (a := b) ho hd ?_)
    dsimp only
    rw [← Array.forIn_toList]
    refine wpAny_bind (wpAny_forIn_list _ (fun l z u => z.1 = none ∧ u = s ∧ ∀ v ∈ l, v ∈ its.toList) _ ?step ?stop _ _ ⟨rfl, rfl, fun _ m => m⟩)
    case step =>
      rintro v l z u ⟨hz, rfl, sub⟩
      rw [low _ v (sub v List.mem_cons_self)]
      refine wpAny_bind (wpAny_pure ?_)
      simp only [Bool.false_eq_true, if_false]
      exact wpAny_pure ⟨rfl, rfl, fun y m => sub y (List.mem_cons_of_mem _ m)⟩
    case stop =>
      rintro ⟨z1, z2⟩ u ⟨hz, rfl, _⟩
      cases hz
      exact wpAny_pure q
  byV := fun {A E s k b Q} x q => by
    have hT := IsTupleKey.typeIs x
    obtain ⟨o, its, n, ho, _, hd, hi⟩ := x
    have low : ∀ (d : Nat) (v : Value), v ∈ its.toList → hashByValue d v = pure true ∨ hashByValue d v = pure false := fun d v m => by
      rcases mix_items hi v m with ⟨i, t, rfl⟩ | ⟨z, t, rfl⟩ <;> cases d <;> first | exact .inl rfl | exact .inr rfl
    unfold hashByValue
    refine wpAny_bind (wpAny_specialOf hT F.slot_tuple_hash.lookup ?_)
    show wpAny _ _ (seqItems? (.ref b) >>= _) _ _ s
    refine wpAny_bind (wpAny_seqItems (a := b) ho hd ?_)
    show wpAny _ _ (forIn its _ _ >>= _) _ _ s
    rw [← Array.forIn_toList]
    refine wpAny_bind (wpAny_forIn_list _ (fun l z u => z.1 = none ∧ u = s ∧ ∀ v ∈ l, v ∈ its.toList) _ ?step ?stop _ _ ⟨rfl, rfl, fun _ m => m⟩)
    case step =>
      rintro v l z u ⟨hz, rfl, sub⟩
      rcases low 7 v (sub v List.mem_cons_self) with e | e
      · rw [e]
        refine wpAny_bind (wpAny_pure ?_)
        simp only [Bool.not_true, Bool.false_eq_true, if_false]
        exact wpAny_pure ⟨rfl, rfl, fun y m => sub y (List.mem_cons_of_mem _ m)⟩
      · rw [e]
        refine wpAny_bind (wpAny_pure ?_)
        simp only [Bool.not_false, if_true]
        exact wpAny_pure (wpAny_pure (q _))
    case stop =>
      rintro ⟨z1, z2⟩ u ⟨hz, rfl, _⟩
      cases hz
      exact wpAny_pure (q _)
end
end Lk

/-! TupS1 -/
set_option Elab.async false
set_option maxRecDepth 100000
set_option linter.all false
set_option maxHeartbeats 4000000
namespace Lk
open PySem PySem.Spec PyProof.Rows L2
/-! ### sets of pairs (length, text) over the layer -/
def keyP (x : Str) : List Key := [Sum.inl (x.length : Int), Sum.inr x]
def unP : List Key → Str
  | [_, Sum.inr x] => x
  | _ => Str.empty
def vP (x : Str) : List V := [V.int (x.length : Int), V.str x]
def encK : Key → PyData
  | .inl n => .int n
  | .inr x => .str x
def encP (k : List Key) : PyData := .tuple (k.map encK)
/-- which pair stands at which address -/
def InL (L : List (Addr × Str)) (k : List Key) (b : Addr) : Prop := ∃ x, (b, x) ∈ L ∧ k = keyP x
def SetPr (P : Program) (w : World) (L : List (Addr × Str)) (a : Addr) (us : List Str) : HO := .ext fun h => TSet (tupleKind (mixKind P w)) (InL L) h a (us.map keyP)
theorem un_keys {us : List (List Key)} {L : List (Addr × Str)} (h : ∀ k ∈ us, k ∈ L.map fun p => keyP p.2) : (us.map unP).map keyP = us := by
  rw [List.map_map]
  refine (List.map_congr_left fun k m => ?_).trans (List.map_id _)
  obtain ⟨p, _, rfl⟩ := List.mem_map.mp (h k m)
  rfl
theorem keyP_inj {x y : Str} (h : keyP x = keyP y) : x = y := by
  injection h with _ h
  injection h with h _
  injection h
/-- the order of such pairs is the order of names -/
theorem leP {x y : Str} (h : PySem.W.dataLe false encP (keyP x) (keyP y) = true) : leA x y := by
  rw [PySem.W.dataLe_eq] at h
  have h1 : (!PySem.W.dataLt (.tuple [.int (y.length : Int), .str y]) (.tuple [.int (x.length : Int), .str x])) = true := h
  rw [PySem.W.dataLt_pair (by rfl) (by rfl), PySem.W.dataLt_int, PySem.W.dataLt_str] at h1
  simp only [PyData.eqv, beq_iff_eq, Bool.not_eq_true', Int.natCast_inj] at h1
  by_cases e : y.length = x.length
  · rw [if_pos e] at h1
    by_cases f : y = x
    · exact .inr ⟨e.symm, by rw [f]; exact decide_eq_true (List.le_refl _)⟩
    · rw [if_neg f] at h1
      exact .inr ⟨e.symm, decide_eq_true (List.not_lt.mp (of_decide_eq_false h1))⟩
  · rw [if_neg e] at h1
    have z := of_decide_eq_false h1
    exact .inl (by omega)
section
variable {X : Cx}
theorem items_mix {P : Program} {w : World} {n : Int} {x : Str} {us : List Value} (h : Vals [V.int n, V.str x] us) : ItemsAre (mixKind P w) [Sum.inl n, Sum.inr x] us := by
  cases h with
  | cons r t =>
    cases t with
    | cons r2 t =>
      cases t
      obtain ⟨t1, rfl⟩ := r
      obtain ⟨t2, rfl⟩ := r2
      exact .cons (keyIs_int n t1) (.cons (keyIs_str x t2) .nil)
theorem isP {pins : List (Addr × Obj)} {σ : L2.St} {H : Hp} {s : Shared} {b : Addr} {x : Str} (I : Inv X pins σ H s) (h : SqT X.K H b (vP x)) : IsTupleKey (mixKind X.prog X.w) s.heap (keyP x) b ∧ Reads s.heap (.ref b) (encP (keyP x)) [] := by
  obtain ⟨its, r, ⟨o, ho, hc, n, hd⟩, _⟩ := I.tuple h
  refine ⟨⟨o, its.toArray, n, ho, hc, hd, items_mix r⟩, ?_⟩
  cases r with
  | cons r t =>
    cases t with
    | cons r2 t =>
      cases t
      obtain ⟨t1, rfl⟩ := r
      obtain ⟨t2, rfl⟩ := r2
      exact .tuple ho hc hd (.cons (.int _ t1) (.cons (.str _ t2) .nil))
def rSetPr (K : PySem.W.Frag) (P : Program) (w : World) : List V → Hp → VK → Prop := fun xs H Q => ∃ (l : Addr) (L : List (Addr × Str)), xs = [.ref l] ∧ SqL K H l (L.map fun p => V.ref p.1) ∧ (∀ p ∈ L, SqT K H p.1 (vP p.2)) ∧ L.length ≤ 4000 ∧
  ∀ (p : Addr) (us : List Str), H p = none → us.Nodup → (∀ x, x ∈ us ↔ x ∈ L.map (·.2)) → Q (.ref p) (upd H p (SetPr P w L p us))
theorem call_setPr (calm : X.calm = true) (hu : X.A.units + 64 < cLine) : CallR X (.type "set") (rSetPr X.K X.prog X.w) := by
  intro pins s σ H xs us Q I r h
  obtain ⟨l, L, rfl, hl, ht, few, q⟩ := h
  rw [Vals.ref1 r]
  have hn : H s.heap.objs.size = none := I.hok.fresh (Nat.le_refl _)
  obtain ⟨its, rv, pl, hz⟩ := I.list hl
  have ei : its = L.map fun p => Value.ref p.1 := by
    clear hl ht few q hz pl
    induction L generalizing its with
    | nil => cases rv; rfl
    | cons p L ih =>
      cases rv with
      | cons r t =>
        cases r
        rw [ih _ t]
        rfl
  have keys : ∀ (i : Nat) (v : Value), its.toArray[i]? = some v → ∃ k b, (L.map fun p => keyP p.2)[i]? = some k ∧ v = .ref b ∧ InL L k b := fun i v hv => by
    have h2 : its[i]? = some v := by simpa using hv
    rw [ei, List.getElem?_map] at h2
    obtain ⟨p, hp, e⟩ := Option.map_eq_some_iff.mp h2
    exact ⟨keyP p.2, p.1, by rw [List.getElem?_map, hp]; rfl, e.symm, p.2, List.mem_of_getElem? hp, rfl⟩
  refine call_set_M (knd := tupleKind (mixKind X.prog X.w)) (B := InL L) (ks := L.map fun p => keyP p.2) mixMem (I.ok.hd calm) pl.isList (by rw [List.size_toArray, ei, List.length_map, List.length_map]) (by rw [List.length_map]; exact few)
    (fun A' le => by show A'.units < cLine; omega) (fun k b ⟨x, m, e⟩ => by rw [e]; exact (isP I (ht _ m)).1) keys fun h' tk us R mem kp => ?_
  have eu := un_keys fun k m => (mem k).mp m
  refine ⟨.ref s.heap.objs.size, upd H s.heap.objs.size (SetPr X.prog X.w L s.heap.objs.size (us.map unP)), I.laid (t' := tk) kp (Nat.le_refl _) ?_, rfl, q _ (us.map unP) hn ?_ fun x => ?_⟩
  · refine ⟨by show TSet _ _ _ _ _; rw [eu]; exact R, ?_, fun _ _ z k => TSet.at z k⟩
    obtain ⟨_, _, _, _, R1, _⟩ := R
    obtain ⟨o, ho, _⟩ := R1.here
    exact ⟨o, ho⟩
  · have nd := R.nodup
    rw [← eu] at nd
    exact List.Pairwise.of_map keyP (fun _ _ ne e => ne (congrArg keyP e)) nd
  · constructor
    · intro m
      obtain ⟨k, hk, e⟩ := List.mem_map.mp m
      obtain ⟨p, hp, e2⟩ := List.mem_map.mp ((mem k).mp hk)
      rw [← e, ← e2]
      exact List.mem_map.mpr ⟨p, hp, rfl⟩
    · intro m
      obtain ⟨p, hp, e⟩ := List.mem_map.mp m
      exact List.mem_map.mpr ⟨keyP p.2, (mem _).mpr (List.mem_map.mpr ⟨p, hp, rfl⟩), e⟩
/-- sorted(s), s such a set -/
def rSortedPr (K : PySem.W.Frag) (P : Program) (w : World) : List V → Hp → VK → Prop := fun xs H Q => ∃ (a : Addr) (L : List (Addr × Str)) (us : List Str), xs = [.ref a] ∧ H a = some (SetPr P w L a us) ∧ (∀ p ∈ L, SqT K H p.1 (vP p.2)) ∧
  ∀ (p : Addr) (M : List (Addr × Str)), H p = none → (∀ m ∈ M, m ∈ L) → (M.map (·.2)).Perm us → (M.map (·.2)).Pairwise leA → Q (.ref p) (upd H p (.lst (M.map fun m => V.ref m.1)))
theorem each_pairs {L : List (Addr × Str)} : ∀ {out : List Value} {cs : List (List Key)}, PySem.W.EachIs (At (InL L)) out cs → ∃ M : List (Addr × Str), (∀ m ∈ M, m ∈ L) ∧ out = M.map (fun m => Value.ref m.1) ∧ cs = M.map fun m => keyP m.2
  | _, _, .nil => ⟨[], (fun _ m => nomatch m), rfl, rfl⟩
  | _, _, .cons ⟨b, e1, x, m, e2⟩ t => by
    obtain ⟨M, h1, h2, h3⟩ := each_pairs t
    refine ⟨(b, x) :: M, fun y my => ?_, by rw [List.map_cons, ← h2, e1], by rw [List.map_cons, ← h3, e2]⟩
    rcases List.mem_cons.mp my with e | my
    · rw [e]
      exact m
    · exact h1 y my
theorem call_sortedPr (calm : X.calm = true) (hu : X.A.units + 64 < cLine) : CallR X (.builtin "sorted") (rSortedPr X.K X.prog X.w) := by
  intro pins s σ H xs us Q I r h
  obtain ⟨a, L, ks, rfl, ha, ht, q⟩ := h
  have R : TSet (tupleKind (mixKind X.prog X.w)) (InL L) s.heap a (ks.map keyP) := (I.hok a _ ha).1
  rw [Vals.ref1 r]
  have shape : ∀ d ∈ (ks.map keyP).map encP, ∃ x : Str, d = .tuple [.int (x.length : Int), .str x] := fun d m => by
    obtain ⟨k, hk, e⟩ := List.mem_map.mp m
    obtain ⟨x, _, e2⟩ := List.mem_map.mp hk
    exact ⟨x, by rw [← e, ← e2]; rfl⟩
  refine tset_sorted R (I.ok.hd calm) encP (fun k b _ ⟨x, m, e⟩ => by rw [e]; exact (isP I (ht _ m)).2) (fun d m d' m' => ?_) (.inl fun d m => ?_) (fun k m => ?_) fun s' p out c cs kp g o hp hg ev pm pw => ?_
  · obtain ⟨x, rfl⟩ := shape d m
    obtain ⟨y, rfl⟩ := shape d' m'
    rfl
  · obtain ⟨x, rfl⟩ := shape d m
    exact ⟨_, _, rfl⟩
  · obtain ⟨x, _, rfl⟩ := List.mem_map.mp m
    show X.A.units + 2 + 1 < cLine
    omega
  · obtain ⟨M, h1, h2, h3⟩ := each_pairs ev
    have hn : H p = none := I.hok.fresh hp
    have few : (ks.map keyP).length ≤ 4000 := by
      obtain ⟨ls, _, _, _, R1, pm1⟩ := R
      rw [← pm1.length_eq]
      exact R1.few
    have lenM : M.length ≤ 4000 := by
      have z := pm.length_eq
      rw [h3, List.length_map] at z
      omega
    have hlen : (M.map fun m => V.ref m.1).length ≤ sizeLine := by
      rw [List.length_map, sizeLine_eq]
      omega
    have hv : Vals (M.map fun m => V.ref m.1) out := by
      rw [h2]
      clear h1 h2 h3 lenM hlen ev
      induction M with
      | nil => exact .nil
      | cons m M ih => exact .cons rfl ih
    have J : Inv X pins σ (upd H p (.lst (M.map fun m => V.ref m.1))) { s with heap := s'.heap, gens := s'.gens, drawn := s'.drawn, toks := s'.toks } :=
      I.call (ch := []) (Un.laid kp hp hn) (I.hok.laid kp hp ⟨hlen, out, c, hv, hg⟩) (by rw [g]; exact I.bare) (fun _ z => nomatch z)
    have e : s' = { s with heap := s'.heap, gens := s'.gens, drawn := s'.drawn, toks := s'.toks } := by
      cases s'
      cases s
      cases o
      rfl
    rw [e]
    refine ⟨.ref p, _, J, rfl, q p M hn h1 ?_ ?_⟩
    · rw [h3] at pm
      have z := pm.map unP
      rw [List.map_map, List.map_map] at z
      have e1 : (unP ∘ fun m : Addr × Str => keyP m.2) = fun m => m.2 := rfl
      have e2 : ks.map (unP ∘ keyP) = ks := (List.map_congr_left fun _ _ => rfl).trans (List.map_id _)
      rw [e1, e2] at z
      exact z
    · rw [h3, List.pairwise_map] at pw
      rw [List.pairwise_map]
      exact pw.imp fun h => leP h
end
end Lk

/-! K12t -/
set_option Elab.async false
set_option linter.all false
set_option maxRecDepth 100000
set_option maxHeartbeats 4000000
namespace Lk
open PySem PySem.Spec PyProof.Rows L2
def top (i : Nat) : Stmt := PySem.Challenge.pw_stemrules_k12_books_refused.main.body.getD i (.Pass ⟨0, 0, 0, 0⟩)
abbrev s_p_is_name : Stmt := top 11
abbrev s_p_is_pattern : Stmt := top 12
abbrev s_p_is_end : Stmt := top 13
abbrev s_p_need_name : Stmt := top 14
abbrev s_p_need_names : Stmt := top 15
abbrev s_p_stem_within : Stmt := top 16
abbrev s_p_filled : Stmt := top 17
abbrev s_p_ascending : Stmt := top 18
abbrev s_p_is_rule : Stmt := top 25
abbrev s_p_is_label : Stmt := top 26
abbrev s_p_are_sources : Stmt := top 27
abbrev s_p_is_rule_source : Stmt := top 28
abbrev s_p_is_book : Stmt := top 29
abbrev s_p_are_files : Stmt := top 30
abbrev s_p_fitting : Stmt := top 31
abbrev s_p_sources_of : Stmt := top 32
abbrev s_p_kin : Stmt := top 33
abbrev s_p_gathered : Stmt := top 34
abbrev s_p_sources_for_all : Stmt := top 35
abbrev s_p_fitted : Stmt := top 36
abbrev s_p_need_book : Stmt := top 37
abbrev s_p_need_files : Stmt := top 38
abbrev s_p_need_things : Stmt := top 39
abbrev s_p_is_number_in : Stmt := top 40
abbrev s_p_way : Stmt := top 43
abbrev s_p_can : Stmt := top 44
abbrev s_p_made_by : Stmt := top 45
abbrev s_p_shows_way : Stmt := top 46
abbrev s_p_make : Stmt := top 47
abbrev s_p_with_one_more : Stmt := top 48
abbrev s_p_right_with : Stmt := top 49
abbrev s_p_is_right_with : Stmt := top 50
abbrev s_p_name_of : Stmt := top 51
abbrev s_p_run : Stmt := top 53
abbrev s_p_files_after : Stmt := top 54
abbrev s_p_settled : Stmt := top 55
abbrev s_p_gone_through : Stmt := top 56
abbrev s_p_middle_names : Stmt := top 57
abbrev s_p_need_run : Stmt := top 58
abbrev s_kneaded : Stmt := top 60
abbrev s_pot_of : Stmt := top 61
abbrev s_below : Stmt := top 62
abbrev s_pick : Stmt := top 63
abbrev s_some_name : Stmt := top 64
abbrev s_stem : Stmt := top 65
abbrev s_put : Stmt := top 66
abbrev s_ordered : Stmt := top 67
abbrev s_whole : Stmt := top 68
abbrev s_some_source : Stmt := top 69
abbrev s_some_rule : Stmt := top 70
abbrev s_some_book : Stmt := top 71
abbrev s_way : Stmt := top 72
abbrev s_some_files : Stmt := top 73
abbrev s_do : Stmt := top 74
abbrev s_word : Stmt := top 75
abbrev s_law : Stmt := top 76
abbrev s_Search_init : Stmt := L2.inClass (top 42) 0
abbrev s_Search_told : Stmt := L2.inClass (top 42) 1
abbrev s_Search_forget : Stmt := L2.inClass (top 42) 2
abbrev s_Search_first_right : Stmt := L2.inClass (top 42) 3
abbrev s_Search_missing : Stmt := L2.inClass (top 42) 4
end Lk

/-! K12s -/
set_option Elab.async false
set_option linter.all false
set_option maxRecDepth 100000
set_option maxHeartbeats 4000000
namespace Lk
open PySem PySem.Spec PyProof.Rows L2
section
variable {P : Program} {w : World} {K : PySem.W.Frag} {mg : Str → Option Value} {base : Heap}
def spSW (K : PySem.W.Frag) : Sp := fun vs H Q _ => ∃ (q : Addr) (b e z : Str), vs = [.ref q, .str z] ∧ SqT K H q [.str b, .str e] ∧ (∀ c ∈ TL.tl b, upB c = true) ∧ (∀ c ∈ TL.tl e, loB c = true) ∧ b.length ≤ 1000000 ∧ e.length ≤ 1000000 ∧ z.length ≤ 1000000 ∧
  (∀ m : Str, TL.tl z = TL.tl b ++ TL.tl m ++ TL.tl e → Q (.str m) H) ∧ ((¬ ∃ m : Str, TL.tl z = TL.tl b ++ TL.tl m ++ TL.tl e) → Q .non H)
theorem sc_p_stem_within : FnScope ["pattern", "name", "begin", "end"] ["pattern", "name"] (defScope s_p_stem_within) := ⟨rfl, rfl, rfl, by decide +kernel, rfl, by decide +kernel, by decide +kernel⟩
theorem cal_p_stem_within (D : Def1 K mg "stem_within" s_p_stem_within) (G : Glb mg) : Cal P w K mg base 1 "stem_within" (spSW K) := by
  refine mkCal D sc_p_stem_within (fun _ _ _ _ _ _ us hl => match us, hl with | [_, _], _ => rfl) (fun vs H Q E h => ?_) (fun f cdv A outer s H vs Q E hr h => ?_)
  · obtain ⟨q, b, e, z, rfl, _⟩ := h
    rfl
  · obtain ⟨q, b, e, z, rfl, hq, hb, he, lb, le, lz, yes, no⟩ := h
    refine ⟨_, pss_cons (ps_asg (pv 0) (pg_tup rfl (pgs_cons (pg_name (i := 2) sc_p_stem_within.nd rfl (.inl rfl)) (pgs_cons (pg_name (i := 3) sc_p_stem_within.nd rfl (.inl rfl)) pgs_nil))))
      (pss_cons (ps_if (PW.pt (pw_and (pt_val (pe_m1 PySem.F.slot_str_startswith PySem.F.type_str_startswith mt_startswith (pv 1) (pv 2))) (pw_and1 (pt_val (pe_m1 PySem.F.slot_str_endswith PySem.F.type_str_endswith mt_endswith (pv 1) (pv 3))))))
        (pss_one (ps_ret (pe_slice sl_str (pv 1) (po_some (pe_callB call_len_str (by rfl) G.len PySem.boot_len (pa_cons (pv 2) pa_nil))) (po_some (pe_op op_sub (pe_callB call_len_str (by rfl) G.len PySem.boot_len (pa_cons (pv 1) pa_nil)) (pe_callB call_len_str (by rfl) G.len PySem.boot_len (pa_cons (pv 3) pa_nil))))))) pss_nil)
      (pss_one (ps_ret pe_non))), ?_⟩
    have big : ∀ n : Nat, n ≤ 1000000 → n ≤ sizeLine := fun n h => Nat.le_trans h (by decide)
    refine ⟨_, rfl, q, _, rfl, hq, rfl, _, _, rfl, _, _, rfl, rfl, ?_⟩
    refine ⟨_, rfl, ⟨z, rfl⟩, _, rfl, z, b, rfl, rfl, _, rfl, ?_⟩
    by_cases hs : Txt.startswith z b = true
    · refine iteT' hs ⟨_, rfl, ⟨z, rfl⟩, _, rfl, z, e, rfl, rfl, _, rfl, ?_⟩
      by_cases hn : Txt.endswith z e = true
      · refine iteT' hn ?_
        obtain ⟨m, hm⟩ := mid_of hb he (starts_tl.mp hs) (ends_tl.mp hn)
        refine ⟨_, rfl, _, rfl, b, rfl, big _ lb, _, rfl, _, rfl, z, rfl, big _ lz, _, rfl, e, rfl, big _ le, _, _, rfl, rfl, _, rfl, z, rfl, big _ lz, yes _ ?_⟩
        have c := cut_mid hm
        rw [← TL.len_tl, ← TL.len_tl] at c
        rw [c]
        exact hm
      · refine iteF' (Bool.eq_false_iff.mpr hn) (no ?_)
        rintro ⟨m, hm⟩
        exact hn (ends_tl.mpr ⟨_, hm⟩)
    · refine iteF' (Bool.eq_false_iff.mpr hs) ?_
      refine iteF (no ?_)
      rintro ⟨m, hm⟩
      exact hs (starts_tl.mpr ⟨TL.tl m ++ TL.tl e, by rw [hm, List.append_assoc]⟩)
end
end Lk

/-! K12q -/
set_option Elab.async false
set_option linter.all false
set_option maxRecDepth 100000
set_option maxHeartbeats 4000000
namespace Lk
open PySem PySem.Spec PyProof.Rows L2
section
variable {P : Program} {w : World} {K : PySem.W.Frag} {mg : Str → Option Value} {base : Heap}
theorem sc_p_is_name : FnScope ["thing"] ["thing"] (defScope s_p_is_name) := ⟨rfl, rfl, rfl, by decide +kernel, rfl, by decide +kernel, by decide +kernel⟩
theorem cal_p_is_name (D : Def1 K mg "is_name" s_p_is_name) (T : Glc mg) : Cal P w K mg base 1 "is_name" (spIsName K) := by
  refine mkCal D sc_p_is_name (fun _ _ _ _ _ _ us hl => match us, hl with | [_], _ => rfl) (fun vs H Q E h => ?_) (fun f cdv A outer s H vs Q E hr h => ?_)
  · obtain ⟨v, d, rfl, _⟩ := h
    rfl
  · obtain ⟨v, d, rfl, ht, hb, k⟩ := h
    refine ⟨_, pss_one (ps_ret (pe_and (pe_isi (T := "str") (pv 0) T.isinst T.str (by decide +kernel)) (pe_and (pe_cmpR op_ne (pv 0) pe_str (nomark _))
      (pe_one (pe_cmpR op_eq (pe_m1 PySem.F.slot_str_lstrip PySem.F.type_str_lstrip mt_lstripChars (pe_m1 PySem.F.slot_str_lstrip PySem.F.type_str_lstrip mt_lstripChars (pv 0) (pe_con1 T.caps)) (pe_con1 T.smalls)) pe_str (nomark _)))))), ?_⟩
    refine ⟨_, rfl, v, _, _, _, _, rfl, .ty _, th_ty ht, kit_str d, _, rfl, ?_⟩
    cases e : isStr d with
    | false =>
      rw [(not_str e).1] at k
      exact iteF k
    | true =>
      obtain ⟨x, rfl, rfl⟩ := th_str ht e
      refine iteT ⟨_, rfl, rfl, _, rfl, ?_⟩
      have hx : x.length ≤ sizeLine := Nat.le_trans hb (by decide)
      have e1 : TL.tl (Txt.lstripChars (Txt.lstripChars x capS) smaS) = ((TL.tl x).dropWhile upB).dropWhile loB := by
        rw [Txt.lstripChars, tl_lstrip, Txt.lstripChars, tl_lstrip, funext cap_has, funext sma_has]
      have h2 : (Txt.lstripChars x capS).length ≤ sizeLine := by
        rw [TL.len_tl, Txt.lstripChars, tl_lstrip]
        refine Nat.le_trans ?_ hx
        rw [TL.len_tl, ← drop_tw, List.length_drop]
        omega
      refine ite2 (fun hne => ?_) (fun hne => ?_)
      · have hn : TL.tl x ≠ [] := fun z => by
          rw [tl_nil_iff.mp z] at hne
          exact absurd hne (by decide)
        refine ⟨_, rfl, ⟨x, rfl⟩, x, capS, rfl, rfl, hx, ⟨_, rfl⟩, _, smaS, rfl, rfl, h2, rfl, ?_⟩
        have e2 : decide (V.str (Txt.lstripChars (Txt.lstripChars x capS) smaS) = V.str "") = dName (.str x) := by
          rw [Bool.eq_iff_iff, decide_eq_true_iff]
          show _ ↔ (!(TL.tl x).isEmpty && ((TL.tl x).dropWhile upB).all loB) = true
          rw [V.str.injEq, ← tl_nil_iff, e1, dw_all]
          cases q : TL.tl x with
          | nil => exact absurd q hn
          | cons c r => simp
        rw [e2]
        exact k
      · have hn : x = "" := by
          apply Classical.byContradiction
          intro z
          exact hne (by rw [decide_eq_false (by rw [V.str.injEq]; exact z)]; rfl)
        subst hn
        exact k
theorem sc_p_is_end : FnScope ["thing", "letters"] ["thing", "letters"] (defScope s_p_is_end) := ⟨rfl, rfl, rfl, by decide +kernel, rfl, by decide +kernel, by decide +kernel⟩
theorem cal_p_is_end (D : Def1 K mg "is_end" s_p_is_end) (T : Glc mg) (G : Glb mg) : Cal P w K mg base 1 "is_end" (spIsEnd K) := by
  refine mkCal D sc_p_is_end (fun _ _ _ _ _ _ us hl => match us, hl with | [_, _], _ => rfl) (fun vs H Q E h => ?_) (fun f cdv A outer s H vs Q E hr h => ?_)
  · obtain ⟨v, d, L, p, rfl, _⟩ := h
    rfl
  · obtain ⟨v, d, L, p, rfl, ht, hb, hL, k⟩ := h
    refine ⟨_, pss_one (ps_ret (pe_and (pe_isi (T := "str") (pv 0) T.isinst T.str (by decide +kernel)) (pe_and (pe_cmpR op_le (pe_callB call_len_str (by rfl) G.len PySem.boot_len (pa_cons (pv 0) pa_nil)) (pe_con1 T.ends) (nomark _))
      (pe_one (pe_cmpR op_eq (pe_m1 PySem.F.slot_str_strip PySem.F.type_str_strip mt_stripChars (pv 0) (pv 1)) pe_str (nomark _)))))), ?_⟩
    refine ⟨_, rfl, v, _, _, _, _, rfl, .ty _, th_ty ht, kit_str d, _, rfl, ?_⟩
    cases e : isStr d with
    | false =>
      rw [(not_str e).2.1] at k
      exact iteF k
    | true =>
      obtain ⟨x, rfl, rfl⟩ := th_str ht e
      have hx : x.length ≤ sizeLine := Nat.le_trans hb (by decide)
      refine iteT ⟨_, rfl, x, rfl, hx, _, _, rfl, rfl, _, rfl, ?_⟩
      refine ite2 (fun hne => ?_) (fun hne => ?_)
      · have h3 : x.length ≤ 3 := by
          have := of_decide_eq_true hne
          omega
        refine ⟨_, rfl, ⟨x, rfl⟩, _, rfl, x, L, rfl, rfl, hx, rfl, ?_⟩
        have e2 : decide (V.str (Txt.stripChars x L) = V.str "") = dEnd p (.str x) := by
          rw [Bool.eq_iff_iff, decide_eq_true_iff]
          show _ ↔ (decide (x.length ≤ 3) && (TL.tl x).all p) = true
          rw [V.str.injEq, ← tl_nil_iff, Txt.stripChars, tl_strip, funext hL, decide_eq_true h3, Bool.true_and]
        rw [e2]
        exact k
      · have e2 : dEnd p (.str x) = false := by
          show (decide (x.length ≤ 3) && (TL.tl x).all p) = false
          rw [decide_eq_false (fun z => hne (decide_eq_true (by omega))), Bool.false_and]
        rw [e2] at k
        exact k
theorem sc_p_is_pattern : FnScope ["thing", "begin", "end"] ["thing"] (defScope s_p_is_pattern) := ⟨rfl, rfl, rfl, by decide +kernel, rfl, by decide +kernel, by decide +kernel⟩
theorem cal_p_is_pattern (D : Def1 K mg "is_pattern" s_p_is_pattern) (T : Glc mg) (G : Glb mg) (CE : Cal P w K mg base 1 "is_end" (spIsEnd K)) : Cal P w K mg base 2 "is_pattern" (spIsPat K) := by
  refine mkCal D sc_p_is_pattern (fun _ _ _ _ _ _ us hl => match us, hl with | [_], _ => rfl) (fun vs H Q E h => ?_) (fun f cdv A outer s H vs Q E hr h => ?_)
  · obtain ⟨v, d, rfl, _⟩ := h
    rfl
  · obtain ⟨v, d, rfl, ht, hb, k⟩ := h
    refine ⟨_, pss_cons (ps_if (PW.pt (pw_or (pt_not (pt_val (pe_isi (T := "tuple") (pv 0) T.isinst T.tuple (by decide +kernel)))) (pw_or1 (pt_cmpR op_ne (pe_callB call_len_seq (by rfl) G.len PySem.boot_len (pa_cons (pv 0) pa_nil)) pe_int (nomark _))))) (pss_one (ps_ret pe_bl)) pss_nil)
      (pss_cons (ps_asg (pv 0) (pg_tup rfl (pgs_cons (pg_name (i := 1) sc_p_is_pattern.nd rfl (.inl rfl)) (pgs_cons (pg_name (i := 2) sc_p_is_pattern.nd rfl (.inl rfl)) pgs_nil))))
      (pss_one (ps_ret (pe_and (pe_cal CE hr (by decide) (pa_cons (pv 1) (pa_cons (pe_con1 T.caps) pa_nil))) (pe_and (pe_cal CE hr (by decide) (pa_cons (pv 2) (pa_cons (pe_con1 T.smalls) pa_nil))) (pe_one (pe_cmpR op_ne (pe_op op_add_str (pv 1) (pv 2)) pe_str (nomark _)))))))), ?_⟩
    refine ⟨_, rfl, v, _, _, _, _, rfl, .ty _, th_ty ht, kit_tup d, _, rfl, ?_⟩
    cases e : isTup d with
    | false =>
      rw [not_pat e] at k
      exact iteT (iteT k)
    | true =>
      obtain ⟨a, xs, ds, rfl, rfl, hs, ha⟩ := th_tup ht e
      have hl := thAll_len ha
      refine iteF ⟨_, rfl, a, xs, rfl, .inr hs, rfl, _, rfl, ?_⟩
      refine ite2 (fun hne => ?_) (fun hne => ?_)
      · have h2 : ds.length ≠ 2 := fun z => by
          rw [hl, z] at hne
          exact absurd hne (by decide)
        rw [not_pat2 h2] at k
        exact k
      · have h2 : xs.length = 2 := by
          apply Classical.byContradiction
          intro z
          refine hne ?_
          rw [decide_eq_false (by rw [V.int.injEq]; omega)]
          rfl
        obtain ⟨b, c, db, dc, rfl, rfl, hb1, hc1⟩ := th_two ha h2
        have hbk : db.bulk ≤ 1000000 ∧ dc.bulk ≤ 1000000 := by
          simp only [PyData.bulk, PyData.bulkAll] at hb
          omega
        refine ⟨_, rfl, a, _, rfl, hs, rfl, b, [c], rfl, c, [], rfl, rfl, ?_⟩
        refine ⟨_, rfl, b, db, capS, upB, rfl, hb1, hbk.1, cap_has, _, rfl, ?_⟩
        have ep : dPat (.tuple [db, dc]) = (dEnd upB db && (dEnd loB dc && !(isE db && isE dc))) := rfl
        cases e1 : dEnd upB db with
        | false =>
          rw [ep, e1, Bool.false_and] at k
          exact iteF k
        | true =>
          refine iteT ⟨_, rfl, c, dc, smaS, loB, rfl, hc1, hbk.2, sma_has, _, rfl, ?_⟩
          cases e2 : dEnd loB dc with
          | false =>
            rw [ep, e1, e2, Bool.true_and, Bool.false_and] at k
            exact iteF k
          | true =>
            obtain ⟨x, rfl, rfl⟩ := th_str hb1 (end_str e1)
            obtain ⟨y, rfl, rfl⟩ := th_str hc1 (end_str e2)
            refine iteT ⟨_, rfl, _, rfl, x, y, rfl, rfl, ?_, rfl, ?_⟩
            · have l1 : x.length ≤ 1000000 := hbk.1
              have l2 : y.length ≤ 1000000 := hbk.2
              exact Nat.le_trans (Nat.add_le_add l1 l2) (by decide)
            · have e3 : (!decide (V.str (x ++ y) = V.str "")) = dPat (.tuple [.str x, .str y]) := by
                rw [ep, e1, e2, Bool.true_and, Bool.true_and]
                congr 1
                rw [Bool.eq_iff_iff, decide_eq_true_iff]
                show _ ↔ (decide (x = "") && decide (y = "")) = true
                rw [V.str.injEq, ← tl_nil_iff, TL.tl_append, Bool.and_eq_true, decide_eq_true_iff, decide_eq_true_iff, List.append_eq_nil_iff, tl_nil_iff, tl_nil_iff]
              rw [e3]
              exact k
end
end Lk

/-! K12a -/
set_option Elab.async false
set_option linter.all false
set_option maxRecDepth 100000
set_option maxHeartbeats 4000000
namespace Lk
open PySem PySem.Spec PyProof.Rows L2
section
variable {P : Program} {w : World} {K : PySem.W.Frag} {mg : Str → Option Value} {base : Heap}
structure Gla (mg : Str → Option Value) : Prop where
  tuple : mg "tuple" = none
  sorted : mg "sorted" = none
  set : mg "set" = none
  len : mg "len" = none
def spAsc (K : PySem.W.Frag) : Sp := fun vs H Q _ => ∃ (l : Addr) (ss : List Str), vs = [.ref l] ∧ (SqL K H l (ss.map V.str) ∨ SqT K H l (ss.map V.str)) ∧ ss.length + 1 < scanBound ∧ (∀ y ∈ ss, y.length ≤ sizeLine) ∧
  ∀ (cs : List Str) (p : Addr) (H' : Hp), Same H H' → H' p = some (.tup (cs.map V.str)) → IsAsc cs ss → Q (.ref p) H'
theorem sc_p_ascending : FnScope ["names"] ["names"] (defScope s_p_ascending) := ⟨rfl, rfl, rfl, by decide +kernel, rfl, by decide +kernel, by decide +kernel⟩
theorem cal_p_ascending (D : Def1 K mg "ascending" s_p_ascending) (T : Gla mg) : Cal P w K mg base 1 "ascending" (spAsc K) := by
  refine mkCal D sc_p_ascending (fun _ _ _ _ _ _ us hl => match us, hl with | [_], _ => rfl) (fun vs H Q E h => ?_) (fun f cdv A outer s H vs Q E hr h => ?_)
  · obtain ⟨l, ss, rfl, _⟩ := h
    rfl
  · obtain ⟨l, ss, rfl, hl, room, small, k⟩ := h
    refine ⟨_, pss_one (ps_ret (pe_callTy call_tuple_of (by rfl) T.tuple (by decide +kernel) (pa_cons (pe_sortLen (pe_callB (call_sortedS rfl hr.units) (by rfl) T.sorted (by decide +kernel) (pa_cons (pe_callTy (call_setS rfl) (by rfl) T.set (by decide +kernel) (pa_cons (pv 0) pa_nil)) pa_nil)) T.sorted T.len hr.units) pa_nil))), ?_⟩
    exact ⟨_, rfl, l, ss, rfl, hl, room, fun p us np nd mem => ⟨p, us, rfl, upd_same, fun p2 cs n2 pm pw => ⟨p2, cs, rfl, SqL.of upd_same, fun y hy => small y ((mem y).mp (pm.mem_iff.mp hy)), fun p3 n3 => ⟨p3, _, rfl, .inl ⟨SqL.of upd_same, fun t nt =>
      k _ t _ ((((same_upd np).trans (same_upd n2)).trans (same_upd n3)).trans (same_upd nt)) upd_same (asc_of nd mem pm pw)⟩⟩⟩⟩⟩
end
end Lk

/-! K12u -/
set_option Elab.async false
set_option linter.all false
set_option maxRecDepth 100000
set_option maxHeartbeats 4000000
namespace Lk
open PySem PySem.Spec PyProof.Rows L2
section
variable {P : Program} {w : World} {K : PySem.W.Frag} {mg : Str → Option Value} {base : Heap}
theorem th_strs {H : Hp} : ∀ ss : List Str, ThAll K H (ss.map V.str) (ss.map PyData.str)
  | [] => .nil
  | x :: r => .cons (.str x) (th_strs r)
def spFill (K : PySem.W.Frag) : Sp := fun vs H Q _ => ∃ (v : V) (m : Str), vs = [v, .str m] ∧ m.length ≤ 1000000 ∧ ((∃ x, v = .str x ∧ Q (.str x) H) ∨ ∃ q b e, v = .ref q ∧ SqT K H q [.str b, .str e] ∧ b.length ≤ 1000000 ∧ e.length ≤ 1000000 ∧ Q (.str (b ++ m ++ e)) H)
theorem sc_p_filled : FnScope ["source", "within", "begin", "end"] ["source", "within"] (defScope s_p_filled) := ⟨rfl, rfl, rfl, by decide +kernel, rfl, by decide +kernel, by decide +kernel⟩
theorem cal_p_filled (D : Def1 K mg "filled" s_p_filled) (T : Glc mg) : Cal P w K mg base 1 "filled" (spFill K) := by
  refine mkCal D sc_p_filled (fun _ _ _ _ _ _ us hl => match us, hl with | [_, _], _ => rfl) (fun vs H Q E h => ?_) (fun f cdv A outer s H vs Q E hr h => ?_)
  · obtain ⟨v, m, rfl, _⟩ := h
    rfl
  · obtain ⟨v, m, rfl, lm, how⟩ := h
    refine ⟨_, pss_cons (ps_if (pt_val (pe_isi (T := "str") (pv 0) T.isinst T.str (by decide +kernel))) (pss_one (ps_ret (pv 0))) pss_nil)
      (pss_cons (ps_asg (pv 0) (pg_tup rfl (pgs_cons (pg_name (i := 2) sc_p_filled.nd rfl (.inl rfl)) (pgs_cons (pg_name (i := 3) sc_p_filled.nd rfl (.inl rfl)) pgs_nil))))
      (pss_one (ps_ret (pe_op op_add_str (pe_op op_add_str (pv 2) (pv 1)) (pv 3))))), ?_⟩
    have big : ∀ n : Nat, n ≤ 4000000 → n ≤ sizeLine := fun n h => Nat.le_trans h (by decide)
    rcases how with ⟨x, rfl, k⟩ | ⟨q, b, e, rfl, hq, lb, le, k⟩
    · exact ⟨_, rfl, .str x, _, _, _, _, rfl, .ty _, th_ty (.str x : Th K H (.str x) (.str x)), kit_str (.str x), _, rfl, iteT ⟨_, rfl, k⟩⟩
    · have th : Th K H (.ref q) (.tuple [.str b, .str e]) := .tup hq (.cons (.str b) (.cons (.str e) .nil))
      refine ⟨_, rfl, .ref q, _, _, _, _, rfl, .ty _, th_ty th, kit_str (.tuple [.str b, .str e]), _, rfl, iteF ?_⟩
      refine ⟨_, rfl, q, _, rfl, hq, rfl, _, _, rfl, _, _, rfl, rfl, ?_⟩
      exact ⟨_, rfl, _, rfl, b, m, rfl, rfl, big _ (by omega), _, rfl, b ++ m, e, rfl, rfl, big _ (by rw [len_add]; omega), k⟩
def spNeed0 (K : PySem.W.Frag) : Sp := fun vs H Q _ => ∃ z : Str, vs = [.str z] ∧ z.length ≤ 1000000 ∧ dName (.str z) = true ∧ Q .non H
theorem sc_need0 : FnScope ["thing"] ["thing"] (defScope s_p_need_name) := ⟨rfl, rfl, rfl, by decide +kernel, rfl, by decide +kernel, by decide +kernel⟩
theorem cal_need (D : Def1 K mg "need_name" s_p_need_name) (C1 : Cal P w K mg base 1 "is_name" (spIsName K)) : Cal P w K mg base 2 "need_name" (spNeed0 K) := by
  refine mkCal D sc_need0 (fun _ _ _ _ _ _ us hl => match us, hl with | [_], _ => rfl) (fun vs H Q E h => ?_) (fun f cdv A outer s H vs Q E hr h => ?_)
  · obtain ⟨z, rfl, _⟩ := h
    rfl
  · obtain ⟨z, rfl, lz, nz, k⟩ := h
    refine ⟨_, pss_one (ps_if (pt_not (pt_val (pe_cal C1 hr (by decide) (pa_cons (pv 0) pa_nil)))) (pss_one ps_never) pss_nil), ?_⟩
    exact ⟨_, rfl, .str z, .str z, rfl, .str z, lz, _, rfl, iteF' (by rw [nz]; rfl) k⟩
theorem pat_ends {b e : Str} (h : dPat (.tuple [.str b, .str e]) = true) : (∀ c ∈ TL.tl b, upB c = true) ∧ (∀ c ∈ TL.tl e, loB c = true) ∧ b.length ≤ 3 ∧ e.length ≤ 3 := by
  have h2 : (dEnd upB (.str b) && (dEnd loB (.str e) && !(isE (.str b) && isE (.str e)))) = true := h
  rw [Bool.and_eq_true, Bool.and_eq_true] at h2
  obtain ⟨h3, h4, _⟩ := h2
  have h5 : (decide (b.length ≤ 3) && (TL.tl b).all upB) = true := h3
  have h6 : (decide (e.length ≤ 3) && (TL.tl e).all loB) = true := h4
  rw [Bool.and_eq_true, decide_eq_true_eq, List.all_eq_true] at h5 h6
  exact ⟨h5.2, h6.2, h5.1, h6.1⟩
end
end Lk

/-! K12b -/
set_option Elab.async false
set_option linter.all false
set_option maxRecDepth 100000
set_option maxHeartbeats 4000000
namespace Lk
open PySem PySem.Spec PyProof.Rows L2
def sLen : PyData → Nat
  | .str x => x.length
  | _ => 0
def dLabel : PyData → Bool
  | .str x => decide (1 ≤ x.length) && (decide (x.length ≤ 8) && (TL.tl x).all loB)
  | _ => false
def dSrc1 (d : PyData) : Bool := dPat d || (dName d && decide (sLen d ≤ 6))
def dSrcs : PyData → Bool
  | .tuple ds => decide (ds.length ≤ 3) && ds.all dSrc1
  | _ => false
def dRule : PyData → Bool
  | .tuple [l, p, s] => dLabel l && (dPat p && dSrcs s)
  | _ => false
def dBook : PyData → Bool
  | .tuple ds => decide (ds.length ≤ 6) && ds.all dRule
  | _ => false
section
variable {P : Program} {w : World} {K : PySem.W.Frag} {mg : Str → Option Value} {base : Heap}
structure Glk (mg : Str → Option Value) : Prop where
  all : mg "all" = none
  label : Con1 mg "MOST_LABEL_LETTERS" (.int 8)
  name : Con1 mg "MOST_NAME_LETTERS" (.int 6)
  sources : Con1 mg "MOST_SOURCES" (.int 3)
  rules : Con1 mg "MOST_RULES" (.int 6)
def spOne (K : PySem.W.Frag) (p : PyData → Bool) : Sp := fun vs H Q _ => ∃ v d, vs = [v] ∧ Th K H v d ∧ d.bulk ≤ 1000000 ∧ Q (.bl (p d)) H
def spOneS (K : PySem.W.Frag) (p : PyData → Bool) : Sp := fun vs H Q _ => ∃ v d, vs = [v] ∧ Th K H v d ∧ d.bulk ≤ 1000000 ∧ ∀ H', Same H H' → Q (.bl (p d)) H'
theorem name_str {d : PyData} (h : dName d = true) : isStr d = true := by
  cases d with
  | str x => rfl
  | _ => cases h
theorem th_at {H : Hp} : ∀ {xs : List V} {ds : List PyData} {i : Nat} {x : V}, ThAll K H xs ds → xs[i]? = some x → ∃ d, ds[i]? = some d ∧ Th K H x d
  | _, _, _, _, .nil, h => by simp at h
  | _, _, 0, _, .cons h _, e => by
    simp at e
    subst e
    exact ⟨_, rfl, h⟩
  | _, _, i + 1, x, .cons _ tl, e => by
    obtain ⟨d, m, h⟩ := th_at (i := i) (x := x) tl (by simpa using e)
    exact ⟨d, by simpa using m, h⟩
theorem bulk_in : ∀ {ds : List PyData} {d : PyData}, d ∈ ds → d.bulk ≤ PyData.bulkAll ds
  | e :: r, d, h => by
    rw [PyData.bulkAll]
    rcases List.mem_cons.mp h with rfl | h
    · omega
    · have := bulk_in h
      omega
/-- all([f(x) for x in t]), t a tuple -/
theorem all_read {σ : L2.St} {H : Hp} {a : Addr} {xs : List V} {ds : List PyData} {p : PyData → Bool} {n iv : Nat} {te : TE} {Q : VK} (hv : σ[0]? = some (some (.ref a))) (hs : SqT K H a xs) (ha : ThAll K H xs ds) (small : ds.length ≤ 1000)
    (wp : ∀ (x : V), wipe ((wipe σ [iv]).set iv (some x)) [iv] = wipe σ [iv])
    (call : ∀ (x : V) (d : PyData) (H' : Hp) (R : VK), d ∈ ds → Th K H' x d → Same H H' → (∀ H2, Same H' H2 → R (.bl (p d)) H2) → te ((wipe σ [iv]).set iv (some x)) H' R) (k : ∀ H', Same H H' → Q (.bl (ds.all p)) H') :
    tCB (rAll K) (tCons (tLc (iTup K (tVar 0)) (gName iv) tYes te [iv]) tNil) σ H Q := by
  have hl := thAll_len ha
  refine ⟨_, hv, a, rfl, ⟨_, hs⟩, fun D nD => ?_⟩
  refine lc_tup (K := K) (a := a) (xs := xs) (fun i H' => H' D = some (.lst (((ds.take i).map p).map V.bl)) ∧ Same H H') ⟨upd_same, same_upd nD⟩ (fun i H' _ h => Same.seqT h.2 hs) ?_ ?_
  · rintro i x H' hx ⟨hD, s⟩
    obtain ⟨d, hd, th⟩ := th_at ha hx
    have hi : i < ds.length := (List.getElem?_eq_some_iff.mp hd).1
    refine ⟨wp x, call x d H' _ (List.mem_of_getElem? hd) (th_same s th) s fun H2 s2 => ⟨_, s2 _ _ hD, ?_, ?_, same_mut (s.trans s2) nD⟩⟩
    · rw [List.length_map, List.length_map, List.length_take]
      exact small1000 (by omega)
    · rw [upd_same, List.take_add_one, hd, List.map_append, List.map_append]
      rfl
  · rintro H' ⟨hD, s⟩
    rw [hl, List.take_length] at hD
    refine ⟨D, ds.map p, rfl, SqL.of hD, ?_⟩
    have e : (ds.map p).all id = ds.all p := by rw [List.all_map]; rfl
    rw [e]
    exact k H' s
theorem sc_p_is_label : FnScope ["thing"] ["thing"] (defScope s_p_is_label) := ⟨rfl, rfl, rfl, by decide +kernel, rfl, by decide +kernel, by decide +kernel⟩
theorem cal_p_is_label (D : Def1 K mg "is_label" s_p_is_label) (T : Glc mg) (G : Glb mg) (B : Glk mg) : Cal P w K mg base 1 "is_label" (spOne K dLabel) := by
  refine mkCal D sc_p_is_label (fun _ _ _ _ _ _ us hl => match us, hl with | [_], _ => rfl) (fun vs H Q E h => ?_) (fun f cdv A outer s H vs Q E hr h => ?_)
  · obtain ⟨v, d, rfl, _⟩ := h
    rfl
  · obtain ⟨v, d, rfl, ht, hb, k⟩ := h
    refine ⟨_, pss_one (ps_ret (pe_and (pe_isi (T := "str") (pv 0) T.isinst T.str (by decide +kernel)) (pe_and (pe_chain op_le op_le pe_int (pe_callB call_len_str (by rfl) G.len PySem.boot_len (pa_cons (pv 0) pa_nil)) (pe_con1 B.label))
      (pe_one (pe_cmpR op_eq (pe_m1 PySem.F.slot_str_strip PySem.F.type_str_strip mt_stripChars (pv 0) (pe_con1 T.smalls)) pe_str (nomark _)))))), ?_⟩
    refine ⟨_, rfl, v, _, _, _, _, rfl, .ty _, th_ty ht, kit_str d, _, rfl, ?_⟩
    cases e : isStr d with
    | false =>
      have z : dLabel d = false := by
        cases d with
        | str x => cases e
        | _ => rfl
      rw [z] at k
      exact iteF k
    | true =>
      obtain ⟨x, rfl, rfl⟩ := th_str ht e
      have hx : x.length ≤ sizeLine := Nat.le_trans hb (by decide)
      have ed : dLabel (.str x) = (decide (1 ≤ x.length) && (decide (x.length ≤ 8) && (TL.tl x).all loB)) := rfl
      refine iteT ⟨_, rfl, x, rfl, hx, _, _, rfl, rfl, _, rfl, ?_⟩
      refine ite2 (fun h1 => ?_) (fun h1 => ?_)
      · have g1 : 1 ≤ x.length := by
          have := of_decide_eq_true h1
          omega
        refine ⟨_, _, rfl, rfl, _, rfl, ?_⟩
        refine ite2 (fun h2 => ?_) (fun h2 => ?_)
        · have g2 : x.length ≤ 8 := by
            have := of_decide_eq_true h2
            omega
          refine ⟨_, rfl, ⟨x, rfl⟩, x, smaS, rfl, rfl, hx, rfl, ?_⟩
          have e2 : decide (V.str (Txt.stripChars x smaS) = V.str "") = dLabel (.str x) := by
            rw [ed, decide_eq_true g1, decide_eq_true g2, Bool.true_and, Bool.true_and, Bool.eq_iff_iff, decide_eq_true_iff, V.str.injEq, ← tl_nil_iff, Txt.stripChars, tl_strip, funext sma_has]
          rw [e2]
          exact k
        · have z : dLabel (.str x) = false := by
            rw [ed, decide_eq_false (p := x.length ≤ 8) (fun q => h2 (decide_eq_true (by omega))), Bool.false_and, Bool.and_false]
          rw [z] at k
          exact k
      · have z : dLabel (.str x) = false := by
          rw [ed, decide_eq_false (p := 1 ≤ x.length) (fun q => h1 (decide_eq_true (by omega))), Bool.false_and]
        rw [z] at k
        exact ⟨_, rfl, iteF k⟩
theorem sc_p_is_rule_source : FnScope ["thing"] ["thing"] (defScope s_p_is_rule_source) := ⟨rfl, rfl, rfl, by decide +kernel, rfl, by decide +kernel, by decide +kernel⟩
theorem cal_p_is_rule_source (D : Def1 K mg "is_rule_source" s_p_is_rule_source) (G : Glb mg) (B : Glk mg) (CN : Cal P w K mg base 1 "is_name" (spIsName K)) (CP : Cal P w K mg base 2 "is_pattern" (spIsPat K)) : Cal P w K mg base 3 "is_rule_source" (spOne K dSrc1) := by
  refine mkCal D sc_p_is_rule_source (fun _ _ _ _ _ _ us hl => match us, hl with | [_], _ => rfl) (fun vs H Q E h => ?_) (fun f cdv A outer s H vs Q E hr h => ?_)
  · obtain ⟨v, d, rfl, _⟩ := h
    rfl
  · obtain ⟨v, d, rfl, ht, hb, k⟩ := h
    refine ⟨_, pss_one (ps_ret (pe_or (pe_cal CP hr (by decide) (pa_cons (pv 0) pa_nil)) (pe_one (pe_and (pe_cal CN hr (by decide) (pa_cons (pv 0) pa_nil)) (pe_one (pe_cmpR op_le (pe_callB call_len_str (by rfl) G.len PySem.boot_len (pa_cons (pv 0) pa_nil)) (pe_con1 B.name) (nomark _))))))), ?_⟩
    refine ⟨_, rfl, v, d, rfl, ht, hb, _, rfl, ?_⟩
    unfold dSrc1 at k
    cases e : dPat d with
    | true =>
      rw [e, Bool.true_or] at k
      exact iteT k
    | false =>
      rw [e, Bool.false_or] at k
      refine iteF ⟨_, rfl, v, d, rfl, ht, hb, _, rfl, ?_⟩
      cases e2 : dName d with
      | false =>
        rw [e2, Bool.false_and] at k
        exact iteF k
      | true =>
        rw [e2, Bool.true_and] at k
        obtain ⟨x, rfl, rfl⟩ := th_str ht (name_str e2)
        refine iteT ⟨_, rfl, x, rfl, Nat.le_trans hb (by decide), _, _, rfl, rfl, ?_⟩
        have z : decide ((x.length : Int) ≤ 6) = decide (sLen (.str x) ≤ 6) := by
          rw [Bool.eq_iff_iff, decide_eq_true_iff, decide_eq_true_iff]
          show (x.length : Int) ≤ 6 ↔ x.length ≤ 6
          omega
        rw [← z] at k
        exact k
theorem tup_no {d : PyData} (h : isTup d = false) : dSrcs d = false ∧ dRule d = false ∧ dBook d = false := by
  cases d with
  | tuple ds => cases h
  | _ => exact ⟨rfl, rfl, rfl⟩
theorem rule_no : ∀ {ds : List PyData}, ds.length ≠ 3 → dRule (.tuple ds) = false
  | [], _ => rfl
  | [_], _ => rfl
  | [_, _], _ => rfl
  | [_, _, _], h => absurd rfl h
  | _ :: _ :: _ :: _ :: _, _ => rfl
theorem sc_p_are_sources : FnScope ["thing", "source"] ["thing"] (defScope s_p_are_sources) := ⟨rfl, rfl, rfl, by decide +kernel, rfl, by decide +kernel, by decide +kernel⟩
theorem cal_p_are_sources (D : Def1 K mg "are_sources" s_p_are_sources) (T : Glc mg) (G : Glb mg) (B : Glk mg) (C1 : Cal P w K mg base 3 "is_rule_source" (spOne K dSrc1)) : Cal P w K mg base 4 "are_sources" (spOneS K dSrcs) := by
  refine mkCal D sc_p_are_sources (fun _ _ _ _ _ _ us hl => match us, hl with | [_], _ => rfl) (fun vs H Q E h => ?_) (fun f cdv A outer s H vs Q E hr h => ?_)
  · obtain ⟨v, d, rfl, _⟩ := h
    rfl
  · obtain ⟨v, d, rfl, ht, hb, k⟩ := h
    refine ⟨_, pss_cons (ps_if (PW.pt (pw_or (pt_not (pt_val (pe_isi (T := "tuple") (pv 0) T.isinst T.tuple (by decide +kernel)))) (pw_or1 (pt_cmpR op_gt (pe_callB call_len_seq (by rfl) G.len PySem.boot_len (pa_cons (pv 0) pa_nil)) (pe_con1 B.sources) (nomark _))))) (pss_one (ps_ret pe_bl)) pss_nil)
      (pss_one (ps_ret (pe_callB (cr_all rfl) (by rfl) B.all (by decide +kernel) (pa_cons (pe_lc (own := [("source", 1)]) (g := gName 1) (tt := tYes) (by rfl) sc_p_are_sources.nd (pi_tup (pv 0))
        (blkOk_by (own := [("source", 1)]) (N := ["thing", "source"]) (sc := defScope s_p_are_sources) (by decide +kernel)) (fun _ _ _ _ _ => pg_name (i := 1) sc_p_are_sources.nd rfl (Or.inl rfl)) (fun _ _ _ _ _ => pts_nil)
        (fun _ _ _ _ _ => pe_cal C1 hr (by decide) (pa_cons (pv 1) pa_nil))) pa_nil)))), ?_⟩
    refine ⟨_, rfl, v, _, _, _, _, rfl, .ty _, th_ty ht, kit_tup d, _, rfl, ?_⟩
    cases e : isTup d with
    | false =>
      rw [(tup_no e).1] at k
      exact iteT (iteT (k H (Same.refl H)))
    | true =>
      obtain ⟨a, xs, ds, rfl, rfl, hs, ha⟩ := th_tup ht e
      have hl := thAll_len ha
      have ed : dSrcs (.tuple ds) = (decide (ds.length ≤ 3) && ds.all dSrc1) := rfl
      refine iteF ⟨_, rfl, a, xs, rfl, .inr hs, _, _, rfl, rfl, _, rfl, ?_⟩
      refine ite2 (fun h1 => ?_) (fun h1 => ?_)
      · have g : ¬ ds.length ≤ 3 := by
          have := of_decide_eq_true h1
          omega
        rw [ed, decide_eq_false g, Bool.false_and] at k
        exact k H (Same.refl H)
      · have g : ds.length ≤ 3 := by
          apply Classical.byContradiction
          intro z
          exact h1 (decide_eq_true (by omega))
        rw [ed, decide_eq_true g, Bool.true_and] at k
        exact all_read (n := 2) rfl hs ha (by omega) (fun _ => rfl) (fun x d H' R hd th s q => ⟨_, rfl, x, d, rfl, th, Nat.le_trans (bulk_in hd) hb, q H' (Same.refl H')⟩) k
theorem sc_p_is_rule : FnScope ["thing", "label", "pattern", "sources"] ["thing"] (defScope s_p_is_rule) := ⟨rfl, rfl, rfl, by decide +kernel, rfl, by decide +kernel, by decide +kernel⟩
theorem cal_p_is_rule (D : Def1 K mg "is_rule" s_p_is_rule) (T : Glc mg) (G : Glb mg) (C1 : Cal P w K mg base 1 "is_label" (spOne K dLabel)) (C2 : Cal P w K mg base 2 "is_pattern" (spIsPat K)) (C3 : Cal P w K mg base 4 "are_sources" (spOneS K dSrcs)) : Cal P w K mg base 5 "is_rule" (spOneS K dRule) := by
  refine mkCal D sc_p_is_rule (fun _ _ _ _ _ _ us hl => match us, hl with | [_], _ => rfl) (fun vs H Q E h => ?_) (fun f cdv A outer s H vs Q E hr h => ?_)
  · obtain ⟨v, d, rfl, _⟩ := h
    rfl
  · obtain ⟨v, d, rfl, ht, hb, k⟩ := h
    refine ⟨_, pss_cons (ps_if (PW.pt (pw_or (pt_not (pt_val (pe_isi (T := "tuple") (pv 0) T.isinst T.tuple (by decide +kernel)))) (pw_or1 (pt_cmpR op_ne (pe_callB call_len_seq (by rfl) G.len PySem.boot_len (pa_cons (pv 0) pa_nil)) pe_int (nomark _))))) (pss_one (ps_ret pe_bl)) pss_nil)
      (pss_cons (ps_asg (pv 0) (pg_tup rfl (pgs_cons (pg_name (i := 1) sc_p_is_rule.nd rfl (.inl rfl)) (pgs_cons (pg_name (i := 2) sc_p_is_rule.nd rfl (.inl rfl)) (pgs_cons (pg_name (i := 3) sc_p_is_rule.nd rfl (.inl rfl)) pgs_nil)))))
      (pss_one (ps_ret (pe_and (pe_cal C1 hr (by decide) (pa_cons (pv 1) pa_nil)) (pe_and (pe_cal C2 hr (by decide) (pa_cons (pv 2) pa_nil)) (pe_one (pe_cal C3 hr (by decide) (pa_cons (pv 3) pa_nil)))))))), ?_⟩
    refine ⟨_, rfl, v, _, _, _, _, rfl, .ty _, th_ty ht, kit_tup d, _, rfl, ?_⟩
    cases e : isTup d with
    | false =>
      rw [(tup_no e).2.1] at k
      exact iteT (iteT (k H (Same.refl H)))
    | true =>
      obtain ⟨a, xs, ds, rfl, rfl, hs, ha⟩ := th_tup ht e
      have hl := thAll_len ha
      refine iteF ⟨_, rfl, a, xs, rfl, .inr hs, rfl, _, rfl, ?_⟩
      refine ite2 (fun hne => ?_) (fun hne => ?_)
      · have h3 : ds.length ≠ 3 := fun z => by
          rw [hl, z] at hne
          exact absurd hne (by decide)
        rw [rule_no h3] at k
        exact k H (Same.refl H)
      · have h3 : xs.length = 3 := by
          apply Classical.byContradiction
          intro z
          refine hne ?_
          rw [decide_eq_false (by rw [V.int.injEq]; omega)]
          rfl
        obtain ⟨x, y, z, dx, dy, dz, rfl, rfl, hx, hy, hz⟩ := th_three ha h3
        have bk : dx.bulk ≤ 1000000 ∧ dy.bulk ≤ 1000000 ∧ dz.bulk ≤ 1000000 := by
          simp only [PyData.bulk, PyData.bulkAll] at hb
          omega
        have ed : dRule (.tuple [dx, dy, dz]) = (dLabel dx && (dPat dy && dSrcs dz)) := rfl
        refine ⟨_, rfl, a, _, rfl, hs, rfl, x, [y, z], rfl, y, [z], rfl, z, [], rfl, rfl, ?_⟩
        refine ⟨_, rfl, x, dx, rfl, hx, bk.1, _, rfl, ?_⟩
        cases e1 : dLabel dx with
        | false =>
          rw [ed, e1, Bool.false_and] at k
          exact iteF (k H (Same.refl H))
        | true =>
          refine iteT ⟨_, rfl, y, dy, rfl, hy, bk.2.1, _, rfl, ?_⟩
          cases e2 : dPat dy with
          | false =>
            rw [ed, e1, e2, Bool.true_and, Bool.false_and] at k
            exact iteF (k H (Same.refl H))
          | true =>
            rw [ed, e1, e2, Bool.true_and, Bool.true_and] at k
            exact iteT ⟨_, rfl, z, dz, rfl, hz, bk.2.2, k⟩
theorem sc_p_is_book : FnScope ["thing", "rule"] ["thing"] (defScope s_p_is_book) := ⟨rfl, rfl, rfl, by decide +kernel, rfl, by decide +kernel, by decide +kernel⟩
theorem cal_p_is_book (D : Def1 K mg "is_book" s_p_is_book) (T : Glc mg) (G : Glb mg) (B : Glk mg) (C1 : Cal P w K mg base 5 "is_rule" (spOneS K dRule)) : Cal P w K mg base 6 "is_book" (spOneS K dBook) := by
  refine mkCal D sc_p_is_book (fun _ _ _ _ _ _ us hl => match us, hl with | [_], _ => rfl) (fun vs H Q E h => ?_) (fun f cdv A outer s H vs Q E hr h => ?_)
  · obtain ⟨v, d, rfl, _⟩ := h
    rfl
  · obtain ⟨v, d, rfl, ht, hb, k⟩ := h
    refine ⟨_, pss_cons (ps_if (PW.pt (pw_or (pt_not (pt_val (pe_isi (T := "tuple") (pv 0) T.isinst T.tuple (by decide +kernel)))) (pw_or1 (pt_cmpR op_gt (pe_callB call_len_seq (by rfl) G.len PySem.boot_len (pa_cons (pv 0) pa_nil)) (pe_con1 B.rules) (nomark _))))) (pss_one (ps_ret pe_bl)) pss_nil)
      (pss_one (ps_ret (pe_callB (cr_all rfl) (by rfl) B.all (by decide +kernel) (pa_cons (pe_lc (own := [("rule", 1)]) (g := gName 1) (tt := tYes) (by rfl) sc_p_is_book.nd (pi_tup (pv 0))
        (blkOk_by (own := [("rule", 1)]) (N := ["thing", "rule"]) (sc := defScope s_p_is_book) (by decide +kernel)) (fun _ _ _ _ _ => pg_name (i := 1) sc_p_is_book.nd rfl (Or.inl rfl)) (fun _ _ _ _ _ => pts_nil)
        (fun _ _ _ _ _ => pe_cal C1 hr (by decide) (pa_cons (pv 1) pa_nil))) pa_nil)))), ?_⟩
    refine ⟨_, rfl, v, _, _, _, _, rfl, .ty _, th_ty ht, kit_tup d, _, rfl, ?_⟩
    cases e : isTup d with
    | false =>
      rw [(tup_no e).2.2] at k
      exact iteT (iteT (k H (Same.refl H)))
    | true =>
      obtain ⟨a, xs, ds, rfl, rfl, hs, ha⟩ := th_tup ht e
      have hl := thAll_len ha
      have ed : dBook (.tuple ds) = (decide (ds.length ≤ 6) && ds.all dRule) := rfl
      refine iteF ⟨_, rfl, a, xs, rfl, .inr hs, _, _, rfl, rfl, _, rfl, ?_⟩
      refine ite2 (fun h1 => ?_) (fun h1 => ?_)
      · have g : ¬ ds.length ≤ 6 := by
          have := of_decide_eq_true h1
          omega
        rw [ed, decide_eq_false g, Bool.false_and] at k
        exact k H (Same.refl H)
      · have g : ds.length ≤ 6 := by
          apply Classical.byContradiction
          intro z
          exact h1 (decide_eq_true (by omega))
        rw [ed, decide_eq_true g, Bool.true_and] at k
        exact all_read (n := 2) rfl hs ha (by omega) (fun _ => rfl) (fun x d H' R hd th s q => ⟨_, rfl, x, d, rfl, th, Nat.le_trans (bulk_in hd) hb, q⟩) k
end
end Lk

/-! K12p -/
set_option Elab.async false
set_option linter.all false
set_option maxRecDepth 100000
set_option maxHeartbeats 4000000
namespace Lk
open PySem PySem.Spec PyProof.Rows L2
/-! ### the pot of numbers -/
section
variable {P : Program} {w : World} {K : PySem.W.Frag} {mg : Str → Option Value} {base : Heap}
theorem sc_kneaded : FnScope ["seed", "lap", "prime", "amount", "again"] ["seed", "lap"] (defScope s_kneaded) := ⟨rfl, rfl, rfl, by decide +kernel, rfl, by decide +kernel, by decide +kernel⟩
theorem cal_kneaded (D : Def1 K mg "_law_kneaded" s_kneaded) (T : Glb mg) : Cal P w K mg base 1 "_law_kneaded" spKneaded := by
  refine mkCal D sc_kneaded (fun _ _ _ _ _ _ us hl => match us, hl with | [_, _], _ => rfl) (fun vs H Q E h => ?_) (fun f cdv A outer s H vs Q E hr h => ?_)
  · obtain ⟨s, l, rfl, _⟩ := h
    rfl
  · obtain ⟨s, l, rfl, k⟩ := h
    refine ⟨_, pss_cons (ps_set (i := 2) sc_kneaded.nd rfl (.inl rfl) pe_int)
      (pss_cons (ps_set (i := 3) sc_kneaded.nd rfl (.inl rfl) (pe_op op_mod (pe_callTy call_int1 (by rfl) T.int (by decide +kernel)
        (pa_cons (pe_op op_add (pe_op op_add (pe_op op_mul (pv 0) pe_int) (pe_op op_mul (pv 1) pe_int)) pe_int) pa_nil)) (pv 2)))
      (pss_cons (ps_for PassesOwn.never rfl (pi_range1 (by rfl) T.range (pa_cons pe_int pa_nil)) (pg_name (i := 4) sc_kneaded.nd rfl (.inl rfl))
        (pss_one (ps_set (i := 3) sc_kneaded.nd rfl (.inl rfl) (pe_op op_mod (pe_callTy call_int1 (by rfl) T.int (by decide +kernel)
          (pa_cons (pe_op op_add (pe_op op_add (pe_op op_add (pe_op op_mul (pv 3) (pv 3)) (pe_op op_mul pe_int (pv 3))) (pe_op op_mul pe_int (pv 4))) (pv 1)) pa_nil)) (pv 2)))))
      (pss_one (ps_ret (pe_op op_add (pe_op op_mul (pv 3) (pv 2)) (pe_op op_mod (pe_callTy call_int1 (by rfl) T.int (by decide +kernel)
          (pa_cons (pe_op op_add (pe_op op_mul (pv 3) pe_int) (pv 1)) pa_nil)) (pv 2))))))), ?_⟩
    refine ⟨_, rfl, _, _, rfl, rfl, .inr (by decide), _, rfl, _, _, rfl, rfl, .inr (by decide), _, _, rfl, rfl, _, _, rfl, rfl, .inl ⟨_, rfl, _, rfl, _, _, rfl, rfl, (by show (0 : Int) < 2305843009213693907; decide), ?_⟩⟩
    refine ⟨4, rfl, by decide, by decide, for_range (n := 4) (fun i σ H' => ∃ (m : Int) (v : Option V), σ = [some (.int s), some (.int l), some (.int 2305843009213693907), some (.int m), v] ∧ 0 ≤ m ∧ m < 2305843009213693907 ∧ H' = H)
      ⟨_, none, rfl, Int.emod_nonneg _ (by decide), Int.emod_lt_of_pos _ (by decide), rfl⟩ ?_ ?_⟩
    · rintro i σ H' hi ⟨m, v, rfl, m0, m1, rfl⟩
      refine ⟨_, rfl, _, rfl, _, _, rfl, rfl, .inl ⟨by omega, by omega⟩, _, rfl, _, _, rfl, rfl, .inr ⟨by omega, by omega⟩, _, _, rfl, rfl, _, rfl, _, _, rfl, rfl, .inl ⟨by decide, by decide⟩, _, _, rfl, rfl, _, rfl, _, _, rfl, rfl,
        .inl ⟨_, rfl, _, rfl, _, _, rfl, rfl, (by show (0 : Int) < 2305843009213693907; decide), ?_⟩⟩
      exact ⟨_, _, rfl, Int.emod_nonneg _ (by decide), Int.emod_lt_of_pos _ (by decide), rfl⟩
    · rintro σ H' ⟨m, v, rfl, m0, m1, rfl⟩
      refine ⟨_, rfl, _, rfl, _, _, rfl, rfl, .inl ⟨by omega, by omega⟩, _, rfl, _, _, rfl, rfl, .inl ⟨by omega, by omega⟩, _, rfl, _, _, rfl, rfl, .inl ⟨_, rfl, _, rfl, _, _, rfl, rfl, (by show (0 : Int) < 2305843009213693907; decide), ?_⟩⟩
      exact ⟨_, _, rfl, rfl, k _⟩

theorem sc_pot_of : FnScope ["script", "cells", "place", "cell"] ["script"] (defScope s_pot_of) := ⟨rfl, rfl, rfl, by decide +kernel, rfl, by decide +kernel, by decide +kernel⟩
theorem cal_pot_of (D : Def1 K mg "_law_pot_of" s_pot_of) (T : Glb mg) : Cal P w K mg base 1 "_law_pot_of" (spPotOf K) := by
  refine mkCal D sc_pot_of (fun _ _ _ _ _ _ us hl => match us, hl with | [_], _ => rfl) (fun vs H Q E h => ?_) (fun f cdv A outer s H vs Q E hr h => ?_)
  · obtain ⟨a, ns, rfl, _⟩ := h
    rfl
  · obtain ⟨a, ns, rfl, hS, hlen, k⟩ := h
    refine ⟨_, pss_cons (ps_setLc (i := 1) (own := [("cell", 3)]) (g := gName 3) (tt := tYes) (by rfl) sc_pot_of.nd rfl rfl (sw_true rfl rfl rfl (by decide +kernel)) (pi_list (pe_slice sl_list (pv 0) po_none (po_some pe_int)))
        (blkOk_by (own := [("cell", 3)]) (N := ["script", "cells", "place", "cell"]) (sc := defScope s_pot_of) (by decide +kernel)) (fun _ _ _ _ _ => pg_name (i := 3) sc_pot_of.nd rfl (Or.inl rfl)) (fun _ _ _ _ _ => pts_nil)
        (fun _ _ _ _ _ => pe_callB call_abs (by rfl) T.abs (by decide +kernel) (pa_cons (pv 3) pa_nil)))
      (pss_cons (ps_for PassesOwn.never rfl (pi_enum (by rfl) T.enumerate (pa_cons (pe_slice sl_list (pv 0) (po_some pe_int) (po_some pe_int)) pa_nil)) (pg_tup rfl (pgs_cons (pg_name (i := 2) sc_pot_of.nd rfl (.inl rfl)) (pgs_cons (pg_name (i := 3) sc_pot_of.nd rfl (.inl rfl)) pgs_nil)))
        (pss_one (ps_asg (pe_op op_add (pe_ix ix_list (pv 1) (pe_op op_mod (pv 2) pe_int) (fun _ _ => rfl)) (pe_callB call_abs (by rfl) T.abs (by decide +kernel) (pa_cons (pv 3) pa_nil))) (pg_sub (pv 1) (pe_op op_mod (pv 2) pe_int) set_list))))
      (pss_one (ps_ret (pe_lst (pa_cons (pv 1) (pa_cons pe_int (pa_cons pe_int (pa_cons pe_int pa_nil)))))))), ?_⟩
    refine ⟨_, rfl, 17, rfl, a, _, rfl, hS, fun q nq => ⟨q, rfl, ⟨_, SqL.of upd_same⟩, fun D nD => ?_⟩⟩
    have e17 : cutV (ns.map V.int) none (some 17) = (ns.take 17).map V.int := by
      rw [cut_to (by decide), List.map_take]
      rfl
    have sq : Same H (upd H q (.lst (cutV (ns.map V.int) none (some 17)))) := same_upd nq
    have nDq : D ≠ q := fun z => by
      rw [z, upd_same] at nD
      cases nD
    have nD0 : H D = none := sq.free nD
    refine lc_list (K := K) (a := q) (xs := (ns.take 17).map V.int) (fun i H' => Same H H' ∧ H' q = some (.lst ((ns.take 17).map V.int)) ∧ ∃ ms : List Int, H' D = some (.lst (ms.map V.int)) ∧ ms.length = i)
      ⟨same_mut sq nD0, by rw [upd_ne nDq.symm, upd_same, e17], [], upd_same, rfl⟩ (fun i H' _ h => SqL.of h.2.1) ?_ ?_
    · rintro i x H' hx ⟨sH, hq, ms, hD, hm⟩
      obtain ⟨z, rfl, hz⟩ := map_item hx
      have hi : i < 17 := by
        have := (List.getElem?_eq_some_iff.mp hx).1
        rw [List.length_map, List.length_take] at this
        omega
      refine ⟨rfl, _, rfl, z, rfl, _, hD, ?_, same_mut sH nD0, ?_, ms ++ [if z < 0 then -z else z], ?_, ?_⟩
      · rw [List.length_map, hm]
        exact small1000 (by omega)
      · rw [upd_ne nDq.symm]
        exact hq
      · rw [upd_same, List.map_append]
        rfl
      · rw [List.length_append, List.length_singleton, hm]
    · rintro H1 ⟨sH, hq, ms, hD, hm⟩
      rw [List.length_map, List.length_take] at hm
      refine ⟨_, rfl, 17, rfl, 60, rfl, a, _, rfl, sH.seq hS, fun r nr => ⟨r, _, rfl, SqL.of upd_same, ?_⟩⟩
      have e60 : cutV (ns.map V.int) (some 17) (some 60) = ((ns.drop 17).take 43).map V.int := by
        rw [cut_from_to (by decide) (by decide), List.map_take, List.map_drop]
        rfl
      have sr : Same H1 (upd H1 r (.lst (cutV (ns.map V.int) (some 17) (some 60)))) := same_upd nr
      have nrD : D ≠ r := ne_of_none hD nr
      refine for_enum (K := K) (a := r) (xs := ((ns.drop 17).take 43).map V.int) (fun i σ H' => ∃ (v2 v3 : Option V) (ms : List Int), σ = [some (.ref a), some (.ref D), v2, v3] ∧ Same H H' ∧ H' r = some (.lst (((ns.drop 17).take 43).map V.int)) ∧ H' D = some (.lst (ms.map V.int)) ∧ ms.length = min 17 ns.length)
        ⟨none, none, ms, rfl, sH.trans sr, by rw [upd_same, e60], by rw [upd_ne nrD]; exact hD, hm⟩ (fun i σ H' ⟨_, _, _, _, _, h, _⟩ => SqL.of h) ?_ ?_
      · rintro i x σ H' t hx nt ⟨v2, v3, ms, rfl, sH', hr', hD', hm'⟩
        obtain ⟨z, rfl, hz⟩ := map_item hx
        have hl : 17 < ns.length := by
          have := (List.getElem?_eq_some_iff.mp hz).1
          rw [List.length_take, List.length_drop] at this
          omega
        have ml : ms.length = 17 := by omega
        have ntD : D ≠ t := ne_of_none hD' nt
        have ntr : r ≠ t := ne_of_none hr' nt
        obtain ⟨y, hy⟩ := atI_ints (ns := ms) (k := (i : Int) % 17) (Int.emod_nonneg _ (by decide)) (by rw [ml]; exact Int.emod_lt_of_pos _ (by decide))
        refine ⟨t, _, rfl, .inl (.inl upd_same), rfl, _, _, rfl, _, _, rfl, rfl, ?_⟩
        refine ⟨_, rfl, _, rfl, _, _, rfl, rfl, (by show (0 : Int) < 17; decide), D, ms.map V.int, _, .int y, rfl, rfl, SqL.of (by rw [upd_ne ntD]; exact hD'), hy, _, rfl, z, rfl, y, _, rfl, rfl, ?_⟩
        refine ⟨_, rfl, _, rfl, _, _, rfl, rfl, (by show (0 : Int) < 17; decide), D, ms.map V.int, _, _, rfl, rfl, (by rw [upd_ne ntD]; exact hD'), ixN_lt (Int.emod_nonneg _ (by decide)) (by rw [List.length_map, ml]; exact Int.emod_lt_of_pos _ (by decide)), ?_⟩
        refine ⟨_, _, ms.set ((i : Int) % 17).toNat (y + if z < 0 then -z else z), rfl, same_mut (sH'.trans (same_upd nt)) nD0, ?_, ?_, ?_⟩
        · rw [upd_ne nrD.symm, upd_ne ntr]
          exact hr'
        · rw [upd_same, List.map_set]
        · rw [List.length_set]
          exact hm'
      · rintro σ H' ⟨v2, v3, ms, rfl, sH', hr', hD', hm'⟩
        refine ⟨_, rfl, (by show 4 ≤ sizeLine; decide), fun l nl => ?_⟩
        exact k l D _ (sH'.trans (same_upd nl)) (sH'.free nl) ⟨(ne_of_none hD' nl).symm, ⟨0, 0, 0, upd_same⟩, ms, by rw [upd_ne (ne_of_none hD' nl)]; exact hD', by omega⟩

theorem sc_below : FnScope ["pot", "bound", "cells", "place", "amount", "found"] ["pot", "bound"] (defScope s_below) := ⟨rfl, rfl, rfl, by decide +kernel, rfl, by decide +kernel, by decide +kernel⟩
theorem cal_below (D : Def1 K mg "_law_below" s_below) (T : Glb mg) (CK : Cal P w K mg base 1 "_law_kneaded" spKneaded) : Cal P w K mg base 2 "_law_below" spBelow := by
  refine mkCal D sc_below (fun _ _ _ _ _ _ us hl => match us, hl with | [_, _], _ => rfl) (fun vs H Q E h => ?_) (fun f cdv A outer s H vs Q E hr h => ?_)
  · obtain ⟨p, c, n, rfl, _⟩ := h
    rfl
  · obtain ⟨p, c, n, rfl, hP, n0, n1, k⟩ := h
    have hu := hu_of hr
    refine ⟨_, pss_cons (ps_if (pt_cmpR op_lt (pe_ix ix_list (pv 0) pe_int (fun _ _ => rfl)) (pv 1) (nomark _))
        (pss_cons (ps_par (i := 2) (j := 3) (by rfl) sc_below.nd rfl rfl (by decide) rfl rfl (pa_cons (pe_ix ix_list (pv 0) pe_int (fun _ _ => rfl)) (pa_cons (pe_ix ix_list (pv 0) pe_int (fun _ _ => rfl)) pa_nil)) (by rfl))
        (pss_cons (ps_set (i := 4) sc_below.nd rfl (.inl rfl) (pe_ifExp (pt_cmpR (op_neD hr.units) (pv 2) (pe_lst pa_nil) (nomark _))
            (pe_ix ix_list (pv 2) (pe_op op_modN (pv 3) (pe_callB call_len_seq (by rfl) T.len PySem.boot_len (pa_cons (pv 2) pa_nil))) (fun _ _ => rfl)) pe_int))
        (pss_cons (ps_if (PW.pt (pw_or (pt_cmpR op_ge (pv 3) (pe_callB call_len_seq (by rfl) T.len PySem.boot_len (pa_cons (pv 2) pa_nil)) (nomark _)) (pw_or1 (pt_cmpR op_lt (pv 4) (pe_op op_pow pe_int pe_int) (nomark _)))))
            (pss_one (ps_set (i := 4) sc_below.nd rfl (.inl rfl) (pe_cal CK hr (by decide) (pa_cons (pe_op op_mod (pe_callTy call_int1 (by rfl) T.int (by decide +kernel) (pa_cons (pv 4) pa_nil)) pe_int) (pa_cons (pv 3) pa_nil))))) pss_nil)
        (pss_cons (ps_asg (pe_op op_add (pv 3) pe_int) (pg_sub (pv 0) pe_int set_list))
        (pss_cons (ps_asg (pv 4) (pg_sub (pv 0) pe_int set_list))
        (pss_one (ps_asg (pv 4) (pg_sub (pv 0) pe_int set_list)))))))) pss_nil)
      (pss_cons (ps_set (i := 5) sc_below.nd rfl (.inl rfl) (pe_op op_mod (pe_callTy call_int1 (by rfl) T.int (by decide +kernel) (pa_cons (pe_ix ix_list (pv 0) pe_int (fun _ _ => rfl)) pa_nil)) (pv 1)))
      (pss_cons (ps_asg (pe_op op_fdivN (pe_ix ix_list (pv 0) pe_int (fun _ _ => rfl)) (pv 1)) (pg_sub (pv 0) pe_int set_list))
      (pss_cons (ps_asg (pe_op op_fdivN (pe_ix ix_list (pv 0) pe_int (fun _ _ => rfl)) (pv 1)) (pg_sub (pv 0) pe_int set_list))
      (pss_one (ps_ret (pv 5)))))), ?_⟩
    -- the end, from any pot
    have tail : ∀ (v2 v3 v4 : Option V) (H1 : Hp), Ext p c H H1 → ∀ (t : TS), t = tSeq (tAsg (tOp (rI (fun _ j => 0 < j) fun i j => V.int (i % j)) (tCB (fun xs H Q => (∃ i, xs = [V.int i] ∧ Q (.int i) H) ∨ ∃ k, xs = [V.bl k] ∧ Q (.int (if k then 1 else 0)) H) (tCons (tOp (rIxL K) (tVar 0) (tC (.int 2))) tNil)) (tVar 1)) (gName 5))
        (tSeq (tAsg (tOp (rI CDivN fun i j => V.int (i.fdiv j)) (tOp (rIxL K) (tVar 0) (tC (.int 2))) (tVar 1)) (gSub (tVar 0) (tC (.int 2)) rSetL)) (tSeq (tAsg (tOp (rI CDivN fun i j => V.int (i.fdiv j)) (tOp (rIxL K) (tVar 0) (tC (.int 3))) (tVar 1)) (gSub (tVar 0) (tC (.int 3)) rSetL)) (tRet (tVar 5)))) →
        t { nx := fun _ H' => Q .non H', rt := Q } [some (.ref p), some (.int n), v2, v3, v4, none] H1 := by
      rintro v2 v3 v4 H1 e t rfl
      obtain ⟨npc, ⟨i, a, b, hp⟩, _⟩ := id e.pot
      refine ⟨_, rfl, p, _, 2, .int a, rfl, rfl, SqL.of hp, atI_nat (j := 2) rfl, .inl ⟨_, rfl, _, rfl, _, _, rfl, rfl, n0, ?_⟩⟩
      refine ⟨_, rfl, p, _, 2, .int a, rfl, rfl, SqL.of hp, atI_nat (j := 2) rfl, _, rfl, _, _, rfl, rfl, ⟨by omega, by omega⟩, ?_⟩
      refine ⟨_, rfl, p, _, 2, 2, rfl, rfl, hp, rfl, ?_⟩
      refine ⟨_, rfl, p, _, 3, .int b, rfl, rfl, SqL.of upd_same, atI_nat (j := 3) rfl, _, rfl, _, _, rfl, rfl, ⟨by omega, by omega⟩, ?_⟩
      refine ⟨_, rfl, p, _, 3, 3, rfl, rfl, upd_same, rfl, ?_⟩
      refine ⟨_, rfl, k _ _ (Int.emod_nonneg _ (by omega)) (Int.emod_lt_of_pos _ n0) ?_⟩
      exact pot_put hP (pot_put hP e)
    obtain ⟨npc, ⟨i, a, b, hp⟩, ns, hc, hl⟩ := id hP
    refine ⟨_, rfl, p, _, 3, .int b, rfl, rfl, SqL.of hp, atI_nat (j := 3) rfl, _, rfl, _, _, rfl, rfl, _, rfl, ?_⟩
    refine ite2 (fun _ => ?_) (fun _ => tail _ _ _ H hP.ref _ rfl)
    refine ⟨_, rfl, p, _, 0, .ref c, rfl, rfl, SqL.of hp, atI_nat (j := 0) rfl, _, rfl, p, _, 1, .int i, rfl, rfl, SqL.of hp, atI_nat (j := 1) rfl, _, _, rfl, ?_⟩
    refine ⟨_, rfl, Nat.zero_le _, fun q nq => ⟨_, _, .lst (SqL.of (by rw [upd_ne (ne_of_none hc nq)]; exact hc)) (dp_ints ns), .lst (SqL.of upd_same) .nil, shaped_ints ns, rfl, _, rfl, ?_⟩⟩
    rw [eqv_ints_nil]
    have e1 : Ext p c H (upd H q (.lst [])) := hP.ref.new nq
    have hc1 : (upd H q (.lst [])) c = some (.lst (ns.map V.int)) := by rw [upd_ne (ne_of_none hc nq)]; exact hc
    have hp1 : (upd H q (.lst [])) p = some (.lst [.ref c, .int i, .int a, .int b]) := by rw [upd_ne (ne_of_none hp nq)]; exact hp
    refine ite2 (fun hn => ?wayA) (fun hn => ?wayB)
    case' wayA =>
      have hn2 : 0 < ns.length := List.length_pos_iff.mpr fun z => by
        rw [z] at hn
        exact absurd hn (by decide)
      obtain ⟨z, hz⟩ := atI_ints (ns := ns) (k := Int.fmod i (((ns.map V.int).length : Nat) : Int)) (Int.fmod_nonneg_of_pos _ (by rw [List.length_map]; omega)) (by
        rw [List.length_map]
        exact Int.fmod_lt_of_pos _ (by omega))
      refine ⟨_, rfl, _, rfl, _, rfl, c, _, rfl, .inl (SqL.of hc1), _, _, rfl, rfl, (by rw [List.length_map]; show ((ns.length : Nat) : Int) ≠ 0; omega), c, _, _, .int z, rfl, rfl, SqL.of hc1, hz, ?_⟩
    all_goals
      refine ⟨_, rfl, _, rfl, c, _, rfl, .inl (SqL.of hc1), _, _, rfl, rfl, _, rfl, ?_⟩
      refine ite2 (fun _ => iteT ?_) (fun _ => ⟨_, rfl, _, _, rfl, rfl, ⟨by decide, by decide, by decide⟩, _, _, rfl, rfl, _, rfl, ite2 (fun _ => ?_) (fun _ => ?_)⟩)
      all_goals try refine ⟨_, rfl, .inl ⟨_, rfl, _, _, rfl, rfl, (by show (0 : Int) < 982451629; decide), _, rfl, _, _, rfl, fun r => ?_⟩⟩
      all_goals
        refine ⟨_, rfl, _, _, rfl, rfl, _, rfl, p, _, 1, 1, rfl, rfl, hp1, rfl, ?_⟩
        refine ⟨_, rfl, _, rfl, p, _, 2, 2, rfl, rfl, upd_same, rfl, ?_⟩
        refine ⟨_, rfl, _, rfl, p, _, 3, 3, rfl, rfl, upd_same, rfl, ?_⟩
        exact tail _ _ _ _ (pot_put hP (pot_put hP (pot_put hP e1))) _ rfl
end
end Lk

/-! K12n -/
set_option Elab.async false
set_option linter.all false
set_option maxRecDepth 100000
set_option maxHeartbeats 4000000
namespace Lk
open PySem PySem.Spec PyProof.Rows L2
section
variable {P : Program} {w : World} {K : PySem.W.Frag} {mg : Str → Option Value} {base : Heap}
theorem sc_pick : FnScope ["pot", "items"] ["pot", "items"] (defScope s_pick) := ⟨rfl, rfl, rfl, by decide +kernel, rfl, by decide +kernel, by decide +kernel⟩
theorem cal_pick (D : Def1 K mg "_law_pick" s_pick) (T : Glb mg) (CB : Cal P w K mg base 2 "_law_below" spBelow) : Cal P w K mg base 3 "_law_pick" (spPick K) := by
  refine mkCal D sc_pick (fun _ _ _ _ _ _ us hl => match us, hl with | [_, _], _ => rfl) (fun vs H Q E h => ?_) (fun f cdv A outer s H vs Q E hr h => ?_)
  · obtain ⟨p, c, l, xs, rfl, _⟩ := h
    rfl
  · obtain ⟨p, c, l, xs, rfl, hP, hS, nl, h0, h1, k⟩ := h
    refine ⟨_, pss_one (ps_ret (pe_ix ix_list (pv 1) (pe_cal CB hr (by decide) (pa_cons (pv 0) (pa_cons (pe_callB call_len_seq (by rfl) T.len PySem.boot_len (pa_cons (pv 1) pa_nil)) pa_nil))) (fun _ _ => rfl))), ?_⟩
    refine ⟨_, rfl, _, rfl, _, rfl, l, xs, rfl, .inl hS, p, c, _, rfl, hP, by omega, by omega, fun r H' r0 r1 e => ?_⟩
    obtain ⟨v, hv, hg⟩ := atI_lt (xs := xs) r0 r1
    exact ⟨l, xs, r, v, rfl, rfl, e.seq nl hS, hv, k v H' (List.mem_of_getElem? hg) e⟩
theorem sc_some_name : FnScope ["pot", "head", "tail", "lap"] ["pot"] (defScope s_some_name) := ⟨rfl, rfl, rfl, by decide +kernel, rfl, by decide +kernel, by decide +kernel⟩
theorem cal_some_name (D : Def1 K mg "_law_some_name" s_some_name) (T : Glb mg) (CB : Cal P w K mg base 2 "_law_below" spBelow) (CP : Cal P w K mg base 3 "_law_pick" (spPick K)) : Cal P w K mg base 4 "_law_some_name" spName := by
  refine mkCal D sc_some_name (fun _ _ _ _ _ _ us hl => match us, hl with | [_], _ => rfl) (fun vs H Q E h => ?_) (fun f cdv A outer s H vs Q E hr h => ?_)
  · obtain ⟨p, c, rfl, _⟩ := h
    rfl
  · obtain ⟨p, c, rfl, hP, k⟩ := h
    refine ⟨_, pss_cons (ps_set (i := 1) sc_some_name.nd rfl (.inl rfl) (pe_join pe_str (pe_lc (own := [("lap", 3)]) (g := gName 3) (tt := tYes) (by rfl) sc_some_name.nd (pi_range1 (by rfl) T.range (pa_cons (pe_cal CB hr (by decide) (pa_cons (pv 0) (pa_cons pe_int pa_nil))) pa_nil))
          (blkOk_by (own := [("lap", 3)]) (N := ["pot", "head", "tail", "lap"]) (sc := defScope s_some_name) (by decide +kernel)) (fun _ _ _ _ _ => pg_name (i := 3) sc_some_name.nd rfl (Or.inl rfl)) (fun _ _ _ _ _ => pts_nil)
          (fun _ _ _ _ _ => pe_cal CP hr (by decide) (pa_cons (pv 0) (pa_cons (pe_lst (pa_cons pe_str (pa_cons pe_str (pa_cons pe_str (pa_cons pe_str pa_nil))))) pa_nil))))))
      (pss_cons (ps_set (i := 2) sc_some_name.nd rfl (.inl rfl) (pe_join pe_str (pe_lc (own := [("lap", 3)]) (g := gName 3) (tt := tYes) (by rfl) sc_some_name.nd (pi_range1 (by rfl) T.range (pa_cons (pe_cal CB hr (by decide) (pa_cons (pv 0) (pa_cons pe_int pa_nil))) pa_nil))
          (blkOk_by (own := [("lap", 3)]) (N := ["pot", "head", "tail", "lap"]) (sc := defScope s_some_name) (by decide +kernel)) (fun _ _ _ _ _ => pg_name (i := 3) sc_some_name.nd rfl (Or.inl rfl)) (fun _ _ _ _ _ => pts_nil)
          (fun _ _ _ _ _ => pe_cal CP hr (by decide) (pa_cons (pv 0) (pa_cons (pe_lst (pa_cons pe_str (pa_cons pe_str (pa_cons pe_str (pa_cons pe_str pa_nil))))) pa_nil))))))
      (pss_one (ps_ret (pe_ifExp (pt_cmpR op_ne (pe_op op_add_str (pv 1) (pv 2)) pe_str (nomark _)) (pe_op op_add_str (pv 1) (pv 2)) (pe_cal CP hr (by decide) (pa_cons (pv 0) (pa_cons (pe_lst (pa_cons pe_str (pa_cons pe_str (pa_cons pe_str pa_nil)))) pa_nil))))))), ?_⟩
    have hU : ∀ y : Str, y ∈ ([("A" : Str), "A", "B", "Z"] : List Str) → (TL.tl y).length ≤ 1 ∧ ∀ c ∈ TL.tl y, Up c := by decide +kernel
    have hL : ∀ y : Str, y ∈ ([("c" : Str), "o", "o", "s"] : List Str) → (TL.tl y).length ≤ 1 ∧ ∀ c ∈ TL.tl y, Lo c := by decide +kernel
    have e0 : TL.tl ("" : Str) = [] := by decide +kernel
    refine set_read ?_
    refine word_read (K := K) (σ := [some (.ref p), none, none, none]) (n := 4) (iv := 3) (p := p) (c := c) (letters := [("A" : Str), "A", "B", "Z"]) ?hL (by decide) (by decide) (fun y h => (hU y h).1) (by rfl) (fun _ => by rfl) (fun _ => by rfl) hP (by decide) (by decide) fun hs H1 mh lh e1 => ?_
    case hL => exact fun σ H Q q => q
    refine set_read ?_
    refine word_read (K := K) (σ := [some (.ref p), some (.str (Txt.join "" hs)), none, none]) (n := 4) (iv := 3) (p := p) (c := c) (letters := [("c" : Str), "o", "o", "s"]) ?hL (by decide) (by decide) (fun y h => (hL y h).1) (by rfl) (fun _ => by rfl) (fun _ => by rfl) e1.pot (by decide) (by decide) fun ts H2 mt lt e2 => ?_
    case hL => exact fun σ H Q q => q
    have e := e1.trans e2
    have th : TL.tl (Txt.join "" hs) = (hs.map TL.tl).flatten := tl_join0 e0 hs
    have tt : TL.tl (Txt.join "" ts) = (ts.map TL.tl).flatten := tl_join0 e0 ts
    have lh1 := flat_len (k := 1) (ys := hs) fun y h => (hU y (mh y h)).1
    have lt1 := flat_len (k := 1) (ys := ts) fun y h => (hL y (mt y h)).1
    have ll : (Txt.join "" hs).length + (Txt.join "" ts).length ≤ sizeLine := by
      rw [TL.len_tl, TL.len_tl, th, tt]
      exact Nat.le_of_lt (small1000 (by omega))
    refine ⟨_, rfl, _, rfl, _, _, rfl, rfl, ll, rfl, _, rfl, ?_⟩
    refine ite2 (fun hne => ?_) (fun hne => ?_)
    · refine ⟨_, rfl, _, rfl, _, _, rfl, rfl, ll, k _ (hs.map TL.tl).flatten (ts.map TL.tl).flatten H2 ⟨by rw [TL.tl_append, th, tt], flat_all fun y h => (hU y (mh y h)).2, flat_all fun y h => (hL y (mt y h)).2, fun z => ?_, by omega, by omega⟩ e⟩
      have z2 : Txt.join "" hs ++ Txt.join "" ts = ("" : Str) := TL.ext_tl (by rw [TL.tl_append, th, tt, z, e0])
      rw [z2] at hne
      exact absurd hne (by decide)
    · refine ⟨_, rfl, (by show 3 ≤ sizeLine; decide), fun l nl => ?_⟩
      refine ⟨p, c, l, _, rfl, e.pot.same (same_upd nl), SqL.of upd_same, e.pot.nep nl, by decide, by decide, fun v H3 hv e3 => ?_⟩
      have e4 := e.trans (Ext.pre (same_upd nl) e3)
      have h3 : v = .str "A" ∨ v = .str "o" ∨ v = .str "Z" := by simpa using hv
      rcases h3 with rfl | rfl | rfl
      · exact k _ [65] [] _ ⟨by decide +kernel, by decide, by decide, by decide, by decide, by decide⟩ e4
      · exact k _ [] [111] _ ⟨by decide +kernel, by decide, by decide, by decide, by decide, by decide⟩ e4
      · exact k _ [90] [] _ ⟨by decide +kernel, by decide, by decide, by decide, by decide, by decide⟩ e4
end
end Lk

/-! K12h -/
set_option Elab.async false
set_option linter.all false
set_option maxRecDepth 100000
set_option maxHeartbeats 4000000
namespace Lk
open PySem PySem.Spec PyProof.Rows L2
inductive Src
  | pat (b e : Str)
  | nm (x : Str)
def Src.d : Src → PyData
  | .pat b e => .tuple [.str b, .str e]
  | .nm x => .str x
/-- the drawn sources -/
def SrcOk : Src → Prop
  | .pat b e => b ∈ (["", "A", "B", "AB"] : List Str) ∧ e ∈ (["", "c", "o", "s", "co"] : List Str) ∧ ¬ (b = "" ∧ e = "")
  | .nm x => x ∈ (["A", "Ac", "Bo", "s", "Ao"] : List Str)
section
variable {P : Program} {w : World} {K : PySem.W.Frag} {mg : Str → Option Value} {base : Heap}
def spWhole (K : PySem.W.Frag) : Sp := fun vs H Q _ => ∃ b e : Str, vs = [.str b, .str e] ∧ b.length + e.length ≤ 1000 ∧ ∀ p H' b' e', Same H H' → H' p = some (.tup [.str b', .str e']) → ((b' = b ∧ e' = e ∧ ¬ (b = "" ∧ e = "")) ∨ (b' = "" ∧ e' = "c")) → Q (.ref p) H'
theorem sc_whole : FnScope ["begin", "end"] ["begin", "end"] (defScope s_whole) := ⟨rfl, rfl, rfl, by decide +kernel, rfl, by decide +kernel, by decide +kernel⟩
theorem cal_whole (D : Def1 K mg "_law_whole" s_whole) : Cal P w K mg base 1 "_law_whole" (spWhole K) := by
  refine mkCal D sc_whole (fun _ _ _ _ _ _ us hl => match us, hl with | [_, _], _ => rfl) (fun vs H Q E h => ?_) (fun f cdv A outer s H vs Q E hr h => ?_)
  · obtain ⟨b, e, rfl, _⟩ := h
    rfl
  · obtain ⟨b, e, rfl, l, k⟩ := h
    refine ⟨_, pss_one (ps_ret (pe_ifExp (pt_cmpR op_ne (pe_op op_add_str (pv 0) (pv 1)) pe_str (nomark _)) (pe_tup (pa_cons (pv 0) (pa_cons (pv 1) pa_nil))) (pe_tup (pa_cons pe_str (pa_cons pe_str pa_nil))))), ?_⟩
    refine ⟨_, rfl, _, rfl, b, e, rfl, rfl, Nat.le_trans l (by decide), rfl, _, rfl, ?_⟩
    have eb : b ++ e = "" ↔ (b = "" ∧ e = "") := by
      rw [← tl_nil_iff, TL.tl_append, List.append_eq_nil_iff, tl_nil_iff, tl_nil_iff]
    refine ite2 (fun hne => ?_) (fun hne => ?_)
    · refine ⟨_, rfl, _, rfl, (by show 2 ≤ sizeLine; decide), fun p np => k p _ b e (same_upd np) upd_same (.inl ⟨rfl, rfl, fun z => ?_⟩)⟩
      rw [eb.mpr z] at hne
      exact absurd hne (by decide)
    · exact ⟨(by show 2 ≤ sizeLine; decide), fun p np => k p _ "" "c" (same_upd np) upd_same (.inr ⟨rfl, rfl⟩)⟩
def spSrc (K : PySem.W.Frag) : Sp := fun vs H Q _ => ∃ (p c : Addr), vs = [.ref p] ∧ PotAt p c H ∧ ∀ (v : V) (s : Src) (H' : Hp), SrcOk s → Ext p c H H' → Th K H' v s.d → Q v H'
theorem sc_some_source : FnScope ["pot"] ["pot"] (defScope s_some_source) := ⟨rfl, rfl, rfl, by decide +kernel, rfl, by decide +kernel, by decide +kernel⟩
theorem cal_some_source (D : Def1 K mg "_law_some_source" s_some_source) (CB : Cal P w K mg base 2 "_law_below" spBelow) (CP : Cal P w K mg base 3 "_law_pick" (spPick K)) (CW : Cal P w K mg base 1 "_law_whole" (spWhole K)) : Cal P w K mg base 4 "_law_some_source" (spSrc K) := by
  refine mkCal D sc_some_source (fun _ _ _ _ _ _ us hl => match us, hl with | [_], _ => rfl) (fun vs H Q E h => ?_) (fun f cdv A outer s H vs Q E hr h => ?_)
  · obtain ⟨p, c, rfl, _⟩ := h
    rfl
  · obtain ⟨p, c, rfl, hP, k⟩ := h
    refine ⟨_, pss_cons (ps_if (pt_cmpR op_eq (pe_cal CB hr (by decide) (pa_cons (pv 0) (pa_cons pe_int pa_nil))) pe_int (nomark _)) (pss_one (ps_ret (pe_cal CP hr (by decide) (pa_cons (pv 0) (pa_cons (pe_lst (pa_cons pe_str (pa_cons pe_str (pa_cons pe_str (pa_cons pe_str (pa_cons pe_str pa_nil)))))) pa_nil))))) pss_nil)
      (pss_one (ps_ret (pe_cal CW hr (by decide) (pa_cons (pe_cal CP hr (by decide) (pa_cons (pv 0) (pa_cons (pe_lst (pa_cons pe_str (pa_cons pe_str (pa_cons pe_str (pa_cons pe_str (pa_cons pe_str pa_nil)))))) pa_nil)))
        (pa_cons (pe_cal CP hr (by decide) (pa_cons (pv 0) (pa_cons (pe_lst (pa_cons pe_str (pa_cons pe_str (pa_cons pe_str (pa_cons pe_str (pa_cons pe_str (pa_cons pe_str pa_nil))))))) pa_nil))) pa_nil))))), ?_⟩
    refine ⟨_, rfl, p, c, 5, rfl, hP, by decide, by decide, fun r H1 r0 r1 e1 => ⟨rfl, _, rfl, ?_⟩⟩
    have one : ∀ {H : Hp} {v : V} {x : Str}, Th K H v (.str x) → v = .str x := fun h => by
      cases h
      rfl
    refine ite2 (fun _ => ?_) (fun _ => ?_)
    · refine pick_new (K := K) (p := p) (c := c) (i := 0) (mk_cons mk_str (mk_cons mk_str (mk_cons mk_str (mk_cons mk_str (mk_cons mk_str mk_nil))))) rfl (by show 0 < 5; decide) (by show 5 ≤ 1000; decide) e1.pot rfl fun v d H2 hd ht e2 => ?_
      obtain ⟨x, hx, rfl⟩ : ∃ x, x ∈ (["A", "Ac", "Bo", "s", "Ao"] : List Str) ∧ d = .str x := by
        simp only [List.mem_cons, List.mem_nil_iff, or_false] at hd
        rcases hd with rfl | rfl | rfl | rfl | rfl <;> exact ⟨_, by simp, rfl⟩
      exact k v (.nm x) H2 hx (e1.trans e2) ht
    · refine pick_new (K := K) (p := p) (c := c) (i := 0) (mk_cons mk_str (mk_cons mk_str (mk_cons mk_str (mk_cons mk_str (mk_cons mk_str mk_nil))))) rfl (by show 0 < 5; decide) (by show 5 ≤ 1000; decide) e1.pot rfl fun v d H2 hd ht e2 => ?_
      obtain ⟨b, hb, rfl⟩ : ∃ x, x ∈ (["", "A", "B", "AB"] : List Str) ∧ d = .str x := by
        simp only [List.mem_cons, List.mem_nil_iff, or_false] at hd
        rcases hd with rfl | rfl | rfl | rfl | rfl <;> exact ⟨_, by simp, rfl⟩
      obtain rfl := one ht
      refine pick_new (K := K) (p := p) (c := c) (i := 0) (mk_cons mk_str (mk_cons mk_str (mk_cons mk_str (mk_cons mk_str (mk_cons mk_str (mk_cons mk_str mk_nil)))))) rfl (by show 0 < 6; decide) (by show 6 ≤ 1000; decide) e2.pot rfl fun v2 d2 H3 hd2 ht2 e3 => ?_
      obtain ⟨e, he, rfl⟩ : ∃ x, x ∈ (["", "c", "o", "s", "co"] : List Str) ∧ d2 = .str x := by
        simp only [List.mem_cons, List.mem_nil_iff, or_false] at hd2
        rcases hd2 with rfl | rfl | rfl | rfl | rfl | rfl <;> exact ⟨_, by simp, rfl⟩
      obtain rfl := one ht2
      have l1 : ∀ x : Str, x ∈ (["", "A", "B", "AB"] : List Str) → x.length ≤ 2 := by decide +kernel
      have l2 : ∀ x : Str, x ∈ (["", "c", "o", "s", "co"] : List Str) → x.length ≤ 2 := by decide +kernel
      have l3 := l1 b hb
      have l4 := l2 e he
      refine ⟨b, e, rfl, by omega, fun q H4 b' e' s4 hq how => ?_⟩
      refine k (.ref q) (.pat b' e') H4 ?_ (((e1.trans e2).trans e3).same s4) (.tup (.inl (.inl hq)) (.cons (.str _) (.cons (.str _) .nil)))
      rcases how with ⟨rfl, rfl, n⟩ | ⟨rfl, rfl⟩
      · exact ⟨hb, he, n⟩
      · exact ⟨by simp, by simp, by decide⟩
structure Rl where
  lab : Str
  b : Str
  e : Str
  ss : List Src
def Rl.d (r : Rl) : PyData := .tuple [.str r.lab, .tuple [.str r.b, .str r.e], .tuple (r.ss.map Src.d)]
structure RlOk (most : Nat) (r : Rl) : Prop where
  lab : r.lab ∈ (["cc", "as", "link"] : List Str)
  b : r.b ∈ (["", "A", "B"] : List Str)
  e : r.e ∈ (["o", "c", "", "s"] : List Str)
  ne : ¬ (r.b = "" ∧ r.e = "")
  ss : ∀ s ∈ r.ss, SrcOk s
  len : r.ss.length ≤ most
theorem src_flat (s : Src) : noLst s.d = true ∧ noPot s.d = true := by
  cases s <;> exact ⟨rfl, rfl⟩
theorem srcs_flat : ∀ ss : List Src, noLstAll (ss.map Src.d) = true ∧ noPotAll (ss.map Src.d) = true
  | [] => ⟨rfl, rfl⟩
  | s :: r => ⟨by rw [List.map_cons, noLstAll, (src_flat s).1, (srcs_flat r).1]; rfl, by rw [List.map_cons, noPotAll, (src_flat s).2, (srcs_flat r).2]; rfl⟩
theorem rl_flat (r : Rl) : noLst r.d = true ∧ noPot r.d = true := by
  obtain ⟨a, b⟩ := srcs_flat r.ss
  refine ⟨?_, ?_⟩
  · simp [Rl.d, noLst, noLstAll, a]
  · simp [Rl.d, noPot, noPotAll, b]
def spRule (K : PySem.W.Frag) : Sp := fun vs H Q _ => ∃ (p c : Addr) (m : Nat), vs = [.ref p, .int (m : Int)] ∧ m ≤ 100 ∧ PotAt p c H ∧ ∀ (v : V) (r : Rl) (H' : Hp), RlOk m r → Ext p c H H' → Th K H' v r.d → Q v H'
theorem sc_some_rule : FnScope ["pot", "most", "pattern", "sources", "lap"] ["pot", "most"] (defScope s_some_rule) := ⟨rfl, rfl, rfl, by decide +kernel, rfl, by decide +kernel, by decide +kernel⟩
theorem cal_some_rule (D : Def1 K mg "_law_some_rule" s_some_rule) (G : Glb mg) (ht : mg "tuple" = none) (CB : Cal P w K mg base 2 "_law_below" spBelow) (CP : Cal P w K mg base 3 "_law_pick" (spPick K)) (CW : Cal P w K mg base 1 "_law_whole" (spWhole K)) (CS : Cal P w K mg base 4 "_law_some_source" (spSrc K)) :
    Cal P w K mg base 5 "_law_some_rule" (spRule K) := by
  refine mkCal D sc_some_rule (fun _ _ _ _ _ _ us hl => match us, hl with | [_, _], _ => rfl) (fun vs H Q E h => ?_) (fun f cdv A outer s H vs Q E hr h => ?_)
  · obtain ⟨p, c, m, rfl, _⟩ := h
    rfl
  · obtain ⟨p, c, m, rfl, hm, hP, k⟩ := h
    refine ⟨_, pss_cons (ps_set (i := 2) sc_some_rule.nd rfl (.inl rfl) (pe_cal CW hr (by decide) (pa_cons (pe_cal CP hr (by decide) (pa_cons (pv 0) (pa_cons (pe_lst (pa_cons pe_str (pa_cons pe_str (pa_cons pe_str (pa_cons pe_str (pa_cons pe_str pa_nil)))))) pa_nil)))
        (pa_cons (pe_cal CP hr (by decide) (pa_cons (pv 0) (pa_cons (pe_lst (pa_cons pe_str (pa_cons pe_str (pa_cons pe_str (pa_cons pe_str (pa_cons pe_str pa_nil)))))) pa_nil))) pa_nil))))
      (pss_cons (ps_set (i := 3) sc_some_rule.nd rfl (.inl rfl) (pe_callTy call_tuple_of (by rfl) ht (by decide +kernel) (pa_cons (pe_lc (own := [("lap", 4)]) (g := gName 4) (tt := tYes) (by rfl) sc_some_rule.nd (pi_range1 (by rfl) G.range (pa_cons (pe_cal CB hr (by decide) (pa_cons (pv 0) (pa_cons (pe_op op_add (pv 1) pe_int) pa_nil))) pa_nil))
          (blkOk_by (own := [("lap", 4)]) (N := ["pot", "most", "pattern", "sources", "lap"]) (sc := defScope s_some_rule) (by decide +kernel)) (fun _ _ _ _ _ => pg_name (i := 4) sc_some_rule.nd rfl (Or.inl rfl)) (fun _ _ _ _ _ => pts_nil)
          (fun _ _ _ _ _ => pe_cal CS hr (by decide) (pa_cons (pv 0) pa_nil))) pa_nil)))
      (pss_one (ps_ret (pe_tup (pa_cons (pe_cal CP hr (by decide) (pa_cons (pv 0) (pa_cons (pe_lst (pa_cons pe_str (pa_cons pe_str (pa_cons pe_str pa_nil)))) pa_nil))) (pa_cons (pv 2) (pa_cons (pv 3) pa_nil))))))), ?_⟩
    have one : ∀ {H : Hp} {v : V} {x : Str}, Th K H v (.str x) → v = .str x := fun h => by
      cases h
      rfl
    refine set_read ?_
    refine pick_new (K := K) (p := p) (c := c) (i := 0) (mk_cons mk_str (mk_cons mk_str (mk_cons mk_str (mk_cons mk_str (mk_cons mk_str mk_nil))))) rfl (by show 0 < 5; decide) (by show 5 ≤ 1000; decide) hP rfl fun v d H1 hd ht1 e1 => ?_
    obtain ⟨b, hb, rfl⟩ : ∃ x, x ∈ (["", "A", "B"] : List Str) ∧ d = .str x := by
      simp only [List.mem_cons, List.mem_nil_iff, or_false] at hd
      rcases hd with rfl | rfl | rfl | rfl | rfl <;> exact ⟨_, by simp, rfl⟩
    obtain rfl := one ht1
    refine pick_new (K := K) (p := p) (c := c) (i := 0) (mk_cons mk_str (mk_cons mk_str (mk_cons mk_str (mk_cons mk_str (mk_cons mk_str mk_nil))))) rfl (by show 0 < 5; decide) (by show 5 ≤ 1000; decide) e1.pot rfl fun v2 d2 H2 hd2 ht2 e2 => ?_
    obtain ⟨e, he, rfl⟩ : ∃ x, x ∈ (["o", "c", "", "s"] : List Str) ∧ d2 = .str x := by
      simp only [List.mem_cons, List.mem_nil_iff, or_false] at hd2
      rcases hd2 with rfl | rfl | rfl | rfl | rfl <;> exact ⟨_, by simp, rfl⟩
    obtain rfl := one ht2
    have l1 : ∀ x : Str, x ∈ (["", "A", "B"] : List Str) → x.length ≤ 2 := by decide +kernel
    have l2 : ∀ x : Str, x ∈ (["o", "c", "", "s"] : List Str) → x.length ≤ 2 := by decide +kernel
    have l3 := l1 b hb
    have l4 := l2 e he
    refine ⟨b, e, rfl, by omega, fun q H3 b' e' s3 hq how => ?_⟩
    have ok : b' ∈ (["", "A", "B"] : List Str) ∧ e' ∈ (["o", "c", "", "s"] : List Str) ∧ ¬ (b' = "" ∧ e' = "") := by
      rcases how with ⟨rfl, rfl, n⟩ | ⟨rfl, rfl⟩
      · exact ⟨hb, he, n⟩
      · exact ⟨by simp, by simp, by decide⟩
    have x3 := (e1.trans e2).same s3
    have tq : Th K H3 (.ref q) (.tuple [.str b', .str e']) := .tup (.inl (.inl hq)) (.cons (.str _) (.cons (.str _) .nil))
    refine ⟨_, rfl, _, rfl, _, _, rfl, rfl, ?_⟩
    refine ⟨p, c, (m : Int) + 1, rfl, x3.pot, by omega, by omega, fun r H4 r0 r1 e4 => ⟨r, rfl, by omega, by omega, fun L nL => ?_⟩⟩
    refine grow (K := K) (p := p) (c := c) (σ := [some (.ref p), some (.int (m : Int)), some (.ref q), none, none]) (te := tCall (spSrc K) [] E0 (tCons (tVar 0) tNil)) (α := Src) (f := Src.d) (Ok := SrcOk) (n := r.toNat) (iv := 4) src_flat e4.pot nL (by omega) (fun _ => rfl) (fun x H' R hp q => ⟨_, rfl, p, c, rfl, hp, fun v s H2 ok e th => q v s H2 ok e th⟩) fun vs as H5 hD ta ok2 len e5 => ?_
    refine ⟨L, vs, rfl, .inl ⟨SqL.of hD, fun t nt => ?_⟩⟩
    have s6 : Same H5 (upd H5 t (.tup vs)) := same_upd nt
    have t6 : Th K (upd H5 t (.tup vs)) (.ref t) (.tuple (as.map Src.d)) := .tup (.inl (.inl upd_same)) (thAll_same s6 ta)
    generalize upd H5 t (.tup vs) = H6 at s6 t6 ⊢
    have x6 : Ext p c H H6 := ((x3.trans e4).trans e5).same s6
    have q6 : Th K H6 (.ref q) (.tuple [.str b', .str e']) := th_same s6 (th_ext e4.pot e5 (th_ext x3.pot e4 tq rfl) rfl)
    refine pick_new (K := K) (p := p) (c := c) (i := 0) (mk_cons mk_str (mk_cons mk_str (mk_cons mk_str mk_nil))) rfl (by show 0 < 3; decide) (by show 3 ≤ 1000; decide) x6.pot rfl fun v3 d3 H7 hd3 ht3 e7 => ?_
    obtain ⟨lab, hlab, rfl⟩ : ∃ x, x ∈ (["cc", "as", "link"] : List Str) ∧ d3 = .str x := by
      simp only [List.mem_cons, List.mem_nil_iff, or_false] at hd3
      rcases hd3 with rfl | rfl | rfl <;> exact ⟨_, by simp, rfl⟩
    obtain rfl := one ht3
    have q7 := th_ext x6.pot e7 q6 rfl
    have t7 := th_ext x6.pot e7 t6 (by simpa only [noPot] using (srcs_flat as).2)
    refine ⟨_, rfl, _, rfl, (by show 3 ≤ sizeLine; decide), fun z nz => ?_⟩
    have s8 : Same H7 (upd H7 z (.tup [.str lab, .ref q, .ref t])) := same_upd nz
    exact k (.ref z) ⟨lab, b', e', as⟩ _ ⟨hlab, ok.1, ok.2.1, ok.2.2, ok2, by rw [len]; omega⟩ ((x6.trans e7).same s8) (.tup (.inl (.inl upd_same)) (.cons (.str lab) (.cons (th_same s8 q7) (.cons (th_same s8 t7) .nil))))
def spBook (K : PySem.W.Frag) : Sp := fun vs H Q _ => ∃ (p c : Addr) (n m : Nat), vs = [.ref p, .int (n : Int), .int (m : Int)] ∧ n ≤ 100 ∧ m ≤ 100 ∧ PotAt p c H ∧ ∀ (q : Addr) (vs : List V) (rs : List Rl) (H' : Hp), (∀ r ∈ rs, RlOk m r) → rs.length ≤ n → Ext p c H H' → H' q = some (.tup vs) → ThAll K H' vs (rs.map Rl.d) → Q (.ref q) H'
theorem sc_some_book : FnScope ["pot", "many", "most", "lap"] ["pot", "many", "most"] (defScope s_some_book) := ⟨rfl, rfl, rfl, by decide +kernel, rfl, by decide +kernel, by decide +kernel⟩
theorem cal_some_book (D : Def1 K mg "_law_some_book" s_some_book) (G : Glb mg) (ht : mg "tuple" = none) (CB : Cal P w K mg base 2 "_law_below" spBelow) (CR : Cal P w K mg base 5 "_law_some_rule" (spRule K)) : Cal P w K mg base 6 "_law_some_book" (spBook K) := by
  refine mkCal D sc_some_book (fun _ _ _ _ _ _ us hl => match us, hl with | [_, _, _], _ => rfl) (fun vs H Q E h => ?_) (fun f cdv A outer s H vs Q E hr h => ?_)
  · obtain ⟨p, c, n, m, rfl, _⟩ := h
    rfl
  · obtain ⟨p, c, n, m, rfl, hn, hm, hP, k⟩ := h
    refine ⟨_, pss_one (ps_ret (pe_callTy call_tuple_of (by rfl) ht (by decide +kernel) (pa_cons (pe_lc (own := [("lap", 3)]) (g := gName 3) (tt := tYes) (by rfl) sc_some_book.nd (pi_range1 (by rfl) G.range (pa_cons (pe_cal CB hr (by decide) (pa_cons (pv 0) (pa_cons (pe_op op_add (pv 1) pe_int) pa_nil))) pa_nil))
          (blkOk_by (own := [("lap", 3)]) (N := ["pot", "many", "most", "lap"]) (sc := defScope s_some_book) (by decide +kernel)) (fun _ _ _ _ _ => pg_name (i := 3) sc_some_book.nd rfl (Or.inl rfl)) (fun _ _ _ _ _ => pts_nil)
          (fun _ _ _ _ _ => pe_cal CR hr (by decide) (pa_cons (pv 0) (pa_cons (pv 2) pa_nil)))) pa_nil))), ?_⟩
    refine ⟨_, rfl, _, rfl, _, _, rfl, rfl, ?_⟩
    refine ⟨p, c, (n : Int) + 1, rfl, hP, by omega, by omega, fun r H4 r0 r1 e4 => ⟨r, rfl, by omega, by omega, fun L nL => ?_⟩⟩
    refine grow (K := K) (p := p) (c := c) (σ := [some (.ref p), some (.int (n : Int)), some (.int (m : Int)), none]) (te := tCall (spRule K) [] E0 (tCons (tVar 0) (tCons (tVar 2) tNil))) (α := Rl) (f := Rl.d) (Ok := RlOk m) (n := r.toNat) (iv := 3) rl_flat e4.pot nL (by omega) (fun _ => rfl) (fun x H' R hp q => ⟨_, rfl, _, rfl, p, c, m, rfl, hm, hp, fun v s H2 ok e th => q v s H2 ok e th⟩) fun vs as H5 hD ta ok2 len e5 => ?_
    exact ⟨L, vs, rfl, .inl ⟨SqL.of hD, fun t nt => k t vs as _ ok2 (by omega) ((e4.trans e5).same (same_upd nt)) upd_same (thAll_same (same_upd nt) ta)⟩⟩
end
end Lk

/-! K12f -/
set_option Elab.async false
set_option linter.all false
set_option maxRecDepth 100000
set_option maxHeartbeats 4000000
namespace Lk
open PySem PySem.Spec PyProof.Rows L2
open Classical in
/-- the stem of a name by the ends of a pattern -/
noncomputable def stemO (b e z : Str) : Option Str := if h : ∃ m : Str, TL.tl z = TL.tl b ++ TL.tl m ++ TL.tl e then some (choose h) else none
theorem stemO_some {b e z m : Str} (h : TL.tl z = TL.tl b ++ TL.tl m ++ TL.tl e) : stemO b e z = some m := by
  have x : ∃ m : Str, TL.tl z = TL.tl b ++ TL.tl m ++ TL.tl e := ⟨m, h⟩
  unfold stemO
  rw [dif_pos x]
  exact congrArg some (TL.ext_tl (List.append_cancel_left (List.append_cancel_right ((Classical.choose_spec x).symm.trans h))))
theorem stemO_none {b e z : Str} (h : ¬ ∃ m : Str, TL.tl z = TL.tl b ++ TL.tl m ++ TL.tl e) : stemO b e z = none := dif_neg h
theorem stemO_eq {b e z m : Str} (h : stemO b e z = some m) : TL.tl z = TL.tl b ++ TL.tl m ++ TL.tl e := by
  apply Classical.byContradiction
  intro n
  by_cases x : ∃ m : Str, TL.tl z = TL.tl b ++ TL.tl m ++ TL.tl e
  · obtain ⟨m', hm⟩ := x
    rw [stemO_some hm] at h
    cases h
    exact n hm
  · rw [stemO_none x] at h
    cases h
theorem stemO_len {b e z m : Str} (h : stemO b e z = some m) : m.length ≤ z.length := by
  have l := congrArg List.length (stemO_eq h)
  rw [List.length_append, List.length_append, ← TL.len_tl, ← TL.len_tl, ← TL.len_tl, ← TL.len_tl] at l
  omega
def vO : Option Str → V
  | some m => .str m
  | none => .non
/-- both answers of a stem at once -/
theorem sw_go {Q : VK} {H : Hp} {b e z : Str} (k : Q (vO (stemO b e z)) H) : (∀ m : Str, TL.tl z = TL.tl b ++ TL.tl m ++ TL.tl e → Q (.str m) H) ∧ ((¬ ∃ m : Str, TL.tl z = TL.tl b ++ TL.tl m ++ TL.tl e) → Q .non H) :=
  ⟨fun m h => by rw [stemO_some h] at k; exact k, fun h => by rw [stemO_none h] at k; exact k⟩
/-- the name that a source is with a stem -/
def Src.put (m : Str) : Src → Str
  | .pat b e => b ++ m ++ e
  | .nm x => x
noncomputable def Rl.to (r : Rl) (z : Str) : Option (List Str) := (stemO r.b r.e z).map fun m => r.ss.map (Src.put m)
def SrcLen : Src → Prop
  | .pat b e => b.length ≤ 3 ∧ e.length ≤ 3
  | .nm x => x.length ≤ 6
structure RlLen (r : Rl) : Prop where
  b : ∀ c ∈ TL.tl r.b, upB c = true
  e : ∀ c ∈ TL.tl r.e, loB c = true
  lb : r.b.length ≤ 3
  le : r.e.length ≤ 3
  ls : r.ss.length ≤ 3
  each : ∀ s ∈ r.ss, SrcLen s
theorem rl_len {r : Rl} (h : dRule r.d = true) : RlLen r := by
  have h2 : (dLabel (.str r.lab) && (dPat (.tuple [.str r.b, .str r.e]) && (decide ((r.ss.map Src.d).length ≤ 3) && (r.ss.map Src.d).all dSrc1))) = true := h
  rw [Bool.and_eq_true, Bool.and_eq_true, Bool.and_eq_true, decide_eq_true_eq, List.length_map, List.all_eq_true] at h2
  obtain ⟨_, hp, hl, hs⟩ := h2
  obtain ⟨a1, a2, a3, a4⟩ := pat_ends hp
  refine ⟨a1, a2, a3, a4, hl, fun s m => ?_⟩
  have q := hs _ (List.mem_map.mpr ⟨s, m, rfl⟩)
  unfold dSrc1 at q
  cases s with
  | pat b e =>
    have q2 : (dPat (.tuple [.str b, .str e]) || (false && decide (0 ≤ 6))) = true := q
    rw [Bool.false_and, Bool.or_false] at q2
    obtain ⟨_, _, b3, b4⟩ := pat_ends q2
    exact ⟨b3, b4⟩
  | nm x =>
    have q2 : (false || (dName (.str x) && decide (x.length ≤ 6))) = true := q
    rw [Bool.false_or, Bool.and_eq_true, decide_eq_true_eq] at q2
    exact q2.2
theorem book_len {rs : List Rl} (h : dBook (.tuple (rs.map Rl.d)) = true) : rs.length ≤ 6 ∧ ∀ r ∈ rs, RlLen r := by
  have h2 : (decide ((rs.map Rl.d).length ≤ 6) && (rs.map Rl.d).all dRule) = true := h
  rw [Bool.and_eq_true, decide_eq_true_eq, List.length_map, List.all_eq_true] at h2
  exact ⟨h2.1, fun r m => rl_len (h2.2 _ (List.mem_map.mpr ⟨r, m, rfl⟩))⟩
section
variable {P : Program} {w : World} {K : PySem.W.Frag} {mg : Str → Option Value} {base : Heap}
theorem th_pair {H : Hp} {v : V} {b e : Str} (h : Th K H v (.tuple [.str b, .str e])) : ∃ q, v = .ref q ∧ SqT K H q [.str b, .str e] := by
  cases h with
  | tup hs ha =>
    cases ha with
    | cons h1 t =>
      cases t with
      | cons h2 t =>
        cases t
        cases h1
        cases h2
        exact ⟨_, rfl, hs⟩
theorem th_rule {H : Hp} {v : V} {r : Rl} (h : Th K H v r.d) : ∃ q p s xs, v = .ref q ∧ SqT K H q [.str r.lab, .ref p, .ref s] ∧ SqT K H p [.str r.b, .str r.e] ∧ SqT K H s xs ∧ ThAll K H xs (r.ss.map Src.d) := by
  unfold Rl.d at h
  cases h with
  | tup hs ha =>
    cases ha with
    | cons h1 t =>
      cases t with
      | cons h2 t =>
        cases t with
        | cons h3 t =>
          cases t
          cases h1
          obtain ⟨p, rfl, hp⟩ := th_pair h2
          cases h3 with
          | tup hs3 ha3 => exact ⟨_, p, _, _, rfl, hs, hp, hs3, ha3⟩
theorem th_src {H : Hp} {v : V} {s : Src} (h : Th K H v s.d) : (∃ x, s = .nm x ∧ v = .str x) ∨ ∃ q b e, s = .pat b e ∧ v = .ref q ∧ SqT K H q [.str b, .str e] := by
  cases s with
  | pat b e =>
    obtain ⟨q, rfl, hq⟩ := th_pair h
    exact .inr ⟨q, b, e, rfl, rfl, hq⟩
  | nm x =>
    cases h
    exact .inl ⟨x, rfl, rfl⟩
/-- [filled(source, within) for source in sources] -/
theorem fills_read {σ : L2.St} {H : Hp} {a : Addr} {xs : List V} {ss : List Src} {m : Str} {j jm iv : Nat} {Q : VK} (hv : σ[j]? = some (some (.ref a))) (hs : SqT K H a xs) (ha : ThAll K H xs (ss.map Src.d)) (small : ss.length ≤ 1000) (len : ∀ s ∈ ss, SrcLen s) (lm : m.length ≤ 1000000)
    (wp : ∀ x : V, wipe ((wipe σ [iv]).set iv (some x)) [iv] = wipe σ [iv]) (hi : ∀ x : V, ((wipe σ [iv]).set iv (some x))[iv]? = some (some x)) (hm : ∀ x : V, ((wipe σ [iv]).set iv (some x))[jm]? = some (some (.str m)))
    (k : ∀ D H', H D = none → Same H H' → H' D = some (.lst ((ss.map (Src.put m)).map V.str)) → Q (.ref D) H') :
    tLc (iTup K (tVar j)) (gName iv) tYes (tCall (spFill K) [] E0 (tCons (tVar iv) (tCons (tVar jm) tNil))) [iv] σ H Q := by
  have hl := thAll_len ha
  rw [List.length_map] at hl
  refine ⟨_, hv, a, rfl, ⟨_, hs⟩, fun D nD => ?_⟩
  refine lc_tup (K := K) (a := a) (xs := xs) (fun i H' => H' D = some (.lst (((ss.take i).map (Src.put m)).map V.str)) ∧ Same H H') ⟨upd_same, same_upd nD⟩ (fun i H' _ h => Same.seqT h.2 hs) ?_ ?_
  · rintro i x H' hx ⟨hD, s⟩
    obtain ⟨d, hd, th⟩ := th_at ha hx
    rw [List.getElem?_map, Option.map_eq_some_iff] at hd
    obtain ⟨c, hc, rfl⟩ := hd
    have lc := len c (List.mem_of_getElem? hc)
    have hlt : i < ss.length := (List.getElem?_eq_some_iff.mp hc).1
    have fin : ∃ acc, H' D = some (.lst acc) ∧ acc.length < sizeLine ∧ (upd H' D (.lst (acc ++ [V.str (c.put m)]))) D = some (.lst (((ss.take (i + 1)).map (Src.put m)).map V.str)) ∧ Same H (upd H' D (.lst (acc ++ [V.str (c.put m)]))) := by
      refine ⟨_, hD, ?_, ?_, same_mut s nD⟩
      · rw [List.length_map, List.length_map, List.length_take, sizeLine_eq]
        omega
      · rw [upd_same, List.take_add_one, hc, List.map_append, List.map_append]
        rfl
    refine ⟨wp x, _, hi x, _, hm x, x, m, rfl, lm, ?_⟩
    rcases th_src (th_same s th) with ⟨y, rfl, rfl⟩ | ⟨q, b, e, rfl, rfl, hq⟩
    · exact .inl ⟨y, rfl, fin⟩
    · exact .inr ⟨q, b, e, rfl, hq, Nat.le_trans lc.1 (by decide), Nat.le_trans lc.2 (by decide), fin⟩
  · rintro H' ⟨hD, s⟩
    rw [hl, List.take_length] at hD
    exact k D H' nD s hD
/-- the rows of the rules that fit a name and are not spent -/
noncomputable def rowOf (z : Str) (ns : List Nat) (c : Rl × Nat) : Option (Nat × List Str) := if c.2 ∈ ns then none else (c.1.to z).map fun ss => (c.2, ss)
noncomputable def fitD (rs : List Rl) (z : Str) (ns : List Nat) : List (Nat × List Str) := rs.zipIdx.filterMap (rowOf z ns)
theorem row_no {z : Str} {ns : List Nat} {r : Rl} {i : Nat} (h : stemO r.b r.e z = none ∨ i ∈ ns) : rowOf z ns (r, i) = none := by
  unfold rowOf Rl.to
  by_cases c : i ∈ ns
  · exact if_pos c
  · rw [if_neg c, h.resolve_right c]
    rfl
theorem row_yes {z : Str} {ns : List Nat} {r : Rl} {i : Nat} {m : Str} (h : stemO r.b r.e z = some m) (n : i ∉ ns) : rowOf z ns (r, i) = some (i, r.ss.map (Src.put m)) := by
  unfold rowOf Rl.to
  rw [if_neg n, h]
  rfl
theorem fm_step {α β : Type} {f : α → Option β} {l : List α} {i : Nat} {x : α} (h : l[i]? = some x) : (l.take (i + 1)).filterMap f = (l.take i).filterMap f ++ (f x).toList := by
  rw [List.take_add_one, h, List.filterMap_append]
  cases e : f x with
  | none => simp [List.filterMap_cons, e]
  | some y => simp [List.filterMap_cons, e]
theorem in_ints {i : Nat} : ∀ {ns : List Nat}, inV (V.int (i : Int)) (ns.map fun n : Nat => V.int (n : Int)) = decide (i ∈ ns)
  | [] => rfl
  | n :: ns => by
    have z := in_ints (i := i) (ns := ns)
    unfold inV at z ⊢
    rw [List.map_cons, List.any_cons, z]
    have e : eqV (V.int (n : Int)) (V.int (i : Int)) = decide (i = n) := by
      show decide ((n : Int) = (i : Int)) = _
      rw [Bool.eq_iff_iff, decide_eq_true_iff, decide_eq_true_iff]
      omega
    rw [e, Bool.eq_iff_iff, Bool.or_eq_true, decide_eq_true_iff, decide_eq_true_iff, decide_eq_true_iff, List.mem_cons]
theorem flat_ints {ns : List Nat} : (ns.map fun n : Nat => V.int (n : Int)).all flatV = true := by
  rw [List.all_eq_true]
  intro v m
  obtain ⟨n, _, rfl⟩ := List.mem_map.mp m
  rfl
/-- a row as it lies on the heap: its pair, its list, its number, its names -/
abbrev Cell := Addr × Addr × Nat × List Str
def CellOk (H : Hp) (c : Cell) : Prop := H c.1 = some (.tup [.int (c.2.2.1 : Int), .ref c.2.1]) ∧ H c.2.1 = some (.lst (c.2.2.2.map V.str))
theorem CellOk.same {H H' : Hp} {c : Cell} (h : CellOk H c) (s : Same H H') : CellOk H' c := ⟨s _ _ h.1, s _ _ h.2⟩
def spFit (K : PySem.W.Frag) : Sp := fun vs H Q _ => ∃ (q : Addr) (xs : List V) (rs : List Rl) (z : Str) (t : Addr) (ns : List Nat), vs = [.ref q, .str z, .ref t] ∧ SqT K H q xs ∧ ThAll K H xs (rs.map Rl.d) ∧ dBook (.tuple (rs.map Rl.d)) = true ∧ z.length ≤ 1000 ∧ SqT K H t (ns.map fun n : Nat => V.int (n : Int)) ∧
  ∀ (p : Addr) (L : List Cell) (H' : Hp), Same H H' → H' p = some (.lst (L.map fun c => V.ref c.1)) → (∀ c ∈ L, CellOk H' c) → L.map (·.2.2) = fitD rs z ns → Q (.ref p) H'
theorem sc_p_fitted : FnScope ["book", "name", "spent", "found", "number", "rule", "_", "pattern", "sources", "within", "source"] ["book", "name", "spent"] (defScope s_p_fitted) := ⟨rfl, rfl, rfl, by decide +kernel, rfl, by decide +kernel, by decide +kernel⟩
theorem cal_p_fitted (D : Def1 K mg "fitted" s_p_fitted) (G : Glb mg) (CW : Cal P w K mg base 1 "stem_within" (spSW K)) (CF : Cal P w K mg base 1 "filled" (spFill K)) : Cal P w K mg base 2 "fitted" (spFit K) := by
  refine mkCal D sc_p_fitted (fun _ _ _ _ _ _ us hl => match us, hl with | [_, _, _], _ => rfl) (fun vs H Q E h => ?_) (fun f cdv A outer s H vs Q E hr h => ?_)
  · obtain ⟨q, xs, rs, z, t, ns, rfl, _⟩ := h
    rfl
  · obtain ⟨q, xs, rs, z, t, ns, rfl, hq, ha, hB, lz, ht, k⟩ := h
    refine ⟨_, (pss_cons (ps_set (i := 3) sc_p_fitted.nd rfl (.inl rfl) (pe_lst pa_nil))
    (pss_cons (ps_for PassesOwn.never rfl (pi_enT (by rfl) G.enumerate (pa_cons (pv 0) pa_nil)) (pg_tup rfl (pgs_cons (pg_name (i := 4) sc_p_fitted.nd rfl (.inl rfl)) (pgs_cons (pg_name (i := 5) sc_p_fitted.nd rfl (.inl rfl)) pgs_nil)))
    (pss_cons (ps_asg (pv 5) (pg_tup rfl (pgs_cons (pg_name (i := 6) sc_p_fitted.nd rfl (.inl rfl)) (pgs_cons (pg_name (i := 7) sc_p_fitted.nd rfl (.inl rfl)) (pgs_cons (pg_name (i := 8) sc_p_fitted.nd rfl (.inl rfl)) pgs_nil)))))
    (pss_cons (ps_set (i := 9) sc_p_fitted.nd rfl (.inr rfl) (pe_cal CW hr (by decide) (pa_cons (pv 7) (pa_cons (pv 1) pa_nil))))
    (pss_one (ps_if (PW.pt (pw_and (pt_cmpR op_notN (pv 9) pe_non (nomark _)) (pw_and1 (pt_cmpR op_notIn_seq (pv 4) (pv 2) (by rfl))))) (pss_one (ps_expr (pe_bm PySem.F.plainAttrs_list PySem.F.slot_list_append PySem.F.type_list_append mt_append (pv 3) (pa_cons (pe_tup (pa_cons (pv 4) (pa_cons (pe_lc (own := [("source", 10)]) (g := gName 10) (tt := tYes) (by rfl) sc_p_fitted.nd (pi_tup (pv 8)) (blkOk_by (own := [("source", 10)]) (N := ["book", "name", "spent", "found", "number", "rule", "_", "pattern", "sources", "within", "source"]) (sc := defScope s_p_fitted) (by decide +kernel)) (fun _ _ _ _ _ => pg_name (i := 10) sc_p_fitted.nd rfl (Or.inl rfl)) (fun _ _ _ _ _ => pts_nil) (fun _ _ _ _ _ => (pe_cal CF hr (by decide) (pa_cons (pv 10) (pa_cons (pv 9) pa_nil))))) pa_nil))) pa_nil)))) pss_nil)))))
    (pss_one (ps_ret (pv 3))))), ?_⟩
    obtain ⟨many, len⟩ := book_len hB
    have hl := thAll_len ha
    rw [List.length_map] at hl
    refine ⟨(by show 0 ≤ sizeLine; decide), fun D nD => ?_⟩
    refine ⟨_, rfl, q, _, rfl, Same.seqT (same_upd nD) hq, for_enT (K := K) (a := q) (xs := xs) (fun i σ H' => ∃ v4 v5 v6 v7 v8 v9 v10 : Option V, σ = [some (.ref q), some (.str z), some (.ref t), some (.ref D), v4, v5, v6, v7, v8, v9, v10] ∧ Same H H' ∧
      ∃ L : List Cell, H' D = some (.lst (L.map fun c => V.ref c.1)) ∧ (∀ c ∈ L, CellOk H' c ∧ c.2.1 ≠ D ∧ c.1 ≠ D) ∧ L.map (·.2.2) = ((rs.zipIdx).take i).filterMap (rowOf z ns))
      ⟨_, _, _, _, _, _, _, rfl, same_upd nD, [], upd_same, (fun _ m => nomatch m), rfl⟩ (fun i σ H' ⟨_, _, _, _, _, _, _, _, s, _⟩ => Same.seqT s hq) ?_ ?_⟩
    · rintro i x σ H' T hx nT ⟨v4, v5, v6, v7, v8, v9, v10, rfl, sH, L, hD, cells, eL⟩
      obtain ⟨d, hd, th⟩ := th_at ha hx
      rw [List.getElem?_map, Option.map_eq_some_iff] at hd
      obtain ⟨r, hr2, rfl⟩ := hd
      have R := len r (List.mem_of_getElem? hr2)
      have hz : (rs.zipIdx)[i]? = some (r, i) := by rw [List.getElem?_zipIdx, hr2]; simp
      have hlt : i < rs.length := (List.getElem?_eq_some_iff.mp hr2).1
      have nTD : D ≠ T := ne_of_none hD nT
      have s1 : Same H' (upd H' T (.tup [.int (i : Int), x])) := same_upd nT
      refine ⟨T, _, rfl, .inl (.inl upd_same), rfl, _, _, rfl, _, _, rfl, rfl, ?_⟩
      generalize upd H' T (.tup [.int (i : Int), x]) = H1 at s1 ⊢
      have sH1 := sH.trans s1
      have hD1 := s1 _ _ hD
      obtain ⟨a, p, s, ys, rfl, ha3, hp, hs, hys⟩ := th_rule (th_same sH1 th)
      refine ⟨_, rfl, a, _, rfl, ha3, rfl, _, _, rfl, _, _, rfl, _, _, rfl, rfl, ?_⟩
      refine ⟨_, rfl, _, rfl, p, r.b, r.e, z, rfl, hp, R.b, R.e, Nat.le_trans R.lb (by decide), Nat.le_trans R.le (by decide), Nat.le_trans lz (by decide), ?_⟩
      have cells1 : ∀ c ∈ L, CellOk H1 c ∧ c.2.1 ≠ D ∧ c.1 ≠ D := fun c m => ⟨(cells c m).1.same s1, (cells c m).2⟩
      have skip : stemO r.b r.e z = none ∨ i ∈ ns → L.map (·.2.2) = ((rs.zipIdx).take (i + 1)).filterMap (rowOf z ns) := fun h => by
        rw [fm_step hz, row_no h, ← eL]
        simp
      cases hst : stemO r.b r.e z with
      | none =>
        refine ⟨fun m hm => ?_, fun _ => ?_⟩
        · rw [stemO_some hm] at hst
          cases hst
        · refine ⟨_, rfl, rfl, _, rfl, ?_⟩
          refine iteF' rfl ?_
          exact ⟨_, _, _, _, _, _, _, rfl, sH1, L, hD1, cells1, skip (.inl hst)⟩
      | some m =>
        refine ⟨fun m' hm => ?_, fun no => absurd ⟨m, stemO_eq hst⟩ no⟩
        rw [stemO_some hm] at hst
        obtain rfl := Option.some.inj hst
        replace hst := stemO_some hm
        refine ⟨_, rfl, rfl, _, rfl, iteT' rfl ?_⟩
        refine ⟨_, rfl, _, rfl, t, _, rfl, .inr (Same.seqT sH1 ht), rfl, flat_ints, _, rfl, ?_⟩
        by_cases hin : i ∈ ns
        · refine iteF' ?_ ?_
          · show (!inV (V.int (i : Int)) _) = false
            rw [in_ints, decide_eq_true hin]
            rfl
          · exact ⟨_, _, _, _, _, _, _, rfl, sH1, L, hD1, cells1, skip (.inr hin)⟩
        · refine iteT' ?_ ?_
          · show (!inV (V.int (i : Int)) _) = true
            rw [in_ints, decide_eq_false hin]
            rfl
          · have lm := stemO_len hst
            refine ⟨_, rfl, .inl ⟨rfl, _, SqL.of hD1⟩, ?_⟩
            refine ⟨_, rfl, ?_⟩
            refine fills_read (K := K) (a := s) (xs := ys) (ss := r.ss) (m := m') rfl hs hys (Nat.le_trans R.ls (by decide)) R.each (by omega) (fun _ => rfl) (fun _ => rfl) (fun _ => rfl) fun l H2 nl s2 hl2 => ?_
            refine ⟨(by show 2 ≤ sizeLine; decide), fun p2 np2 => ?_⟩
            have s3 : Same H2 (upd H2 p2 (.tup [.int (i : Int), .ref l])) := same_upd np2
            have at2 : upd H2 p2 (.tup [.int (i : Int), .ref l]) p2 = some (.tup [.int (i : Int), .ref l]) := upd_same
            have hl3 := s3 _ _ hl2
            have hD3 := s3 _ _ (s2 _ _ hD1)
            have s13 := s2.trans s3
            generalize upd H2 p2 (.tup [.int (i : Int), .ref l]) = H3 at s3 at2 hl3 hD3 s13 ⊢
            have nlD : l ≠ D := fun z => by
              rw [z, hD1] at nl
              cases nl
            have np2D : p2 ≠ D := fun z => by
              rw [z, hD3] at at2
              cases at2
            have few : L.length ≤ 6 := by
              have z1 := congrArg List.length eL
              have z2 := List.length_filterMap_le (rowOf z ns) ((rs.zipIdx).take i)
              rw [List.length_map] at z1
              rw [List.length_take, List.length_zipIdx] at z2
              omega
            refine ⟨D, _, _, rfl, rfl, hD3, by rw [List.length_map, sizeLine_eq]; omega, ?_⟩
            refine ⟨_, _, _, _, _, _, _, rfl, same_mut (sH1.trans s13) nD, L ++ [(p2, l, i, r.ss.map (Src.put m'))], by rw [upd_same, List.map_append]; rfl, fun c mc => ?_, ?_⟩
            · have ok : CellOk H3 c ∧ c.2.1 ≠ D ∧ c.1 ≠ D := by
                rcases List.mem_append.mp mc with mc | mc
                · exact ⟨(cells1 c mc).1.same s13, (cells1 c mc).2⟩
                · rw [List.mem_singleton.mp mc]
                  exact ⟨⟨at2, hl3⟩, nlD, np2D⟩
              refine ⟨⟨?_, ?_⟩, ok.2⟩
              · rw [upd_ne ok.2.2]
                exact ok.1.1
              · rw [upd_ne ok.2.1]
                exact ok.1.2
            · rw [fm_step hz, row_yes hst hin, List.map_append, eL]
              rfl
    · rintro σ H' ⟨v4, v5, v6, v7, v8, v9, v10, rfl, sH, L, hD, cells, eL⟩
      rw [hl, List.take_of_length_le (by rw [List.length_zipIdx]; exact Nat.le_refl _)] at eL
      exact ⟨_, rfl, k D L H' sH hD (fun c m => (cells c m).1) eL⟩
theorem bulkAll_le {c : Nat} : ∀ {ds : List PyData}, (∀ d ∈ ds, d.bulk ≤ c) → PyData.bulkAll ds ≤ ds.length * (c + 1)
  | [], _ => by simp [PyData.bulkAll]
  | d :: ds, h => by
    have z := bulkAll_le fun e m => h e (List.mem_cons_of_mem _ m)
    have y := h d List.mem_cons_self
    rw [PyData.bulkAll, List.length_cons, Nat.add_mul]
    omega
theorem rl_bulk {r : Rl} (h : dRule r.d = true) : r.d.bulk ≤ 100 := by
  have L := rl_len h
  have h2 : ((decide (1 ≤ r.lab.length) && (decide (r.lab.length ≤ 8) && (TL.tl r.lab).all loB)) && (dPat (.tuple [.str r.b, .str r.e]) && dSrcs (.tuple (r.ss.map Src.d)))) = true := h
  rw [Bool.and_eq_true, Bool.and_eq_true, Bool.and_eq_true, decide_eq_true_eq, decide_eq_true_eq] at h2
  have l8 := h2.1.2.1
  have b := L.lb
  have e := L.le
  have s : PyData.bulkAll (r.ss.map Src.d) ≤ (r.ss.map Src.d).length * (8 + 1) := bulkAll_le fun d m => by
    obtain ⟨s, ms, rfl⟩ := List.mem_map.mp m
    have q := L.each s ms
    cases s with
    | pat b e =>
      have q2 : b.length ≤ 3 ∧ e.length ≤ 3 := q
      show b.length + 1 + (e.length + 1 + 0) ≤ 8
      omega
    | nm x =>
      have q2 : x.length ≤ 6 := q
      show x.length ≤ 8
      omega
  rw [List.length_map] at s
  have n := L.ls
  show r.lab.length + 1 + ((r.b.length + 1 + (r.e.length + 1 + 0)) + 1 + (PyData.bulkAll (r.ss.map Src.d) + 1 + 0)) ≤ 100
  omega
theorem book_bulk {rs : List Rl} (h : dBook (.tuple (rs.map Rl.d)) = true) : (PyData.tuple (rs.map Rl.d)).bulk ≤ 1000000 := by
  have h2 : (decide ((rs.map Rl.d).length ≤ 6) && (rs.map Rl.d).all dRule) = true := h
  rw [Bool.and_eq_true, decide_eq_true_eq, List.all_eq_true] at h2
  have s : PyData.bulkAll (rs.map Rl.d) ≤ (rs.map Rl.d).length * (100 + 1) := bulkAll_le fun d m => by
    have q := h2.2 d m
    obtain ⟨r, _, rfl⟩ := List.mem_map.mp m
    exact rl_bulk q
  show PyData.bulkAll (rs.map Rl.d) ≤ 1000000
  have n := h2.1
  omega
def spNeedB (K : PySem.W.Frag) : Sp := fun vs H Q _ => ∃ (q : Addr) (xs : List V) (rs : List Rl), vs = [.ref q] ∧ SqT K H q xs ∧ ThAll K H xs (rs.map Rl.d) ∧ dBook (.tuple (rs.map Rl.d)) = true ∧ ∀ H', Same H H' → Q .non H'
theorem sc_p_need_book : FnScope ["thing"] ["thing"] (defScope s_p_need_book) := ⟨rfl, rfl, rfl, by decide +kernel, rfl, by decide +kernel, by decide +kernel⟩
theorem cal_p_need_book (D : Def1 K mg "need_book" s_p_need_book) (C1 : Cal P w K mg base 6 "is_book" (spOneS K dBook)) : Cal P w K mg base 7 "need_book" (spNeedB K) := by
  refine mkCal D sc_p_need_book (fun _ _ _ _ _ _ us hl => match us, hl with | [_], _ => rfl) (fun vs H Q E h => ?_) (fun f cdv A outer s H vs Q E hr h => ?_)
  · obtain ⟨q, xs, rs, rfl, _⟩ := h
    rfl
  · obtain ⟨q, xs, rs, rfl, hq, ha, hB, k⟩ := h
    refine ⟨_, pss_one (ps_if (pt_not (pt_val (pe_cal C1 hr (by decide) (pa_cons (pv 0) pa_nil)))) (pss_one ps_never) pss_nil), ?_⟩
    exact ⟨_, rfl, .ref q, _, rfl, .tup hq ha, book_bulk hB, fun H' s => ⟨_, rfl, iteF' (by rw [hB]; rfl) (k H' s)⟩⟩
end
end Lk

/-! K12e -/
set_option Elab.async false
set_option linter.all false
set_option maxRecDepth 100000
set_option maxHeartbeats 4000000
namespace Lk
open PySem PySem.Spec PyProof.Rows L2
section
variable {P : Program} {w : World} {K : PySem.W.Frag} {mg : Str → Option Value} {base : Heap}
def ded : List Str → List Str
  | [] => []
  | x :: r => if x ∈ r then ded r else x :: ded r
theorem ded_mem : ∀ {ss : List Str} {y : Str}, y ∈ ded ss ↔ y ∈ ss
  | [], y => Iff.rfl
  | x :: r, y => by
    unfold ded
    split
    · rename_i h
      rw [ded_mem, List.mem_cons]
      exact ⟨.inr, fun z => z.elim (fun e => e ▸ h) id⟩
    · rw [List.mem_cons, List.mem_cons, ded_mem]
theorem ded_nodup : ∀ ss : List Str, (ded ss).Nodup
  | [] => List.nodup_nil
  | x :: r => by
    unfold ded
    split
    · exact ded_nodup r
    · rename_i h
      exact List.nodup_cons.mpr ⟨fun z => h (ded_mem.mp z), ded_nodup r⟩
def ascL (ss : List Str) : List Str := ((ded ss).mergeSort leT).mergeSort leL
theorem ascL_is (ss : List Str) : IsAsc (ascL ss) ss := asc_of (ded_nodup ss) (fun _ => ded_mem) (List.mergeSort_perm _ _) (List.pairwise_mergeSort leT_trans leT_total _)
def strD : PyData → Str
  | .str x => x
  | _ => ""
def dFiles : PyData → Bool
  | .tuple ds => decide (ds.length ≤ 60) && (ds.all dName && decide (ds.map strD = ascL (ds.map strD)))
  | _ => false
theorem names_strs : ∀ {ds : List PyData}, ds.all dName = true → ds = (ds.map strD).map PyData.str
  | [], _ => rfl
  | d :: r, h => by
    rw [List.all_cons, Bool.and_eq_true] at h
    have e : d = .str (strD d) := by
      cases d with
      | str x => rfl
      | _ => exact Bool.noConfusion h.1
    rw [List.map_cons, List.map_cons, ← names_strs h.2, ← e]
theorem strs_vs {H : Hp} : ∀ {xs : List V} {ss : List Str}, ThAll K H xs (ss.map PyData.str) → xs = ss.map V.str
  | [], [], _ => rfl
  | _ :: _, _ :: _, .cons (.str x) t => by rw [List.map_cons, strs_vs t]
theorem eqv_strs : ∀ ss cs : List Str, PyData.eqvAll (ss.map PyData.str) (cs.map PyData.str) = decide (ss = cs)
  | [], [] => rfl
  | [], _ :: _ => rfl
  | _ :: _, [] => rfl
  | x :: r, y :: t => by
    have e : PyData.eqvAll ((x :: r).map PyData.str) ((y :: t).map PyData.str) = ((x == y) && PyData.eqvAll (r.map PyData.str) (t.map PyData.str)) := by
      rw [List.map_cons, List.map_cons, PyData.eqvAll]
      rfl
    rw [e, eqv_strs r t, Bool.eq_iff_iff, Bool.and_eq_true, beq_iff_eq, decide_eq_true_iff, decide_eq_true_iff, List.cons.injEq]
theorem name_ok {x : Str} (h : dName (.str x) = true) : PyData.strOk x = true := by
  refine ok_of_all fun c hc => ?_
  have h2 : (!(TL.tl x).isEmpty && ((TL.tl x).dropWhile upB).all loB) = true := h
  rw [Bool.and_eq_true, List.all_eq_true] at h2
  rw [← List.takeWhile_append_dropWhile (p := upB) (l := TL.tl x)] at hc
  rcases List.mem_append.mp hc with hc | hc
  · have := List.all_eq_true.mp (List.all_takeWhile (p := upB) (l := TL.tl x)) c hc
    simp only [upB, Bool.and_eq_true, decide_eq_true_eq] at this
    omega
  · have := h2.2 c hc
    simp only [loB, Bool.and_eq_true, decide_eq_true_eq] at this
    omega
theorem shaped_tstrs {ss : List Str} (h : ∀ x ∈ ss, PyData.strOk x = true) : SeqAt.shaped (.tuple (ss.map PyData.str)) = true := by
  have h1 : ∀ l : List Str, (∀ x ∈ l, PyData.strOk x = true) → PyData.canLayAll0 (l.map PyData.str) = true ∧ PyData.depthAll (l.map PyData.str) = 0 := fun l => by
    induction l with
    | nil => exact fun _ => ⟨rfl, rfl⟩
    | cons x r ih =>
      intro h
      obtain ⟨a, b⟩ := ih fun y hy => h y (List.mem_cons_of_mem _ hy)
      refine ⟨?_, ?_⟩
      · rw [List.map_cons, PyData.canLayAll0, a, Bool.and_true]
        exact h x List.mem_cons_self
      · rw [List.map_cons, PyData.depthAll, b]
        rfl
  obtain ⟨a, b⟩ := h1 ss h
  unfold SeqAt.shaped
  rw [PyData.canLay0, a, PyData.depth, b]
  rfl
theorem dp_tstrs {H : Hp} : ∀ ss : List Str, DpAll K H (ss.map V.str) (ss.map PyData.str)
  | [] => .nil
  | x :: r => .cons (.str x) (dp_tstrs r)
theorem sc_p_are_files : FnScope ["thing", "name"] ["thing"] (defScope s_p_are_files) := ⟨rfl, rfl, rfl, by decide +kernel, rfl, by decide +kernel, by decide +kernel⟩
theorem cal_p_are_files (D : Def1 K mg "are_files" s_p_are_files) (T : Glc mg) (G : Glb mg) (B : Glk mg) (F : Con1 mg "MOST_FILES" (.int 60)) (C1 : Cal P w K mg base 1 "is_name" (spIsName K)) (C2 : Cal P w K mg base 1 "ascending" (spAsc K)) : Cal P w K mg base 2 "are_files" (spOneS K dFiles) := by
  refine mkCal D sc_p_are_files (fun _ _ _ _ _ _ us hl => match us, hl with | [_], _ => rfl) (fun vs H Q E h => ?_) (fun f cdv A outer s H vs Q E hr h => ?_)
  · obtain ⟨v, d, rfl, _⟩ := h
    rfl
  · obtain ⟨v, d, rfl, ht, hb, k⟩ := h
    refine ⟨_, pss_cons (ps_if (PW.pt (pw_or (pt_not (pt_val (pe_isi (T := "tuple") (pv 0) T.isinst T.tuple (by decide +kernel)))) (pw_or1 (pt_cmpR op_gt (pe_callB call_len_seq (by rfl) G.len PySem.boot_len (pa_cons (pv 0) pa_nil)) (pe_con1 F) (nomark _))))) (pss_one (ps_ret pe_bl)) pss_nil)
      (pss_one (ps_ret (pe_and (pe_callB (cr_all rfl) (by rfl) B.all (by decide +kernel) (pa_cons (pe_lc (own := [("name", 1)]) (g := gName 1) (tt := tYes) (by rfl) sc_p_are_files.nd (pi_tup (pv 0))
        (blkOk_by (own := [("name", 1)]) (N := ["thing", "name"]) (sc := defScope s_p_are_files) (by decide +kernel)) (fun _ _ _ _ _ => pg_name (i := 1) sc_p_are_files.nd rfl (Or.inl rfl)) (fun _ _ _ _ _ => pts_nil)
        (fun _ _ _ _ _ => pe_cal C1 hr (by decide) (pa_cons (pv 1) pa_nil))) pa_nil)) (pe_one (pe_cmpR (op_eqD hr.units) (pv 0) (pe_cal C2 hr (by decide) (pa_cons (pv 0) pa_nil)) (nomark _)))))), ?_⟩
    refine ⟨_, rfl, v, _, _, _, _, rfl, .ty _, th_ty ht, kit_tup d, _, rfl, ?_⟩
    cases e : isTup d with
    | false =>
      have z : dFiles d = false := by
        cases d with
        | tuple ds => cases e
        | _ => rfl
      rw [z] at k
      exact iteT (iteT (k H (Same.refl H)))
    | true =>
      obtain ⟨a, xs, ds, rfl, rfl, hs, ha⟩ := th_tup ht e
      have hl := thAll_len ha
      have ed : dFiles (.tuple ds) = (decide (ds.length ≤ 60) && (ds.all dName && decide (ds.map strD = ascL (ds.map strD)))) := rfl
      refine iteF ⟨_, rfl, a, xs, rfl, .inr hs, _, _, rfl, rfl, _, rfl, ?_⟩
      refine ite2 (fun h1 => ?_) (fun h1 => ?_)
      · have g : ¬ ds.length ≤ 60 := by
          have := of_decide_eq_true h1
          omega
        rw [ed, decide_eq_false g, Bool.false_and] at k
        exact k H (Same.refl H)
      · have g : ds.length ≤ 60 := by
          apply Classical.byContradiction
          intro z
          exact h1 (decide_eq_true (by omega))
        rw [ed, decide_eq_true g, Bool.true_and] at k
        refine all_read (n := 2) rfl hs ha (by omega) (fun _ => rfl) (fun x d H' R hd th s q => ⟨_, rfl, x, d, rfl, th, Nat.le_trans (bulk_in hd) hb, q H' (Same.refl H')⟩) fun H1 s1 => ⟨_, rfl, ?_⟩
        cases e2 : ds.all dName with
        | false =>
          rw [e2, Bool.false_and] at k
          exact iteF (k H1 s1)
        | true =>
          rw [e2, Bool.true_and] at k
          have en := names_strs e2
          generalize ds.map strD = ss at en k
          subst en
          have ex := strs_vs ha
          subst ex
          have ok : ∀ x ∈ ss, PyData.strOk x = true := fun x hx => name_ok (List.all_eq_true.mp e2 _ (List.mem_map.mpr ⟨x, hx, rfl⟩))
          rw [List.length_map] at g
          have small : ∀ y ∈ ss, y.length ≤ sizeLine := fun y hy => by
            have h2 := bulk_in (List.mem_map.mpr ⟨y, hy, rfl⟩ : PyData.str y ∈ ss.map PyData.str)
            have h3 : (PyData.str y).bulk ≤ 1000000 := Nat.le_trans h2 hb
            exact Nat.le_trans h3 (by decide)
          refine iteT ⟨_, rfl, _, rfl, a, ss, rfl, .inr (Same.seqT s1 hs), by show ss.length + 1 < 4096; omega, small, fun cs p H2 s2 hp asc => ?_⟩
          have ec : cs = ascL ss := asc.uniq (ascL_is ss)
          have okc : ∀ x ∈ cs, PyData.strOk x = true := fun x hx => ok x ((asc.mem x).mp hx)
          refine ⟨.tuple (ss.map .str), .tuple (cs.map .str), .tup (Same.seqT (s1.trans s2) hs) (dp_tstrs ss), .tup (.inl (.inl hp)) (dp_tstrs cs), shaped_tstrs ok, shaped_tstrs okc, ?_⟩
          have ev : PyData.eqv (.tuple (ss.map .str)) (.tuple (cs.map .str)) = decide (ss = ascL ss) := by
            rw [← ec]
            exact eqv_strs ss cs
          rw [ev]
          exact k H2 (s1.trans s2)
end
end Lk

/-! K12A -/
set_option Elab.async false
set_option linter.all false
set_option maxRecDepth 100000
set_option maxHeartbeats 4000000
namespace Lk
open PySem PySem.Spec PyProof.Rows L2
section
/-! ### where the program's first checks raise -/
/-- the classes of errors, by number: book, files, name, rule, match -/
structure E5 where
  b : Addr
  f : Addr
  n : Addr
  r : Addr
  m : Addr
def E5.at (e : E5) : Nat → Addr
  | 0 => e.b
  | 1 => e.f
  | 2 => e.n
  | 3 => e.r
  | _ => e.m
def isInt : PyData → Bool
  | .int _ => true
  | .bool _ => true
  | _ => false
def isBol : PyData → Bool
  | .bool _ => true
  | _ => false
theorem kit_int {K : PySem.W.Frag} : ∀ d : PyData, PySem.W.kitOne K (.type (tyN d)) (.type "int") = some (isInt d)
  | .none => kit_ty (show kitB "NoneType" "int" = some false by decide +kernel)
  | .bool _ => kit_ty (show kitB "bool" "int" = some true by decide +kernel)
  | .int _ => kit_ty (show kitB "int" "int" = some true by decide +kernel)
  | .str _ => kit_ty (show kitB "str" "int" = some false by decide +kernel)
  | .list _ => kit_ty (show kitB "list" "int" = some false by decide +kernel)
  | .tuple _ => kit_ty (show kitB "tuple" "int" = some false by decide +kernel)
  | .dict _ => kit_ty (show kitB "dict" "int" = some false by decide +kernel)
theorem kit_bol {K : PySem.W.Frag} : ∀ d : PyData, PySem.W.kitOne K (.type (tyN d)) (.type "bool") = some (isBol d)
  | .none => kit_ty (show kitB "NoneType" "bool" = some false by decide +kernel)
  | .bool _ => kit_ty (show kitB "bool" "bool" = some true by decide +kernel)
  | .int _ => kit_ty (show kitB "int" "bool" = some false by decide +kernel)
  | .str _ => kit_ty (show kitB "str" "bool" = some false by decide +kernel)
  | .list _ => kit_ty (show kitB "list" "bool" = some false by decide +kernel)
  | .tuple _ => kit_ty (show kitB "tuple" "bool" = some false by decide +kernel)
  | .dict _ => kit_ty (show kitB "dict" "bool" = some false by decide +kernel)
/-- a number of a rule -/
def numD (d1 d2 : PyData) : Bool :=
  match d1, d2 with
  | .tuple ds, .int i => decide (0 ≤ i) && decide (i < (ds.length : Int))
  | _, _ => false
def err2 (d1 d3 : PyData) : Option Nat := if dBook d1 = false then some 0 else if dName d3 = false then some 2 else none
def errT (d1 d2 d3 : PyData) : Option Nat := if dBook d1 = false then some 0 else if dFiles d2 = false then some 1 else if dName d3 = false then some 2 else none
def errS (d1 d2 d3 : PyData) : Option Nat := if dBook d1 = false then some 0 else if numD d1 d2 = false then some 3 else if dName d3 = false then some 2 else none
def errN : PyData → Option Nat
  | .list ds => if ds.all dName = false then some 2 else none
  | _ => some 4
def errR (d1 d2 d3 : PyData) : Option Nat := if dBook d1 = false then some 0 else if dFiles d2 = false then some 1 else errN d3
theorem if_t {α : Type} {p : Prop} [Decidable p] {a b c : α} (h : p) (e : (if p then a else b) = c) : a = c := by rw [if_pos h] at e; exact e
theorem if_f {α : Type} {p : Prop} [Decidable p] {a b c : α} (h : ¬ p) (e : (if p then a else b) = c) : b = c := by rw [if_neg h] at e; exact e
end
section
variable {P : Program} {w : World} {K : PySem.W.Frag} {mg : Str → Option Value} {base : Heap} {e : E5}
def spNeedOne (K : PySem.W.Frag) (p : PyData → Bool) (C : Addr) : Sp := fun vs H Q E => ∃ v d, vs = [v] ∧ Th K H v d ∧ d.bulk ≤ 1000000 ∧ (p d = true → ∀ H', Same H H' → Q .non H') ∧ (p d = false → ∀ H', Same H H' → E (.ref C) none H')
theorem sx_need_book : FnScope ["thing"] ["thing"] (defScope s_p_need_book) := ⟨rfl, rfl, rfl, by decide +kernel, rfl, by decide +kernel, by decide +kernel⟩
theorem calx_need_book {C : Addr} (D : Def1 K mg "need_book" s_p_need_book) (R : Err K mg "NoBook" C) (C1 : Cal P w K mg base 6 "is_book" (spOneS K dBook)) : CalX P w K mg base 7 "need_book" (spNeedOne K dBook C) := by
  refine mkCalX D sx_need_book (fun _ _ _ _ _ _ us hl => match us, hl with | [_], _ => rfl) (fun vs H Q E h => ?_) (fun f cdv A outer s H vs Q E hr h => ?_)
  · obtain ⟨v, d, rfl, _⟩ := h
    rfl
  · obtain ⟨v, d, rfl, ht, hb, yes, no⟩ := h
    refine ⟨_, pss_one (ps_if (pt_not (pt_val (pe_cal C1 hr (by decide) (pa_cons (pv 0) pa_nil)))) (pss_one (ps_err R rfl (takes_of rfl rfl rfl rfl))) pss_nil), ?_⟩
    refine ⟨_, rfl, v, d, rfl, ht, hb, fun H1 s1 => ⟨_, rfl, ?_⟩⟩
    cases z : dBook d with
    | true => exact iteF (yes z _ s1)
    | false => exact iteT (no z _ s1)
theorem sx_need_files : FnScope ["thing"] ["thing"] (defScope s_p_need_files) := ⟨rfl, rfl, rfl, by decide +kernel, rfl, by decide +kernel, by decide +kernel⟩
theorem calx_need_files {C : Addr} (D : Def1 K mg "need_files" s_p_need_files) (R : Err K mg "NoFiles" C) (C1 : Cal P w K mg base 2 "are_files" (spOneS K dFiles)) : CalX P w K mg base 7 "need_files" (spNeedOne K dFiles C) := by
  refine mkCalX D sx_need_files (fun _ _ _ _ _ _ us hl => match us, hl with | [_], _ => rfl) (fun vs H Q E h => ?_) (fun f cdv A outer s H vs Q E hr h => ?_)
  · obtain ⟨v, d, rfl, _⟩ := h
    rfl
  · obtain ⟨v, d, rfl, ht, hb, yes, no⟩ := h
    refine ⟨_, pss_one (ps_if (pt_not (pt_val (pe_cal C1 hr (by decide) (pa_cons (pv 0) pa_nil)))) (pss_one (ps_err R rfl (takes_of rfl rfl rfl rfl))) pss_nil), ?_⟩
    refine ⟨_, rfl, v, d, rfl, ht, hb, fun H1 s1 => ⟨_, rfl, ?_⟩⟩
    cases z : dFiles d with
    | true => exact iteF (yes z _ s1)
    | false => exact iteT (no z _ s1)
theorem sx_need_name : FnScope ["thing"] ["thing"] (defScope s_p_need_name) := ⟨rfl, rfl, rfl, by decide +kernel, rfl, by decide +kernel, by decide +kernel⟩
theorem calx_need_name {C : Addr} (D : Def1 K mg "need_name" s_p_need_name) (R : Err K mg "NoName" C) (C1 : Cal P w K mg base 1 "is_name" (spIsName K)) : CalX P w K mg base 7 "need_name" (spNeedOne K dName C) := by
  refine mkCalX D sx_need_name (fun _ _ _ _ _ _ us hl => match us, hl with | [_], _ => rfl) (fun vs H Q E h => ?_) (fun f cdv A outer s H vs Q E hr h => ?_)
  · obtain ⟨v, d, rfl, _⟩ := h
    rfl
  · obtain ⟨v, d, rfl, ht, hb, yes, no⟩ := h
    refine ⟨_, pss_one (ps_if (pt_not (pt_val (pe_cal C1 hr (by decide) (pa_cons (pv 0) pa_nil)))) (pss_one (ps_err R rfl (takes_of rfl rfl rfl rfl))) pss_nil), ?_⟩
    refine ⟨_, rfl, v, d, rfl, ht, hb, _, rfl, ?_⟩
    cases z : dName d with
    | true => exact iteF (yes z _ (Same.refl _))
    | false => exact iteT (no z _ (Same.refl _))
theorem thAll_atX {H : Hp} : ∀ {xs : List V} {ds : List PyData} {i : Nat} {x : V}, ThAll K H xs ds → xs[i]? = some x → ∃ d, ds[i]? = some d ∧ Th K H x d := fun ha hx => th_at ha hx
theorem bulk_memX : ∀ {ds : List PyData} {d : PyData}, d ∈ ds → d.bulk ≤ PyData.bulkAll ds
  | e :: r, d, h => by
    rw [PyData.bulkAll]
    rcases List.mem_cons.mp h with rfl | h
    · omega
    · have := bulk_memX h
      omega
theorem th_lstX {H : Hp} {v : V} {d : PyData} (h : Th K H v d) (e : isLst d = true) : ∃ a xs ds, v = .ref a ∧ d = .list ds ∧ SqL K H a xs ∧ ThAll K H xs ds := by
  cases h with
  | lst hs ha => exact ⟨_, _, _, rfl, rfl, hs, ha⟩
  | _ => cases e
def spNeedNs (K : PySem.W.Frag) (CM CN : Addr) : Sp := fun vs H Q E => ∃ v d z, vs = [v] ∧ Th K H v d ∧ d.bulk ≤ 1000000 ∧ errN d = some z ∧ ∀ H', Same H H' → E (.ref (if z = 2 then CN else CM)) none H'
theorem sx_need_names : FnScope ["thing", "name"] ["thing"] (defScope s_p_need_names) := ⟨rfl, rfl, rfl, by decide +kernel, rfl, by decide +kernel, by decide +kernel⟩
theorem errN_lst {d : PyData} (h : isLst d = false) : errN d = some 4 := by
  cases d with
  | list ds => cases h
  | _ => rfl
theorem calx_need_names {CM CN : Addr} (D : Def1 K mg "need_names" s_p_need_names) (T : Glc mg) (gl : mg "list" = none) (RM : Err K mg "Mismatch" CM) (C1 : CalX P w K mg base 7 "need_name" (spNeedOne K dName CN)) : CalX P w K mg base 8 "need_names" (spNeedNs K CM CN) := by
  refine mkCalX D sx_need_names (fun _ _ _ _ _ _ us hl => match us, hl with | [_], _ => rfl) (fun vs H Q E h => ?_) (fun f cdv A outer s H vs Q E hr h => ?_)
  · obtain ⟨v, d, z, rfl, _⟩ := h
    rfl
  · obtain ⟨v, d, z, rfl, ht, hb, hz, k⟩ := h
    refine ⟨_, pss_cons (ps_if (pt_not (pt_val (pe_isi (T := "list") (pv 0) T.isinst gl (by decide +kernel)))) (pss_one (ps_err RM rfl (takes_of rfl rfl rfl rfl))) pss_nil)
      (pss_one (ps_for (passes_of rfl) rfl (pi_list (pv 0)) (pg_name (i := 1) sx_need_names.nd rfl (.inl rfl)) (pss_one (ps_expr (pe_calX C1 hr (by decide) (takes_of rfl rfl rfl rfl) (pa_cons (pv 1) pa_nil)))))), ?_⟩
    refine ⟨_, rfl, v, _, _, _, _, rfl, .ty _, th_ty ht, kit_lst d, _, rfl, ?_⟩
    cases hl : isLst d with
    | false =>
      refine iteT' rfl ?_
      rw [errN_lst hl] at hz
      cases hz
      exact k _ (Same.refl _)
    | true =>
      refine iteF' rfl ?_
      obtain ⟨a, xs, ds, rfl, rfl, hs, ha⟩ := th_lstX ht hl
      have hl2 := thAll_len ha
      replace hz : (if ds.all dName = false then some 2 else none) = some z := hz
      refine ⟨_, rfl, a, rfl, ⟨_, hs⟩, for_list (K := K) (a := a) (xs := xs) (fun i σ H' => Same H H' ∧ (∃ v1, σ = [some (.ref a), v1]) ∧ ∀ y ∈ ds.take i, dName y = true) ⟨Same.refl _, ⟨_, rfl⟩, fun y m => by simp at m⟩ ?_ ?_ ?_⟩
      · rintro i σ H' _ ⟨s, _⟩
        exact s.seq hs
      · rintro i x σ H' hx ⟨s, ⟨v1, rfl⟩, all⟩
        obtain ⟨d, hd, hx2⟩ := th_at (thAll_same s ha) hx
        have hm : d ∈ ds := List.mem_of_getElem? hd
        refine ⟨_, rfl, x, d, rfl, hx2, Nat.le_trans (bulk_memX hm) hb, fun yes H2 s2 => ⟨s.trans s2, ⟨_, rfl⟩, ?_⟩, fun no H2 s2 => ?_⟩
        · intro y my
          rw [List.take_add_one, hd] at my
          rcases List.mem_append.mp my with my | my
          · exact all y my
          · have ey : y = d := by simpa using my
            rw [ey]
            exact yes
        · have ex : ds.all dName = false := List.all_eq_false.mpr ⟨d, hm, by rw [no]; decide⟩
          have y := if_t ex hz
          cases y
          exact k _ (s.trans s2)
      · rintro σ H' ⟨s, _, all⟩
        rw [hl2, List.take_length] at all
        have ex : ¬ ds.all dName = false := by
          rw [List.all_eq_true.mpr fun y m => all y m]
          decide
        have y := if_f ex hz
        cases y
/-- three things asked -/
def sp3 (K : PySem.W.Frag) (e : E5) (er : PyData → PyData → PyData → Option Nat) : Sp := fun vs H Q E => ∃ v1 v2 v3 d1 d2 d3 z, vs = [v1, v2, v3] ∧ Th K H v1 d1 ∧ Th K H v2 d2 ∧ Th K H v3 d3 ∧ d1.bulk ≤ 1000000 ∧ d2.bulk ≤ 1000000 ∧ d3.bulk ≤ 1000000 ∧
  er d1 d2 d3 = some z ∧ ∀ H', Same H H' → E (.ref (e.at z)) none H'
def sp4 (K : PySem.W.Frag) (e : E5) (er : PyData → PyData → PyData → Option Nat) : Sp := fun vs H Q E => ∃ v1 v2 v3 v4 d1 d2 d3 z, vs = [v1, v2, v3, v4] ∧ Th K H v1 d1 ∧ Th K H v2 d2 ∧ Th K H v3 d3 ∧ d1.bulk ≤ 1000000 ∧ d2.bulk ≤ 1000000 ∧ d3.bulk ≤ 1000000 ∧
  er d1 d2 d3 = some z ∧ ∀ H', Same H H' → E (.ref (e.at z)) none H'
def sp2 (K : PySem.W.Frag) (e : E5) : Sp := fun vs H Q E => ∃ v1 v3 d1 d3 z, vs = [v1, v3] ∧ Th K H v1 d1 ∧ Th K H v3 d3 ∧ d1.bulk ≤ 1000000 ∧ d3.bulk ≤ 1000000 ∧ err2 d1 d3 = some z ∧ ∀ H', Same H H' → E (.ref (e.at z)) none H'
structure Nd (P : Program) (w : World) (K : PySem.W.Frag) (mg : Str → Option Value) (base : Heap) (e : E5) : Prop where
  b : CalX P w K mg base 7 "need_book" (spNeedOne K dBook e.b)
  f : CalX P w K mg base 7 "need_files" (spNeedOne K dFiles e.f)
  n : CalX P w K mg base 7 "need_name" (spNeedOne K dName e.n)
theorem th_of_tupX {H : Hp} {v : V} {ds : List PyData} (h : Th K H v (.tuple ds)) : ∃ a xs, v = .ref a ∧ SqT K H a xs ∧ ThAll K H xs ds := by
  cases h with
  | tup hs ha => exact ⟨_, _, rfl, hs, ha⟩
theorem tf {b : Bool} (h : b = true) : ¬ b = false := by rw [h]; decide
theorem sx_need_things : FnScope ["book", "files", "name"] ["book", "files", "name"] (defScope s_p_need_things) := ⟨rfl, rfl, rfl, by decide +kernel, rfl, by decide +kernel, by decide +kernel⟩
theorem calx_need_things (D : Def1 K mg "need_things" s_p_need_things) (C : Nd P w K mg base e) : CalX P w K mg base 8 "need_things" (sp3 K e errT) := by
  refine mkCalX D sx_need_things (fun _ _ _ _ _ _ us hl => match us, hl with | [_, _, _], _ => rfl) (fun vs H Q E h => ?_) (fun f cdv A outer s H vs Q E hr h => ?_)
  · obtain ⟨v1, v2, v3, d1, d2, d3, z, rfl, _⟩ := h
    rfl
  · obtain ⟨v1, v2, v3, d1, d2, d3, z, rfl, h1, h2, h3, b1, b2, b3, hz, k⟩ := h
    refine ⟨_, pss_cons (ps_expr (pe_calX C.b hr (by decide) (takes_of rfl rfl rfl rfl) (pa_cons (pv 0) pa_nil))) (pss_cons (ps_expr (pe_calX C.f hr (by decide) (takes_of rfl rfl rfl rfl) (pa_cons (pv 1) pa_nil))) (pss_one (ps_expr (pe_calX C.n hr (by decide) (takes_of rfl rfl rfl rfl) (pa_cons (pv 2) pa_nil))))), ?_⟩
    refine ⟨_, rfl, v1, d1, rfl, h1, b1, fun y H1 s1 => ?_, fun y H1 s1 => ?_⟩
    · replace hz := if_f (tf y) hz
      refine ⟨_, rfl, v2, d2, rfl, th_same s1 h2, b2, fun y2 H2 s2 => ?_, fun y2 H2 s2 => ?_⟩
      · replace hz := if_f (tf y2) hz
        refine ⟨_, rfl, v3, d3, rfl, th_same (s1.trans s2) h3, b3, fun y3 H3 s3 => ?_, fun y3 H3 s3 => ?_⟩
        · cases if_f (tf y3) hz
        · cases if_t y3 hz
          exact k _ ((s1.trans s2).trans s3)
      · cases if_t y2 hz
        exact k _ (s1.trans s2)
    · cases if_t y hz
      exact k _ s1
theorem sx_need_run : FnScope ["book", "files", "wishes"] ["book", "files", "wishes"] (defScope s_p_need_run) := ⟨rfl, rfl, rfl, by decide +kernel, rfl, by decide +kernel, by decide +kernel⟩
theorem errN_24 {d : PyData} {z : Nat} (h : errN d = some z) : z = 2 ∨ z = 4 := by
  cases d with
  | list ds =>
    replace h : (if ds.all dName = false then some 2 else none) = some z := h
    by_cases y : ds.all dName = false
    · cases if_t y h
      exact .inl rfl
    · cases if_f y h
  | _ =>
    cases h
    exact .inr rfl
theorem calx_need_run (D : Def1 K mg "need_run" s_p_need_run) (C : Nd P w K mg base e) (CN : CalX P w K mg base 8 "need_names" (spNeedNs K e.m e.n)) : CalX P w K mg base 9 "need_run" (sp3 K e errR) := by
  refine mkCalX D sx_need_run (fun _ _ _ _ _ _ us hl => match us, hl with | [_, _, _], _ => rfl) (fun vs H Q E h => ?_) (fun f cdv A outer s H vs Q E hr h => ?_)
  · obtain ⟨v1, v2, v3, d1, d2, d3, z, rfl, _⟩ := h
    rfl
  · obtain ⟨v1, v2, v3, d1, d2, d3, z, rfl, h1, h2, h3, b1, b2, b3, hz, k⟩ := h
    refine ⟨_, pss_cons (ps_expr (pe_calX C.b hr (by decide) (takes_of rfl rfl rfl rfl) (pa_cons (pv 0) pa_nil))) (pss_cons (ps_expr (pe_calX C.f hr (by decide) (takes_of rfl rfl rfl rfl) (pa_cons (pv 1) pa_nil))) (pss_one (ps_expr (pe_calX CN hr (by decide) (takes_of rfl rfl rfl rfl) (pa_cons (pv 2) pa_nil))))), ?_⟩
    refine ⟨_, rfl, v1, d1, rfl, h1, b1, fun y H1 s1 => ?_, fun y H1 s1 => ?_⟩
    · replace hz := if_f (tf y) hz
      refine ⟨_, rfl, v2, d2, rfl, th_same s1 h2, b2, fun y2 H2 s2 => ?_, fun y2 H2 s2 => ?_⟩
      · replace hz := if_f (tf y2) hz
        refine ⟨_, rfl, v3, d3, z, rfl, th_same (s1.trans s2) h3, b3, hz, fun H3 s3 => ?_⟩
        have q := k _ ((s1.trans s2).trans s3)
        rcases errN_24 hz with rfl | rfl
        · exact q
        · exact q
      · cases if_t y2 hz
        exact k _ (s1.trans s2)
    · cases if_t y hz
      exact k _ s1
end
end Lk

/-! K12B -/
set_option Elab.async false
set_option linter.all false
set_option maxRecDepth 100000
set_option maxHeartbeats 4000000
namespace Lk
open PySem PySem.Spec PyProof.Rows L2
section
variable {P : Program} {w : World} {K : PySem.W.Frag} {mg : Str → Option Value} {base : Heap} {e : E5}
def spNumX (K : PySem.W.Frag) : Sp := fun vs H Q _ => ∃ (v1 v2 : V) (ds : List PyData) (d2 : PyData), vs = [v1, v2] ∧ Th K H v1 (.tuple ds) ∧ Th K H v2 d2 ∧ Q (.bl (numD (.tuple ds) d2)) H
theorem sx_number : FnScope ["book", "thing"] ["book", "thing"] (defScope s_p_is_number_in) := ⟨rfl, rfl, rfl, by decide +kernel, rfl, by decide +kernel, by decide +kernel⟩
theorem calx_number (D : Def1 K mg "is_number_in" s_p_is_number_in) (T : Glc mg) (G : Glb mg) (gb : mg "bool" = none) : Cal P w K mg base 1 "is_number_in" (spNumX K) := by
  refine mkCal D sx_number (fun _ _ _ _ _ _ us hl => match us, hl with | [_, _], _ => rfl) (fun vs H Q E h => ?_) (fun f cdv A outer s H vs Q E hr h => ?_)
  · obtain ⟨v1, v2, ds, d2, rfl, _⟩ := h
    rfl
  · obtain ⟨v1, v2, ds, d2, rfl, h1, h2, k⟩ := h
    refine ⟨_, (pss_one (ps_ret (pe_and (pe_isi (T := "int") (pv 1) T.isinst G.int (by decide +kernel)) (pe_and (pe_not (pe_isi (T := "bool") (pv 1) T.isinst gb (by decide +kernel))) (pe_one (pe_chain op_le op_lt pe_int (pv 1) (pe_callB call_len_seq (by rfl) G.len PySem.boot_len (pa_cons (pv 0) pa_nil)))))))), ?_⟩
    refine ⟨_, rfl, v2, _, _, _, _, rfl, .ty _, th_ty h2, kit_int d2, _, rfl, ?_⟩
    cases hi : isInt d2 with
    | false =>
      refine iteF' rfl ?_
      have z : numD (.tuple ds) d2 = false := by
        cases d2 with
        | int i => cases hi
        | _ => rfl
      rw [z] at k
      exact k
    | true =>
      refine iteT' rfl ⟨_, rfl, v2, _, _, _, _, rfl, .ty _, th_ty h2, kit_bol d2, _, rfl, _, rfl, ?_⟩
      cases hb : isBol d2 with
      | true =>
        refine iteF' rfl ?_
        have z : numD (.tuple ds) d2 = false := by
          cases d2 with
          | bool i => rfl
          | _ => cases hb
        rw [z] at k
        exact k
      | false =>
        refine iteT' rfl ?_
        obtain ⟨i, rfl⟩ : ∃ i, d2 = .int i := by
          cases d2 with
          | int i => exact ⟨i, rfl⟩
          | bool i => cases hb
          | _ => cases hi
        obtain rfl : v2 = .int i := by
          cases h2
          rfl
        obtain ⟨a, xs, rfl, ha, hx⟩ := th_of_tupX h1
        have hl := thAll_len hx
        replace k : Q (.bl (decide (0 ≤ i) && decide (i < (ds.length : Int)))) H := k
        refine ⟨_, rfl, _, _, rfl, rfl, _, rfl, ?_⟩
        by_cases y : 0 ≤ i
        · refine iteT' (decide_eq_true y) ⟨_, rfl, a, xs, rfl, .inr ha, _, _, rfl, rfl, ?_⟩
          rw [decide_eq_true y, Bool.true_and, ← hl] at k
          exact k
        · refine iteF' (decide_eq_false y) ?_
          rw [decide_eq_false y, Bool.false_and] at k
          exact k
theorem book_tup {d : PyData} (h : dBook d = true) : ∃ ds, d = .tuple ds := by
  cases d with
  | tuple ds => exact ⟨ds, rfl⟩
  | _ => cases h
def spSrcX (K : PySem.W.Frag) (e : E5) : Sp := fun vs H Q E => sp3 K e errS vs H Q E ∨ ∃ (q : Addr) (xs : List V) (rs : List Rl) (n : Nat) (r : Rl) (z : Str), vs = [.ref q, .int (n : Int), .str z] ∧ SqT K H q xs ∧ ThAll K H xs (rs.map Rl.d) ∧ dBook (.tuple (rs.map Rl.d)) = true ∧ rs[n]? = some r ∧ z.length ≤ 1000 ∧ dName (.str z) = true ∧
  stemO r.b r.e z = none ∧ ∀ H', Same H H' → E (.ref e.m) none H'
theorem sx_sources_of : FnScope ["book", "number", "name", "_", "pattern", "sources", "within", "source"] ["book", "number", "name"] (defScope s_p_sources_of) := ⟨rfl, rfl, rfl, by decide +kernel, rfl, by decide +kernel, by decide +kernel⟩
theorem calx_sources_of (D : Def1 K mg "sources_of" s_p_sources_of) (C : Nd P w K mg base e) (RR : Err K mg "NoRule" e.r) (RM : Err K mg "Mismatch" e.m) (CI : Cal P w K mg base 1 "is_number_in" (spNumX K)) (CW : Cal P w K mg base 1 "stem_within" (spSW K)) : CalX P w K mg base 8 "sources_of" (spSrcX K e) := by
  refine mkCalX D sx_sources_of (fun _ _ _ _ _ _ us hl => match us, hl with | [_, _, _], _ => rfl) (fun vs H Q E h => ?_) (fun f cdv A outer s H vs Q E hr h => ?_)
  · rcases h with ⟨v1, v2, v3, d1, d2, d3, z, rfl, _⟩ | ⟨q, xs, rs, n, r, z, rfl, _⟩
    · rfl
    · rfl
  · refine ⟨_, (pss_cons (ps_expr (pe_calX C.b hr (by decide) (takes_of rfl rfl rfl rfl) (pa_cons (pv 0) pa_nil)))
    (pss_cons (ps_if (pt_not (pt_val (pe_cal CI hr (by decide) (pa_cons (pv 0) (pa_cons (pv 1) pa_nil))))) (pss_one (ps_err RR rfl (takes_of rfl rfl rfl rfl))) pss_nil)
    (pss_cons (ps_expr (pe_calX C.n hr (by decide) (takes_of rfl rfl rfl rfl) (pa_cons (pv 2) pa_nil)))
    (pss_cons (ps_asg (pe_ix ix_tup (pv 0) (pv 1) (fun _ _ => rfl)) (pg_tup rfl (pgs_cons (pg_name (i := 3) sx_sources_of.nd rfl (.inl rfl)) (pgs_cons (pg_name (i := 4) sx_sources_of.nd rfl (.inl rfl)) (pgs_cons (pg_name (i := 5) sx_sources_of.nd rfl (.inl rfl)) pgs_nil)))))
    (pss_cons (ps_set (i := 6) sx_sources_of.nd rfl (.inr rfl) (pe_cal CW hr (by decide) (pa_cons (pv 4) (pa_cons (pv 2) pa_nil))))
    (pss_cons (ps_if (pt_cmpR op_isN (pv 6) pe_non (nomark _)) (pss_one (ps_err RM rfl (takes_of rfl rfl rfl rfl))) pss_nil)
    (pss_one ps_never))))))), ?_⟩
    rcases h with ⟨v1, v2, v3, d1, d2, d3, z, rfl, h1, h2, h3, b1, b2, b3, hz, k⟩ | ⟨q, xs, rs, n, r, z, rfl, hq, ha, hB, hn, lz, nz, hst, k⟩
    · refine ⟨_, rfl, v1, d1, rfl, h1, b1, fun y H1 s1 => ?_, fun y H1 s1 => ?_⟩
      · replace hz := if_f (tf y) hz
        obtain ⟨ds, rfl⟩ := book_tup y
        refine ⟨_, rfl, _, rfl, v1, v2, ds, d2, rfl, th_same s1 h1, th_same s1 h2, _, rfl, ?_⟩
        cases y2 : numD (.tuple ds) d2 with
        | false =>
          refine iteT' rfl ?_
          cases if_t y2 hz
          exact k _ s1
        | true =>
          refine iteF' rfl ?_
          replace hz := if_f (tf y2) hz
          refine ⟨_, rfl, v3, d3, rfl, th_same s1 h3, b3, fun y3 H3 s3 => ?_, fun y3 H3 s3 => ?_⟩
          · cases if_f (tf y3) hz
          · cases if_t y3 hz
            exact k _ (s1.trans s3)
      · cases if_t y hz
        exact k _ s1
    · obtain ⟨many, len⟩ := book_len hB
      have hl := thAll_len ha
      rw [List.length_map] at hl
      have R := len r (List.mem_of_getElem? hn)
      have ln := (List.getElem?_eq_some_iff.mp hn).1
      have lt : n < xs.length := by
        rw [hl]
        exact ln
      refine ⟨_, rfl, .ref q, _, rfl, .tup hq ha, book_bulk hB, fun y H1 s1 => ?_, fun y H1 s1 => ?_⟩
      · refine ⟨_, rfl, _, rfl, .ref q, .int (n : Int), _, .int (n : Int), rfl, .tup (Same.seqT s1 hq) (thAll_same s1 ha), .int _, _, rfl, ?_⟩
        have nt : numD (.tuple (rs.map Rl.d)) (.int (n : Int)) = true := by
          show (decide (0 ≤ (n : Int)) && decide ((n : Int) < ((rs.map Rl.d).length : Int))) = true
          rw [List.length_map, decide_eq_true (by omega), decide_eq_true (by omega)]
          rfl
        refine iteF' (by rw [nt]; rfl) ?_
        refine ⟨_, rfl, .str z, .str z, rfl, .str z, (by show z.length ≤ 1000000; omega), fun y3 H3 s3 => ?_, fun y3 H3 s3 => ?_⟩
        · have s13 := s1.trans s3
          have hx := List.getElem?_eq_getElem lt
          generalize xs[n] = x at hx
          obtain ⟨d, hd, th⟩ := th_at ha hx
          rw [List.getElem?_map, hn] at hd
          obtain rfl := Option.some.inj hd
          obtain ⟨a, p, s, ys, rfl, ha3, hp, hs, hys⟩ := th_rule (th_same s13 th)
          refine ⟨_, rfl, _, rfl, q, xs, n, .ref a, rfl, rfl, Same.seqT s13 hq, atI_nat hx, ?_⟩
          refine ⟨a, _, rfl, ha3, rfl, _, _, rfl, _, _, rfl, _, _, rfl, rfl, ?_⟩
          refine ⟨_, rfl, _, rfl, p, r.b, r.e, z, rfl, hp, R.b, R.e, Nat.le_trans R.lb (by decide), Nat.le_trans R.le (by decide), Nat.le_trans lz (by decide), fun m' hm => ?_, fun no => ?_⟩
          · rw [stemO_some hm] at hst
            cases hst
          · refine ⟨_, rfl, rfl, _, rfl, iteT' rfl ?_⟩
            exact k _ s13
        · rw [nz] at y3
          cases y3
      · rw [hB] at y
        cases y
theorem sx_fitting : FnScope ["book", "name", "number", "_"] ["book", "name"] (defScope s_p_fitting) := ⟨rfl, rfl, rfl, by decide +kernel, rfl, by decide +kernel, by decide +kernel⟩
theorem calx_fitting (D : Def1 K mg "fitting" s_p_fitting) (C : Nd P w K mg base e) : CalX P w K mg base 8 "fitting" (sp2 K e) := by
  refine mkCalX D sx_fitting (fun _ _ _ _ _ _ us hl => match us, hl with | [_, _], _ => rfl) (fun vs H Q E h => ?_) (fun f cdv A outer s H vs Q E hr h => ?_)
  · obtain ⟨v1, v3, d1, d3, z, rfl, _⟩ := h
    rfl
  · obtain ⟨v1, v3, d1, d3, z, rfl, h1, h3, b1, b3, hz, k⟩ := h
    refine ⟨_, pss_cons (ps_expr (pe_calX C.b hr (by decide) (takes_of rfl rfl rfl rfl) (pa_cons (pv 0) pa_nil))) (pss_cons (ps_expr (pe_calX C.n hr (by decide) (takes_of rfl rfl rfl rfl) (pa_cons (pv 1) pa_nil))) (pss_one ps_never)), ?_⟩
    refine ⟨_, rfl, v1, d1, rfl, h1, b1, fun y H1 s1 => ?_, fun y H1 s1 => ?_⟩
    · replace hz := if_f (tf y) hz
      refine ⟨_, rfl, v3, d3, rfl, th_same s1 h3, b3, fun y3 H3 s3 => ?_, fun y3 H3 s3 => ?_⟩
      · cases if_f (tf y3) hz
      · cases if_t y3 hz
        exact k _ (s1.trans s3)
    · cases if_t y hz
      exact k _ s1
theorem sx_kin : FnScope ["book", "name"] ["book", "name"] (defScope s_p_kin) := ⟨rfl, rfl, rfl, by decide +kernel, rfl, by decide +kernel, by decide +kernel⟩
theorem calx_kin (D : Def1 K mg "kin" s_p_kin) (C : Nd P w K mg base e) : CalX P w K mg base 8 "kin" (sp2 K e) := by
  refine mkCalX D sx_kin (fun _ _ _ _ _ _ us hl => match us, hl with | [_, _], _ => rfl) (fun vs H Q E h => ?_) (fun f cdv A outer s H vs Q E hr h => ?_)
  · obtain ⟨v1, v3, d1, d3, z, rfl, _⟩ := h
    rfl
  · obtain ⟨v1, v3, d1, d3, z, rfl, h1, h3, b1, b3, hz, k⟩ := h
    refine ⟨_, pss_cons (ps_expr (pe_calX C.b hr (by decide) (takes_of rfl rfl rfl rfl) (pa_cons (pv 0) pa_nil))) (pss_cons (ps_expr (pe_calX C.n hr (by decide) (takes_of rfl rfl rfl rfl) (pa_cons (pv 1) pa_nil))) (pss_one ps_never)), ?_⟩
    refine ⟨_, rfl, v1, d1, rfl, h1, b1, fun y H1 s1 => ?_, fun y H1 s1 => ?_⟩
    · replace hz := if_f (tf y) hz
      refine ⟨_, rfl, v3, d3, rfl, th_same s1 h3, b3, fun y3 H3 s3 => ?_, fun y3 H3 s3 => ?_⟩
      · cases if_f (tf y3) hz
      · cases if_t y3 hz
        exact k _ (s1.trans s3)
    · cases if_t y hz
      exact k _ s1
theorem sx_way : FnScope ["book", "files", "name"] ["book", "files", "name"] (defScope s_p_way) := ⟨rfl, rfl, rfl, by decide +kernel, rfl, by decide +kernel, by decide +kernel⟩
theorem calx_way (D : Def1 K mg "way" s_p_way) (C : CalX P w K mg base 8 "need_things" (sp3 K e errT)) : CalX P w K mg base 9 "way" (sp3 K e errT) := by
  refine mkCalX D sx_way (fun _ _ _ _ _ _ us hl => match us, hl with | [_, _, _], _ => rfl) (fun vs H Q E h => ?_) (fun f cdv A outer s H vs Q E hr h => ?_)
  · obtain ⟨v1, v2, v3, d1, d2, d3, z, rfl, _⟩ := h
    rfl
  · obtain ⟨v1, v2, v3, d1, d2, d3, z, rfl, h⟩ := h
    refine ⟨_, pss_cons (ps_expr (pe_calX C hr (by decide) (takes_of rfl rfl rfl rfl) (pa_cons (pv 0) (pa_cons (pv 1) (pa_cons (pv 2) pa_nil))))) (pss_one ps_never), ?_⟩
    exact ⟨_, rfl, _, rfl, _, rfl, v1, v2, v3, d1, d2, d3, z, rfl, h⟩
theorem sx_can : FnScope ["book", "files", "name"] ["book", "files", "name"] (defScope s_p_can) := ⟨rfl, rfl, rfl, by decide +kernel, rfl, by decide +kernel, by decide +kernel⟩
theorem calx_can (D : Def1 K mg "can" s_p_can) (C : CalX P w K mg base 9 "way" (sp3 K e errT)) : CalX P w K mg base 10 "can" (sp3 K e errT) := by
  refine mkCalX D sx_can (fun _ _ _ _ _ _ us hl => match us, hl with | [_, _, _], _ => rfl) (fun vs H Q E h => ?_) (fun f cdv A outer s H vs Q E hr h => ?_)
  · obtain ⟨v1, v2, v3, d1, d2, d3, z, rfl, _⟩ := h
    rfl
  · obtain ⟨v1, v2, v3, d1, d2, d3, z, rfl, h⟩ := h
    refine ⟨_, pss_one (ps_ret (pe_cmpR op_notN (pe_calX C hr (by decide) (takes_of rfl rfl rfl rfl) (pa_cons (pv 0) (pa_cons (pv 1) (pa_cons (pv 2) pa_nil)))) pe_non (nomark _))), ?_⟩
    exact ⟨_, rfl, _, rfl, _, rfl, v1, v2, v3, d1, d2, d3, z, rfl, h⟩
theorem sx_made_by : FnScope ["book", "files", "name", "told", "made", "file"] ["book", "files", "name"] (defScope s_p_made_by) := ⟨rfl, rfl, rfl, by decide +kernel, rfl, by decide +kernel, by decide +kernel⟩
theorem calx_made_by (D : Def1 K mg "made_by" s_p_made_by) (C : CalX P w K mg base 9 "way" (sp3 K e errT)) : CalX P w K mg base 10 "made_by" (sp3 K e errT) := by
  refine mkCalX D sx_made_by (fun _ _ _ _ _ _ us hl => match us, hl with | [_, _, _], _ => rfl) (fun vs H Q E h => ?_) (fun f cdv A outer s H vs Q E hr h => ?_)
  · obtain ⟨v1, v2, v3, d1, d2, d3, z, rfl, _⟩ := h
    rfl
  · obtain ⟨v1, v2, v3, d1, d2, d3, z, rfl, h⟩ := h
    refine ⟨_, pss_cons (ps_set (i := 3) sx_made_by.nd rfl (.inl rfl) (pe_calX C hr (by decide) (takes_of rfl rfl rfl rfl) (pa_cons (pv 0) (pa_cons (pv 1) (pa_cons (pv 2) pa_nil))))) (pss_cons ps_never (pss_cons ps_never (pss_one ps_never))), ?_⟩
    exact ⟨_, rfl, _, rfl, _, rfl, v1, v2, v3, d1, d2, d3, z, rfl, h⟩
theorem sx_shows_way : FnScope ["book", "files", "name", "thing"] ["book", "files", "name", "thing"] (defScope s_p_shows_way) := ⟨rfl, rfl, rfl, by decide +kernel, rfl, by decide +kernel, by decide +kernel⟩
theorem calx_shows_way (D : Def1 K mg "shows_way" s_p_shows_way) (C : CalX P w K mg base 8 "need_things" (sp3 K e errT)) : CalX P w K mg base 9 "shows_way" (sp4 K e errT) := by
  refine mkCalX D sx_shows_way (fun _ _ _ _ _ _ us hl => match us, hl with | [_, _, _, _], _ => rfl) (fun vs H Q E h => ?_) (fun f cdv A outer s H vs Q E hr h => ?_)
  · obtain ⟨v1, v2, v3, v4, d1, d2, d3, z, rfl, _⟩ := h
    rfl
  · obtain ⟨v1, v2, v3, v4, d1, d2, d3, z, rfl, h⟩ := h
    refine ⟨_, pss_cons (ps_expr (pe_calX C hr (by decide) (takes_of rfl rfl rfl rfl) (pa_cons (pv 0) (pa_cons (pv 1) (pa_cons (pv 2) pa_nil))))) (pss_one ps_never), ?_⟩
    exact ⟨_, rfl, _, rfl, _, rfl, v1, v2, v3, d1, d2, d3, z, rfl, h⟩
theorem sx_gone_through : FnScope ["book", "files", "wishes", "search", "made", "missed", "wish", "told"] ["book", "files", "wishes"] (defScope s_p_gone_through) := ⟨rfl, rfl, rfl, by decide +kernel, rfl, by decide +kernel, by decide +kernel⟩
theorem calx_gone_through (D : Def1 K mg "gone_through" s_p_gone_through) (C : CalX P w K mg base 9 "need_run" (sp3 K e errR)) : CalX P w K mg base 10 "gone_through" (sp3 K e errR) := by
  refine mkCalX D sx_gone_through (fun _ _ _ _ _ _ us hl => match us, hl with | [_, _, _], _ => rfl) (fun vs H Q E h => ?_) (fun f cdv A outer s H vs Q E hr h => ?_)
  · obtain ⟨v1, v2, v3, d1, d2, d3, z, rfl, _⟩ := h
    rfl
  · obtain ⟨v1, v2, v3, d1, d2, d3, z, rfl, h⟩ := h
    refine ⟨_, pss_cons (ps_expr (pe_calX C hr (by decide) (takes_of rfl rfl rfl rfl) (pa_cons (pv 0) (pa_cons (pv 1) (pa_cons (pv 2) pa_nil))))) (pss_cons ps_never (pss_cons ps_never (pss_cons ps_never (pss_cons ps_never (pss_one ps_never))))), ?_⟩
    exact ⟨_, rfl, _, rfl, _, rfl, v1, v2, v3, d1, d2, d3, z, rfl, h⟩
theorem sx_run : FnScope ["book", "files", "wishes", "made", "missed", "_"] ["book", "files", "wishes"] (defScope s_p_run) := ⟨rfl, rfl, rfl, by decide +kernel, rfl, by decide +kernel, by decide +kernel⟩
theorem calx_run (D : Def1 K mg "run" s_p_run) (C : CalX P w K mg base 10 "gone_through" (sp3 K e errR)) : CalX P w K mg base 11 "run" (sp3 K e errR) := by
  refine mkCalX D sx_run (fun _ _ _ _ _ _ us hl => match us, hl with | [_, _, _], _ => rfl) (fun vs H Q E h => ?_) (fun f cdv A outer s H vs Q E hr h => ?_)
  · obtain ⟨v1, v2, v3, d1, d2, d3, z, rfl, _⟩ := h
    rfl
  · obtain ⟨v1, v2, v3, d1, d2, d3, z, rfl, h⟩ := h
    refine ⟨_, pss_cons (ps_asg (pe_calX C hr (by decide) (takes_of rfl rfl rfl rfl) (pa_cons (pv 0) (pa_cons (pv 1) (pa_cons (pv 2) pa_nil)))) (pg_tup rfl (pgs_cons (pg_name (i := 3) sx_run.nd rfl (.inl rfl)) (pgs_cons (pg_name (i := 4) sx_run.nd rfl (.inl rfl)) (pgs_cons (pg_name (i := 5) sx_run.nd rfl (.inl rfl)) pgs_nil))))) (pss_one ps_never), ?_⟩
    exact ⟨_, rfl, _, rfl, _, rfl, v1, v2, v3, d1, d2, d3, z, rfl, h⟩
theorem sx_files_after : FnScope ["book", "files", "wishes", "swept", "made", "_", "there", "away", "name"] ["book", "files", "wishes", "swept"] (defScope s_p_files_after) := ⟨rfl, rfl, rfl, by decide +kernel, rfl, by decide +kernel, by decide +kernel⟩
theorem calx_files_after (D : Def1 K mg "files_after" s_p_files_after) (C : CalX P w K mg base 10 "gone_through" (sp3 K e errR)) : CalX P w K mg base 11 "files_after" (sp4 K e errR) := by
  refine mkCalX D sx_files_after (fun _ _ _ _ _ _ us hl => match us, hl with | [_, _, _, _], _ => rfl) (fun vs H Q E h => ?_) (fun f cdv A outer s H vs Q E hr h => ?_)
  · obtain ⟨v1, v2, v3, v4, d1, d2, d3, z, rfl, _⟩ := h
    rfl
  · obtain ⟨v1, v2, v3, v4, d1, d2, d3, z, rfl, h⟩ := h
    refine ⟨_, pss_cons (ps_asg (pe_calX C hr (by decide) (takes_of rfl rfl rfl rfl) (pa_cons (pv 0) (pa_cons (pv 1) (pa_cons (pv 2) pa_nil)))) (pg_tup rfl (pgs_cons (pg_name (i := 4) sx_files_after.nd rfl (.inl rfl)) (pgs_cons (pg_name (i := 5) sx_files_after.nd rfl (.inl rfl)) (pgs_cons (pg_name (i := 6) sx_files_after.nd rfl (.inl rfl)) pgs_nil))))) (pss_cons ps_never (pss_one ps_never)), ?_⟩
    exact ⟨_, rfl, _, rfl, _, rfl, v1, v2, v3, d1, d2, d3, z, rfl, h⟩
theorem sx_settled : FnScope ["book", "files", "wishes", "search", "made", "many", "wish", "told"] ["book", "files", "wishes"] (defScope s_p_settled) := ⟨rfl, rfl, rfl, by decide +kernel, rfl, by decide +kernel, by decide +kernel⟩
theorem calx_settled (D : Def1 K mg "settled" s_p_settled) (C : CalX P w K mg base 9 "need_run" (sp3 K e errR)) : CalX P w K mg base 10 "settled" (sp3 K e errR) := by
  refine mkCalX D sx_settled (fun _ _ _ _ _ _ us hl => match us, hl with | [_, _, _], _ => rfl) (fun vs H Q E h => ?_) (fun f cdv A outer s H vs Q E hr h => ?_)
  · obtain ⟨v1, v2, v3, d1, d2, d3, z, rfl, _⟩ := h
    rfl
  · obtain ⟨v1, v2, v3, d1, d2, d3, z, rfl, h⟩ := h
    refine ⟨_, pss_cons (ps_expr (pe_calX C hr (by decide) (takes_of rfl rfl rfl rfl) (pa_cons (pv 0) (pa_cons (pv 1) (pa_cons (pv 2) pa_nil))))) (pss_cons ps_never (pss_cons ps_never (pss_cons ps_never (pss_cons ps_never (pss_one ps_never))))), ?_⟩
    exact ⟨_, rfl, _, rfl, _, rfl, v1, v2, v3, d1, d2, d3, z, rfl, h⟩
end
end Lk

/-! K12C -/
set_option Elab.async false
set_option linter.all false
set_option maxRecDepth 100000
set_option maxHeartbeats 4000000
namespace Lk
open PySem PySem.Spec PyProof.Rows L2
section
/-! ### calls of an expression that gives one of some defs -/
def FnE (P : Program) (w : World) (K : PySem.W.Frag) (mg : Str → Option Value) (base : Heap) (k : Nat) (p : Addr × Sp) : Prop := ∃ (fd : FuncData) (ps : List Str), FnOk P w K mg base (L2.CX P w) k p.1 fd ps p.2 ∧ PySem.W.keepIn K (.ref p.1) = true ∧ Binds K fd ps []
def tCallE (Fs : List (Addr × Sp)) (E : L2.St → XK) (tf : TE) (t : TA) : TE := fun σ H Q => tf σ H fun y H1 => ∃ a sp, y = V.ref a ∧ (a, sp) ∈ Fs ∧ t σ H1 fun vs H2 => sp vs H2 Q (E σ)
/-- the callee is an expression, no name: what its call does -/
def ByE (fe e : Expr) (es : List Expr) (pos : Pos) (v : Env) : Prop := eval (.Call fe (e :: es) [] pos) v = (do callWith pos (← eval fe v) [] (backTo pos (starEach (e :: es) v)) (backToKw pos (keywordEach [] v)))
theorem pe_calE {X : Cx} {W : WX} {k j : Nat} {Fs : List (Addr × Sp)} {fe : Expr} {tf : TE} {t : TA} {e : Expr} {es : List Expr} {pos : Pos} (hf : PE X fe tf) (c : ∀ p ∈ Fs, FnE X.prog X.w X.K X.mg X.base k p) (hr : Room j X.A) (hk : k ≤ j) (tk : Takes X W) (ha : PA X (e :: es) t)
    (ht : ByE fe e es pos X.env := by rfl) (h1 : starEach (e :: es) X.env = (false, eval e X.env) :: starEach es X.env := by rfl) (h2 : (backTo pos (starEach es X.env)).any (·.1) = false := by rfl) :
    PE X (.Call fe (e :: es) [] pos) (tCallE Fs (WE W) tf t) := by
  constructor
  intro pins s σ H Q I h
  refine Call_ ?_ ht
  apply thn (hf.run pins s σ H _ I h)
  rintro u s1 ⟨y, H1, I1, ry, a, sp, rfl, hm, q⟩
  cases ry
  obtain ⟨fd, ps, F, kp, b⟩ := c _ hm
  apply PySem.W.callWith_K (h₀ := X.base) I1.ok.mod.kin kp ?_ h1 h2
  apply thn (ha.run pos pins s1 σ H1 _ I1 q)
  rintro us s2 ⟨vs, H2, I2, r, q2⟩
  exact ⟨I2.kIn, run_fnS F (hr.mono hk) b (passAt tk σ) I2 r q2⟩
theorem calX_at {P : Program} {w : World} {K : PySem.W.Frag} {mg : Str → Option Value} {base : Heap} {k : Nat} {x : String} {sp : Sp} (c : CalX P w K mg base k x sp) : ∃ a, mg x = some (.ref a) ∧ FnE P w K mg base k (a, sp) := by
  obtain ⟨f, fd, ps, F, m, kp, b⟩ := c.ex
  exact ⟨f, m, fd, ps, F, kp, b⟩
theorem FnE.mono {P : Program} {w : World} {K : PySem.W.Frag} {mg : Str → Option Value} {base : Heap} {k j : Nat} {p : Addr × Sp} (h : FnE P w K mg base k p) (le : k ≤ j) : FnE P w K mg base j p := by
  obtain ⟨fd, ps, F, kp, b⟩ := h
  exact ⟨fd, ps, FnOk.mono F le, kp, b⟩
end
end Lk

/-! K12D -/
set_option Elab.async false
set_option linter.all false
set_option maxRecDepth 100000
set_option maxHeartbeats 4000000
namespace Lk
open PySem PySem.Spec PyProof.Rows L2
section
variable {P : Program} {w : World} {K : PySem.W.Frag} {mg : Str → Option Value} {base : Heap} {e : E5}
def errD : Nat → PyData → PyData → PyData → Option Nat
  | 0, d1, _, d3 => err2 d1 d3
  | 1, d1, _, d3 => err2 d1 d3
  | 2, d1, d2, d3 => errT d1 d2 d3
  | 3, d1, d2, d3 => errT d1 d2 d3
  | 4, d1, d2, d3 => errT d1 d2 d3
  | 5, d1, d2, d3 => errT d1 d2 d3
  | 6, d1, d2, d3 => errS d1 d2 d3
  | _, d1, d2, d3 => errR d1 d2 d3
/-- sources_of a name that the rule does not fit -/
def NoFit (K : PySem.W.Frag) (H : Hp) (v1 v2 v3 : V) : Prop := ∃ (q : Addr) (xs : List V) (rs : List Rl) (n : Nat) (r : Rl) (z : Str), v1 = .ref q ∧ v2 = .int (n : Int) ∧ v3 = .str z ∧ SqT K H q xs ∧ ThAll K H xs (rs.map Rl.d) ∧ dBook (.tuple (rs.map Rl.d)) = true ∧ rs[n]? = some r ∧ z.length ≤ 1000 ∧ dName (.str z) = true ∧ stemO r.b r.e z = none
theorem NoFit.same {H H' : Hp} {v1 v2 v3 : V} (s : Same H H') (h : NoFit K H v1 v2 v3) : NoFit K H' v1 v2 v3 := by
  obtain ⟨q, xs, rs, n, r, z, e1, e2, e3, hq, ha, hB, hn, lz, nz, no⟩ := h
  exact ⟨q, xs, rs, n, r, z, e1, e2, e3, Same.seqT s hq, thAll_same s ha, hB, hn, lz, nz, no⟩
def spDo (K : PySem.W.Frag) (e : E5) : Sp := fun vs H Q E => ∃ (c : Nat) (v1 v2 v3 : V) (d1 d2 d3 : PyData) (z : Nat), vs = [.int (c : Int), v1, v2, v3] ∧ c ≤ 9 ∧ Th K H v1 d1 ∧ Th K H v2 d2 ∧ Th K H v3 d3 ∧ d1.bulk ≤ 1000000 ∧ d2.bulk ≤ 1000000 ∧ d3.bulk ≤ 1000000 ∧
  (errD c d1 d2 d3 = some z ∨ c = 6 ∧ z = 4 ∧ NoFit K H v1 v2 v3) ∧ ∀ H', Same H H' → E (.ref (e.at z)) none H'
structure Cd (P : Program) (w : World) (K : PySem.W.Frag) (mg : Str → Option Value) (base : Heap) (e : E5) : Prop where
  fitting : CalX P w K mg base 8 "fitting" (sp2 K e)
  kin : CalX P w K mg base 8 "kin" (sp2 K e)
  way : CalX P w K mg base 9 "way" (sp3 K e errT)
  can : CalX P w K mg base 10 "can" (sp3 K e errT)
  made : CalX P w K mg base 10 "made_by" (sp3 K e errT)
  shows : CalX P w K mg base 9 "shows_way" (sp4 K e errT)
  src : CalX P w K mg base 8 "sources_of" (spSrcX K e)
  settled : CalX P w K mg base 10 "settled" (sp3 K e errR)
  run : CalX P w K mg base 11 "run" (sp3 K e errR)
  after : CalX P w K mg base 11 "files_after" (sp4 K e errR)
theorem sx_do : FnScope ["choice", "book", "files", "name"] ["choice", "book", "files", "name"] (defScope s_do) := ⟨rfl, rfl, rfl, by decide +kernel, rfl, by decide +kernel, by decide +kernel⟩
theorem calx_do (D : Def1 K mg "_law_do" s_do) (C : Cd P w K mg base e) : CalX P w K mg base 12 "_law_do" (spDo K e) := by
  obtain ⟨a0, m0, f0⟩ := calX_at C.fitting
  obtain ⟨a1, m1, f1⟩ := calX_at C.kin
  obtain ⟨a2, m2, f2⟩ := calX_at C.way
  obtain ⟨a3, m3, f3⟩ := calX_at C.can
  obtain ⟨a4, m4, f4⟩ := calX_at C.made
  have F2 : ∀ p ∈ [(a0, sp2 K e), (a1, sp2 K e)], FnE P w K mg base 10 p := fun p hp => by
    simp only [List.mem_cons, List.mem_nil_iff, or_false] at hp
    rcases hp with rfl | rfl
    · exact f0.mono (by decide)
    · exact f1.mono (by decide)
  have F3 : ∀ p ∈ [(a2, sp3 K e errT), (a3, sp3 K e errT), (a4, sp3 K e errT)], FnE P w K mg base 10 p := fun p hp => by
    simp only [List.mem_cons, List.mem_nil_iff, or_false] at hp
    rcases hp with rfl | rfl | rfl
    · exact f2.mono (by decide)
    · exact f3
    · exact f4
  refine mkCalX D sx_do (fun _ _ _ _ _ _ us hl => match us, hl with | [_, _, _, _], _ => rfl) (fun vs H Q E h => ?_) (fun f cdv A outer s H vs Q E hr h => ?_)
  · obtain ⟨c, v1, v2, v3, d1, d2, d3, z, rfl, _⟩ := h
    rfl
  · obtain ⟨c, v1, v2, v3, d1, d2, d3, z, rfl, lc, h1, h2, h3, b1, b2, b3, hz, k⟩ := h
    refine ⟨_, pss_cons (ps_if (pt_cmpR op_lt (pv 0) pe_int (nomark _)) (pss_one (ps_ret (pe_calE (pe_ix ix_list (pe_lst (pa_cons (pe_glob (v := .ref a0) (by rfl) m0 rfl) (pa_cons (pe_glob (v := .ref a1) (by rfl) m1 rfl) pa_nil))) (pv 0) (fun _ _ => rfl)) F2 hr (by decide) (takes_of rfl rfl rfl rfl) (pa_cons (pv 1) (pa_cons (pv 3) pa_nil))))) pss_nil)
      (pss_cons (ps_if (pt_cmpR op_lt (pv 0) pe_int (nomark _)) (pss_one (ps_ret (pe_calE (pe_ix ix_list (pe_lst (pa_cons (pe_glob (v := .ref a2) (by rfl) m2 rfl) (pa_cons (pe_glob (v := .ref a3) (by rfl) m3 rfl) (pa_cons (pe_glob (v := .ref a4) (by rfl) m4 rfl) pa_nil)))) (pe_op op_sub (pv 0) pe_int) (fun _ _ => rfl)) F3 hr (by decide) (takes_of rfl rfl rfl rfl) (pa_cons (pv 1) (pa_cons (pv 2) (pa_cons (pv 3) pa_nil)))))) pss_nil)
      (pss_cons (ps_if (pt_cmpR op_eq (pv 0) pe_int (nomark _)) (pss_one (ps_ret (pe_calX C.shows hr (by decide) (takes_of rfl rfl rfl rfl) (pa_cons (pv 1) (pa_cons (pv 2) (pa_cons (pv 3) (pa_cons pe_non pa_nil))))))) pss_nil)
      (pss_cons (ps_if (pt_cmpR op_eq (pv 0) pe_int (nomark _)) (pss_one (ps_ret (pe_calX C.src hr (by decide) (takes_of rfl rfl rfl rfl) (pa_cons (pv 1) (pa_cons (pv 2) (pa_cons (pv 3) pa_nil)))))) pss_nil)
      (pss_cons (ps_if (pt_cmpR op_eq (pv 0) pe_int (nomark _)) (pss_one (ps_ret (pe_calX C.settled hr (by decide) (takes_of rfl rfl rfl rfl) (pa_cons (pv 1) (pa_cons (pv 2) (pa_cons (pv 3) pa_nil)))))) pss_nil)
      (pss_one (ps_ret (pe_ifExp (pt_cmpR op_eq (pv 0) pe_int (nomark _)) (pe_calX C.run hr (by decide) (takes_of rfl rfl rfl rfl) (pa_cons (pv 1) (pa_cons (pv 2) (pa_cons (pv 3) pa_nil)))) (pe_calX C.after hr (by decide) (takes_of rfl rfl rfl rfl) (pa_cons (pv 1) (pa_cons (pv 2) (pa_cons (pv 3) (pa_cons pe_bl pa_nil)))))))))))), ?_⟩
    have s2 : ∀ {H1 : Hp}, Same H H1 → err2 d1 d3 = some z → sp2 K e [v1, v3] H1 Q E := fun s y => ⟨v1, v3, d1, d3, z, rfl, th_same s h1, th_same s h3, b1, b3, y, fun H' s' => k H' (s.trans s')⟩
    have s3 : ∀ {H1 : Hp} {er : PyData → PyData → PyData → Option Nat}, Same H H1 → er d1 d2 d3 = some z → sp3 K e er [v1, v2, v3] H1 Q E := fun s y => ⟨v1, v2, v3, d1, d2, d3, z, rfl, th_same s h1, th_same s h2, th_same s h3, b1, b2, b3, y, fun H' s' => k H' (s.trans s')⟩
    have s4 : ∀ {H1 : Hp} {er : PyData → PyData → PyData → Option Nat} {v : V}, Same H H1 → er d1 d2 d3 = some z → sp4 K e er [v1, v2, v3, v] H1 Q E := fun s y => ⟨v1, v2, v3, _, d1, d2, d3, z, rfl, th_same s h1, th_same s h2, th_same s h3, b1, b2, b3, y, fun H' s' => k H' (s.trans s')⟩
    refine ⟨_, rfl, _, _, rfl, rfl, _, rfl, ?_⟩
    have cs : c = 0 ∨ c = 1 ∨ c = 2 ∨ c = 3 ∨ c = 4 ∨ c = 5 ∨ c = 6 ∨ c = 7 ∨ c = 8 ∨ c = 9 := by omega
    by_cases c2 : c < 2
    · have hz1 : err2 d1 d3 = some z := by
        rcases hz with hz | ⟨rfl, _⟩
        · have : c = 0 ∨ c = 1 := by omega
          rcases this with rfl | rfl
          · exact hz
          · exact hz
        · omega
      refine iteT' (decide_eq_true (by omega)) ⟨(by show 2 ≤ sizeLine; decide), fun l nl => ?_⟩
      have : c = 0 ∨ c = 1 := by omega
      rcases this with rfl | rfl
      · exact ⟨_, rfl, l, _, 0, _, rfl, rfl, SqL.of upd_same, atI_nat (j := 0) rfl, a0, sp2 K e, rfl, by simp, _, rfl, _, rfl, s2 (same_upd nl) hz1⟩
      · exact ⟨_, rfl, l, _, 1, _, rfl, rfl, SqL.of upd_same, atI_nat (j := 1) rfl, a1, sp2 K e, rfl, by simp, _, rfl, _, rfl, s2 (same_upd nl) hz1⟩
    refine iteF' (decide_eq_false (by omega)) ⟨_, rfl, _, _, rfl, rfl, _, rfl, ?_⟩
    by_cases c5 : c < 5
    · have hz1 : errT d1 d2 d3 = some z := by
        rcases hz with hz | ⟨rfl, _⟩
        · have : c = 2 ∨ c = 3 ∨ c = 4 := by omega
          rcases this with rfl | rfl | rfl
          · exact hz
          · exact hz
          · exact hz
        · omega
      refine iteT' (decide_eq_true (by omega)) ⟨(by show 3 ≤ sizeLine; decide), fun l nl => ?_⟩
      have : c = 2 ∨ c = 3 ∨ c = 4 := by omega
      rcases this with rfl | rfl | rfl
      · exact ⟨_, rfl, _, _, rfl, rfl, l, _, _, _, rfl, rfl, SqL.of upd_same, atI_nat (j := 0) rfl, a2, sp3 K e errT, rfl, by simp, _, rfl, _, rfl, _, rfl, s3 (same_upd nl) hz1⟩
      · exact ⟨_, rfl, _, _, rfl, rfl, l, _, _, _, rfl, rfl, SqL.of upd_same, atI_nat (j := 1) rfl, a3, sp3 K e errT, rfl, by simp, _, rfl, _, rfl, _, rfl, s3 (same_upd nl) hz1⟩
      · exact ⟨_, rfl, _, _, rfl, rfl, l, _, _, _, rfl, rfl, SqL.of upd_same, atI_nat (j := 2) rfl, a4, sp3 K e errT, rfl, by simp, _, rfl, _, rfl, _, rfl, s3 (same_upd nl) hz1⟩
    have ne : ∀ {n : Nat}, c ≠ n → decide (V.int (c : Int) = V.int (n : Int)) = false := fun h => decide_eq_false fun y => h (by have := V.int.inj y; omega)
    refine iteF' (decide_eq_false (by omega)) ⟨_, rfl, rfl, _, rfl, ?_⟩
    by_cases c5 : c = 5
    · subst c5
      refine iteT' (by decide) ⟨_, rfl, _, rfl, _, rfl, s4 (Same.refl _) ?_⟩
      rcases hz with hz | ⟨y, _⟩
      · exact hz
      · omega
    refine iteF' (ne c5) ⟨_, rfl, rfl, _, rfl, ?_⟩
    by_cases c6 : c = 6
    · subst c6
      refine iteT' (by decide) ⟨_, rfl, _, rfl, _, rfl, ?_⟩
      rcases hz with hz | ⟨_, rfl, q, xs, rs, n, r, x, rfl, rfl, rfl, hq, ha, hB, hn, lz, nz, no⟩
      · exact .inl (s3 (er := errS) (Same.refl _) hz)
      · exact .inr ⟨q, xs, rs, n, r, x, rfl, hq, ha, hB, hn, lz, nz, no, k⟩
    refine iteF' (ne c6) ⟨_, rfl, rfl, _, rfl, ?_⟩
    have hzR : errR d1 d2 d3 = some z := by
      rcases hz with hz | ⟨y, _⟩
      · have : c = 7 ∨ c = 8 ∨ c = 9 := by omega
        rcases this with rfl | rfl | rfl
        · exact hz
        · exact hz
        · exact hz
      · omega
    by_cases c9 : c = 9
    · subst c9
      exact iteT' (by decide) ⟨_, rfl, _, rfl, _, rfl, s3 (Same.refl _) hzR⟩
    refine iteF' (ne c9) ⟨_, rfl, rfl, _, rfl, ?_⟩
    by_cases c7 : c = 7
    · subst c7
      exact iteT' (by decide) ⟨_, rfl, _, rfl, _, rfl, s3 (Same.refl _) hzR⟩
    · exact iteF' (ne c7) ⟨_, rfl, _, rfl, _, rfl, s4 (Same.refl _) hzR⟩
end
end Lk

/-! K12E -/
set_option Elab.async false
set_option linter.all false
set_option maxRecDepth 100000
set_option maxHeartbeats 4000000
namespace Lk
open PySem PySem.Spec PyProof.Rows L2
section
variable {P : Program} {w : World} {K : PySem.W.Frag} {mg : Str → Option Value} {base : Heap} {e : E5}
/-- which class a clause names takes which error -/
structure Exm5 (K : PySem.W.Frag) (e : E5) : Prop where
  bb : PySem.W.exmOne K (.ref e.b) (.ref e.b) = some true
  fb : PySem.W.exmOne K (.ref e.f) (.ref e.b) = some false
  ff : PySem.W.exmOne K (.ref e.f) (.ref e.f) = some true
  nb : PySem.W.exmOne K (.ref e.n) (.ref e.b) = some false
  nf : PySem.W.exmOne K (.ref e.n) (.ref e.f) = some false
  nn : PySem.W.exmOne K (.ref e.n) (.ref e.n) = some true
  rb : PySem.W.exmOne K (.ref e.r) (.ref e.b) = some false
  rf : PySem.W.exmOne K (.ref e.r) (.ref e.f) = some false
  rn : PySem.W.exmOne K (.ref e.r) (.ref e.n) = some false
  rr : PySem.W.exmOne K (.ref e.r) (.ref e.r) = some true
  mb : PySem.W.exmOne K (.ref e.m) (.ref e.b) = some false
  mf : PySem.W.exmOne K (.ref e.m) (.ref e.f) = some false
  mn : PySem.W.exmOne K (.ref e.m) (.ref e.n) = some false
  mr : PySem.W.exmOne K (.ref e.m) (.ref e.r) = some false
  mm : PySem.W.exmOne K (.ref e.m) (.ref e.m) = some true
structure Err5 (K : PySem.W.Frag) (mg : Str → Option Value) (e : E5) : Prop where
  b : Err K mg "NoBook" e.b
  f : Err K mg "NoFiles" e.f
  n : Err K mg "NoName" e.n
  r : Err K mg "NoRule" e.r
  m : Err K mg "Mismatch" e.m
def wd : Nat → Str
  | 0 => "book"
  | 1 => "files"
  | 2 => "name"
  | 3 => "rule"
  | _ => "match"
def spWord (K : PySem.W.Frag) : Sp := fun vs H Q _ => ∃ (c : Nat) (v1 v2 v3 : V) (d1 d2 d3 : PyData) (z : Nat), vs = [.int (c : Int), v1, v2, v3] ∧ c ≤ 9 ∧ Th K H v1 d1 ∧ Th K H v2 d2 ∧ Th K H v3 d3 ∧ Wf0 (.tuple [d1, d2, d3]) ∧
  ((PyData.tuple [d1, d2, d3]).hasDict = true → Clr K H v1 d1 ∧ Clr K H v2 d2 ∧ Clr K H v3 d3) ∧ (errD c d1 d2 d3 = some z ∨ c = 6 ∧ z = 4 ∧ NoFit K H v1 v2 v3) ∧ ∀ H', Same H H' → Q (.str (wd z)) H'
theorem sx_word : FnScope ["choice", "book", "files", "name", "caught", "before", "error"] ["choice", "book", "files", "name"] (defScope s_word) := ⟨rfl, rfl, rfl, by decide +kernel, rfl, by decide +kernel, by decide +kernel⟩
theorem calg_word (D : Def1 K mg "_law_word" s_word) (R : mg "repr" = none) (RE : Err5 K mg e) (XM : Exm5 K e) (C : CalX P w K mg base 12 "_law_do" (spDo K e)) : CalG P w K mg base CX0 13 "_law_word" (spWord K) := by
  refine mkCalG D sx_word (fun _ _ _ _ _ _ us hl => match us, hl with | [_, _, _, _], _ => rfl) (fun vs H Q E h => ?_) (fun f cdv A above s H vs Q E hr hg h => ?_)
  · obtain ⟨c, v1, v2, v3, d1, d2, d3, z, rfl, _⟩ := h
    rfl
  · obtain ⟨c, v1, v2, v3, d1, d2, d3, z, rfl, lc, h1, h2, h3, wf, cl, hz, k⟩ := h
    refine ⟨_, pss_cons (ps_par (i := 4) (j := 5) (by rfl) sx_word.nd rfl rfl (by decide) rfl rfl (pa_cons pe_non (pa_cons (pe_callB (call_reprE hg hr.units) (by rfl) R bootS_repr (pa_cons (pe_tup (pa_cons (pv 1) (pa_cons (pv 2) (pa_cons (pv 3) pa_nil)))) pa_nil)) pa_nil)) (by rfl))
      (pss_cons (ps_try_asL (i := 6) rfl rfl sx_word.nd rfl rfl (fun W pn xe tk _ => pss_one (ps_expr (pe_calT C hr (by decide) tk (pa_cons (pv 0) (pa_cons (pv 1) (pa_cons (pv 2) (pa_cons (pv 3) pa_nil)))))))
          (.more ⟨rfl, by decide, .inl RE.b.gC⟩ (fun _ _ _ _ _ _ _ => pss_one (ps_set (i := 4) sx_word.nd rfl (.inl rfl) pe_str)) (.more ⟨rfl, by decide, .inl RE.f.gC⟩ (fun _ _ _ _ _ _ _ => pss_one (ps_set (i := 4) sx_word.nd rfl (.inl rfl) pe_str))
          (.more ⟨rfl, by decide, .inl RE.n.gC⟩ (fun _ _ _ _ _ _ _ => pss_one (ps_set (i := 4) sx_word.nd rfl (.inl rfl) pe_str)) (.more ⟨rfl, by decide, .inl RE.r.gC⟩ (fun _ _ _ _ _ _ _ => pss_one (ps_set (i := 4) sx_word.nd rfl (.inl rfl) pe_str))
          (.more ⟨rfl, by decide, .inl RE.m.gC⟩ (fun _ _ _ _ _ _ _ => pss_one (ps_set (i := 4) sx_word.nd rfl (.inl rfl) pe_str)) .none))))))
      (pss_one (ps_ret (pe_ifExp (pt_cmpR op_eq (pe_callB (call_reprE hg hr.units) (by rfl) R bootS_repr (pa_cons (pe_tup (pa_cons (pv 1) (pa_cons (pv 2) (pa_cons (pv 3) pa_nil)))) pa_nil)) (pv 5) (nomark _)) (pv 4) pe_str)))), ?_⟩
    have all : ∀ {H1 : Hp}, Same H H1 → ThAll K H1 [v1, v2, v3] [d1, d2, d3] := fun s => .cons (th_same s h1) (.cons (th_same s h2) (.cons (th_same s h3) .nil))
    have clr : ∀ {H1 : Hp}, Same H H1 → (PyData.tuple [d1, d2, d3]).hasDict = true → ClrAll K H1 [v1, v2, v3] [d1, d2, d3] := fun s y => .cons ((cl y).1.same s) (.cons ((cl y).2.1.same s) (.cons ((cl y).2.2.same s) .nil))
    refine ⟨_, rfl, _, rfl, _, rfl, (by show 3 ≤ sizeLine; decide), fun q nq => ⟨q, _, _, rfl, SqT.of upd_same, all (same_upd nq), wf, clr (same_upd nq), ?_⟩⟩
    refine ⟨_, _, rfl, ?_⟩
    have s1 : Same H (upd H q (.tup [v1, v2, v3])) := same_upd nq
    generalize upd H q (.tup [v1, v2, v3]) = H1 at s1 ⊢
    have fin : ∀ (zz : Str) (H2 : Hp), Same H H2 → (∀ H', Same H H' → Q (.str zz) H') → tRet (tIf (tTest (tOp rEq (tCB (rReprE K) (tCons (tTup (tCons (tVar 1) (tCons (tVar 2) (tCons (tVar 3) tNil)))) tNil)) (tVar 5))) (tVar 4) (tC (.str "changed"))) { nx := fun _ H' => Q V.non H', rt := Q }
        [some (.int (c : Int)), some v1, some v2, some v3, some (.str zz), some (.str (PyData.tuple [d1, d2, d3]).shown), none] H2 := fun zz H2 s kz => by
      refine ⟨_, rfl, _, rfl, _, rfl, (by show 3 ≤ sizeLine; decide), fun r nr => ⟨r, _, _, rfl, SqT.of upd_same, all (s.trans (same_upd nr)), wf, clr (s.trans (same_upd nr)), _, rfl, rfl, _, rfl, ?_⟩⟩
      exact iteT' (by simp) ⟨_, rfl, kz _ (s.trans (same_upd nr))⟩
    have w1 := wf.bk
    have w2 : d1.bulk ≤ 1000000 ∧ d2.bulk ≤ 1000000 ∧ d3.bulk ≤ 1000000 := by
      simp only [PyData.bulk, PyData.bulkAll] at w1
      omega
    refine ⟨_, rfl, _, rfl, _, rfl, _, rfl, c, v1, v2, v3, d1, d2, d3, z, rfl, lc, th_same s1 h1, th_same s1 h2, th_same s1 h3, w2.1, w2.2.1, w2.2.2, hz.imp id (fun y => ⟨y.1, y.2.1, y.2.2.same s1⟩), fun H2 s2 => ?_⟩
    have s02 := s1.trans s2
    match z, k with
    | 0, k => exact ⟨true, XM.bb, fun _ a na => fin "book" _ s02 k, fun y => nomatch y⟩
    | 1, k => exact ⟨false, XM.fb, (fun y => nomatch y), fun _ => ⟨true, XM.ff, fun _ a na => fin "files" _ s02 k, fun y => nomatch y⟩⟩
    | 2, k => exact ⟨false, XM.nb, (fun y => nomatch y), fun _ => ⟨false, XM.nf, (fun y => nomatch y), fun _ => ⟨true, XM.nn, fun _ a na => fin "name" _ s02 k, fun y => nomatch y⟩⟩⟩
    | 3, k => exact ⟨false, XM.rb, (fun y => nomatch y), fun _ => ⟨false, XM.rf, (fun y => nomatch y), fun _ => ⟨false, XM.rn, (fun y => nomatch y), fun _ => ⟨true, XM.rr, fun _ a na => fin "rule" _ s02 k, fun y => nomatch y⟩⟩⟩⟩
    | _ + 4, k => exact ⟨false, XM.mb, (fun y => nomatch y), fun _ => ⟨false, XM.mf, (fun y => nomatch y), fun _ => ⟨false, XM.mn, (fun y => nomatch y), fun _ => ⟨false, XM.mr, (fun y => nomatch y), fun _ => ⟨true, XM.mm, fun _ a na => fin "match" _ s02 k, fun y => nomatch y⟩⟩⟩⟩⟩
end
end Lk

/-! K12o -/
set_option Elab.async false
set_option linter.all false
set_option maxRecDepth 100000
set_option maxHeartbeats 4000000
namespace Lk
open PySem PySem.Spec PyProof.Rows L2
theorem nodup_len {α : Type} : ∀ {l m : List α}, l.Nodup → (∀ x ∈ l, x ∈ m) → l.length ≤ m.length
  | [], _, _, _ => Nat.zero_le _
  | x :: l, m, nd, sub => by
    obtain ⟨n1, n2⟩ := List.nodup_cons.mp nd
    obtain ⟨a, b, e⟩ := List.append_of_mem (sub x List.mem_cons_self)
    have z : l.length ≤ (a ++ b).length := nodup_len n2 fun y my => by
      have q := sub y (List.mem_cons_of_mem _ my)
      rw [e] at q
      rcases List.mem_append.mp q with q | q
      · exact List.mem_append.mpr (.inl q)
      · rcases List.mem_cons.mp q with q | q
        · rw [q] at my
          exact absurd my n1
        · exact List.mem_append.mpr (.inr q)
    rw [e]
    simp only [List.length_append, List.length_cons] at z ⊢
    omega
section
variable {P : Program} {w : World} {K : PySem.W.Frag} {mg : Str → Option Value} {base : Heap}
/-- the law's own ascending tuple of the different ones -/
def spLOrd (K : PySem.W.Frag) : Sp := fun vs H Q _ => ∃ (l : Addr) (ss : List Str), vs = [.ref l] ∧ SqL K H l (ss.map V.str) ∧ ss.length ≤ 4000 ∧ (∀ y ∈ ss, y.length ≤ sizeLine) ∧
  ∀ (cs : List Str) (p : Addr) (H' : Hp), Same H H' → H' p = some (.tup (cs.map V.str)) → IsAsc cs ss → Q (.ref p) H'
theorem sc_ordered : FnScope ["row", "name", "size"] ["row"] (defScope s_ordered) := ⟨rfl, rfl, rfl, by decide +kernel, rfl, by decide +kernel, by decide +kernel⟩
theorem cal_ordered (D : Def1 K mg "_law_ordered" s_ordered) (tt : mg "tuple" = none) (ts : mg "sorted" = none) (te : mg "set" = none) (tl : mg "len" = none) : Cal P w K mg base 1 "_law_ordered" (spLOrd K) := by
  refine mkCal D sc_ordered (fun _ _ _ _ _ _ us hl => match us, hl with | [_], _ => rfl) (fun vs H Q E h => ?_) (fun f cdv A outer s H vs Q E hr h => ?_)
  · obtain ⟨l, ss, rfl, _⟩ := h
    rfl
  · obtain ⟨l, ss, rfl, hl, few, small, k⟩ := h
    refine ⟨_, pss_one (ps_ret (pe_callTy call_tuple_of (by rfl) tt (by decide +kernel) (pa_cons
      (pe_lc (own := [("size", 2), ("name", 1)]) (g := gTup K 2 (gCons (gName 2) (gCons (gName 1) gNil))) (tt := tYes) (by rfl) sc_ordered.nd
        (pi_list (pe_callB (call_sortedPr rfl hr.units) (by rfl) ts (by decide +kernel) (pa_cons (pe_callTy (call_setPr rfl hr.units) (by rfl) te (by decide +kernel) (pa_cons
          (pe_lc (own := [("name", 1)]) (g := gName 1) (tt := tYes) (by rfl) sc_ordered.nd (pi_list (pv 0))
            (blkOk_by (own := [("name", 1)]) (N := ["row", "name", "size"]) (sc := defScope s_ordered) (by decide +kernel)) (fun _ _ _ _ _ => pg_name (i := 1) sc_ordered.nd rfl (Or.inl rfl)) (fun _ _ _ _ _ => pts_nil)
            (fun _ _ _ _ _ => pe_tup (pa_cons (pe_callB call_len_str (by rfl) tl PySem.boot_len (pa_cons (pv 1) pa_nil)) (pa_cons (pv 1) pa_nil)))) pa_nil)) pa_nil)))
        (blkOk_by (own := [("size", 2), ("name", 1)]) (N := ["row", "name", "size"]) (sc := defScope s_ordered) (by decide +kernel))
        (fun _ _ _ _ _ => pg_tup rfl (pgs_cons (pg_name (i := 2) sc_ordered.nd rfl (Or.inl rfl)) (pgs_cons (pg_name (i := 1) sc_ordered.nd rfl (Or.inl rfl)) pgs_nil))) (fun _ _ _ _ _ => pts_nil)
        (fun _ _ _ _ _ => pv 1)) pa_nil))), ?_⟩
    refine ⟨.ref l, rfl, l, rfl, ⟨_, hl⟩, fun D nD => ?_⟩
    have step : ∀ i, i < ss.length → ss.take (i + 1) = ss.take i ++ [ss[i]!] := fun i hi => by
      rw [List.take_add_one, List.getElem?_eq_getElem hi, List.getElem!_eq_getElem?_getD, List.getElem?_eq_getElem hi]
      rfl
    refine lc_list (K := K) (a := l) (xs := ss.map V.str) (fun i H' => Same H H' ∧ ∃ L : List (Addr × Str), H' D = some (.lst (L.map fun p => V.ref p.1)) ∧ L.map (·.2) = ss.take i ∧ ∀ p ∈ L, H' p.1 = some (.tup (vP p.2)))
      ⟨same_upd nD, [], upd_same, rfl, fun p m => nomatch m⟩ (fun i H' _ h => h.1.seq hl) ?_ ?_
    · rintro i x H' hx ⟨sH, L, hD, eL, ht⟩
      have hi : i < ss.length := by
        have z := (List.getElem?_eq_some_iff.mp hx).1
        rwa [List.length_map] at z
      rw [List.getElem?_map, List.getElem?_eq_getElem hi] at hx
      obtain rfl : V.str ss[i] = x := Option.some.inj hx
      have lenL : L.length ≤ i := by
        have z := congrArg List.length eL
        rw [List.length_map, List.length_take] at z
        omega
      refine ⟨rfl, _, rfl, ss[i], rfl, small _ (List.getElem_mem hi), _, rfl, (by show 2 ≤ sizeLine; decide), fun b nb => ?_⟩
      have sb := same_upd (o := .tup (vP ss[i])) nb
      have nbD : b ≠ D := fun z => by
        rw [z, hD] at nb
        cases nb
      refine ⟨_, sb _ _ hD, by rw [List.length_map]; exact (by rw [sizeLine_eq]; omega), same_mut (sH.trans sb) nD, L ++ [(b, ss[i])], by rw [upd_same, List.map_append]; rfl, ?_, fun p hp => ?_⟩
      · rw [step i hi, List.map_append, eL, List.getElem!_eq_getElem?_getD, List.getElem?_eq_getElem hi]
        rfl
      · rcases List.mem_append.mp hp with m | m
        · have np : p.1 ≠ D := fun z => by
            have q := ht p m
            rw [z, hD] at q
            cases q
          rw [upd_ne np]
          exact sb _ _ (ht p m)
        · rw [List.mem_singleton.mp m]
          exact (upd_ne nbD).trans upd_same
    · rintro H1 ⟨sH, L, hD, eL, ht⟩
      rw [List.length_map, List.take_length] at eL
      have lenL : L.length = ss.length := by rw [← eL, List.length_map]
      refine ⟨D, L, rfl, SqL.of hD, fun p m => SqT.of (ht p m), by omega, fun p us np nd mem => ?_⟩
      refine ⟨p, L, us, rfl, upd_same, fun q m => Same.seqT (same_upd np) (SqT.of (ht q m)), fun p2 M np2 sub pm pw => ?_⟩
      have s2 : Same H1 (upd (upd H1 p (SetPr P w L p us)) p2 (.lst (M.map fun m => V.ref m.1))) := (same_upd np).trans (same_upd np2)
      have hp2 : upd (upd H1 p (SetPr P w L p us)) p2 (.lst (M.map fun m => V.ref m.1)) p2 = some (.lst (M.map fun m => V.ref m.1)) := upd_same
      refine ⟨p2, rfl, ⟨_, SqL.of hp2⟩, fun D2 nD2 => ?_⟩
      have asc : IsAsc (M.map (·.2)) ss := ⟨pm.nodup_iff.mpr nd, fun x => by rw [pm.mem_iff, mem x, eL], pw⟩
      have htM : ∀ m ∈ M, upd (upd H1 p (SetPr P w L p us)) p2 (.lst (M.map fun m => V.ref m.1)) m.1 = some (.tup (vP m.2)) := fun m hm => s2 _ _ (ht m (sub m hm))
      have lenM : M.length ≤ 4000 := by
        have z1 := pm.length_eq
        have z2 : us.length ≤ (L.map (·.2)).length := nodup_len nd fun x m => (mem x).mp m
        rw [List.length_map] at z1 z2
        omega
      let H2 : Hp := upd (upd H1 p (SetPr P w L p us)) p2 (.lst (M.map fun m => V.ref m.1))
      have nD2 : H2 D2 = none := nD2
      have htM : ∀ m ∈ M, H2 m.1 = some (.tup (vP m.2)) := htM
      have sH2 : Same H H2 := sH.trans s2
      refine lc_list (K := K) (a := p2) (xs := M.map fun m => V.ref m.1) (fun i H' => Same H2 H' ∧ H' D2 = some (.lst (((M.map (·.2)).take i).map V.str)))
        ⟨same_upd nD2, upd_same⟩ (fun i H' _ h => h.1.seq (SqL.of hp2)) ?_ ?_
      · rintro i x H' hx ⟨sH', hD2⟩
        obtain ⟨m, hm, rfl⟩ := Option.map_eq_some_iff.mp ((List.getElem?_map ..).symm.trans hx)
        have hi : i < M.length := (List.getElem?_eq_some_iff.mp hm).1
        have mm : m ∈ M := List.mem_of_getElem? hm
        refine ⟨m.1, vP m.2, rfl, SqT.of (sH' _ _ (htM m mm)), rfl, _, _, rfl, _, _, rfl, rfl, rfl, _, rfl, _, hD2, ?_, same_mut sH' nD2, ?_⟩
        · rw [List.length_map, List.length_take, List.length_map]
          exact (by rw [sizeLine_eq]; omega)
        · rw [upd_same, List.take_add_one, List.getElem?_map, hm, List.map_append]
          rfl
      · rintro H3 ⟨sH3, hD2⟩
        rw [List.length_map] at hD2
        have e : (M.map (·.2)).take M.length = M.map (·.2) := List.take_of_length_le (by rw [List.length_map]; exact Nat.le_refl _)
        rw [e] at hD2
        exact ⟨D2, _, rfl, .inl ⟨SqL.of hD2, fun t nt => k _ t _ ((sH2.trans sH3).trans (same_upd nt)) upd_same asc⟩⟩
end
end Lk

/-! K12F -/
set_option Elab.async false
set_option linter.all false
set_option maxRecDepth 100000
set_option maxHeartbeats 4000000
namespace Lk
open PySem PySem.Spec PyProof.Rows L2
/-! ### drawn books: they are books, and few short names come by their chains -/
theorem ok_iff {x : Str} : PyData.strOk x = true ↔ ∀ c ∈ TL.tl x, c < 0x110000 := by
  unfold PyData.strOk
  rw [← Array.all_toList, List.all_eq_true]
  exact ⟨fun h c m => of_decide_eq_true (h c m), fun h c m => decide_eq_true (h c m)⟩
def SrcTx : Src → Prop
  | .pat b e => PyData.strOk b = true ∧ PyData.strOk e = true
  | .nm x => PyData.strOk x = true
def RlTx (r : Rl) : Prop := ∀ s ∈ r.ss, SrcTx s
theorem ok_draw {most : Nat} {r : Rl} (h : RlOk most r) (m3 : most ≤ 3) : dRule r.d = true ∧ RlTx r := by
  have hl : ∀ x ∈ (["cc", "as", "link"] : List Str), dLabel (.str x) = true := by decide +kernel
  have hp : ∀ b ∈ (["", "A", "B"] : List Str), ∀ e ∈ (["o", "c", "", "s"] : List Str), ¬ (b = "" ∧ e = "") → dPat (.tuple [.str b, .str e]) = true := by decide +kernel
  have h1 : ∀ b ∈ (["", "A", "B", "AB"] : List Str), ∀ e ∈ (["", "c", "o", "s", "co"] : List Str), ¬ (b = "" ∧ e = "") → dSrc1 (.tuple [.str b, .str e]) = true ∧ PyData.strOk b = true ∧ PyData.strOk e = true := by decide +kernel
  have h2 : ∀ x ∈ (["A", "Ac", "Bo", "s", "Ao"] : List Str), dSrc1 (.str x) = true ∧ PyData.strOk x = true := by decide +kernel
  refine ⟨?_, fun s ms => ?_⟩
  · show (dLabel (.str r.lab) && (dPat (.tuple [.str r.b, .str r.e]) && (decide ((r.ss.map Src.d).length ≤ 3) && (r.ss.map Src.d).all dSrc1))) = true
    rw [hl _ h.lab, hp _ h.b _ h.e h.ne, Bool.true_and, Bool.true_and, Bool.and_eq_true, decide_eq_true_eq, List.length_map, List.all_eq_true]
    refine ⟨Nat.le_trans h.len m3, fun d m => ?_⟩
    obtain ⟨s, ms, rfl⟩ := List.mem_map.mp m
    have q := h.ss s ms
    cases s with
    | pat b e =>
      obtain ⟨q1, q2, q3⟩ : b ∈ (["", "A", "B", "AB"] : List Str) ∧ e ∈ (["", "c", "o", "s", "co"] : List Str) ∧ ¬ (b = "" ∧ e = "") := q
      exact (h1 b q1 e q2 q3).1
    | nm x => exact (h2 x q).1
  · have q := h.ss s ms
    cases s with
    | pat b e =>
      obtain ⟨q1, q2, q3⟩ : b ∈ (["", "A", "B", "AB"] : List Str) ∧ e ∈ (["", "c", "o", "s", "co"] : List Str) ∧ ¬ (b = "" ∧ e = "") := q
      exact (h1 b q1 e q2 q3).2
    | nm x => exact (h2 x q).2
theorem lo_up {c : Nat} (h : loB c = true) : upB c = false := by
  unfold loB at h
  unfold upB
  simp only [Bool.and_eq_true, decide_eq_true_eq] at h
  rw [Bool.and_eq_false_iff]
  exact .inr (decide_eq_false (by omega))
theorem nm_heads {z : Str} {h t : List Nat} (n : Nm z h t) : (∀ c ∈ h, upB c = true) ∧ ∀ c ∈ t, loB c = true :=
  ⟨fun c hc => by
    have z := n.up c hc
    unfold Up at z
    unfold upB
    rw [decide_eq_true z.1, decide_eq_true z.2]
    rfl, fun c hc => by
    have z := n.lo c hc
    unfold Lo at z
    unfold loB
    rw [decide_eq_true z.1, decide_eq_true z.2]
    rfl⟩
theorem split_caps : ∀ {h t : List Nat}, (∀ c ∈ h, upB c = true) → (∀ c ∈ t, loB c = true) → (h ++ t).takeWhile upB = h ∧ (h ++ t).dropWhile upB = t
  | [], [], _, _ => ⟨rfl, rfl⟩
  | [], c :: t, _, ht => by
    have z := lo_up (ht c List.mem_cons_self)
    exact ⟨by simp [z], by simp [z]⟩
  | c :: h, t, hh, ht => by
    obtain ⟨a, b⟩ := split_caps (h := h) (t := t) (fun x hx => hh x (List.mem_cons_of_mem _ hx)) ht
    have z := hh c List.mem_cons_self
    exact ⟨by simp [z, a], by simp [z, b]⟩
theorem nm_split {z : Str} {h t : List Nat} (n : Nm z h t) : (TL.tl z).takeWhile upB = h ∧ (TL.tl z).dropWhile upB = t := by
  obtain ⟨a, b⟩ := nm_heads n
  rw [n.e]
  exact split_caps a b
theorem name_of {u v : List Nat} (hu : ∀ c ∈ u, upB c = true) (hv : ∀ c ∈ v, loB c = true) (ne : u ++ v ≠ []) : nmB (u ++ v) = true := nmB_app (List.all_eq_true.mpr hu) (List.all_eq_true.mpr hv) ne
theorem nm_isName {z : Str} {h t : List Nat} (n : Nm z h t) : dName (.str z) = true := by
  show nmB (TL.tl z) = true
  obtain ⟨a, b⟩ := nm_heads n
  rw [n.e]
  exact name_of a b n.ne
theorem shaped_tup {ss : List Str} (h : ∀ x ∈ ss, PyData.strOk x = true) : SeqAt.shaped (.tuple (ss.map PyData.str)) = true := by
  have h1 : ∀ l : List Str, (∀ x ∈ l, PyData.strOk x = true) → PyData.canLayAll0 (l.map PyData.str) = true ∧ PyData.depthAll (l.map PyData.str) = 0 := fun l => by
    induction l with
    | nil => exact fun _ => ⟨rfl, rfl⟩
    | cons x r ih =>
      intro h
      obtain ⟨a, b⟩ := ih fun y hy => h y (List.mem_cons_of_mem _ hy)
      refine ⟨?_, ?_⟩
      · rw [List.map_cons, PyData.canLayAll0, a, Bool.and_true]
        exact h x List.mem_cons_self
      · rw [List.map_cons, PyData.depthAll, b]
        rfl
  obtain ⟨a, b⟩ := h1 ss h
  unfold SeqAt.shaped
  rw [PyData.canLay0, a, PyData.depth, b]
  rfl

theorem dp_tup {K : PySem.W.Frag} {H : Hp} : ∀ ss : List Str, DpAll K H (ss.map V.str) (ss.map PyData.str)
  | [] => .nil
  | x :: r => .cons (.str x) (dp_tup r)
theorem shaped_lst {ss : List Str} (h : ∀ x ∈ ss, PyData.strOk x = true) : SeqAt.shaped (.list (ss.map PyData.str)) = true := by
  have z := shaped_tup h
  simpa [SeqAt.shaped, PyData.canLay0, PyData.depth] using z
/-! repr of drawn rules -/
theorem rl_pl {most : Nat} {r : Rl} (h : RlOk most r) : Pl 3 r.d := by
  have h0 : ∀ x ∈ (["cc", "as", "link", "", "A", "B", "AB", "o", "c", "s", "co", "Ac", "Bo", "Ao"] : List Str), (PyData.str x).showable = true ∧ (PyData.str x).leavesShort 13 = true := by decide +kernel
  have one : ∀ x ∈ (["cc", "as", "link", "", "A", "B", "AB", "o", "c", "s", "co", "Ac", "Bo", "Ao"] : List Str), Pl 0 (.str x) := fun x m => ⟨(h0 x m).1, (h0 x m).2, Nat.le_refl _, rfl⟩
  have i1 : ∀ x ∈ (["cc", "as", "link"] : List Str), x ∈ (["cc", "as", "link", "", "A", "B", "AB", "o", "c", "s", "co", "Ac", "Bo", "Ao"] : List Str) := by decide +kernel
  have i2 : ∀ x ∈ (["", "A", "B"] : List Str), x ∈ (["cc", "as", "link", "", "A", "B", "AB", "o", "c", "s", "co", "Ac", "Bo", "Ao"] : List Str) := by decide +kernel
  have i3 : ∀ x ∈ (["o", "c", "", "s"] : List Str), x ∈ (["cc", "as", "link", "", "A", "B", "AB", "o", "c", "s", "co", "Ac", "Bo", "Ao"] : List Str) := by decide +kernel
  have i4 : ∀ x ∈ (["", "A", "B", "AB"] : List Str), x ∈ (["cc", "as", "link", "", "A", "B", "AB", "o", "c", "s", "co", "Ac", "Bo", "Ao"] : List Str) := by decide +kernel
  have i5 : ∀ x ∈ (["", "c", "o", "s", "co"] : List Str), x ∈ (["cc", "as", "link", "", "A", "B", "AB", "o", "c", "s", "co", "Ac", "Bo", "Ao"] : List Str) := by decide +kernel
  have i6 : ∀ x ∈ (["A", "Ac", "Bo", "s", "Ao"] : List Str), x ∈ (["cc", "as", "link", "", "A", "B", "AB", "o", "c", "s", "co", "Ac", "Bo", "Ao"] : List Str) := by decide +kernel
  have two : ∀ {x y : Str}, Pl 0 (.str x) → Pl 0 (.str y) → Pl 1 (.tuple [.str x, .str y]) := fun hx hy => pl_tup fun d m => by
    rcases List.mem_cons.mp m with e | m
    · rw [e]
      exact hx
    · rw [List.mem_singleton.mp m]
      exact hy
  have srcs : Pl 2 (.tuple (r.ss.map Src.d)) := pl_tup fun d m => by
    obtain ⟨s, ms, rfl⟩ := List.mem_map.mp m
    have q := h.ss s ms
    cases s with
    | pat b e =>
      obtain ⟨q1, q2, _⟩ : b ∈ (["", "A", "B", "AB"] : List Str) ∧ e ∈ (["", "c", "o", "s", "co"] : List Str) ∧ ¬ (b = "" ∧ e = "") := q
      exact two (one b (i4 b q1)) (one e (i5 e q2))
    | nm x => exact (one x (i6 x q)).le (by decide)
  refine pl_tup fun d m => ?_
  rcases List.mem_cons.mp m with e | m
  · rw [e]
    exact (one _ (i1 _ h.lab)).le (by decide)
  · rcases List.mem_cons.mp m with e | m
    · rw [e]
      exact (two (one _ (i2 _ h.b)) (one _ (i3 _ h.e))).le (by decide)
    · rw [List.mem_singleton.mp m]
      exact srcs
theorem book_wf {most : Nat} {rs : List Rl} (h : ∀ r ∈ rs, RlOk most r) (hB : dBook (.tuple (rs.map Rl.d)) = true) : Wf (.tuple (rs.map Rl.d)) :=
  (pl_tup (k := 3) fun d m => by
    obtain ⟨r, mr, rfl⟩ := List.mem_map.mp m
    exact rl_pl (h r mr)).wf (by decide) (book_bulk hB)
theorem noPot_tuple {ds : List PyData} (h : ∀ d ∈ ds, noPot d = true) : noPot (.tuple ds) = true := by
  have z : noPotAll ds = true := by
    induction ds with
    | nil => rfl
    | cons d ds ih =>
      rw [noPotAll, h d List.mem_cons_self, ih fun e m => h e (List.mem_cons_of_mem _ m)]
      rfl
  rw [noPot]
  exact z
theorem book_flat {rs : List Rl} : noPot (.tuple (rs.map Rl.d)) = true := noPot_tuple fun e he => by
  obtain ⟨r, _, rfl⟩ := List.mem_map.mp he
  exact (rl_flat r).2
section
variable {P : Program} {w : World} {K : PySem.W.Frag} {mg : Str → Option Value} {base : Heap} {C : Addr}
/-- the names of files, ascending -/
structure Fl (F : List Str) : Prop where
  ok : dFiles (.tuple (F.map PyData.str)) = true
  len : ∀ y ∈ F, y.length ≤ 1000
theorem Fl.few {F : List Str} (h : Fl F) : F.length ≤ 60 := by
  have z := h.ok
  unfold dFiles at z
  simp only [Bool.and_eq_true, decide_eq_true_eq, List.length_map] at z
  exact z.1
theorem strD_map (F : List Str) : (F.map PyData.str).map strD = F := by
  rw [List.map_map]
  exact (List.map_congr_left fun x _ => rfl).trans (List.map_id _)
theorem Fl.asc {F : List Str} (h : Fl F) : F = ascL F := by
  have z := h.ok
  unfold dFiles at z
  simp only [Bool.and_eq_true, decide_eq_true_eq, List.length_map, strD_map] at z
  exact z.2.2
theorem Fl.nd {F : List Str} (h : Fl F) : F.Nodup := by
  rw [h.asc]
  exact (ascL_is F).1
theorem Fl.bulk {F : List Str} (h : Fl F) : (PyData.tuple (F.map PyData.str)).bulk ≤ 1000000 := by
  have s : PyData.bulkAll (F.map PyData.str) ≤ (F.map PyData.str).length * (1000 + 1) := bulkAll_le fun d m => by
    obtain ⟨y, my, rfl⟩ := List.mem_map.mp m
    exact h.len y my
  rw [List.length_map] at s
  have few := h.few
  show PyData.bulkAll (F.map PyData.str) ≤ 1000000
  omega
theorem th_strs2 {H : Hp} : ∀ ss : List Str, ThAll K H (ss.map V.str) (ss.map PyData.str)
  | [] => .nil
  | x :: r => .cons (.str x) (th_strs2 r)
end
/-! ### _law_some_files -/
theorem asc_take {cs ss : List Str} (h : IsAsc cs ss) (n : Nat) : cs.take n = ascL (cs.take n) :=
  IsAsc.uniq (ss := cs.take n) ⟨(List.take_sublist n cs).nodup h.nd, fun _ => Iff.rfl, h.pw.sublist (List.take_sublist n cs)⟩ (ascL_is _)
theorem fl_of {F : List Str} (e : F = ascL F) (few : F.length ≤ 60) (each : ∀ y ∈ F, dName (.str y) = true ∧ y.length ≤ 1000) : Fl F := by
  refine ⟨?_, fun y m => (each y m).2⟩
  unfold dFiles
  simp only [Bool.and_eq_true, decide_eq_true_eq, List.length_map, strD_map, List.all_eq_true]
  exact ⟨few, fun d m => by obtain ⟨y, my, rfl⟩ := List.mem_map.mp m; exact (each y my).1, e⟩
def spFiles (K : PySem.W.Frag) : Sp := fun vs H Q _ => ∃ (p c l : Addr) (row : List Str), vs = [.ref p, .ref l] ∧ PotAt p c H ∧ SqL K H l (row.map V.str) ∧ l ≠ p ∧ row.length ≤ 3990 ∧ (∀ y ∈ row, dName (.str y) = true ∧ y.length ≤ 1000) ∧
  ∀ (t : Addr) (F : List Str) (H' : Hp), Ext p c H H' → H' t = some (.tup (F.map V.str)) → Fl F → (∀ y ∈ F, y ∈ row) → Q (.ref t) H'
section
variable {P : Program} {w : World} {K : PySem.W.Frag} {mg : Str → Option Value} {base : Heap}
theorem sc_some_files : FnScope ["pot", "row", "name"] ["pot", "row"] (defScope s_some_files) := ⟨rfl, rfl, rfl, by decide +kernel, rfl, by decide +kernel, by decide +kernel⟩
theorem cal_some_files (D : Def1 K mg "_law_some_files" s_some_files) (CB : Cal P w K mg base 2 "_law_below" spBelow) (CO : Cal P w K mg base 1 "_law_ordered" (spLOrd K)) : Cal P w K mg base 3 "_law_some_files" (spFiles K) := by
  refine mkCal D sc_some_files (fun _ _ _ _ _ _ us hl => match us, hl with | [_, _], _ => rfl) (fun vs H Q E h => ?_) (fun f cdv A outer s H vs Q E hr h => ?_)
  · obtain ⟨p, c, l, row, rfl, _⟩ := h
    rfl
  · obtain ⟨p, c, l, row, rfl, hP, hl, lp, few, each, k⟩ := h
    refine ⟨_, (pss_one (ps_ret (pe_slice sl_tupA (pe_cal CO hr (by omega) (pa_cons (pe_lc (own := [("name", 2)]) (g := gName 2) (by rfl) sc_some_files.nd (pi_list (pv 1)) (blkOk_by (own := [("name", 2)]) (N := ["pot", "row", "name"]) (sc := defScope s_some_files) (by decide +kernel)) (fun _ _ _ _ _ => pg_name (i := 2) sc_some_files.nd rfl (Or.inl rfl)) (fun _ _ _ _ _ => pts_one (pt_cmpR op_eq (pe_cal CB hr (by omega) (pa_cons (pv 0) (pa_cons pe_int pa_nil))) pe_int (nomark _))) (fun _ _ _ _ _ => (pv 2))) pa_nil)) po_none (po_some pe_int)))), ?_⟩
    refine ⟨_, rfl, l, rfl, ⟨_, hl⟩, fun D nD => ?_⟩
    refine lc_list (K := K) (a := l) (xs := row.map V.str) (fun i H' => Ext p c H H' ∧ ∃ ys, H' D = some (.lst (ys.map V.str)) ∧ ys.length ≤ i ∧ ∀ y ∈ ys, y ∈ row)
      ⟨hP.ref.mut hP nD, [], upd_same, Nat.le_refl _, fun _ m => nomatch m⟩ (fun i H' _ h => h.1.seq lp hl) ?_ ?_
    · rintro i x H1 hx ⟨e1, ys, hD, ly, hy⟩
      obtain ⟨y, hyi, rfl⟩ := Option.map_eq_some_iff.mp ((List.getElem?_map ..).symm.trans hx)
      refine ⟨rfl, _, rfl, p, c, 2, rfl, e1.pot, by decide, by decide, fun r H2 r0 r1 e2 => ⟨rfl, _, rfl, ?_⟩⟩
      have Dp : D ≠ p := hP.nep nD
      have hD2 := e2.get hD Dp
      have e12 := e1.trans e2
      refine ite2 (fun _ => ?_) (fun _ => ⟨e12, ys, hD2, by omega, hy⟩)
      have lt := (List.getElem?_eq_some_iff.mp hyi).1
      refine ⟨_, rfl, _, hD2, by rw [List.length_map, sizeLine_eq]; omega, e12.mut hP nD, ys ++ [y], by rw [upd_same, List.map_append]; rfl, by rw [List.length_append]; show _ + 1 ≤ _; omega, fun x mx => ?_⟩
      rcases List.mem_append.mp mx with m | m
      · exact hy x m
      · rw [List.mem_singleton.mp m]
        exact List.mem_of_getElem? hyi
    · rintro H1 ⟨e1, ys, hD, ly, hy⟩
      rw [List.length_map] at ly
      refine ⟨D, ys, rfl, SqL.of hD, by omega, fun y my => Nat.le_trans (each y (hy y my)).2 (by decide), fun cs t H2 s2 ht asc => ?_⟩
      have sub : ∀ y ∈ cs.take 60, y ∈ row := fun y my => hy y ((asc.mem y).mp (List.mem_of_mem_take my))
      have fl : Fl (cs.take 60) := fl_of (asc_take asc 60) (by rw [List.length_take]; omega) fun y my => each y (sub y my)
      refine ⟨60, rfl, t, _, rfl, SqT.of ht, fun hh => ?_, fun hh b nb => ?_⟩
      · have h0 := hh.2
        rw [sIx_some (by decide), List.length_map] at h0
        have e60 : (60 : Int).toNat = 60 := rfl
        have ec : cs.take 60 = cs := List.take_of_length_le (by omega)
        rw [ec] at fl sub
        exact k t cs H2 (e1.same s2) ht fl sub
      · rw [cut_to (by decide)]
        have s3 := same_upd (o := .tup ((cs.map V.str).take (Int.toNat 60))) nb
        refine k b (cs.take 60) _ ((e1.same s2).same s3) ?_ fl sub
        rw [upd_same, List.map_take]
        rfl
end
/-! ### what the law hands in -/
structure Gd (d : PyData) : Prop where
  sh : d.showable = true
  lv : d.leavesShort 13 = true
  bk : d.bulk ≤ 300000
  dp : d.depth ≤ 50
def w9 (d : PyData) : Bool := d.showable && d.leavesShort 13 && decide (d.bulk ≤ 300000) && decide (d.depth ≤ 50)
theorem gd_of {d : PyData} (h : w9 d = true) : Gd d := by
  simp only [w9, Bool.and_eq_true, decide_eq_true_eq] at h
  exact ⟨h.1.1.1, h.1.1.2, h.1.2, h.2⟩
theorem gd_pl {k : Nat} {d : PyData} (h : Pl k d) (hk : k ≤ 50) (b : d.bulk ≤ 300000) : Gd d := ⟨h.sh, h.lv, b, Nat.le_trans h.dp hk⟩
theorem gd_three {d1 d2 d3 : PyData} (h1 : Gd d1) (h2 : Gd d2) (h3 : Gd d3) : Wf0 (.tuple [d1, d2, d3]) := by
  have b1 := h1.bk
  have b2 := h2.bk
  have b3 := h3.bk
  have p1 := h1.dp
  have p2 := h2.dp
  have p3 := h3.dp
  refine ⟨?_, ?_, ?_, ?_⟩
  · simp only [PyData.showable, PyData.showableAll, h1.sh, h2.sh, h3.sh, Bool.and_self]
  · simp only [PyData.leavesShort, PyData.leavesShortAll, h1.lv, h2.lv, h3.lv, Bool.and_self]
  · simp only [PyData.bulk, PyData.bulkAll]
    omega
  · simp only [PyData.depth, PyData.depthAll]
    omega
section
variable {P : Program} {w : World} {K : PySem.W.Frag} {mg : Str → Option Value} {base : Heap} {H H' : Hp} {p c : Addr} {σ : L2.St}
/-- whole: as data, and its lists are not the table of modules -/
structure Ha (K : PySem.W.Frag) (H : Hp) (v : V) (d : PyData) : Prop where
  th : Th K H v d
  gd : Gd d
  cl : Clr K H v d
theorem Ha.same {v : V} {d : PyData} (h : Ha K H v d) (s : Same H H') : Ha K H' v d := ⟨th_same s h.th, h.gd, h.cl.same s⟩
theorem ne_same {y : Str} {R : Bool → Hp → Prop} (q : R false H) : R (!decide (V.str y = V.str y)) H := by
  rw [decide_eq_true rfl]
  exact q
/-- a word that comes as it is due: no dict, or lists that are no table -/
theorem word_ha {k z : Nat} {v1 v2 v3 : V} {d1 d2 d3 : PyData} {R : Bool → Hp → Prop} (lk : k ≤ 9) (h1 : Th K H v1 d1) (h2 : Th K H v2 d2) (h3 : Th K H v3 d3) (g1 : Gd d1) (g2 : Gd d2) (g3 : Gd d3)
    (cl : (d1.hasDict || (d2.hasDict || d3.hasDict)) = true → Clr K H v1 d1 ∧ Clr K H v2 d2 ∧ Clr K H v3 d3) (hz : errD k d1 d2 d3 = some z ∨ k = 6 ∧ z = 4 ∧ NoFit K H v1 v2 v3)
    (q : ∀ H', Same H H' → R false H') : spWord K [.int (k : Int), v1, v2, v3] H (fun x H' => rNe x (.str (wd z)) H' fun y H2 => ∃ b, y = .bl b ∧ R b H2) E0 :=
  ⟨k, v1, v2, v3, d1, d2, d3, z, rfl, lk, h1, h2, h3, gd_three g1 g2 g3, fun y => cl (by simpa only [PyData.hasDict, PyData.hasDictAll, Bool.or_false] using y), hz, fun H' s => ⟨rfl, _, rfl, ne_same (y := wd z) (q H' s)⟩⟩
theorem word_v {k z : Nat} {v1 v2 v3 : V} {d1 d2 d3 : PyData} {Q : VK} (lk : k ≤ 9) (h1 : Th K H v1 d1) (h2 : Th K H v2 d2) (h3 : Th K H v3 d3) (g1 : Gd d1) (g2 : Gd d2) (g3 : Gd d3)
    (cl : (d1.hasDict || (d2.hasDict || d3.hasDict)) = true → Clr K H v1 d1 ∧ Clr K H v2 d2 ∧ Clr K H v3 d3) (hz : errD k d1 d2 d3 = some z)
    (q : ∀ H', Same H H' → Q (.str (wd z)) H') : spWord K [.int (k : Int), v1, v2, v3] H Q E0 :=
  ⟨k, v1, v2, v3, d1, d2, d3, z, rfl, lk, h1, h2, h3, gd_three g1 g2 g3, fun y => cl (by simpa only [PyData.hasDict, PyData.hasDictAll, Bool.or_false] using y), .inl hz, q⟩
/-- a name, None or [] -/
structure NmA (K : PySem.W.Frag) (z : Str) (H : Hp) (v : V) (d : PyData) : Prop where
  is : d = .str z ∨ d = .none ∨ d = .list []
  th : Th K H v d
  cl : Clr K H v d
theorem NmA.gd {z : Str} {v : V} {d : PyData} (h : NmA K z H v d) (g : Gd (.str z)) : Gd d := by
  rcases h.is with rfl | rfl | rfl
  · exact g
  · exact gd_of (by decide +kernel)
  · exact gd_of (by decide +kernel)
theorem pick_nm {i j : Nat} {z : Str} {Q : VK} (hP : PotAt p c H) (hi : σ[i]? = some (some (.ref p))) (hj : σ[j]? = some (some (.str z))) (k : ∀ v d H', NmA K z H' v d → Ext p c H H' → Q v H') :
    tCall (spPick K) [] E0 (tCons (tVar i) (tCons (tLst (tCons (tVar j) (tCons (tC .non) (tCons (tLstS tNil) tNil)))) tNil)) σ H Q := by
  refine ⟨_, hi, _, hj, (by show 0 ≤ sizeLine; decide), fun r nr nS => ⟨(by show 3 ≤ sizeLine; decide), fun l nl => ?_⟩⟩
  have s1 := same_upd (o := .lst []) nr
  have hr : upd H r (.lst []) r = some (.lst []) := upd_same
  have rp := hP.nep nr
  have P1 := hP.same s1
  generalize upd H r (.lst []) = H1 at s1 hr P1 nl ⊢
  have s2 := same_upd (o := .lst [.str z, .non, .ref r]) nl
  have lp := P1.nep nl
  have P2 := P1.same s2
  have hr2 := s2 _ _ hr
  have hl : upd H1 l (.lst [.str z, .non, .ref r]) l = some (.lst [.str z, .non, .ref r]) := upd_same
  generalize upd H1 l (.lst [.str z, .non, .ref r]) = H2 at s2 P2 hr2 hl ⊢
  refine ⟨p, c, l, _, rfl, P2, SqL.of hl, lp, by show 0 < 3; decide, by show 3 ≤ 1000; decide, fun v H3 hv e3 => ?_⟩
  have e := Ext.pre (s1.trans s2) e3
  simp only [List.mem_cons, List.mem_nil_iff, or_false] at hv
  rcases hv with rfl | rfl | rfl
  · exact k _ (.str z) _ ⟨.inl rfl, .str z, .flat (.str z) rfl⟩ e
  · exact k _ .none _ ⟨.inr (.inl rfl), .non, .flat .non rfl⟩ e
  · have h3 := e3.get hr2 rp
    exact k _ (.list []) _ ⟨.inr (.inr rfl), .lst (SqL.of h3) .nil, .lst (SqL.of h3) nS .nil rfl⟩ e
/-- one of a display, whatever the display's place -/
theorem pick_two {i : Nat} {ta tb : TE} {da db : PyData} {Q : VK} (ha : Mk1 K ta σ H da) (hb : Mk1 K tb σ H db) (na : noPot da = true) (nb : noPot db = true) (hP : PotAt p c H) (hi : σ[i]? = some (some (.ref p)))
    (k : ∀ v d H', (d = da ∨ d = db) → Th K H' v d → Ext p c H H' → Q v H') : tCall (spPick K) [] E0 (tCons (tVar i) (tCons (tLst (tCons ta (tCons tb tNil))) tNil)) σ H Q :=
  pick_new (mk_cons ha (mk_cons hb mk_nil)) (by rw [noPotAll, noPotAll, na, nb]; rfl) (by show 0 < 2; decide) (by show 2 ≤ 1000; decide) hP hi fun v d H' hd th e => k v d H' (by simpa using hd) th e
end
/-- the rule behind the drawn ones -/
def rule0 : Rl := ⟨"cc", "", "o", []⟩
theorem rule0_ok : RlOk 2 rule0 := ⟨by decide +kernel, by decide +kernel, by decide +kernel, by decide +kernel, (fun _ m => nomatch m), by decide⟩
/-- the book: drawn rules and this one -/
structure Bk (rs : List Rl) : Prop where
  ok : ∀ r ∈ rs, RlOk 2 r
  len : rs.length ≤ 4
  last : rs[rs.length - 1]? = some rule0
  pos : 0 < rs.length
theorem bk_of {rs : List Rl} (h : ∀ r ∈ rs, RlOk 2 r) (l : rs.length ≤ 3) : Bk (rs ++ [rule0]) := by
  refine ⟨fun r m => ?_, by rw [List.length_append]; show _ + 1 ≤ 4; omega, ?_, by rw [List.length_append]; show 0 < _ + 1; omega⟩
  · rcases List.mem_append.mp m with m | m
    · exact h r m
    · rw [List.mem_singleton.mp m]
      exact rule0_ok
  · rw [List.length_append]
    show (rs ++ [rule0])[rs.length + 1 - 1]? = _
    simp
theorem Bk.book {rs : List Rl} (h : Bk rs) : dBook (.tuple (rs.map Rl.d)) = true := by
  show (decide ((rs.map Rl.d).length ≤ 6) && (rs.map Rl.d).all dRule) = true
  rw [List.length_map, decide_eq_true (by have := h.len; omega), Bool.true_and, List.all_eq_true]
  intro d m
  obtain ⟨r, mr, rfl⟩ := List.mem_map.mp m
  exact (ok_draw (h.ok r mr) (by decide)).1
theorem Bk.each {rs : List Rl} (h : Bk rs) : ∀ d ∈ rs.map Rl.d, Pl 3 d ∧ d.bulk ≤ 100 ∧ noLst d = true ∧ noPot d = true := fun d m => by
  obtain ⟨r, mr, rfl⟩ := List.mem_map.mp m
  exact ⟨rl_pl (h.ok r mr), rl_bulk (ok_draw (h.ok r mr) (by decide)).1, rl_flat r⟩
theorem bulk_small {c n : Nat} {ds : List PyData} (h : ∀ d ∈ ds, d.bulk ≤ c) (l : ds.length ≤ n) (b : n * (c + 1) ≤ 300000) : (PyData.tuple ds).bulk ≤ 300000 := by
  have z := bulkAll_le h
  have y := Nat.mul_le_mul_right (c + 1) l
  show PyData.bulkAll ds ≤ 300000
  omega
theorem noLstAll_of {ds : List PyData} (h : ∀ d ∈ ds, noLst d = true) : noLstAll ds = true := by
  induction ds with
  | nil => rfl
  | cons d ds ih =>
    rw [noLstAll, h d List.mem_cons_self, ih fun e m => h e (List.mem_cons_of_mem _ m)]
    rfl
theorem noPotAll_of {ds : List PyData} (h : ∀ d ∈ ds, noPot d = true) : noPotAll ds = true := by
  induction ds with
  | nil => rfl
  | cons d ds ih =>
    rw [noPotAll, h d List.mem_cons_self, ih fun e m => h e (List.mem_cons_of_mem _ m)]
    rfl
end Lk

/-! K12G -/
set_option Elab.async false
set_option linter.all false
set_option maxRecDepth 100000
set_option maxHeartbeats 4000000
namespace Lk
open PySem PySem.Spec PyProof.Rows L2
theorem pl_str {x : Str} (h : PyData.strOk x = true) : Pl 0 (.str x) := by
  refine ⟨rfl, ?_, Nat.le_refl _, rfl⟩
  have z := ok_iff.mp h
  show (x.cps.toList.all fun c => decide (c < 16 ^ 8)) = true
  rw [List.all_eq_true]
  intro c mc
  have y := z c mc
  rw [decide_eq_true_eq]
  omega
theorem pl_lst {k : Nat} {ds : List PyData} (h : ∀ d ∈ ds, Pl k d) : Pl (k + 1) (.list ds) := by
  obtain ⟨a, b, c, e⟩ := pl_all h
  refine ⟨?_, ?_, ?_, ?_⟩
  · rw [PyData.showable]
    exact a
  · rw [PyData.leavesShort]
    exact b
  · rw [PyData.depth]
    omega
  · rw [PyData.hasDict]
    exact e
theorem potLike_rl : ∀ rs : List Rl, potLike (rs.map Rl.d) = false
  | [] => rfl
  | [_] => rfl
  | [_, _] => rfl
  | [_, _, _] => rfl
  | [_, _, _, _] => rfl
  | _ :: _ :: _ :: _ :: _ :: _ => rfl
/-- things that are no books -/
def badA (rs : List Rl) (r : Rl) : List PyData := [.none, .int 0, .dict [], .str "", .list (rs.map Rl.d), .tuple (rs.map Rl.d ++ [.none]), .tuple (rs.map Rl.d ++ [.tuple (cutL [.str r.lab, .tuple [.str r.b, .str r.e], .tuple (r.ss.map Src.d)] none (some 2))]),
  .tuple (List.replicate 7 (rs.map Rl.d)).flatten, .tuple [.tuple [.str "cc", .tuple [.str "a", .str ""], .tuple []]]]
structure NoBk (d : PyData) : Prop where
  gd : Gd d
  no : dBook d = false
  np : noPot d = true
  nl : d.hasDict = true → noLst d = true
theorem nob_dec {d : PyData} (h : (w9 d && !dBook d && noPot d && (!d.hasDict || noLst d)) = true) : NoBk d := by
  simp only [Bool.and_eq_true, Bool.not_eq_true', Bool.or_eq_true] at h
  exact ⟨gd_of h.1.1.1, h.1.1.2, h.1.2, fun y => h.2.resolve_left (by rw [y]; decide)⟩
theorem gd_tup {n k : Nat} {ds : List PyData} (h : ∀ d ∈ ds, Pl k d ∧ d.bulk ≤ 100) (l : ds.length ≤ n) (hn : n ≤ 2900) (hk : k + 1 ≤ 50) : Gd (.tuple ds) ∧ (PyData.tuple ds).hasDict = false := by
  have z := pl_tup (k := k) fun d m => (h d m).1
  refine ⟨gd_pl z hk (bulk_small (c := 100) (fun d m => (h d m).2) l ?_), z.hd⟩
  have := Nat.mul_le_mul_right (100 + 1) hn
  omega
theorem rep_len {α : Type} (n : Nat) (l : List α) : (List.replicate n l).flatten.length = n * l.length := by
  induction n with
  | zero => simp
  | succ n ih =>
    rw [List.replicate_succ, List.flatten_cons, List.length_append, ih, Nat.add_mul, Nat.one_mul, Nat.add_comm]
theorem mem_rep {α : Type} {n : Nat} {l : List α} {x : α} (h : x ∈ (List.replicate n l).flatten) : x ∈ l := by
  obtain ⟨y, my, hx⟩ := List.mem_flatten.mp h
  rw [(List.mem_replicate.mp my).2] at hx
  exact hx
theorem badA_ok {rs : List Rl} {r : Rl} (B : Bk rs) (mr : r ∈ rs) : ∀ d ∈ badA rs r, NoBk d := by
  have E := B.each
  have four : (rs.map Rl.d).length ≤ 4 := by rw [List.length_map]; exact B.len
  have one : 0 < (rs.map Rl.d).length := by rw [List.length_map]; exact B.pos
  have plN : Pl 3 .none ∧ (PyData.none).bulk ≤ 100 := ⟨⟨rfl, rfl, by decide, rfl⟩, by decide⟩
  have cutE : cutL [.str r.lab, .tuple [.str r.b, .str r.e], .tuple (r.ss.map Src.d)] none (some 2) = ([.str r.lab, .tuple [.str r.b, .str r.e]] : List PyData) := rfl
  have notup : ∀ d : PyData, dRule d = false → ∀ ds, ds.length ≤ 5 → NoBk (.tuple (ds ++ [d])) → True := fun _ _ _ _ _ => trivial
  intro d hd
  unfold badA at hd
  simp only [List.mem_cons, List.mem_nil_iff, or_false] at hd
  rcases hd with rfl | rfl | rfl | rfl | rfl | rfl | rfl | rfl | rfl
  · exact nob_dec (by decide +kernel)
  · exact nob_dec (by decide +kernel)
  · exact nob_dec (by decide +kernel)
  · exact nob_dec (by decide +kernel)
  · have z := pl_lst (k := 3) fun d m => (E d m).1
    have bb := bulk_small (c := 100) (fun d m => (E d m).2.1) four (by decide)
    refine ⟨gd_pl z (by decide) bb, rfl, ?_, fun y => ?_⟩
    · rw [noPot, potLike_rl, noPotAll_of fun d m => (E d m).2.2.2]
      rfl
    · rw [z.hd] at y
      cases y
  · obtain ⟨g, hd⟩ := gd_tup (n := 5) (k := 3) (ds := rs.map Rl.d ++ [.none]) (fun d m => by
      rcases List.mem_append.mp m with m | m
      · exact ⟨(E d m).1, (E d m).2.1⟩
      · rw [List.mem_singleton.mp m]
        exact plN) (by rw [List.length_append]; show _ + 1 ≤ 5; omega) (by decide) (by decide)
    refine ⟨g, ?_, ?_, fun y => ?_⟩
    · show (decide ((rs.map Rl.d ++ [PyData.none]).length ≤ 6) && (rs.map Rl.d ++ [PyData.none]).all dRule) = false
      rw [List.all_append]
      simp [dRule]
    · rw [noPot]
      refine noPotAll_of fun d m => ?_
      rcases List.mem_append.mp m with m | m
      · exact (E d m).2.2.2
      · rw [List.mem_singleton.mp m]
        rfl
    · rw [hd] at y
      cases y
  · have q := rl_pl (B.ok r mr)
    have bk : r.d.bulk ≤ 100 := (E r.d (List.mem_map.mpr ⟨r, mr, rfl⟩)).2.1
    have sh := q.sh
    have lv := q.lv
    unfold Rl.d at sh lv bk
    simp only [PyData.showable, PyData.showableAll, Bool.and_eq_true] at sh
    simp only [PyData.leavesShort, PyData.leavesShortAll, Bool.and_eq_true] at lv
    simp only [PyData.bulk, PyData.bulkAll] at bk
    have pl : Pl 3 (.tuple [.str r.lab, .tuple [.str r.b, .str r.e]]) ∧ (PyData.tuple [.str r.lab, .tuple [.str r.b, .str r.e]]).bulk ≤ 100 := by
      refine ⟨⟨?_, ?_, by simp [PyData.depth, PyData.depthAll], rfl⟩, ?_⟩
      · simp only [PyData.showable, PyData.showableAll, sh, Bool.and_self]
      · simp only [PyData.leavesShort, PyData.leavesShortAll, lv, Bool.and_self]
      · simp only [PyData.bulk, PyData.bulkAll]
        omega
    rw [cutE]
    obtain ⟨g, hd⟩ := gd_tup (n := 5) (k := 3) (ds := rs.map Rl.d ++ [.tuple [.str r.lab, .tuple [.str r.b, .str r.e]]]) (fun d m => by
      rcases List.mem_append.mp m with m | m
      · exact ⟨(E d m).1, (E d m).2.1⟩
      · rw [List.mem_singleton.mp m]
        exact pl) (by rw [List.length_append]; show _ + 1 ≤ 5; omega) (by decide) (by decide)
    refine ⟨g, ?_, ?_, fun y => ?_⟩
    · show (decide (_ ≤ 6) && (rs.map Rl.d ++ [PyData.tuple [.str r.lab, .tuple [.str r.b, .str r.e]]]).all dRule) = false
      rw [List.all_append]
      simp [dRule]
    · rw [noPot]
      refine noPotAll_of fun d m => ?_
      rcases List.mem_append.mp m with m | m
      · exact (E d m).2.2.2
      · rw [List.mem_singleton.mp m]
        rfl
    · rw [hd] at y
      cases y
  · obtain ⟨g, hd⟩ := gd_tup (n := 28) (k := 3) (ds := (List.replicate 7 (rs.map Rl.d)).flatten) (fun d m => ⟨(E d (mem_rep m)).1, (E d (mem_rep m)).2.1⟩) (by rw [rep_len]; omega) (by decide) (by decide)
    refine ⟨g, ?_, ?_, fun y => ?_⟩
    · show (decide ((List.replicate 7 (rs.map Rl.d)).flatten.length ≤ 6) && _) = false
      rw [rep_len, decide_eq_false (by omega), Bool.false_and]
    · rw [noPot]
      exact noPotAll_of fun d m => (E d (mem_rep m)).2.2.2
    · rw [hd] at y
      cases y
  · exact nob_dec (by decide +kernel)
theorem err_book {d1 d2 d3 : PyData} (h : dBook d1 = false) : ∀ j, errD j d1 d2 d3 = some 0 := fun j => by
  unfold errD
  split
  · exact if_pos h
  · exact if_pos h
  · exact if_pos h
  · exact if_pos h
  · exact if_pos h
  · exact if_pos h
  · exact if_pos h
  · exact if_pos h
theorem err_files {d1 d2 d3 : PyData} (h : dBook d1 = true) (f : dFiles d2 = false) {j : Nat} (hj : 2 ≤ j) (h6 : j ≠ 6) : errD j d1 d2 d3 = some 1 := by
  have t : errT d1 d2 d3 = some 1 := (if_neg (tf h)).trans (if_pos f)
  have r : errR d1 d2 d3 = some 1 := (if_neg (tf h)).trans (if_pos f)
  unfold errD
  split
  · omega
  · omega
  · exact t
  · exact t
  · exact t
  · exact t
  · exact absurd rfl h6
  · exact r
theorem err_name {d1 d2 d3 : PyData} (h : dBook d1 = true) (f : dFiles d2 = true) (n : dName d3 = false) {j : Nat} (hj : j ≤ 5) : errD j d1 d2 d3 = some 2 := by
  have t2 : err2 d1 d3 = some 2 := (if_neg (tf h)).trans (if_pos n)
  have t : errT d1 d2 d3 = some 2 := (if_neg (tf h)).trans ((if_neg (tf f)).trans (if_pos n))
  have cs : j = 0 ∨ j = 1 ∨ j = 2 ∨ j = 3 ∨ j = 4 ∨ j = 5 := by omega
  rcases cs with rfl | rfl | rfl | rfl | rfl | rfl
  · exact t2
  · exact t2
  · exact t
  · exact t
  · exact t
  · exact t
theorem err_run {d1 d2 d3 : PyData} {z : Nat} (h : dBook d1 = true) (f : dFiles d2 = true) (n : errN d3 = some z) {j : Nat} (hj : 7 ≤ j) : errD j d1 d2 d3 = some z := by
  have t : errR d1 d2 d3 = some z := (if_neg (tf h)).trans ((if_neg (tf f)).trans n)
  unfold errD
  split
  · omega
  · omega
  · omega
  · omega
  · omega
  · omega
  · omega
  · exact t
theorem err_src {d1 d2 d3 : PyData} (h : dBook d1 = true) (f : numD d1 d2 = true) (n : dName d3 = false) : errD 6 d1 d2 d3 = some 2 := (if_neg (tf h)).trans ((if_neg (tf f)).trans (if_pos n))
theorem err_num {d1 d2 d3 : PyData} (h : dBook d1 = true) (f : numD d1 d2 = false) : errD 6 d1 d2 d3 = some 3 := (if_neg (tf h)).trans (if_pos f)
end Lk

/-! K12H -/
set_option Elab.async false
set_option linter.all false
set_option maxRecDepth 100000
set_option maxHeartbeats 4000000
namespace Lk
open PySem PySem.Spec PyProof.Rows L2
section
variable {K : PySem.W.Frag} {σ : L2.St} {H0 : Hp}
theorem mk_lstS : Mk1 K (tLstS tNil) σ H0 (.list []) := fun H _ Q q => ⟨(by show 0 ≤ sizeLine; decide), fun p np _ => q _ _ (same_upd np) (.lst (SqL.of upd_same) .nil)⟩
theorem mk_ixT {te : TE} {ds : List PyData} {d : PyData} {n : Nat} (h : Mk1 K te σ H0 (.tuple ds)) (e : ds[n]? = some d) : Mk1 K (tOp (rIxT K) te (tC (.int (n : Int)))) σ H0 d := fun H s Q q =>
  h H s _ fun v H1 s1 th => by
    obtain ⟨a, xs, rfl, ha, hx⟩ := th_of_tup th
    have hl := thAll_len hx
    have lt : n < xs.length := by
      rw [hl]
      exact (List.getElem?_eq_some_iff.mp e).1
    have hx2 := List.getElem?_eq_getElem lt
    obtain ⟨d2, hd, t2⟩ := th_at hx hx2
    rw [e] at hd
    cases hd
    exact ⟨a, xs, _, _, rfl, rfl, ha, atI_nat hx2, q _ H1 s1 t2⟩
end
theorem potLike_str : ∀ ss : List Str, potLike (ss.map PyData.str) = false
  | [] => rfl
  | [_] => rfl
  | [_, _] => rfl
  | [_, _, _] => rfl
  | [_, _, _, _] => rfl
  | _ :: _ :: _ :: _ :: _ :: _ => rfl
/-- things that are no files -/
def badB (F : List Str) : List PyData := [.none, .int 0, .list [], .dict [], .str "", .str "A", .tuple [.str "aA"], .tuple [.str "B", .str "A"], .tuple [.str "A", .str "A"], .tuple [.str "AA", .str "B"], .tuple [.none], .list (F.map PyData.str)]
structure NoFl (d : PyData) : Prop where
  gd : Gd d
  no : dFiles d = false
  np : noPot d = true
  nl : d.hasDict = true → noLst d = true
  dc : d.hasDict = true → isDct d = true
  sh : d.hasDict = false → SeqAt.shaped d = true
theorem asc_no {F : List Str} {x y : Str} {l : List Str} (e : F = x :: y :: l) (h : ¬ (leL x y = true ∧ (x.length = y.length → x ≠ y ∧ leT x y = true)) ) : True := trivial
theorem nof_dec {d : PyData} (no : dFiles d = false) (h : (w9 d && noPot d && (if d.hasDict then noLst d && isDct d else SeqAt.shaped d)) = true) : NoFl d := by
  simp only [Bool.and_eq_true] at h
  obtain ⟨⟨h1, h2⟩, h3⟩ := h
  refine ⟨gd_of h1, no, h2, fun y => ?_, fun y => ?_, fun y => ?_⟩
  · rw [y, if_pos rfl, Bool.and_eq_true] at h3
    exact h3.1
  · rw [y, if_pos rfl, Bool.and_eq_true] at h3
    exact h3.2
  · rw [y] at h3
    exact h3
theorem strs_gd {F : List Str} (ok : ∀ y ∈ F, PyData.strOk y = true ∧ y.length ≤ 1000) (few : F.length ≤ 100) : Gd (.list (F.map PyData.str)) ∧ Gd (.tuple (F.map PyData.str)) ∧ (PyData.list (F.map PyData.str)).hasDict = false ∧ (PyData.tuple (F.map PyData.str)).hasDict = false := by
  have each : ∀ d ∈ F.map PyData.str, Pl 0 d := fun d m => by
    obtain ⟨y, my, rfl⟩ := List.mem_map.mp m
    exact pl_str (ok y my).1
  have b : (PyData.tuple (F.map PyData.str)).bulk ≤ 300000 := bulk_small (c := 1000) (n := 100) (fun d m => by
    obtain ⟨y, my, rfl⟩ := List.mem_map.mp m
    exact (ok y my).2) (by rw [List.length_map]; exact few) (by decide)
  have p1 := pl_lst each
  have p2 := pl_tup each
  exact ⟨gd_pl p1 (by decide) b, gd_pl p2 (by decide) b, p1.hd, p2.hd⟩
theorem asc_pw {F : List Str} (h : dFiles (.tuple (F.map PyData.str)) = true) : IsAsc F F := by
  unfold dFiles at h
  simp only [Bool.and_eq_true, decide_eq_true_eq, strD_map] at h
  have e := h.2.2
  have z := ascL_is F
  rw [← e] at z
  exact z
theorem files_no (d : PyData) (h : dFiles d = true → False) : dFiles d = false := by
  cases e : dFiles d with
  | true => exact (h e).elim
  | false => rfl
theorem badB_ok {F : List Str} (fl : Fl F) : ∀ d ∈ badB F, NoFl d := by
  have okF : ∀ y ∈ F, PyData.strOk y = true ∧ y.length ≤ 1000 := fun y my => by
    have z := fl.ok
    unfold dFiles at z
    simp only [Bool.and_eq_true, List.all_eq_true] at z
    exact ⟨name_ok (z.2.1 _ (List.mem_map.mpr ⟨y, my, rfl⟩)), fl.len y my⟩
  have few := fl.few
  intro d hd
  unfold badB at hd
  simp only [List.mem_cons, List.mem_nil_iff, or_false] at hd
  rcases hd with rfl | rfl | rfl | rfl | rfl | rfl | rfl | rfl | rfl | rfl | rfl | rfl
  · exact nof_dec rfl (by decide +kernel)
  · exact nof_dec rfl (by decide +kernel)
  · exact nof_dec rfl (by decide +kernel)
  · exact nof_dec rfl (by decide +kernel)
  · exact nof_dec rfl (by decide +kernel)
  · exact nof_dec rfl (by decide +kernel)
  · exact nof_dec (by decide +kernel) (by decide +kernel)
  · refine nof_dec (files_no _ fun h => ?_) (by decide +kernel)
    have z := (List.pairwise_cons.mp (asc_pw (F := ["B", "A"]) h).pw).1 "A" List.mem_cons_self
    revert z
    unfold leA
    decide +kernel
  · refine nof_dec (files_no _ fun h => ?_) (by decide +kernel)
    have z := (asc_pw (F := ["A", "A"]) h).nd
    revert z
    decide +kernel
  · refine nof_dec (files_no _ fun h => ?_) (by decide +kernel)
    have z := (List.pairwise_cons.mp (asc_pw (F := ["AA", "B"]) h).pw).1 "B" List.mem_cons_self
    revert z
    unfold leA
    decide +kernel
  · exact nof_dec (by decide +kernel) (by decide +kernel)
  · obtain ⟨g, _, hd, _⟩ := strs_gd okF (by omega)
    refine ⟨g, rfl, ?_, fun y => ?_, fun y => ?_, fun _ => shaped_lst fun x m => (okF x m).1⟩
    · rw [noPot, potLike_str, noPotAll_of fun d m => by
        obtain ⟨y, my, rfl⟩ := List.mem_map.mp m
        rfl]
      rfl
    · rw [hd] at y
      cases y
    · rw [hd] at y
      cases y
/-- sixty-one names -/
def nm61 (l : Nat) : Str := (⟨#[(TL.tl "ABDEFGHI")[l / 8]!]⟩ : Str) ++ ⟨#[(TL.tl "abcdefgh")[l % 8]!]⟩
def names61 : List Str := (List.range 61).map nm61
theorem n61_ok : ∀ y ∈ names61, PyData.strOk y = true ∧ y.length ≤ 1000 ∧ y.length ≤ 10 := by decide +kernel
theorem n61_nd : names61.Nodup := by decide +kernel
theorem many_no {cs : List Str} (h : IsAsc cs names61) : cs.length = 61 ∧ NoFl (.tuple (cs.map PyData.str)) ∧ SeqAt.shaped (.tuple (cs.map PyData.str)) = true := by
  have l1 := nodup_len (l := cs) (m := names61) h.nd fun x m => (h.mem x).mp m
  have l2 := nodup_len (l := names61) (m := cs) n61_nd fun x m => (h.mem x).mpr m
  have e : names61.length = 61 := by decide +kernel
  have ok : ∀ y ∈ cs, PyData.strOk y = true ∧ y.length ≤ 1000 := fun y my => ⟨(n61_ok y ((h.mem y).mp my)).1, (n61_ok y ((h.mem y).mp my)).2.1⟩
  have len : cs.length = 61 := by omega
  obtain ⟨_, g, _, hd⟩ := strs_gd ok (by omega)
  have sh := shaped_tup fun x m => (ok x m).1
  refine ⟨len, ⟨g, ?_, ?_, fun y => ?_, fun y => ?_, fun _ => sh⟩, sh⟩
  · refine files_no _ fun y => ?_
    have z := (Fl.mk y fun x m => (ok x m).2).few
    omega
  · rw [noPot]
    exact noPotAll_of fun d m => by
      obtain ⟨y, my, rfl⟩ := List.mem_map.mp m
      rfl
  · rw [hd] at y
    cases y
  · rw [hd] at y
    cases y
/-- things that are no names -/
def badC (z : Str) : List PyData := [.none, .int 0, .tuple [], .list [], .dict [], .str "", .str "aA", .str "A1", .tuple [.str z], .bool true]
structure NoNm (d : PyData) : Prop where
  gd : Gd d
  no : dName d = false
  np : noPot d = true
  nl : d.hasDict = true → noLst d = true
  bk : d.bulk ≤ 2000
theorem nonm_dec {d : PyData} (h : (w9 d && !dName d && noPot d && (!d.hasDict || noLst d) && decide (d.bulk ≤ 2000)) = true) : NoNm d := by
  simp only [Bool.and_eq_true, Bool.not_eq_true', Bool.or_eq_true, decide_eq_true_eq] at h
  exact ⟨gd_of h.1.1.1.1, h.1.1.1.2, h.1.1.2, fun y => h.1.2.resolve_left (by rw [y]; decide), h.2⟩
theorem gd_str {z : Str} (ok : PyData.strOk z = true) (l : z.length ≤ 1000) : Gd (.str z) := gd_pl (pl_str ok) (by decide) (by show z.length ≤ 300000; omega)
theorem gd_tup1 {z : Str} (ok : PyData.strOk z = true) (l : z.length ≤ 1000) : Gd (.tuple [.str z]) :=
  (strs_gd (F := [z]) (fun y m => by rw [List.mem_singleton.mp m]; exact ⟨ok, l⟩) (by show 1 ≤ 100; decide)).2.1
theorem badC_ok {z : Str} (ok : PyData.strOk z = true) (l : z.length ≤ 1000) : ∀ d ∈ badC z, NoNm d := by
  intro d hd
  unfold badC at hd
  simp only [List.mem_cons, List.mem_nil_iff, or_false] at hd
  rcases hd with rfl | rfl | rfl | rfl | rfl | rfl | rfl | rfl | rfl | rfl
  · exact nonm_dec (by decide +kernel)
  · exact nonm_dec (by decide +kernel)
  · exact nonm_dec (by decide +kernel)
  · exact nonm_dec (by decide +kernel)
  · exact nonm_dec (by decide +kernel)
  · exact nonm_dec (by decide +kernel)
  · exact nonm_dec (by decide +kernel)
  · exact nonm_dec (by decide +kernel)
  · exact ⟨gd_tup1 ok l, rfl, rfl, (fun y => nomatch y), by show z.length + 1 + 0 ≤ 2000; omega⟩
  · exact nonm_dec (by decide +kernel)
/-- rows with such a thing -/
def rowsC (d : PyData) (z : Str) : List (List PyData) := [[d], [.str z, d], [d, .str z, .none]]
theorem gd_list {ds : List PyData} {n : Nat} (h : ∀ d ∈ ds, Gd d ∧ d.bulk ≤ 2000) (l : ds.length ≤ 4) (dp : ∀ d ∈ ds, d.depth ≤ 40) : Gd (.list ds) := by
  have go : ∀ l : List PyData, (∀ d ∈ l, Gd d ∧ d.bulk ≤ 2000 ∧ d.depth ≤ 40) → PyData.showableAll l = true ∧ PyData.leavesShortAll 13 l = true ∧ PyData.bulkAll l ≤ l.length * 2001 ∧ PyData.depthAll l ≤ 40 := fun l => by
    induction l with
    | nil => exact fun _ => ⟨rfl, rfl, Nat.zero_le _, Nat.zero_le _⟩
    | cons d r ih =>
      intro h
      obtain ⟨a1, a2, a3, a4⟩ := ih fun e m => h e (List.mem_cons_of_mem _ m)
      obtain ⟨g, b, q⟩ := h d List.mem_cons_self
      refine ⟨?_, ?_, ?_, ?_⟩
      · rw [PyData.showableAll, g.sh, a1]
        rfl
      · rw [PyData.leavesShortAll, g.lv, a2]
        rfl
      · rw [PyData.bulkAll, List.length_cons, Nat.add_mul]
        omega
      · rw [PyData.depthAll]
        omega
  obtain ⟨a1, a2, a3, a4⟩ := go ds fun d m => ⟨(h d m).1, (h d m).2, dp d m⟩
  have := Nat.mul_le_mul_right 2001 l
  refine ⟨?_, ?_, ?_, ?_⟩
  · rw [PyData.showable]
    exact a1
  · rw [PyData.leavesShort]
    exact a2
  · rw [PyData.bulk]
    omega
  · rw [PyData.depth]
    omega
theorem rowsC_ok {d : PyData} {z : Str} (h : NoNm d) (dp : d.depth ≤ 40) (ok : PyData.strOk z = true) (l : z.length ≤ 1000) : ∀ ds ∈ rowsC d z, Gd (.list ds) ∧ errN (.list ds) = some 2 ∧ noPot (.list ds) = true ∧ ((PyData.list ds).hasDict = true → noLstAll ds = true) := by
  have gz := gd_str ok l
  have gN : Gd .none := gd_of (by decide +kernel)
  have bz : (PyData.str z).bulk ≤ 2000 := by show z.length ≤ 2000; omega
  have mem : ∀ ds ∈ rowsC d z, ds.length ≤ 4 ∧ d ∈ ds ∧ ∀ e ∈ ds, e = d ∨ e = .str z ∨ e = .none := by
    intro ds hd
    unfold rowsC at hd
    simp only [List.mem_cons, List.mem_nil_iff, or_false] at hd
    rcases hd with rfl | rfl | rfl
    · exact ⟨by show 1 ≤ 4; decide, by simp, fun e m => by simp at m; exact .inl m⟩
    · exact ⟨by show 2 ≤ 4; decide, by simp, fun e m => by simp at m; exact m.elim (fun y => .inr (.inl y)) .inl⟩
    · exact ⟨by show 3 ≤ 4; decide, by simp, fun e m => by simp at m; exact m⟩
  have nopl : ∀ ds ∈ rowsC d z, potLike ds = false := by
    intro ds hd
    unfold rowsC at hd
    simp only [List.mem_cons, List.mem_nil_iff, or_false] at hd
    rcases hd with rfl | rfl | rfl
    · cases d <;> rfl
    · cases d <;> rfl
    · cases d <;> rfl
  intro ds hd
  obtain ⟨len, dm, each⟩ := mem ds hd
  refine ⟨gd_list (n := 0) (fun e m => ?_) len (fun e m => ?_), ?_, ?_, fun y => noLstAll_of fun e m => ?_⟩
  · rcases each e m with rfl | rfl | rfl
    · exact ⟨h.gd, h.bk⟩
    · exact ⟨gz, bz⟩
    · exact ⟨gN, by decide⟩
  · rcases each e m with rfl | rfl | rfl
    · exact dp
    · exact Nat.zero_le _
    · exact Nat.zero_le _
  · exact if_pos (List.all_eq_false.mpr ⟨d, dm, by rw [h.no]; decide⟩)
  · rw [noPot, nopl ds hd, noPotAll_of fun e m => by
      rcases each e m with rfl | rfl | rfl
      · exact h.np
      · rfl
      · rfl]
    rfl
  · rcases each e m with rfl | rfl | rfl
    · cases q : e.hasDict with
      | true => exact h.nl q
      | false =>
        exfalso
        have all : PyData.hasDictAll ds = false := by
          have go : ∀ l : List PyData, (∀ x ∈ l, x.hasDict = false) → PyData.hasDictAll l = false := fun l => by
            induction l with
            | nil => exact fun _ => rfl
            | cons x r ih =>
              intro hh
              rw [PyData.hasDictAll, hh x List.mem_cons_self, ih fun w mw => hh w (List.mem_cons_of_mem _ mw)]
              rfl
          refine go ds fun x mx => ?_
          rcases each x mx with rfl | rfl | rfl
          · exact q
          · rfl
          · rfl
        rw [PyData.hasDict, all] at y
        cases y
    · rfl
    · rfl
/-- things that are no numbers of a rule -/
def badD (n : Nat) : List PyData := [.none, .int (0 - 1), .int (n : Int), .bool true, .bool false, .str "0", .tuple [.int 0], .list [.int 0], .int 99]
theorem badD_ok {ds : List PyData} (l4 : ds.length ≤ 4) : ∀ d ∈ badD ds.length, Gd d ∧ numD (.tuple ds) d = false ∧ noPot d = true ∧ d.hasDict = false := by
  have small : ∀ n : Nat, n ≤ 4 → w9 (.int (n : Int)) = true := by
    intro n h
    have cs : n = 0 ∨ n = 1 ∨ n = 2 ∨ n = 3 ∨ n = 4 := by omega
    rcases cs with rfl | rfl | rfl | rfl | rfl <;> decide +kernel
  intro d hd
  unfold badD at hd
  simp only [List.mem_cons, List.mem_nil_iff, or_false] at hd
  rcases hd with rfl | rfl | rfl | rfl | rfl | rfl | rfl | rfl | rfl
  · exact ⟨gd_of (by decide +kernel), rfl, rfl, rfl⟩
  · refine ⟨gd_of (by decide +kernel), ?_, rfl, rfl⟩
    show (decide ((0 : Int) ≤ 0 - 1) && decide ((0 : Int) - 1 < (ds.length : Int))) = false
    rw [show decide ((0 : Int) ≤ 0 - 1) = false from by decide]
    rfl
  · refine ⟨gd_of (small _ l4), ?_, rfl, rfl⟩
    show (decide ((0 : Int) ≤ (ds.length : Int)) && decide ((ds.length : Int) < (ds.length : Int))) = false
    rw [show decide ((ds.length : Int) < (ds.length : Int)) = false from decide_eq_false (by omega), Bool.and_false]
  · exact ⟨gd_of (by decide +kernel), rfl, rfl, rfl⟩
  · exact ⟨gd_of (by decide +kernel), rfl, rfl, rfl⟩
  · exact ⟨gd_of (by decide +kernel), rfl, rfl, rfl⟩
  · exact ⟨gd_of (by decide +kernel), rfl, rfl, rfl⟩
  · exact ⟨gd_of (by decide +kernel), rfl, rfl, rfl⟩
  · refine ⟨gd_of (by decide +kernel), ?_, rfl, rfl⟩
    show (decide ((0 : Int) ≤ 99) && decide ((99 : Int) < (ds.length : Int))) = false
    rw [show decide ((99 : Int) < (ds.length : Int)) = false from decide_eq_false (by omega), Bool.and_false]
/-- things that are no lists -/
def badF (z : Str) : List PyData := [.none, .tuple [], .tuple [.str z], .str z, .dict [], .int 0, .tuple [.str "aA"], .tuple [.none]]
theorem badF_ok {z : Str} (ok : PyData.strOk z = true) (l : z.length ≤ 1000) : ∀ d ∈ badF z, Gd d ∧ errN d = some 4 ∧ noPot d = true ∧ noLst d = true := by
  intro d hd
  unfold badF at hd
  simp only [List.mem_cons, List.mem_nil_iff, or_false] at hd
  rcases hd with rfl | rfl | rfl | rfl | rfl | rfl | rfl | rfl
  · exact ⟨gd_of (by decide +kernel), rfl, rfl, rfl⟩
  · exact ⟨gd_of (by decide +kernel), rfl, rfl, rfl⟩
  · exact ⟨gd_tup1 ok l, rfl, rfl, rfl⟩
  · exact ⟨gd_str ok l, rfl, rfl, rfl⟩
  · exact ⟨gd_of (by decide +kernel), rfl, rfl, rfl⟩
  · exact ⟨gd_of (by decide +kernel), rfl, rfl, rfl⟩
  · exact ⟨gd_of (by decide +kernel), rfl, rfl, rfl⟩
  · exact ⟨gd_of (by decide +kernel), rfl, rfl, rfl⟩
end Lk

/-! K12I -/
set_option Elab.async false
set_option linter.all false
set_option maxRecDepth 100000
set_option maxHeartbeats 4000000
namespace Lk
open PySem PySem.Spec PyProof.Rows L2
section
/-- the test says no, at most the pot has moved -/
def NoT (p c : Addr) (t : TT) (σ : L2.St) (H : Hp) : Prop := ∀ Q2 : Bool → Hp → Prop, (∀ H', Ext p c H H' → Q2 false H') → t σ H Q2
theorem no_ifS {p c : Addr} {t : TT} {ts r : TS} {σ : L2.St} {D : Ends} {H : Hp} (h : NoT p c t σ H) (k : ∀ H', Ext p c H H' → r D σ H') : tSeq (tIfS t ts tNext) r D σ H := h _ fun H' e => iteF (k H' e)
theorem no_if {p c : Addr} {t : TT} {ts : TS} {σ : L2.St} {D : Ends} {H : Hp} (h : NoT p c t σ H) (k : ∀ H', Ext p c H H' → D.nx σ H') : tIfS t ts tNext D σ H := h _ fun H' e => iteF (k H' e)
theorem no_or {p c : Addr} {t u : TT} {σ : L2.St} {H : Hp} (h1 : NoT p c t σ H) (h2 : ∀ H1, Ext p c H H1 → NoT p c u σ H1) : NoT p c (tOr t u) σ H := fun _ q => h1 _ fun H1 e1 => iteF (h2 H1 e1 _ fun H' e => q H' (e1.trans e))
theorem nx_open {x : V} {i : Nat} {q : L2.St → Hp → Prop} {rt : VK} {bk ct : L2.St → Hp → Prop} {σ : L2.St} {H : Hp} (h : gName i x σ H q) : gName i x σ H (Ends.nx { nx := q, rt := rt, bk := bk, ct := ct }) := h
theorem next_read {x : V} {i : Nat} {te : TE} {g : TG} {r : TS} {D : Ends} {σ : L2.St} {H : Hp} (h : te (σ.set i (some x)) H fun y H1 => g y (σ.set i (some x)) H1 (r D)) : gName i x σ H (tSeq (tAsg te g) r D) := h
theorem next_if {x : V} {i : Nat} {t : TT} {ts r : TS} {D : Ends} {σ : L2.St} {H : Hp} (h : tSeq (tIfS t ts tNext) r D (σ.set i (some x)) H) : gName i x σ H (tSeq (tIfS t ts tNext) r D) := h
theorem next_if1 {x : V} {i : Nat} {t : TT} {ts : TS} {D : Ends} {σ : L2.St} {H : Hp} (h : tIfS t ts tNext D (σ.set i (some x)) H) : gName i x σ H (tIfS t ts tNext D) := h
end
theorem gN_eq {i : Nat} {x y : V} {σ : L2.St} {H : Hp} {q : L2.St → Hp → Prop} (e : x = y) (h : gName i y σ H q) : gName i x σ H q := e ▸ h
theorem yes_go {σ : L2.St} {H : Hp} {Q : Bool → Hp → Prop} (h : Q true H) : tYes σ H Q := h
section
variable {K : PySem.W.Frag} {H : Hp} {p c : Addr} {σ : L2.St}
/-- the same word three times -/
theorem three {i2 i3 i4 : Nat} {v1 v2 v3 : V} {zz : Str} {Q : VK} (wp : ∀ x : V, wipe ((wipe σ [8]).set 8 (some x)) [8] = wipe σ [8]) (s1 : ∀ x : V, ((wipe σ [8]).set 8 (some x))[8]? = some (some x)) (s2 : ∀ x : V, ((wipe σ [8]).set 8 (some x))[i2]? = some (some v1))
    (s3 : ∀ x : V, ((wipe σ [8]).set 8 (some x))[i3]? = some (some v2)) (s4 : ∀ x : V, ((wipe σ [8]).set 8 (some x))[i4]? = some (some v3))
    (word : ∀ (j : Nat) (H' : Hp) (Q' : VK), 7 ≤ j → j ≤ 9 → Same H H' → (∀ H'', Same H' H'' → Q' (.str zz) H'') → spWord K [.int (j : Int), v1, v2, v3] H' Q' E0)
    (k : ∀ D H', Same H H' → H' D = some (.lst (([zz, zz, zz] : List Str).map V.str)) → Q (.ref D) H') :
    tLc (iTup K (tTup (tCons (tC (.int 7)) (tCons (tC (.int 8)) (tCons (tC (.int 9)) tNil))))) (gName 8) tYes (tCall (spWord K) [] E0 (tCons (tVar 8) (tCons (tVar i2) (tCons (tVar i3) (tCons (tVar i4) tNil))))) [8] σ H Q := by
  refine ⟨(by show 3 ≤ sizeLine; decide), fun t nt => ⟨t, rfl, ⟨_, SqT.of upd_same⟩, ?_⟩⟩
  have st := same_upd (o := .tup [.int 7, .int 8, .int 9]) nt
  have ht : upd H t (.tup [.int 7, .int 8, .int 9]) t = some (.tup [.int 7, .int 8, .int 9]) := upd_same
  generalize upd H t (.tup [.int 7, .int 8, .int 9]) = H1 at st ht
  intro D nD
  refine lc_tup (K := K) (a := t) (xs := [.int 7, .int 8, .int 9]) (fun i H' => Same H1 H' ∧ H' D = some (.lst ((List.replicate i zz).map V.str))) ⟨same_upd nD, upd_same⟩ (fun i H' _ h => Same.seqT h.1 (SqT.of ht)) ?_ ?_
  · rintro i x H2 hx ⟨s, hD⟩
    have lt := (List.getElem?_eq_some_iff.mp hx).1
    have lt3 : i < 3 := lt
    obtain ⟨j, rfl, j7, j9⟩ : ∃ j : Nat, x = .int (j : Int) ∧ 7 ≤ j ∧ j ≤ 9 := by
      have cs : i = 0 ∨ i = 1 ∨ i = 2 := by omega
      rcases cs with rfl | rfl | rfl
      · cases hx
        exact ⟨7, rfl, by decide, by decide⟩
      · cases hx
        exact ⟨8, rfl, by decide, by decide⟩
      · cases hx
        exact ⟨9, rfl, by decide, by decide⟩
    have go : ∀ Q' : VK, (∀ H'', Same H2 H'' → Q' (.str zz) H'') → spWord K [.int (j : Int), v1, v2, v3] H2 Q' E0 := fun Q' q => word j H2 Q' j7 j9 (st.trans s) q
    refine ⟨wp _, yes_go (iteT ?_)⟩
    refine ⟨_, s1 _, _, s2 _, _, s3 _, _, s4 _, ?_⟩
    refine go (fun y H4 => ∃ acc, H4 D = some (.lst acc) ∧ acc.length < sizeLine ∧ (Same H1 (upd H4 D (.lst (acc ++ [y]))) ∧ upd H4 D (.lst (acc ++ [y])) D = some (.lst ((List.replicate (i + 1) zz).map V.str)))) fun H3 s3 => ⟨_, s3 _ _ hD, by rw [List.length_map, List.length_replicate, sizeLine_eq]; omega, same_mut (s.trans s3) nD, ?_⟩
    rw [upd_same, List.replicate_succ', List.map_append]
    rfl
  · rintro H2 ⟨s, hD⟩
    exact k D H2 (st.trans s) hD
end
section
variable {K : PySem.W.Frag} {H H' : Hp} {p c : Addr} {σ : L2.St}
theorem cat_th {v u : V} {ds es : List PyData} {Q : VK} (h1 : Th K H v (.tuple ds)) (h2 : Th K H u (.tuple es)) (hl : ds.length + es.length ≤ 1000) (q : ∀ x H', Same H H' → Th K H' x (.tuple (ds ++ es)) → Q x H') : rCatA K v u H Q := by
  obtain ⟨a, xs, rfl, ha, ta⟩ := th_of_tup h1
  obtain ⟨b, ys, rfl, hb, tb⟩ := th_of_tup h2
  have l1 := thAll_len ta
  have l2 := thAll_len tb
  refine ⟨a, b, xs, ys, rfl, rfl, ha, hb, by rw [sizeLine_eq]; omega, fun e => ?_, fun _ e => ?_, fun _ _ p np => ?_⟩
  · have ed : ds = [] := List.length_eq_zero_iff.mp (by rw [← l1, e]; rfl)
    rw [ed] at q
    exact q _ H (Same.refl _) h2
  · have ed : es = [] := List.length_eq_zero_iff.mp (by rw [← l2, e]; rfl)
    rw [ed, List.append_nil] at q
    exact q _ H (Same.refl _) h1
  · exact q _ _ (same_upd np) (.tup (.inl (.inl upd_same)) (thAll_same (same_upd np) (thAll_app ta tb)))
theorem ne_len {q : Addr} {xs : List V} (hP : PotAt p c H) (e : H q = some (.lst xs)) (hl : xs.length ≠ 4) : q ≠ p := by
  obtain ⟨_, ⟨i, a, b, hp⟩, _⟩ := hP
  rintro rfl
  rw [hp] at e
  cases e
  exact hl rfl
theorem ne_tup {q : Addr} {xs : List V} (hP : PotAt p c H) (e : H q = some (.tup xs)) : q ≠ p := by
  obtain ⟨_, ⟨i, a, b, hp⟩, _⟩ := hP
  rintro rfl
  rw [hp] at e
  cases e
/-- what stands while the pot moves: the pot, the book, the files -/
structure S12 (K : PySem.W.Frag) (p c qb ft : Addr) (rs : List Rl) (F : List Str) (H : Hp) : Prop where
  pot : PotAt p c H
  bk : Th K H (.ref qb) (.tuple (rs.map Rl.d))
  fl : H ft = some (.tup (F.map V.str))
theorem S12.ext {qb ft : Addr} {rs : List Rl} {F : List Str} (s : S12 K p c qb ft rs F H) (e : Ext p c H H') : S12 K p c qb ft rs F H' := ⟨e.pot, th_ext s.pot e s.bk book_flat, e.get s.fl (ne_tup s.pot s.fl)⟩
theorem S12.same {qb ft : Addr} {rs : List Rl} {F : List Str} (s : S12 K p c qb ft rs F H) (e : Same H H') : S12 K p c qb ft rs F H' := s.ext (Ext.same s.pot.ref e)
theorem S12.files {qb ft : Addr} {rs : List Rl} {F : List Str} (s : S12 K p c qb ft rs F H) : Th K H (.ref ft) (.tuple (F.map PyData.str)) := .tup (SqT.of s.fl) (th_strs2 F)
end
/-- a book that is handed in -/
structure BkD (d : PyData) : Prop where
  bk : dBook d = true
  gd : Gd d
  nd : d.hasDict = false
  nl : noLst d = true
  np : noPot d = true
theorem bkd_nil : BkD (.tuple []) := ⟨rfl, gd_of (by decide +kernel), rfl, rfl, rfl⟩
theorem bkd_of {rs : List Rl} (B : Bk rs) : BkD (.tuple (rs.map Rl.d)) := by
  obtain ⟨g, h⟩ := gd_tup (n := 4) (k := 3) (fun d m => ⟨(B.each d m).1, (B.each d m).2.1⟩) (by rw [List.length_map]; exact B.len) (by decide) (by decide)
  refine ⟨B.book, g, h, ?_, book_flat⟩
  rw [noLst]
  exact noLstAll_of fun d m => (B.each d m).2.2.1
/-- files that are handed in -/
structure FlD (d : PyData) : Prop where
  gd : Gd d
  nd : d.hasDict = false
  nl : noLst d = true
  np : noPot d = true
theorem fld_of {F : List Str} (fl : Fl F) : FlD (.tuple (F.map PyData.str)) := by
  have z := fl.ok
  unfold dFiles at z
  simp only [Bool.and_eq_true, List.all_eq_true] at z
  have few := fl.few
  obtain ⟨_, g, _, h⟩ := strs_gd (F := F) (fun y my => ⟨name_ok (z.2.1 _ (List.mem_map.mpr ⟨y, my, rfl⟩)), fl.len y my⟩) (by omega)
  refine ⟨g, h, ?_, ?_⟩
  · rw [noLst]
    exact noLstAll_of fun d m => by
      obtain ⟨y, my, rfl⟩ := List.mem_map.mp m
      rfl
  · rw [noPot]
    exact noPotAll_of fun d m => by
      obtain ⟨y, my, rfl⟩ := List.mem_map.mp m
      rfl

theorem at_ab : ∀ n, n < 8 → (TL.tl "ABDEFGHI")[n]? = some ((TL.tl "ABDEFGHI")[n]!) ∧ (TL.tl "abcdefgh")[n]? = some ((TL.tl "abcdefgh")[n]!) := by decide +kernel
theorem next_for {x : V} {i : Nat} {w : TI} {g : TG} {tb r : TS} {D : Ends} {σ : L2.St} {H : Hp} (h : tFor w g tb { D with nx := r D } (σ.set i (some x)) H) : gName i x σ H (tSeq (tFor w g tb) r D) := h
theorem seq_for {w : TI} {g : TG} {tb r : TS} {D : Ends} {rt : VK} {bk ct : L2.St → Hp → Prop} {σ : L2.St} {H : Hp} (h : tFor w g tb { D with nx := r D } σ H) : Ends.nx { nx := tSeq (tFor w g tb) r D, rt := rt, bk := bk, ct := ct } σ H := h
theorem nums4 : ∀ v ∈ ([.int 2, .int 3, .int 4, .int 5] : List V), ∃ k : Nat, v = .int (k : Int) ∧ 2 ≤ k ∧ k ≠ 6 ∧ k ≤ 9 := by
  intro v h
  simp only [List.mem_cons, List.mem_nil_iff, or_false] at h
  rcases h with rfl | rfl | rfl | rfl
  · exact ⟨2, rfl, by decide, by decide, by decide⟩
  · exact ⟨3, rfl, by decide, by decide, by decide⟩
  · exact ⟨4, rfl, by decide, by decide, by decide⟩
  · exact ⟨5, rfl, by decide, by decide, by decide⟩
theorem nums7 : ∀ v ∈ ([.int 2, .int 3, .int 4, .int 5, .int 7, .int 8, .int 9] : List V), ∃ k : Nat, v = .int (k : Int) ∧ 2 ≤ k ∧ k ≠ 6 ∧ k ≤ 9 := by
  intro v h
  simp only [List.mem_cons, List.mem_nil_iff, or_false] at h
  rcases h with rfl | rfl | rfl | rfl | rfl | rfl | rfl
  · exact ⟨2, rfl, by decide, by decide, by decide⟩
  · exact ⟨3, rfl, by decide, by decide, by decide⟩
  · exact ⟨4, rfl, by decide, by decide, by decide⟩
  · exact ⟨5, rfl, by decide, by decide, by decide⟩
  · exact ⟨7, rfl, by decide, by decide, by decide⟩
  · exact ⟨8, rfl, by decide, by decide, by decide⟩
  · exact ⟨9, rfl, by decide, by decide, by decide⟩
section
variable {K : PySem.W.Frag} {σ : L2.St} {H0 : Hp}
theorem mk_sub {i j : Int} : Mk1 K (tOp (rI0 fun i j => .int (i - j)) (tC (.int i)) (tC (.int j))) σ H0 (.int (i - j)) := fun H _ Q q => ⟨_, _, rfl, rfl, q _ H (Same.refl H) (.int _)⟩
theorem mk_len {te : TE} {ds : List PyData} (h : Mk1 K te σ H0 (.tuple ds)) : Mk1 K (tCB (fun xs H Q => ∃ p ys, xs = [.ref p] ∧ (SqL K H p ys ∨ SqT K H p ys) ∧ Q (.int ys.length) H) (tCons te tNil)) σ H0 (.int (ds.length : Int)) := fun H s Q q =>
  h H s _ fun v H1 s1 h1 => by
    obtain ⟨a, xs, rfl, ha, ta⟩ := th_of_tup h1
    have l1 := thAll_len ta
    rw [← l1] at q
    exact ⟨a, xs, rfl, .inr ha, q _ H1 s1 (.int _)⟩
end
/-- the last rule fits none of these -/
theorem nofit0 : ∀ x ∈ (["s", "Z", "Zs"] : List Str), stemO rule0.b rule0.e x = none ∧ dName (.str x) = true ∧ x.length ≤ 1000 ∧ PyData.strOk x = true := by
  intro x h
  have e : ∀ x ∈ (["s", "Z", "Zs"] : List Str), (TL.tl x).getLast? ≠ some 111 ∧ dName (.str x) = true ∧ x.length ≤ 1000 ∧ PyData.strOk x = true := by decide +kernel
  obtain ⟨e1, e2, e3, e4⟩ := e x h
  refine ⟨stemO_none fun ⟨m, hm⟩ => e1 ?_, e2, e3, e4⟩
  have o : TL.tl rule0.e = [111] := by decide +kernel
  rw [hm, o, List.getLast?_append]
  rfl
theorem nx_ifS {p c : Addr} {t : TT} {ts r : TS} {σ : L2.St} {D : Ends} {H : Hp} {rt : VK} {bk ct : L2.St → Hp → Prop} (h : NoT p c t σ H) (k : ∀ H', Ext p c H H' → r D σ H') : Ends.nx { nx := tSeq (tIfS t ts tNext) r D, rt := rt, bk := bk, ct := ct } σ H := h _ fun H' e => iteF (k H' e)
theorem cmp_go {r0 : R2} {ta tb : TE} {σ : L2.St} {H : Hp} {Q2 : Bool → Hp → Prop} (h : ta σ H fun x H1 => tb σ H1 fun y H2 => r0 x y H2 fun z H3 => ∃ k, z = .bl k ∧ Q2 k H3) : tTest (tOp r0 ta tb) σ H Q2 := h
section
variable {P : Program} {w : World} {K : PySem.W.Frag} {mg : Str → Option Value} {base : Heap}
theorem sc_law : FnScope ["script", "pot", "turn", "book", "name", "files", "bad", "thing", "choice", "odd", "many", "row", "some", "lap"] ["script"] (defScope s_law) := ⟨rfl, rfl, rfl, by decide +kernel, rfl, by decide +kernel, by decide +kernel⟩
structure Cs12 (P : Program) (w : World) (K : PySem.W.Frag) (mg : Str → Option Value) (base : Heap) : Prop where
  pot : Cal P w K mg base 1 "_law_pot_of" (spPotOf K)
  pick : Cal P w K mg base 3 "_law_pick" (spPick K)
  name : Cal P w K mg base 4 "_law_some_name" spName
  book : Cal P w K mg base 6 "_law_some_book" (spBook K)
  lord : Cal P w K mg base 1 "_law_ordered" (spLOrd K)
  files : Cal P w K mg base 3 "_law_some_files" (spFiles K)
  word : CalG P w K mg base CX0 13 "_law_word" (spWord K)
structure Gl12 (mg : Str → Option Value) : Prop where
  list : mg "list" = none
set_option maxHeartbeats 0
theorem fn_law {f : Addr} {fd : FuncData} (F : L2.Fun K "law" "law" s_law f fd) (C : Cs12 P w K mg base) (G : Glb mg) (R : Gl12 mg) : FnG P w K mg base CX0 14 f fd ["script"] (spLaw K) := by
  refine mkFnG0 F sc_law (fun vs H Q E h => ?_) (fun cdv A outer s H vs Q E hr hg h => ?_)
  · obtain ⟨a, ns, rfl, _⟩ := h
    rfl
  · obtain ⟨a, ns, rfl, hS, hlen, k⟩ := h
    refine ⟨_, (pss_cons (ps_set (i := 1) sc_law.nd rfl (.inl rfl) (pe_cal C.pot hr (by decide) (pa_cons (pv 0) pa_nil)))
    (pss_cons (ps_for PassesOwn.never rfl (pi_range1 (by rfl) G.range (pa_cons pe_int pa_nil)) (pg_name (i := 2) sc_law.nd rfl (.inl rfl))
    (pss_cons (ps_asg (pe_tup (pa_cons (pe_op op_catA (pe_cal C.book hr (by decide) (pa_cons (pv 1) (pa_cons pe_int (pa_cons pe_int pa_nil)))) (pe_tup (pa_cons (pe_tup (pa_cons pe_str (pa_cons (pe_tup (pa_cons pe_str (pa_cons pe_str pa_nil))) (pa_cons (pe_tup pa_nil) pa_nil)))) pa_nil))) (pa_cons (pe_cal C.name hr (by decide) (pa_cons (pv 1) pa_nil)) pa_nil))) (pg_tup rfl (pgs_cons (pg_name (i := 3) sc_law.nd rfl (.inr rfl)) (pgs_cons (pg_name (i := 4) sc_law.nd rfl (.inl rfl)) pgs_nil))))
    (pss_cons (ps_set (i := 5) sc_law.nd rfl (.inr rfl) (pe_cal C.files hr (by decide) (pa_cons (pv 1) (pa_cons (pe_lst (pa_cons (pv 4) (pa_cons pe_str (pa_cons pe_str (pa_cons pe_str pa_nil))))) pa_nil))))
    (pss_cons (ps_set (i := 6) sc_law.nd rfl (.inl rfl) (pe_lst (pa_cons pe_non (pa_cons pe_int (pa_cons pe_dnewK (pa_cons pe_str (pa_cons (pe_callTy call_list_of (by rfl) R.list (by decide +kernel) (pa_cons (pv 3) pa_nil)) (pa_cons (pe_op op_catA (pv 3) (pe_tup (pa_cons pe_non pa_nil))) (pa_cons (pe_op op_catA (pv 3) (pe_tup (pa_cons (pe_slice sl_tupA (pe_ix ix_tup (pv 3) pe_int (fun _ _ => rfl)) po_none (po_some pe_int)) pa_nil))) (pa_cons (pe_op op_repT (pv 3) pe_int) (pa_cons (pe_tup (pa_cons (pe_tup (pa_cons pe_str (pa_cons (pe_tup (pa_cons pe_str (pa_cons pe_str pa_nil))) (pa_cons (pe_tup pa_nil) pa_nil)))) pa_nil)) pa_nil)))))))))))
    (pss_cons (ps_for PassesOwn.never rfl (pi_list (pv 6)) (pg_name (i := 7) sc_law.nd rfl (.inr rfl))
    (pss_one (ps_for PassesOwn.never rfl (pi_range1 (by rfl) G.range (pa_cons pe_int pa_nil)) (pg_name (i := 8) sc_law.nd rfl (.inl rfl))
    (pss_cons (ps_set (i := 9) sc_law.nd rfl (.inl rfl) (pe_cal C.pick hr (by decide) (pa_cons (pv 1) (pa_cons (pe_lst (pa_cons (pv 5) (pa_cons pe_non pa_nil))) pa_nil))))
    (pss_one (ps_if (pt_cmpR op_ne (pe_calG C.word hr (by decide) hg (pa_cons (pv 8) (pa_cons (pv 7) (pa_cons (pv 9) (pa_cons (pe_cal C.pick hr (by decide) (pa_cons (pv 1) (pa_cons (pe_lst (pa_cons (pv 4) (pa_cons pe_non (pa_cons (pe_lstS pa_nil) pa_nil)))) pa_nil))) pa_nil))))) pe_str (nomark _)) (pss_one (ps_ret pe_bl)) pss_nil))))))
    (pss_cons (ps_set (i := 6) sc_law.nd rfl (.inl rfl) (pe_lst (pa_cons pe_non (pa_cons pe_int (pa_cons (pe_lstS pa_nil) (pa_cons pe_dnewK (pa_cons pe_str (pa_cons pe_str (pa_cons (pe_tup (pa_cons pe_str pa_nil)) (pa_cons (pe_tup (pa_cons pe_str (pa_cons pe_str pa_nil))) (pa_cons (pe_tup (pa_cons pe_str (pa_cons pe_str pa_nil))) (pa_cons (pe_tup (pa_cons pe_str (pa_cons pe_str pa_nil))) (pa_cons (pe_tup (pa_cons pe_non pa_nil)) (pa_cons (pe_callTy call_list_of (by rfl) R.list (by decide +kernel) (pa_cons (pv 5) pa_nil)) pa_nil))))))))))))))
    (pss_cons (ps_set (i := 10) sc_law.nd rfl (.inl rfl) (pe_cal C.lord hr (by decide) (pa_cons (pe_lc (own := [("lap", 13)]) (g := gName 13) (tt := tYes) (by rfl) sc_law.nd (pi_range1 (by rfl) G.range (pa_cons pe_int pa_nil)) (blkOk_by (own := [("lap", 13)]) (N := ["script", "pot", "turn", "book", "name", "files", "bad", "thing", "choice", "odd", "many", "row", "some", "lap"]) (sc := defScope s_law) (by decide +kernel)) (fun _ _ _ _ _ => pg_name (i := 13) sc_law.nd rfl (Or.inl rfl)) (fun _ _ _ _ _ => pts_nil) (fun _ _ _ _ _ => (pe_op op_add_str (pe_ix ix_str pe_str (pe_op op_fdiv (pv 13) pe_int) (fun _ _ => rfl)) (pe_ix ix_str pe_str (pe_op op_mod (pe_callTy call_int1 (by rfl) G.int (by decide +kernel) (pa_cons (pv 13) pa_nil)) pe_int) (fun _ _ => rfl))))) pa_nil)))
    (pss_cons (ps_for PassesOwn.never rfl (pi_list (pe_op op_cat (pv 6) (pe_lst (pa_cons (pv 10) pa_nil)))) (pg_name (i := 7) sc_law.nd rfl (.inr rfl))
    (pss_one (ps_for PassesOwn.never rfl (pi_tup (pe_ifExp (pt_cmpR (op_eqT hr.units) (pv 7) (pv 10) (nomark _)) (pe_tup (pa_cons pe_int (pa_cons pe_int (pa_cons pe_int (pa_cons pe_int pa_nil))))) (pe_tup (pa_cons pe_int (pa_cons pe_int (pa_cons pe_int (pa_cons pe_int (pa_cons pe_int (pa_cons pe_int (pa_cons pe_int pa_nil)))))))))) (pg_name (i := 8) sc_law.nd rfl (.inl rfl))
    (pss_one (ps_if (pt_cmpR op_ne (pe_calG C.word hr (by decide) hg (pa_cons (pv 8) (pa_cons (pe_cal C.pick hr (by decide) (pa_cons (pv 1) (pa_cons (pe_lst (pa_cons (pv 3) (pa_cons (pe_tup pa_nil) pa_nil))) pa_nil))) (pa_cons (pv 7) (pa_cons (pe_cal C.pick hr (by decide) (pa_cons (pv 1) (pa_cons (pe_lst (pa_cons (pv 4) (pa_cons pe_non (pa_cons (pe_lstS pa_nil) pa_nil)))) pa_nil))) pa_nil))))) pe_str (nomark _)) (pss_one (ps_ret pe_bl)) pss_nil)))))
    (pss_cons (ps_for PassesOwn.never rfl (pi_list (pe_lst (pa_cons pe_non (pa_cons pe_int (pa_cons (pe_tup pa_nil) (pa_cons (pe_lstS pa_nil) (pa_cons pe_dnewK (pa_cons pe_str (pa_cons pe_str (pa_cons pe_str (pa_cons (pe_tup (pa_cons (pv 4) pa_nil)) (pa_cons pe_bl pa_nil)))))))))))) (pg_name (i := 7) sc_law.nd rfl (.inr rfl))
    (pss_cons (ps_for PassesOwn.never rfl (pi_range1 (by rfl) G.range (pa_cons pe_int pa_nil)) (pg_name (i := 8) sc_law.nd rfl (.inl rfl))
    (pss_one (ps_if (pt_cmpR op_ne (pe_calG C.word hr (by decide) hg (pa_cons (pv 8) (pa_cons (pe_cal C.pick hr (by decide) (pa_cons (pv 1) (pa_cons (pe_lst (pa_cons (pv 3) (pa_cons (pe_tup pa_nil) pa_nil))) pa_nil))) (pa_cons (pv 5) (pa_cons (pv 7) pa_nil))))) pe_str (nomark _)) (pss_one (ps_ret pe_bl)) pss_nil)))
    (pss_cons (ps_if (pt_cmpR op_ne (pe_calG C.word hr (by decide) hg (pa_cons pe_int (pa_cons (pv 3) (pa_cons (pe_op op_sub (pe_callB call_len_seq (by rfl) G.len PySem.boot_len (pa_cons (pv 3) pa_nil)) pe_int) (pa_cons (pv 7) pa_nil))))) pe_str (nomark _)) (pss_one (ps_ret pe_bl)) pss_nil)
    (pss_cons (ps_set (i := 11) sc_law.nd rfl (.inr rfl) (pe_cal C.pick hr (by decide) (pa_cons (pv 1) (pa_cons (pe_lst (pa_cons (pe_lstS (pa_cons (pv 7) pa_nil)) (pa_cons (pe_lstS (pa_cons (pv 4) (pa_cons (pv 7) pa_nil))) (pa_cons (pe_lstS (pa_cons (pv 7) (pa_cons (pv 4) (pa_cons pe_non pa_nil)))) pa_nil)))) pa_nil))))
    (pss_cons (ps_set (i := 12) sc_law.nd rfl (.inr rfl) (pe_cal C.pick hr (by decide) (pa_cons (pv 1) (pa_cons (pe_lst (pa_cons (pv 3) (pa_cons (pe_tup pa_nil) pa_nil))) pa_nil))))
    (pss_one (ps_if (pt_cmpR (op_neD hr.units) (pe_lc (own := [("choice", 8)]) (g := gName 8) (tt := tYes) (by rfl) sc_law.nd (pi_tup (pe_tup (pa_cons pe_int (pa_cons pe_int (pa_cons pe_int pa_nil))))) (blkOk_by (own := [("choice", 8)]) (N := ["script", "pot", "turn", "book", "name", "files", "bad", "thing", "choice", "odd", "many", "row", "some", "lap"]) (sc := defScope s_law) (by decide +kernel)) (fun _ _ _ _ _ => pg_name (i := 8) sc_law.nd rfl (Or.inl rfl)) (fun _ _ _ _ _ => pts_nil) (fun _ _ _ _ _ => (pe_calG C.word hr (by decide) hg (pa_cons (pv 8) (pa_cons (pv 12) (pa_cons (pv 5) (pa_cons (pv 11) pa_nil))))))) (pe_op op_rep (pe_lst (pa_cons pe_str pa_nil)) pe_int) (nomark _)) (pss_one (ps_ret pe_bl)) pss_nil)))))))
    (pss_cons (ps_for PassesOwn.never rfl (pi_list (pe_lst (pa_cons pe_non (pa_cons (pe_op op_sub pe_int pe_int) (pa_cons (pe_callB call_len_seq (by rfl) G.len PySem.boot_len (pa_cons (pv 3) pa_nil)) (pa_cons pe_bl (pa_cons pe_bl (pa_cons pe_str (pa_cons (pe_tup (pa_cons pe_int pa_nil)) (pa_cons (pe_lst (pa_cons pe_int pa_nil)) (pa_cons pe_int pa_nil))))))))))) (pg_name (i := 7) sc_law.nd rfl (.inr rfl))
    (pss_one (ps_if (pt_cmpR op_ne (pe_calG C.word hr (by decide) hg (pa_cons pe_int (pa_cons (pv 3) (pa_cons (pv 7) (pa_cons (pe_cal C.pick hr (by decide) (pa_cons (pv 1) (pa_cons (pe_lst (pa_cons (pv 4) (pa_cons pe_non pa_nil))) pa_nil))) pa_nil))))) pe_str (nomark _)) (pss_one (ps_ret pe_bl)) pss_nil)))
    (pss_cons (ps_if (pt_cmpR op_ne (pe_calG C.word hr (by decide) hg (pa_cons pe_int (pa_cons (pv 3) (pa_cons (pe_op op_sub (pe_callB call_len_seq (by rfl) G.len PySem.boot_len (pa_cons (pv 3) pa_nil)) pe_int) (pa_cons (pe_cal C.pick hr (by decide) (pa_cons (pv 1) (pa_cons (pe_lst (pa_cons pe_str (pa_cons pe_str (pa_cons pe_str pa_nil)))) pa_nil))) pa_nil))))) pe_str (nomark _)) (pss_one (ps_ret pe_bl)) pss_nil)
    (pss_one (ps_for PassesOwn.never rfl (pi_list (pe_lst (pa_cons pe_non (pa_cons (pe_tup pa_nil) (pa_cons (pe_tup (pa_cons (pv 4) pa_nil)) (pa_cons (pv 4) (pa_cons pe_dnewK (pa_cons pe_int (pa_cons (pe_tup (pa_cons pe_str pa_nil)) (pa_cons (pe_tup (pa_cons pe_non pa_nil)) pa_nil)))))))))) (pg_name (i := 7) sc_law.nd rfl (.inr rfl))
    (pss_one (ps_if (pt_cmpR (op_neD hr.units) (pe_lc (own := [("choice", 8)]) (g := gName 8) (tt := tYes) (by rfl) sc_law.nd (pi_tup (pe_tup (pa_cons pe_int (pa_cons pe_int (pa_cons pe_int pa_nil))))) (blkOk_by (own := [("choice", 8)]) (N := ["script", "pot", "turn", "book", "name", "files", "bad", "thing", "choice", "odd", "many", "row", "some", "lap"]) (sc := defScope s_law) (by decide +kernel)) (fun _ _ _ _ _ => pg_name (i := 8) sc_law.nd rfl (Or.inl rfl)) (fun _ _ _ _ _ => pts_nil) (fun _ _ _ _ _ => (pe_calG C.word hr (by decide) hg (pa_cons (pv 8) (pa_cons (pv 3) (pa_cons (pv 5) (pa_cons (pv 7) pa_nil))))))) (pe_op op_rep (pe_lst (pa_cons pe_str pa_nil)) pe_int) (nomark _)) (pss_one (ps_ret pe_bl)) pss_nil)))))))))))))))
    (pss_one (ps_ret pe_bl)))), ?_⟩
    refine ⟨_, rfl, a, ns, rfl, hS, hlen, fun p c H1 s1 np hP => ?_⟩
    refine ⟨4, rfl, by decide, by decide, for_range (n := 4) (fun i σ H' => ∃ v2 v3 v4 v5 v6 v7 v8 v9 v10 v11 v12 : Option V, σ = [some (.ref a), some (.ref p), v2, v3, v4, v5, v6, v7, v8, v9, v10, v11, v12, none] ∧ PotAt p c H')
      ⟨none, none, none, none, none, none, none, none, none, none, none, rfl, hP⟩ ?_ ?_⟩
    · rintro i σ H2 hi ⟨v2, v3, v4, v5, v6, v7, v8, v9, v10, v11, v12, rfl, hP2⟩
      -- book, name
      refine next_read ?_
      refine ⟨_, rfl, p, c, 3, 2, rfl, by decide, by decide, hP2, fun q0 xs0 rs0 H3 hrs0 lrs0 e3 hq0 tb0 => ?_⟩
      refine (mk_tup (mk_cons (mk_tup (mk_cons mk_str (mk_cons (mk_tup (mk_cons mk_str (mk_cons mk_str mk_nil)) (by show 2 ≤ 1000; decide)) (mk_cons (mk_tup mk_nil (by show 0 ≤ 1000; decide)) mk_nil))) (by show 3 ≤ 1000; decide)) mk_nil) (by show 1 ≤ 1000; decide) : Mk1 K _ _ H3 (.tuple [rule0.d])) H3 (Same.refl H3) _ fun v4 H4 s4 th4 => ?_
      have P3 := e3.pot
      have th3 : Th K H3 (.ref q0) (.tuple (rs0.map Rl.d)) := .tup (SqT.of hq0) tb0
      refine cat_th (th_same s4 th3) th4 (by rw [List.length_map]; show _ + 1 ≤ 1000; omega) fun vb H5 s5 th5 => ?_
      have B := bk_of hrs0 lrs0
      have eb : rs0.map Rl.d ++ [rule0.d] = (rs0 ++ [rule0]).map Rl.d := by rw [List.map_append]; rfl
      rw [eb] at th5
      generalize rs0 ++ [rule0] = rs at B th5
      clear eb th4 th3 tb0 hq0
      have P5 := (P3.same s4).same s5
      refine ⟨_, rfl, p, c, rfl, P5, fun z hu tl H6 nm e6 => ?_⟩
      refine ⟨(by show 2 ≤ sizeLine; decide), fun T nT => ⟨T, _, rfl, SqT.of upd_same, rfl, _, _, rfl, _, _, rfl, rfl, ?_⟩⟩
      have th6 := th_ext P5 e6 th5 book_flat
      have P6 := e6.pot
      have sT := same_upd (o := .tup [vb, .str z]) nT
      have th7 := th_same sT th6
      have P7 := P6.same sT
      generalize upd H6 T (.tup [vb, .str z]) = H7 at sT th7 P7
      clear sT th6 P6 th5
      have nz := nm_isName nm
      have okz := nm.ok
      have lz : z.length ≤ 1000 := Nat.le_trans nm.len (by decide)
      have gz := gd_str okz lz
      obtain ⟨qb, xb0, rfl, hqb, _⟩ := th_of_tup th7
      -- files
      refine ⟨_, rfl, _, rfl, (by show 4 ≤ sizeLine; decide), fun l8 n8 => ?_⟩
      have s8 := same_upd (o := .lst [.str z, .str "A", .str "Zz", .str "Bo"]) n8
      have h8 : upd H7 l8 (.lst [.str z, .str "A", .str "Zz", .str "Bo"]) l8 = some (.lst (([z, "A", "Zz", "Bo"] : List Str).map V.str)) := upd_same
      have P8 := P7.same s8
      have l8p : l8 ≠ p := P7.nep n8
      generalize upd H7 l8 (.lst [.str z, .str "A", .str "Zz", .str "Bo"]) = H8 at s8 h8 P8
      have rest : ∀ y ∈ (["A", "Zz", "Bo"] : List Str), dName (.str y) = true ∧ y.length ≤ 1000 := by decide +kernel
      refine ⟨p, c, l8, ([z, "A", "Zz", "Bo"] : List Str), rfl, P8, SqL.of h8, l8p, by show 4 ≤ 3990; decide, fun y my => ?_, fun ft Fs H9 e9 hft fl _ => ?_⟩
      · rcases List.mem_cons.mp my with rfl | my
        · exact ⟨nz, lz⟩
        · exact rest y my
      have st9 : S12 K p c qb ft rs Fs H9 := ⟨e9.pot, th_ext P8 e9 (th_same s8 th7) book_flat, hft⟩
      have FD := fld_of fl
      have BD := bkd_of B
      obtain ⟨r0, mr0, hr0⟩ : ∃ r0, r0 ∈ rs ∧ rs[0]? = some r0 := ⟨rs[0]'B.pos, List.getElem_mem B.pos, List.getElem?_eq_getElem B.pos⟩
      -- no books
      have ne : rs.map Rl.d ≠ [] := fun y => by
        have h := congrArg List.length y
        rw [List.length_map] at h
        have h0 : ([] : List PyData).length = 0 := rfl
        have h1 := B.pos
        omega
      have four : (rs.map Rl.d).length ≤ 4 := by rw [List.length_map]; exact B.len
      refine set_mkL (K := K) (ds := badA rs r0) (mk_lstL (mk_cons mk_non (mk_cons mk_int (mk_cons mk_dict0 (mk_cons mk_str (mk_cons (mk_listT (mk_var rfl st9.bk)).mk (mk_cons (mk_catT (mk_var rfl st9.bk) (mk_tup (mk_cons mk_non mk_nil) (by show 1 ≤ 1000; decide)) (by show _ + 1 ≤ 1000; omega))
        (mk_cons (mk_catT (mk_var rfl st9.bk) (mk_tup (mk_cons (mk_slT (mk_ixT (n := 0) (mk_var rfl st9.bk) (by rw [List.getElem?_map, hr0]; rfl)) mkp_none mkp_int) mk_nil) (by show 1 ≤ 1000; decide)) (by show _ + 1 ≤ 1000; omega))
        (mk_cons (mk_repT (k := 7) (mk_var rfl st9.bk) ne (by decide) (by decide) (by omega)) (mk_cons (mk_tup (mk_cons (mk_tup (mk_cons mk_str (mk_cons (mk_tup (mk_cons mk_str (mk_cons mk_str mk_nil)) (by show 2 ≤ 1000; decide)) (mk_cons (mk_tup mk_nil (by show 0 ≤ 1000; decide)) mk_nil))) (by show 3 ≤ 1000; decide)) mk_nil) (by show 1 ≤ 1000; decide)) mk_nil))))))))) (by show 9 ≤ 1000; decide)) fun pb xb Hb sb eb tb => ?_
      have stb := st9.same sb
      have lb : xb.length = 9 := thAll_len tb
      have pbp : pb ≠ p := ne_len stb.pot eb (by omega)
      refine ⟨_, rfl, pb, rfl, ⟨_, SqL.of eb⟩, for_list (K := K) (a := pb) (xs := xb) (fun _ σ H' => ∃ w7 w8 w9 : Option V, σ = [some (.ref a), some (.ref p), some (.int (0 + (i : Int))), some (.ref qb), some (.str z), some (.ref ft), some (.ref pb), w7, w8, w9, v10, v11, v12, none] ∧ Ext p c Hb H')
        ⟨_, _, _, rfl, stb.pot.ref⟩ (fun j σ H' _ ⟨_, _, _, _, e⟩ => SqL.of (e.get eb pbp)) ?_ ?_⟩
      · rintro j x σ H7 hx ⟨w7, w8, w9, rfl, e7⟩
        obtain ⟨d, hd, th0⟩ := thAll_get tb hx
        have nb := badA_ok B mr0 d hd
        refine ⟨10, rfl, by decide, by decide, for_range (n := 10) (fun _ σ H' => ∃ w8 w9 : Option V, σ = [some (.ref a), some (.ref p), some (.int (0 + (i : Int))), some (.ref qb), some (.str z), some (.ref ft), some (.ref pb), some x, w8, w9, v10, v11, v12, none] ∧ Ext p c Hb H')
          ⟨_, _, rfl, e7⟩ ?_ ?_⟩
        · rintro j2 σ H8 hj2 ⟨w8, w9, rfl, e8⟩
          have st8 := stb.ext e8
          have th8 := th_ext stb.pot e8 th0 nb.np
          refine gN_eq (congrArg V.int (Int.zero_add _)) ?_
          refine next_read ?_
          refine pick_two (K := K) (p := p) (c := c) (i := 1) (mk_var rfl st8.files) mk_non FD.np rfl st8.pot rfl fun v2' d2 H9 hd2 th9 e9 => ?_
          refine next_if1 (no_if (p := p) (c := c) (fun Q2 q => ⟨_, rfl, _, rfl, _, rfl, ?_⟩) fun H11 e11 => ⟨_, _, rfl, (e8.trans e9).trans e11⟩)
          have F2 : FlD d2 := by
            rcases hd2 with rfl | rfl
            · exact FD
            · exact ⟨gd_of (by decide +kernel), rfl, rfl, rfl⟩
          refine pick_nm (K := K) (p := p) (c := c) (i := 1) (j := 4) (st8.ext e9).pot rfl rfl fun v3' d3 H10 n3 e10 => ?_
          have t1 := th_ext (st8.ext e9).pot e10 (th_ext st8.pot e9 th8 nb.np) nb.np
          have t2 := th_ext (st8.ext e9).pot e10 th9 F2.np
          refine word_ha (K := K) (z := 0) (by omega) t1 t2 n3.th nb.gd F2.gd (n3.gd gz) (fun y => ?_) (.inl (err_book nb.no _)) fun H' s => q H' (e10.same s)
          rw [F2.nd, Bool.false_or] at y
          have hd3 : d3.hasDict = false := by
            rcases n3.is with rfl | rfl | rfl <;> rfl
          rw [hd3, Bool.or_false] at y
          exact ⟨.flat t1 (nb.nl y), .flat t2 F2.nl, n3.cl⟩
        · rintro σ H8 ⟨w8, w9, rfl, e8⟩
          exact ⟨_, _, _, rfl, e8⟩
      · rintro σ H7 ⟨w7, w8, w9, rfl, e7⟩
        have st7 := stb.ext e7
        refine set_mkL (K := K) (ds := badB Fs) (mk_lstL (mk_cons mk_non (mk_cons mk_int (mk_cons mk_lstS (mk_cons mk_dict0 (mk_cons mk_str (mk_cons mk_str (mk_cons (mk_tup (mk_cons mk_str mk_nil) (by show 1 ≤ 1000; decide)) (mk_cons (mk_tup (mk_cons mk_str (mk_cons mk_str mk_nil)) (by show 2 ≤ 1000; decide))
          (mk_cons (mk_tup (mk_cons mk_str (mk_cons mk_str mk_nil)) (by show 2 ≤ 1000; decide)) (mk_cons (mk_tup (mk_cons mk_str (mk_cons mk_str mk_nil)) (by show 2 ≤ 1000; decide)) (mk_cons (mk_tup (mk_cons mk_non mk_nil) (by show 1 ≤ 1000; decide)) (mk_cons (mk_listT (mk_var rfl st7.files)).mk mk_nil)))))))))))) (by show 12 ≤ 1000; decide)) fun pc xc Hc sc ec tc => ?_
        have stc := st7.same sc
        have lc : xc.length = 12 := thAll_len tc
        have pcp : pc ≠ p := ne_len stc.pot ec (by omega)
        refine next_read ?_
        refine ⟨61, rfl, by decide, by decide, fun D nD => ?_⟩
        refine lc_range (lo := 0) (n := 61) (fun i H' => Same Hc H' ∧ H' D = some (.lst (((List.range i).map nm61).map V.str))) ⟨same_upd nD, upd_same⟩ ?_ ?_
        · rintro j H8 hj ⟨s8, hD⟩
          refine ⟨rfl, ?_⟩
          refine yes_go (iteT ?_)
          have e1 : (0 + (j : Int)) / 8 = ((j / 8 : Nat) : Int) := by omega
          have e2 : (0 + (j : Int)) % 8 = ((j % 8 : Nat) : Int) := by omega
          refine ⟨_, rfl, _, _, rfl, rfl, (show CDiv _ _ from ⟨by decide, by decide⟩), "ABDEFGHI", _, _, rfl, rfl, by decide +kernel, (by rw [e1]; exact atI_nat (at_ab (j / 8) (by omega)).1), ?_⟩
          refine ⟨_, rfl, .inl ⟨_, rfl, _, _, rfl, rfl, (show (0 : Int) < 8 from by decide), "abcdefgh", _, _, rfl, rfl, by decide +kernel, (by rw [e2]; exact atI_nat (at_ab (j % 8) (by omega)).2), ?_⟩⟩
          refine ⟨_, _, rfl, rfl, by show 1 + 1 ≤ sizeLine; decide, _, hD, by rw [List.length_map, List.length_map, List.length_range, sizeLine_eq]; omega, same_mut s8 nD, ?_⟩
          rw [upd_same, List.range_succ, List.map_append, List.map_append]
          rfl
        rintro H8 ⟨s8, hD⟩
        refine ⟨D, names61, rfl, SqL.of hD, by decide +kernel, fun y my => Nat.le_trans (n61_ok y my).2.1 (by decide), fun cs mt H9 s9 hmt asc => ?_⟩
        obtain ⟨l61, NM, shM⟩ := many_no asc
        have sd := s8.trans s9
        have std := stc.same sd
        have ed := sd _ _ ec
        have td := thAll_same sd tc
        have thM : Th K H9 (.ref mt) (.tuple (cs.map PyData.str)) := .tup (SqT.of hmt) (th_strs2 cs)
        refine next_for ?_
        refine for_mkL (K := K) (ds := badB Fs ++ [.tuple (cs.map PyData.str)]) (mk_cat (mk_varL rfl ed td) (mk_lstL (mk_cons (mk_var rfl thM) mk_nil) (by show 1 ≤ 1000; decide)) (by show 12 + 1 ≤ 1000; decide)) fun L xL H10 s10 eL tL => ?_
        have stL := std.same s10
        have lL : xL.length = 13 := thAll_len tL
        have Lp : L ≠ p := ne_len stL.pot eL (by omega)
        have thM10 := th_same s10 thM
        have npM : noPot (.tuple (cs.map PyData.str)) = true := NM.np
        refine ⟨fun _ σ H' => ∃ w7 w8 : Option V, σ = [some (.ref a), some (.ref p), some (.int (0 + (i : Int))), some (.ref qb), some (.str z), some (.ref ft), some (.ref pc), w7, w8, w9, some (.ref mt), v11, v12, none] ∧ Ext p c H10 H', ⟨_, _, rfl, stL.pot.ref⟩, fun j σ H' ⟨_, _, _, e⟩ => e.get eL Lp, ?_, ?_⟩
        · rintro j x d σ H11 hd th0 ⟨w7', w8', rfl, e11⟩
          have nf : NoFl d := by
            rcases List.mem_append.mp hd with h | h
            · exact badB_ok fl d h
            · rw [List.mem_singleton.mp h]
              exact NM
          have st11 := stL.ext e11
          have th11 := th_ext stL.pot e11 th0 nf.np
          refine ⟨_, rfl, _, rfl, d, _, th11, th_ext stL.pot e11 thM10 npM, nf.dc, nf.sh, shM, _, rfl, ite2 (fun _ => ⟨(by show 4 ≤ sizeLine; decide), fun t nt => ⟨t, rfl, ⟨_, SqT.of upd_same⟩, ?_⟩⟩) (fun _ => ⟨(by show 7 ≤ sizeLine; decide), fun t nt => ⟨t, rfl, ⟨_, SqT.of upd_same⟩, ?_⟩⟩)⟩
          · have st12 := st11.same (same_upd (o := .tup [.int 2, .int 3, .int 4, .int 5]) nt)
            have th12 := th_same (same_upd (o := .tup [.int 2, .int 3, .int 4, .int 5]) nt) th11
            have ht : upd H11 t (.tup [.int 2, .int 3, .int 4, .int 5]) t = some (.tup [.int 2, .int 3, .int 4, .int 5]) := upd_same
            have e12 := e11.same (same_upd (o := .tup [.int 2, .int 3, .int 4, .int 5]) nt)
            generalize upd H11 t (.tup [.int 2, .int 3, .int 4, .int 5]) = H12 at st12 th12 ht e12 ⊢
            refine for_tup (K := K) (a := t) (xs := [.int 2, .int 3, .int 4, .int 5]) (fun _ σ H' => ∃ w8 : Option V, σ = [some (.ref a), some (.ref p), some (.int (0 + (i : Int))), some (.ref qb), some (.str z), some (.ref ft), some (.ref pc), some x, w8, w9, some (.ref mt), v11, v12, none] ∧ Ext p c H12 H') ⟨_, rfl, st12.pot.ref⟩ (fun j σ H' _ ⟨_, _, e⟩ => SqT.of (e.get ht (ne_tup st12.pot ht))) ?_ ?_
            · rintro j2 x2 σ H13 hx2 ⟨w8', rfl, e13⟩
              obtain ⟨k2, rfl, g1, g2, g3⟩ := nums4 _ (List.mem_of_getElem? hx2)
              have st13 := st12.ext e13
              have th13 := th_ext st12.pot e13 th12 nf.np
              refine no_if (p := p) (c := c) (fun Q2 q => ⟨_, rfl, ?_⟩) fun H16 e16 => ⟨_, rfl, e13.trans e16⟩
              refine pick_two (K := K) (p := p) (c := c) (i := 1) (mk_var rfl st13.bk) (mk_tup mk_nil (by show 0 ≤ 1000; decide)) BD.np rfl st13.pot rfl fun v1' d1 H14 hd1 th1 e14 => ⟨_, rfl, ?_⟩
              have B1 : BkD d1 := by
                rcases hd1 with rfl | rfl
                · exact BD
                · exact bkd_nil
              refine pick_nm (K := K) (p := p) (c := c) (i := 1) (j := 4) (st13.ext e14).pot rfl rfl fun v3' d3 H15 n3 e15 => ?_
              have t1 := th_ext (st13.ext e14).pot e15 th1 B1.np
              have t2 := th_ext (st13.ext e14).pot e15 (th_ext st13.pot e14 th13 nf.np) nf.np
              refine word_ha (K := K) (k := k2) (z := 1) g3 t1 t2 n3.th B1.gd nf.gd (n3.gd gz) (fun y => ?_) (.inl (err_files B1.bk nf.no g1 g2)) fun H' s => q H' ((e14.trans e15).same s)
              have hd3 : d3.hasDict = false := by
                rcases n3.is with rfl | rfl | rfl <;> rfl
              rw [B1.nd, hd3, Bool.or_false, Bool.false_or] at y
              exact ⟨.flat t1 B1.nl, .flat t2 (nf.nl y), n3.cl⟩
            · rintro σ H13 ⟨w8', rfl, e13⟩
              exact ⟨_, _, rfl, e12.trans e13⟩
          · have st12 := st11.same (same_upd (o := .tup [.int 2, .int 3, .int 4, .int 5, .int 7, .int 8, .int 9]) nt)
            have th12 := th_same (same_upd (o := .tup [.int 2, .int 3, .int 4, .int 5, .int 7, .int 8, .int 9]) nt) th11
            have ht : upd H11 t (.tup [.int 2, .int 3, .int 4, .int 5, .int 7, .int 8, .int 9]) t = some (.tup [.int 2, .int 3, .int 4, .int 5, .int 7, .int 8, .int 9]) := upd_same
            have e12 := e11.same (same_upd (o := .tup [.int 2, .int 3, .int 4, .int 5, .int 7, .int 8, .int 9]) nt)
            generalize upd H11 t (.tup [.int 2, .int 3, .int 4, .int 5, .int 7, .int 8, .int 9]) = H12 at st12 th12 ht e12 ⊢
            refine for_tup (K := K) (a := t) (xs := [.int 2, .int 3, .int 4, .int 5, .int 7, .int 8, .int 9]) (fun _ σ H' => ∃ w8 : Option V, σ = [some (.ref a), some (.ref p), some (.int (0 + (i : Int))), some (.ref qb), some (.str z), some (.ref ft), some (.ref pc), some x, w8, w9, some (.ref mt), v11, v12, none] ∧ Ext p c H12 H') ⟨_, rfl, st12.pot.ref⟩ (fun j σ H' _ ⟨_, _, e⟩ => SqT.of (e.get ht (ne_tup st12.pot ht))) ?_ ?_
            · rintro j2 x2 σ H13 hx2 ⟨w8', rfl, e13⟩
              obtain ⟨k2, rfl, g1, g2, g3⟩ := nums7 _ (List.mem_of_getElem? hx2)
              have st13 := st12.ext e13
              have th13 := th_ext st12.pot e13 th12 nf.np
              refine no_if (p := p) (c := c) (fun Q2 q => ⟨_, rfl, ?_⟩) fun H16 e16 => ⟨_, rfl, e13.trans e16⟩
              refine pick_two (K := K) (p := p) (c := c) (i := 1) (mk_var rfl st13.bk) (mk_tup mk_nil (by show 0 ≤ 1000; decide)) BD.np rfl st13.pot rfl fun v1' d1 H14 hd1 th1 e14 => ⟨_, rfl, ?_⟩
              have B1 : BkD d1 := by
                rcases hd1 with rfl | rfl
                · exact BD
                · exact bkd_nil
              refine pick_nm (K := K) (p := p) (c := c) (i := 1) (j := 4) (st13.ext e14).pot rfl rfl fun v3' d3 H15 n3 e15 => ?_
              have t1 := th_ext (st13.ext e14).pot e15 th1 B1.np
              have t2 := th_ext (st13.ext e14).pot e15 (th_ext st13.pot e14 th13 nf.np) nf.np
              refine word_ha (K := K) (k := k2) (z := 1) g3 t1 t2 n3.th B1.gd nf.gd (n3.gd gz) (fun y => ?_) (.inl (err_files B1.bk nf.no g1 g2)) fun H' s => q H' ((e14.trans e15).same s)
              have hd3 : d3.hasDict = false := by
                rcases n3.is with rfl | rfl | rfl <;> rfl
              rw [B1.nd, hd3, Bool.or_false, Bool.false_or] at y
              exact ⟨.flat t1 B1.nl, .flat t2 (nf.nl y), n3.cl⟩
            · rintro σ H13 ⟨w8', rfl, e13⟩
              exact ⟨_, _, rfl, e12.trans e13⟩
        · rintro σ H11 ⟨w7', w8', rfl, e11⟩
          have st11 := stL.ext e11
          clear thM10 th7 tL eL td ed tc ec tb eb thM
          -- no names
          refine seq_for ?_
          refine for_mkL (K := K) (ds := badC z) (mk_lstL (mk_cons mk_non (mk_cons mk_int (mk_cons (mk_tup mk_nil (by show 0 ≤ 1000; decide)) (mk_cons mk_lstS (mk_cons mk_dict0 (mk_cons mk_str (mk_cons mk_str (mk_cons mk_str (mk_cons (mk_tup (mk_cons (mk_var rfl (.str z)) mk_nil) (by show 1 ≤ 1000; decide)) (mk_cons mk_bl mk_nil)))))))))) (by show 10 ≤ 1000; decide)) fun L2 xL2 H12 s12 eL2 tL2 => ?_
          have stC := st11.same s12
          have lC : xL2.length = 10 := thAll_len tL2
          have Cp : L2 ≠ p := ne_len stC.pot eL2 (by omega)
          refine ⟨fun _ σ H' => ∃ w7 w8 w11 w12 : Option V, σ = [some (.ref a), some (.ref p), some (.int (0 + (i : Int))), some (.ref qb), some (.str z), some (.ref ft), some (.ref pc), w7, w8, w9, some (.ref mt), w11, w12, none] ∧ Ext p c H12 H', ⟨_, _, _, _, rfl, stC.pot.ref⟩, fun j σ H' ⟨_, _, _, _, _, e⟩ => e.get eL2 Cp, ?_, ?_⟩
          · rintro j x d σ H13 hd th0 ⟨u7, u8, u11, u12, rfl, e13⟩
            have nn := badC_ok okz lz d hd
            have dp40 : d.depth ≤ 40 := by
              unfold badC at hd
              simp only [List.mem_cons, List.mem_nil_iff, or_false] at hd
              rcases hd with rfl | rfl | rfl | rfl | rfl | rfl | rfl | rfl | rfl | rfl
              · exact Nat.zero_le _
              · exact Nat.zero_le _
              · decide
              · decide
              · decide
              · exact Nat.zero_le _
              · exact Nat.zero_le _
              · exact Nat.zero_le _
              · simp [PyData.depth, PyData.depthAll]
              · exact Nat.zero_le _
            refine ⟨6, rfl, by decide, by decide, for_range (n := 6) (fun _ σ H' => ∃ w8 : Option V, σ = [some (.ref a), some (.ref p), some (.int (0 + (i : Int))), some (.ref qb), some (.str z), some (.ref ft), some (.ref pc), some x, w8, w9, some (.ref mt), u11, u12, none] ∧ Ext p c H12 H') ⟨_, rfl, e13⟩ ?_ ?_⟩
            · rintro j2 σ H14 hj2 ⟨u8, rfl, e14⟩
              have st14 := stC.ext e14
              have th14 := th_ext stC.pot e14 th0 nn.np
              refine gN_eq (congrArg V.int (Int.zero_add _)) ?_
              refine no_if (p := p) (c := c) (fun Q2 q => ⟨_, rfl, ?_⟩) fun H16 e16 => ⟨_, rfl, e14.trans e16⟩
              refine pick_two (K := K) (p := p) (c := c) (i := 1) (mk_var rfl st14.bk) (mk_tup mk_nil (by show 0 ≤ 1000; decide)) BD.np rfl st14.pot rfl fun v1' d1 H15 hd1 th1 e15 => ⟨_, rfl, _, rfl, ?_⟩
              have B1 : BkD d1 := by
                rcases hd1 with rfl | rfl
                · exact BD
                · exact bkd_nil
              have t2 := (st14.ext e15).files
              have t3 := th_ext st14.pot e15 th14 nn.np
              refine word_ha (K := K) (z := 2) (by omega) th1 t2 t3 B1.gd FD.gd nn.gd (fun y => ?_) (.inl (err_name B1.bk fl.ok nn.no (by omega))) fun H' s => q H' (e15.same s)
              rw [B1.nd, FD.nd, Bool.false_or, Bool.false_or] at y
              exact ⟨.flat th1 B1.nl, .flat t2 FD.nl, .flat t3 (nn.nl y)⟩
            · rintro σ H14 ⟨u8, rfl, e14⟩
              have st14 := stC.ext e14
              have th14 := th_ext stC.pot e14 th0 nn.np
              obtain ⟨qb', xsb, eqb, hqb14, tqb14⟩ := th_of_tup st14.bk
              cases eqb
              have lqb := thAll_len tqb14
              rw [List.length_map] at lqb
              have n4 := B.len
              have n1 := B.pos
              have gI : ∀ m : Nat, 1 ≤ m → m ≤ 4 → Gd (.int ((m : Int) - 1)) := by
                intro m m1 m4
                have cs : m = 1 ∨ m = 2 ∨ m = 3 ∨ m = 4 := by omega
                rcases cs with rfl | rfl | rfl | rfl <;> exact gd_of (by decide +kernel)
              have nI : numD (.tuple (rs.map Rl.d)) (.int ((xsb.length : Int) - 1)) = true := by
                show (decide (0 ≤ (xsb.length : Int) - 1) && decide ((xsb.length : Int) - 1 < ((rs.map Rl.d).length : Int))) = true
                rw [List.length_map, decide_eq_true (by omega), decide_eq_true (by omega)]
                rfl
              refine nx_ifS (p := p) (c := c) (fun Q2 q => ⟨_, rfl, _, rfl, qb, xsb, rfl, .inr hqb14, _, _, rfl, rfl, _, rfl, ?_⟩) fun H15 e15 => ?_
              · refine word_ha (K := K) (k := 6) (z := 2) (by decide) st14.bk (.int _) th14 BD.gd (gI _ (by omega) (by omega)) nn.gd (fun y => ?_) (.inl (err_src BD.bk nI nn.no)) fun H' s => q H' (Ext.same st14.pot.ref s)
                have y2 : d.hasDict = true := by
                  rw [BD.nd, Bool.false_or] at y
                  exact y
                exact ⟨.flat st14.bk BD.nl, .flat (.int _) rfl, .flat th14 (nn.nl y2)⟩
              have st15 := st14.ext e15
              have th15 := th_ext st14.pot e15 th14 nn.np
              -- the row
              refine set_read ?_
              refine ⟨_, rfl, _, rfl, (by show 1 ≤ sizeLine; decide), fun r1 n1' m1 => ?_⟩
              have t1 : Same H15 (upd H15 r1 (.lst [x])) := same_upd n1'
              have f1 : (upd H15 r1 (.lst [x])) r1 = some (.lst [x]) := upd_same
              have p1 := st15.pot.nep n1'
              generalize upd H15 r1 (.lst [x]) = B1 at t1 f1 ⊢
              refine ⟨_, rfl, _, rfl, (by show 2 ≤ sizeLine; decide), fun r2 n2' m2 => ?_⟩
              have t2 : Same B1 (upd B1 r2 (.lst [.str z, x])) := same_upd n2'
              have f2 : (upd B1 r2 (.lst [.str z, x])) r2 = some (.lst [.str z, x]) := upd_same
              have p2 := (st15.pot.same t1).nep n2'
              generalize upd B1 r2 (.lst [.str z, x]) = B2 at t2 f2 ⊢
              refine ⟨_, rfl, _, rfl, (by show 3 ≤ sizeLine; decide), fun r3 n3' m3 => ?_⟩
              have t3 : Same B2 (upd B2 r3 (.lst [x, .str z, .non])) := same_upd n3'
              have f3 : (upd B2 r3 (.lst [x, .str z, .non])) r3 = some (.lst [x, .str z, .non]) := upd_same
              have p3 := ((st15.pot.same t1).same t2).nep n3'
              generalize upd B2 r3 (.lst [x, .str z, .non]) = B3 at t3 f3 ⊢
              refine ⟨(by show 3 ≤ sizeLine; decide), fun l nl => ?_⟩
              have t5 : Same B3 (upd B3 l (.lst [.ref r1, .ref r2, .ref r3])) := same_upd nl
              have f5 : (upd B3 l (.lst [.ref r1, .ref r2, .ref r3])) l = some (.lst [.ref r1, .ref r2, .ref r3]) := upd_same
              have p5 := (((st15.pot.same t1).same t2).same t3).nep nl
              generalize upd B3 l (.lst [.ref r1, .ref r2, .ref r3]) = B5 at t5 f5 ⊢
              have sB : Same H15 B5 := ((t1.trans t2).trans t3).trans t5
              have stB := st15.same sB
              have thB := th_same sB th15
              refine ⟨p, c, l, _, rfl, stB.pot, SqL.of f5, p5, by show 0 < 3; decide, by show 3 ≤ 1000; decide, fun v H16 hv e16 => ?_⟩
              have each : ∃ r xs ds, v = .ref r ∧ ds ∈ rowsC d z ∧ B5 r = some (.lst xs) ∧ (r == sysModules) = false ∧ ThAll K B5 xs ds ∧ r ≠ p := by
                simp only [List.mem_cons, List.mem_nil_iff, or_false] at hv
                rcases hv with rfl | rfl | rfl
                · exact ⟨r1, _, _, rfl, List.mem_cons_self, t5 _ _ (t3 _ _ (t2 _ _ f1)), m1, .cons thB .nil, p1⟩
                · exact ⟨r2, _, [.str z, d], rfl, by simp [rowsC], t5 _ _ (t3 _ _ f2), m2, .cons (.str z) (.cons thB .nil), p2⟩
                · exact ⟨r3, _, [d, .str z, .none], rfl, by simp [rowsC], t5 _ _ f3, m3, .cons thB (.cons (.str z) (.cons .non .nil)), p3⟩
              obtain ⟨r, xs, ds, rfl, hm, hr5, hsm, ha, np5⟩ := each
              obtain ⟨gR, eR, npR, nlR⟩ := rowsC_ok nn dp40 okz lz ds hm
              have npA : noPotAll ds = true := by
                rw [noPot, Bool.and_eq_true] at npR
                exact npR.2
              have st16 := stB.ext e16
              have hr16 := e16.get hr5 np5
              have ha16 := thAll_ext stB.pot e16 ha npA
              refine next_read ?_
              refine pick_two (K := K) (p := p) (c := c) (i := 1) (mk_var rfl st16.bk) (mk_tup mk_nil (by show 0 ≤ 1000; decide)) BD.np rfl st16.pot rfl fun v1' d1 H17 hd1 th1 e17 => ?_
              have B1' : BkD d1 := by
                rcases hd1 with rfl | rfl
                · exact BD
                · exact bkd_nil
              have st17 := st16.ext e17
              have hr17 := e17.get hr16 np5
              have ha17 := thAll_ext st16.pot e17 ha16 npA
              have eAll : Ext p c H12 H17 := ((((e14.trans e15).same sB).trans e16).trans e17)
              refine next_if1 (no_if (p := p) (c := c) (fun Q2 q => ?_) fun H18 e18 => ⟨_, _, _, _, rfl, eAll.trans e18⟩)
              refine cmp_go ?_
              refine three (K := K) (σ := [some (.ref a), some (.ref p), some (.int (0 + (i : Int))), some (.ref qb), some (.str z), some (.ref ft), some (.ref pc), some x, u8, w9, some (.ref mt), some (.ref r), some v1', none]) (i2 := 12) (i3 := 5) (i4 := 11) (v1 := v1') (v2 := .ref ft) (v3 := .ref r) (zz := "name") (fun _ => rfl) (fun _ => rfl) (fun _ => rfl) (fun _ => rfl) (fun _ => rfl) (fun k3 H' Q' k7 k9 s' q' => ?_) fun D20 H20 s20 hD20 => ?_
              · refine word_v (K := K) (z := 2) k9 (th_same s' th1) (st17.same s').files (.lst (SqL.of (s' _ _ hr17)) (thAll_same s' ha17)) B1'.gd FD.gd gR (fun y => ?_) (err_run B1'.bk fl.ok eR k7) q'
                rw [B1'.nd, FD.nd, Bool.false_or, Bool.false_or] at y
                exact ⟨.flat (th_same s' th1) B1'.nl, .flat (st17.same s').files FD.nl, .lst (SqL.of (s' _ _ hr17)) hsm (thAll_same s' ha17) (nlR y)⟩
              refine ⟨(by show 1 ≤ sizeLine; decide), fun l21 n21 => ⟨l21, 3, [.str "name"], rfl, rfl, upd_same, by decide, by decide, by decide, fun p22 n22 => ?_⟩⟩
              have sq : Same H20 (upd (upd H20 l21 (.lst [.str "name"])) p22 (.lst (List.replicate (3 : Int).toNat [V.str "name"]).flatten)) := (same_upd n21).trans (same_upd n22)
              have hp22 : upd (upd H20 l21 (.lst [.str "name"])) p22 (.lst (List.replicate (3 : Int).toNat [V.str "name"]).flatten) p22 = some (.lst ((["name", "name", "name"] : List Str).map V.str)) := upd_same
              have sh3 : SeqAt.shaped (.list ((["name", "name", "name"] : List Str).map PyData.str)) = true := by decide +kernel
              refine ⟨.list ((["name", "name", "name"] : List Str).map PyData.str), .list ((["name", "name", "name"] : List Str).map PyData.str), .lst (SqL.of (sq _ _ hD20)) (dp_tup _), .lst (SqL.of hp22) (dp_tup _), sh3, sh3, _, rfl, ?_⟩
              rw [SeqAt.eqv_refl _ (SeqAt.canLay_of_shaped sh3)]
              exact q _ (Ext.same st17.pot.ref (s20.trans sq))
          · rintro σ H13 ⟨u7, u8, u11, u12, rfl, e13⟩
            have st13 := stC.ext e13
            clear tL2 eL2
            -- no numbers
            refine seq_for ?_
            refine for_mkL (K := K) (ds := badD (rs.map Rl.d).length) (mk_lstL (mk_cons mk_non (mk_cons mk_sub (mk_cons (mk_len (mk_var rfl st13.bk)) (mk_cons mk_bl (mk_cons mk_bl (mk_cons mk_str (mk_cons (mk_tup (mk_cons mk_int mk_nil) (by show 1 ≤ 1000; decide)) (mk_cons (mk_lst (mk_cons mk_int mk_nil) (by show 1 ≤ 1000; decide)) (mk_cons mk_int mk_nil))))))))) (by show 9 ≤ 1000; decide)) fun L3 xL3 H14 s14 eL3 tL3 => ?_
            have stD := st13.same s14
            have lD : xL3.length = 9 := thAll_len tL3
            have Dp' : L3 ≠ p := ne_len stD.pot eL3 (by omega)
            refine ⟨fun _ σ H' => ∃ w7 : Option V, σ = [some (.ref a), some (.ref p), some (.int (0 + (i : Int))), some (.ref qb), some (.str z), some (.ref ft), some (.ref pc), w7, u8, w9, some (.ref mt), u11, u12, none] ∧ Ext p c H14 H', ⟨_, rfl, stD.pot.ref⟩, fun j σ H' ⟨_, _, e⟩ => e.get eL3 Dp', ?_, ?_⟩
            · rintro j x d σ H15 hd th0 ⟨y7, rfl, e15⟩
              obtain ⟨gd, nd, npd, hdd⟩ := badD_ok four d hd
              have st15 := stD.ext e15
              have th15 := th_ext stD.pot e15 th0 npd
              refine no_if (p := p) (c := c) (fun Q2 q => ⟨_, rfl, _, rfl, ?_⟩) fun H16 e16 => ⟨_, rfl, e15.trans e16⟩
              refine pick_two (K := K) (p := p) (c := c) (i := 1) (mk_var rfl (.str z)) mk_non rfl rfl st15.pot rfl fun v3' d3 H17 hd3 th3 e17 => ?_
              have G3 : Gd d3 ∧ d3.hasDict = false := by
                rcases hd3 with rfl | rfl
                · exact ⟨gz, rfl⟩
                · exact ⟨gd_of (by decide +kernel), rfl⟩
              refine word_ha (K := K) (k := 6) (z := 3) (by decide) (st15.ext e17).bk (th_ext st15.pot e17 th15 npd) th3 BD.gd gd G3.1 (fun y => ?_) (.inl (err_num BD.bk nd)) fun H' s => q H' (e17.same s)
              rw [BD.nd, hdd, G3.2] at y
              cases y
            · rintro σ H15 ⟨y7, rfl, e15⟩
              have st15 := stD.ext e15
              -- no fit
              obtain ⟨qb', xsb, eqb, hqb15, tqb15⟩ := th_of_tup st15.bk
              cases eqb
              have lqb := thAll_len tqb15
              rw [List.length_map] at lqb
              have n4 := B.len
              have n1 := B.pos
              refine nx_ifS (p := p) (c := c) (fun Q2 q => ⟨_, rfl, _, rfl, qb, xsb, rfl, .inr hqb15, _, _, rfl, rfl, ?_⟩) fun H16 e16 => ?_
              · refine pick_new (K := K) (p := p) (c := c) (i := 1) (mk_cons mk_str (mk_cons mk_str (mk_cons mk_str mk_nil))) rfl (by show 0 < 3; decide) (by show 3 ≤ 1000; decide) st15.pot rfl fun v3' d3 H17 hd3 th3 e17 => ?_
                obtain ⟨y, my, rfl⟩ : ∃ y : Str, y ∈ (["s", "Z", "Zs"] : List Str) ∧ d3 = .str y := by
                  simp only [List.mem_cons, List.mem_nil_iff, or_false] at hd3
                  rcases hd3 with rfl | rfl | rfl
                  · exact ⟨_, by simp, rfl⟩
                  · exact ⟨_, by simp, rfl⟩
                  · exact ⟨_, by simp, rfl⟩
                obtain ⟨o1, o2, o3, o4⟩ := nofit0 y my
                obtain rfl : v3' = .str y := by
                  cases th3
                  rfl
                have st17 := st15.ext e17
                obtain ⟨qb', xs17, eqb, hqb17, tqb17⟩ := th_of_tup st17.bk
                cases eqb
                have eN : ((xsb.length : Int) - 1) = ((rs.length - 1 : Nat) : Int) := by omega
                have gI : ∀ m : Nat, m ≤ 4 → Gd (.int (m : Int)) := by
                  intro m m4
                  have cs : m = 0 ∨ m = 1 ∨ m = 2 ∨ m = 3 ∨ m = 4 := by omega
                  rcases cs with rfl | rfl | rfl | rfl | rfl <;> exact gd_of (by decide +kernel)
                have W : spWord K [.int ((6 : Nat) : Int), .ref qb, .int ((rs.length - 1 : Nat) : Int), .str y] H17 (fun x H' => rNe x (.str (wd 4)) H' fun y H2 => ∃ b, y = .bl b ∧ Q2 b H2) E0 := by
                 refine word_ha (K := K) (k := 6) (z := 4) (by decide) st17.bk (.int _) (.str y) BD.gd (gI _ (by omega)) (gd_str o4 o3) (fun y => ?_) (.inr ⟨rfl, rfl, qb, xs17, rs, rs.length - 1, rule0, y, rfl, rfl, rfl, hqb17, tqb17, BD.bk, B.last, o3, o2, o1⟩) fun H' s => q H' (e17.same s)
                 rw [BD.nd] at y
                 cases y
                rw [← eN] at W
                exact W
              have st16 := st15.ext e16
              -- no lists
              refine for_mkL (K := K) (ds := badF z) (mk_lstL (mk_cons mk_non (mk_cons (mk_tup mk_nil (by show 0 ≤ 1000; decide)) (mk_cons (mk_tup (mk_cons (mk_var rfl (.str z)) mk_nil) (by show 1 ≤ 1000; decide)) (mk_cons (mk_var rfl (.str z)) (mk_cons mk_dict0 (mk_cons mk_int (mk_cons (mk_tup (mk_cons mk_str mk_nil) (by show 1 ≤ 1000; decide)) (mk_cons (mk_tup (mk_cons mk_non mk_nil) (by show 1 ≤ 1000; decide)) mk_nil)))))))) (by show 8 ≤ 1000; decide)) fun L4 xL4 H17 s17 eL4 tL4 => ?_
              have stF := st16.same s17
              have lF : xL4.length = 8 := thAll_len tL4
              have Fp : L4 ≠ p := ne_len stF.pot eL4 (by omega)
              refine ⟨fun _ σ H' => ∃ w7 : Option V, σ = [some (.ref a), some (.ref p), some (.int (0 + (i : Int))), some (.ref qb), some (.str z), some (.ref ft), some (.ref pc), w7, u8, w9, some (.ref mt), u11, u12, none] ∧ Ext p c H17 H', ⟨_, rfl, stF.pot.ref⟩, fun j σ H' ⟨_, _, e⟩ => e.get eL4 Fp, ?_, ?_⟩
              · rintro j x d σ H18 hd th0 ⟨y7, rfl, e18⟩
                obtain ⟨gd, er, npd, nld⟩ := badF_ok okz lz d hd
                have st18 := stF.ext e18
                have th18 := th_ext stF.pot e18 th0 npd
                refine no_if (p := p) (c := c) (fun Q2 q => ?_) fun H19 e19 => ⟨_, rfl, e18.trans e19⟩
                refine cmp_go ?_
                refine three (K := K) (σ := [some (.ref a), some (.ref p), some (.int (0 + (i : Int))), some (.ref qb), some (.str z), some (.ref ft), some (.ref pc), some x, u8, w9, some (.ref mt), u11, u12, none]) (i2 := 3) (i3 := 5) (i4 := 7) (v1 := .ref qb) (v2 := .ref ft) (v3 := x) (zz := "match") (fun _ => rfl) (fun _ => rfl) (fun _ => rfl) (fun _ => rfl) (fun _ => rfl) (fun k3 H' Q' k7 k9 s' q' => ?_) fun D20 H20 s20 hD20 => ?_
                · exact word_v (K := K) (z := 4) k9 (st18.same s').bk (st18.same s').files (th_same s' th18) BD.gd FD.gd gd (fun _ => ⟨.flat (st18.same s').bk BD.nl, .flat (st18.same s').files FD.nl, .flat (th_same s' th18) nld⟩) (err_run BD.bk fl.ok er k7) q'
                refine ⟨(by show 1 ≤ sizeLine; decide), fun l21 n21 => ⟨l21, 3, [.str "match"], rfl, rfl, upd_same, by decide, by decide, by decide, fun p22 n22 => ?_⟩⟩
                have sq : Same H20 (upd (upd H20 l21 (.lst [.str "match"])) p22 (.lst (List.replicate (3 : Int).toNat [V.str "match"]).flatten)) := (same_upd n21).trans (same_upd n22)
                have hp22 : upd (upd H20 l21 (.lst [.str "match"])) p22 (.lst (List.replicate (3 : Int).toNat [V.str "match"]).flatten) p22 = some (.lst ((["match", "match", "match"] : List Str).map V.str)) := upd_same
                have sh3 : SeqAt.shaped (.list ((["match", "match", "match"] : List Str).map PyData.str)) = true := by decide +kernel
                refine ⟨.list ((["match", "match", "match"] : List Str).map PyData.str), .list ((["match", "match", "match"] : List Str).map PyData.str), .lst (SqL.of (sq _ _ hD20)) (dp_tup _), .lst (SqL.of hp22) (dp_tup _), sh3, sh3, _, rfl, ?_⟩
                rw [SeqAt.eqv_refl _ (SeqAt.canLay_of_shaped sh3)]
                exact q _ (Ext.same st18.pot.ref (s20.trans sq))
              · rintro σ H18 ⟨y7, rfl, e18⟩
                exact ⟨_, _, _, _, _, _, _, _, _, _, _, rfl, (stF.ext e18).pot⟩
    · rintro σ H2 ⟨v2, v3, v4, v5, v6, v7, v8, v9, v10, v11, v12, rfl, hP2⟩
      exact k H2
end
end Lk

/-! K12z -/
set_option Elab.async false
set_option linter.all false
set_option maxRecDepth 100000
set_option maxHeartbeats 4000000
namespace Lk
open PySem PySem.Spec PyProof.Rows L2
theorem all_mk {l : PySem.W.OpenLaw} {w : World} {K : PySem.W.Frag} {h : Heap} {mg : Str → Option Value} {fa : Addr} (X : K.In h) (G : h.Ns mainGlobals mg) (hfa : mg "law" = some (.ref fa))
    {f0 : Addr} {od0 an0 : Option Addr} {sl0 : Array (Option Value)} {oc0 kV0 dc0 pm0 cd0 ct0 : Value}
    (a0 : PySem.W.nsIn K mainGlobals "is_name" = some (some (.ref f0))) (l0 : K.lookup f0 = some ⟨oc0, od0, .func (PySem.W.fnOf "is_name" "is_name" (defArgs s_p_is_name) (defBody s_p_is_name) (defScope s_p_is_name) .none kV0 dc0 pm0 an0 cd0 ct0), sl0⟩) (c0 : PySem.W.codeIn K cd0 "is_name" = true) (k0 : PySem.W.keepIn K (.ref f0) = true)
    {f1 : Addr} {od1 an1 : Option Addr} {sl1 : Array (Option Value)} {oc1 kV1 dc1 pm1 cd1 ct1 : Value}
    (a1 : PySem.W.nsIn K mainGlobals "is_pattern" = some (some (.ref f1))) (l1 : K.lookup f1 = some ⟨oc1, od1, .func (PySem.W.fnOf "is_pattern" "is_pattern" (defArgs s_p_is_pattern) (defBody s_p_is_pattern) (defScope s_p_is_pattern) .none kV1 dc1 pm1 an1 cd1 ct1), sl1⟩) (c1 : PySem.W.codeIn K cd1 "is_pattern" = true) (k1 : PySem.W.keepIn K (.ref f1) = true)
    {f2 : Addr} {od2 an2 : Option Addr} {sl2 : Array (Option Value)} {oc2 kV2 dc2 pm2 cd2 ct2 : Value}
    (a2 : PySem.W.nsIn K mainGlobals "is_end" = some (some (.ref f2))) (l2 : K.lookup f2 = some ⟨oc2, od2, .func (PySem.W.fnOf "is_end" "is_end" (defArgs s_p_is_end) (defBody s_p_is_end) (defScope s_p_is_end) .none kV2 dc2 pm2 an2 cd2 ct2), sl2⟩) (c2 : PySem.W.codeIn K cd2 "is_end" = true) (k2 : PySem.W.keepIn K (.ref f2) = true)
    {f3 : Addr} {od3 an3 : Option Addr} {sl3 : Array (Option Value)} {oc3 kV3 dc3 pm3 cd3 ct3 : Value}
    (a3 : PySem.W.nsIn K mainGlobals "need_name" = some (some (.ref f3))) (l3 : K.lookup f3 = some ⟨oc3, od3, .func (PySem.W.fnOf "need_name" "need_name" (defArgs s_p_need_name) (defBody s_p_need_name) (defScope s_p_need_name) .none kV3 dc3 pm3 an3 cd3 ct3), sl3⟩) (c3 : PySem.W.codeIn K cd3 "need_name" = true) (k3 : PySem.W.keepIn K (.ref f3) = true)
    {f4 : Addr} {od4 an4 : Option Addr} {sl4 : Array (Option Value)} {oc4 kV4 dc4 pm4 cd4 ct4 : Value}
    (a4 : PySem.W.nsIn K mainGlobals "need_names" = some (some (.ref f4))) (l4 : K.lookup f4 = some ⟨oc4, od4, .func (PySem.W.fnOf "need_names" "need_names" (defArgs s_p_need_names) (defBody s_p_need_names) (defScope s_p_need_names) .none kV4 dc4 pm4 an4 cd4 ct4), sl4⟩) (c4 : PySem.W.codeIn K cd4 "need_names" = true) (k4 : PySem.W.keepIn K (.ref f4) = true)
    {f5 : Addr} {od5 an5 : Option Addr} {sl5 : Array (Option Value)} {oc5 kV5 dc5 pm5 cd5 ct5 : Value}
    (a5 : PySem.W.nsIn K mainGlobals "stem_within" = some (some (.ref f5))) (l5 : K.lookup f5 = some ⟨oc5, od5, .func (PySem.W.fnOf "stem_within" "stem_within" (defArgs s_p_stem_within) (defBody s_p_stem_within) (defScope s_p_stem_within) .none kV5 dc5 pm5 an5 cd5 ct5), sl5⟩) (c5 : PySem.W.codeIn K cd5 "stem_within" = true) (k5 : PySem.W.keepIn K (.ref f5) = true)
    {f6 : Addr} {od6 an6 : Option Addr} {sl6 : Array (Option Value)} {oc6 kV6 dc6 pm6 cd6 ct6 : Value}
    (a6 : PySem.W.nsIn K mainGlobals "ascending" = some (some (.ref f6))) (l6 : K.lookup f6 = some ⟨oc6, od6, .func (PySem.W.fnOf "ascending" "ascending" (defArgs s_p_ascending) (defBody s_p_ascending) (defScope s_p_ascending) .none kV6 dc6 pm6 an6 cd6 ct6), sl6⟩) (c6 : PySem.W.codeIn K cd6 "ascending" = true) (k6 : PySem.W.keepIn K (.ref f6) = true)
    {f7 : Addr} {od7 an7 : Option Addr} {sl7 : Array (Option Value)} {oc7 kV7 dc7 pm7 cd7 ct7 : Value}
    (a7 : PySem.W.nsIn K mainGlobals "is_rule" = some (some (.ref f7))) (l7 : K.lookup f7 = some ⟨oc7, od7, .func (PySem.W.fnOf "is_rule" "is_rule" (defArgs s_p_is_rule) (defBody s_p_is_rule) (defScope s_p_is_rule) .none kV7 dc7 pm7 an7 cd7 ct7), sl7⟩) (c7 : PySem.W.codeIn K cd7 "is_rule" = true) (k7 : PySem.W.keepIn K (.ref f7) = true)
    {f8 : Addr} {od8 an8 : Option Addr} {sl8 : Array (Option Value)} {oc8 kV8 dc8 pm8 cd8 ct8 : Value}
    (a8 : PySem.W.nsIn K mainGlobals "is_label" = some (some (.ref f8))) (l8 : K.lookup f8 = some ⟨oc8, od8, .func (PySem.W.fnOf "is_label" "is_label" (defArgs s_p_is_label) (defBody s_p_is_label) (defScope s_p_is_label) .none kV8 dc8 pm8 an8 cd8 ct8), sl8⟩) (c8 : PySem.W.codeIn K cd8 "is_label" = true) (k8 : PySem.W.keepIn K (.ref f8) = true)
    {f9 : Addr} {od9 an9 : Option Addr} {sl9 : Array (Option Value)} {oc9 kV9 dc9 pm9 cd9 ct9 : Value}
    (a9 : PySem.W.nsIn K mainGlobals "are_sources" = some (some (.ref f9))) (l9 : K.lookup f9 = some ⟨oc9, od9, .func (PySem.W.fnOf "are_sources" "are_sources" (defArgs s_p_are_sources) (defBody s_p_are_sources) (defScope s_p_are_sources) .none kV9 dc9 pm9 an9 cd9 ct9), sl9⟩) (c9 : PySem.W.codeIn K cd9 "are_sources" = true) (k9 : PySem.W.keepIn K (.ref f9) = true)
    {f10 : Addr} {od10 an10 : Option Addr} {sl10 : Array (Option Value)} {oc10 kV10 dc10 pm10 cd10 ct10 : Value}
    (a10 : PySem.W.nsIn K mainGlobals "is_rule_source" = some (some (.ref f10))) (l10 : K.lookup f10 = some ⟨oc10, od10, .func (PySem.W.fnOf "is_rule_source" "is_rule_source" (defArgs s_p_is_rule_source) (defBody s_p_is_rule_source) (defScope s_p_is_rule_source) .none kV10 dc10 pm10 an10 cd10 ct10), sl10⟩) (c10 : PySem.W.codeIn K cd10 "is_rule_source" = true) (k10 : PySem.W.keepIn K (.ref f10) = true)
    {f11 : Addr} {od11 an11 : Option Addr} {sl11 : Array (Option Value)} {oc11 kV11 dc11 pm11 cd11 ct11 : Value}
    (a11 : PySem.W.nsIn K mainGlobals "is_book" = some (some (.ref f11))) (l11 : K.lookup f11 = some ⟨oc11, od11, .func (PySem.W.fnOf "is_book" "is_book" (defArgs s_p_is_book) (defBody s_p_is_book) (defScope s_p_is_book) .none kV11 dc11 pm11 an11 cd11 ct11), sl11⟩) (c11 : PySem.W.codeIn K cd11 "is_book" = true) (k11 : PySem.W.keepIn K (.ref f11) = true)
    {f12 : Addr} {od12 an12 : Option Addr} {sl12 : Array (Option Value)} {oc12 kV12 dc12 pm12 cd12 ct12 : Value}
    (a12 : PySem.W.nsIn K mainGlobals "are_files" = some (some (.ref f12))) (l12 : K.lookup f12 = some ⟨oc12, od12, .func (PySem.W.fnOf "are_files" "are_files" (defArgs s_p_are_files) (defBody s_p_are_files) (defScope s_p_are_files) .none kV12 dc12 pm12 an12 cd12 ct12), sl12⟩) (c12 : PySem.W.codeIn K cd12 "are_files" = true) (k12 : PySem.W.keepIn K (.ref f12) = true)
    {f13 : Addr} {od13 an13 : Option Addr} {sl13 : Array (Option Value)} {oc13 kV13 dc13 pm13 cd13 ct13 : Value}
    (a13 : PySem.W.nsIn K mainGlobals "fitting" = some (some (.ref f13))) (l13 : K.lookup f13 = some ⟨oc13, od13, .func (PySem.W.fnOf "fitting" "fitting" (defArgs s_p_fitting) (defBody s_p_fitting) (defScope s_p_fitting) .none kV13 dc13 pm13 an13 cd13 ct13), sl13⟩) (c13 : PySem.W.codeIn K cd13 "fitting" = true) (k13 : PySem.W.keepIn K (.ref f13) = true)
    {f14 : Addr} {od14 an14 : Option Addr} {sl14 : Array (Option Value)} {oc14 kV14 dc14 pm14 cd14 ct14 : Value}
    (a14 : PySem.W.nsIn K mainGlobals "sources_of" = some (some (.ref f14))) (l14 : K.lookup f14 = some ⟨oc14, od14, .func (PySem.W.fnOf "sources_of" "sources_of" (defArgs s_p_sources_of) (defBody s_p_sources_of) (defScope s_p_sources_of) .none kV14 dc14 pm14 an14 cd14 ct14), sl14⟩) (c14 : PySem.W.codeIn K cd14 "sources_of" = true) (k14 : PySem.W.keepIn K (.ref f14) = true)
    {f15 : Addr} {od15 an15 : Option Addr} {sl15 : Array (Option Value)} {oc15 kV15 dc15 pm15 cd15 ct15 : Value}
    (a15 : PySem.W.nsIn K mainGlobals "kin" = some (some (.ref f15))) (l15 : K.lookup f15 = some ⟨oc15, od15, .func (PySem.W.fnOf "kin" "kin" (defArgs s_p_kin) (defBody s_p_kin) (defScope s_p_kin) .none kV15 dc15 pm15 an15 cd15 ct15), sl15⟩) (c15 : PySem.W.codeIn K cd15 "kin" = true) (k15 : PySem.W.keepIn K (.ref f15) = true)
    {f16 : Addr} {od16 an16 : Option Addr} {sl16 : Array (Option Value)} {oc16 kV16 dc16 pm16 cd16 ct16 : Value}
    (a16 : PySem.W.nsIn K mainGlobals "need_book" = some (some (.ref f16))) (l16 : K.lookup f16 = some ⟨oc16, od16, .func (PySem.W.fnOf "need_book" "need_book" (defArgs s_p_need_book) (defBody s_p_need_book) (defScope s_p_need_book) .none kV16 dc16 pm16 an16 cd16 ct16), sl16⟩) (c16 : PySem.W.codeIn K cd16 "need_book" = true) (k16 : PySem.W.keepIn K (.ref f16) = true)
    {f17 : Addr} {od17 an17 : Option Addr} {sl17 : Array (Option Value)} {oc17 kV17 dc17 pm17 cd17 ct17 : Value}
    (a17 : PySem.W.nsIn K mainGlobals "need_files" = some (some (.ref f17))) (l17 : K.lookup f17 = some ⟨oc17, od17, .func (PySem.W.fnOf "need_files" "need_files" (defArgs s_p_need_files) (defBody s_p_need_files) (defScope s_p_need_files) .none kV17 dc17 pm17 an17 cd17 ct17), sl17⟩) (c17 : PySem.W.codeIn K cd17 "need_files" = true) (k17 : PySem.W.keepIn K (.ref f17) = true)
    {f18 : Addr} {od18 an18 : Option Addr} {sl18 : Array (Option Value)} {oc18 kV18 dc18 pm18 cd18 ct18 : Value}
    (a18 : PySem.W.nsIn K mainGlobals "need_things" = some (some (.ref f18))) (l18 : K.lookup f18 = some ⟨oc18, od18, .func (PySem.W.fnOf "need_things" "need_things" (defArgs s_p_need_things) (defBody s_p_need_things) (defScope s_p_need_things) .none kV18 dc18 pm18 an18 cd18 ct18), sl18⟩) (c18 : PySem.W.codeIn K cd18 "need_things" = true) (k18 : PySem.W.keepIn K (.ref f18) = true)
    {f19 : Addr} {od19 an19 : Option Addr} {sl19 : Array (Option Value)} {oc19 kV19 dc19 pm19 cd19 ct19 : Value}
    (a19 : PySem.W.nsIn K mainGlobals "is_number_in" = some (some (.ref f19))) (l19 : K.lookup f19 = some ⟨oc19, od19, .func (PySem.W.fnOf "is_number_in" "is_number_in" (defArgs s_p_is_number_in) (defBody s_p_is_number_in) (defScope s_p_is_number_in) .none kV19 dc19 pm19 an19 cd19 ct19), sl19⟩) (c19 : PySem.W.codeIn K cd19 "is_number_in" = true) (k19 : PySem.W.keepIn K (.ref f19) = true)
    {f20 : Addr} {od20 an20 : Option Addr} {sl20 : Array (Option Value)} {oc20 kV20 dc20 pm20 cd20 ct20 : Value}
    (a20 : PySem.W.nsIn K mainGlobals "way" = some (some (.ref f20))) (l20 : K.lookup f20 = some ⟨oc20, od20, .func (PySem.W.fnOf "way" "way" (defArgs s_p_way) (defBody s_p_way) (defScope s_p_way) .none kV20 dc20 pm20 an20 cd20 ct20), sl20⟩) (c20 : PySem.W.codeIn K cd20 "way" = true) (k20 : PySem.W.keepIn K (.ref f20) = true)
    {f21 : Addr} {od21 an21 : Option Addr} {sl21 : Array (Option Value)} {oc21 kV21 dc21 pm21 cd21 ct21 : Value}
    (a21 : PySem.W.nsIn K mainGlobals "can" = some (some (.ref f21))) (l21 : K.lookup f21 = some ⟨oc21, od21, .func (PySem.W.fnOf "can" "can" (defArgs s_p_can) (defBody s_p_can) (defScope s_p_can) .none kV21 dc21 pm21 an21 cd21 ct21), sl21⟩) (c21 : PySem.W.codeIn K cd21 "can" = true) (k21 : PySem.W.keepIn K (.ref f21) = true)
    {f22 : Addr} {od22 an22 : Option Addr} {sl22 : Array (Option Value)} {oc22 kV22 dc22 pm22 cd22 ct22 : Value}
    (a22 : PySem.W.nsIn K mainGlobals "made_by" = some (some (.ref f22))) (l22 : K.lookup f22 = some ⟨oc22, od22, .func (PySem.W.fnOf "made_by" "made_by" (defArgs s_p_made_by) (defBody s_p_made_by) (defScope s_p_made_by) .none kV22 dc22 pm22 an22 cd22 ct22), sl22⟩) (c22 : PySem.W.codeIn K cd22 "made_by" = true) (k22 : PySem.W.keepIn K (.ref f22) = true)
    {f23 : Addr} {od23 an23 : Option Addr} {sl23 : Array (Option Value)} {oc23 kV23 dc23 pm23 cd23 ct23 : Value}
    (a23 : PySem.W.nsIn K mainGlobals "shows_way" = some (some (.ref f23))) (l23 : K.lookup f23 = some ⟨oc23, od23, .func (PySem.W.fnOf "shows_way" "shows_way" (defArgs s_p_shows_way) (defBody s_p_shows_way) (defScope s_p_shows_way) .none kV23 dc23 pm23 an23 cd23 ct23), sl23⟩) (c23 : PySem.W.codeIn K cd23 "shows_way" = true) (k23 : PySem.W.keepIn K (.ref f23) = true)
    {f24 : Addr} {od24 an24 : Option Addr} {sl24 : Array (Option Value)} {oc24 kV24 dc24 pm24 cd24 ct24 : Value}
    (a24 : PySem.W.nsIn K mainGlobals "run" = some (some (.ref f24))) (l24 : K.lookup f24 = some ⟨oc24, od24, .func (PySem.W.fnOf "run" "run" (defArgs s_p_run) (defBody s_p_run) (defScope s_p_run) .none kV24 dc24 pm24 an24 cd24 ct24), sl24⟩) (c24 : PySem.W.codeIn K cd24 "run" = true) (k24 : PySem.W.keepIn K (.ref f24) = true)
    {f25 : Addr} {od25 an25 : Option Addr} {sl25 : Array (Option Value)} {oc25 kV25 dc25 pm25 cd25 ct25 : Value}
    (a25 : PySem.W.nsIn K mainGlobals "files_after" = some (some (.ref f25))) (l25 : K.lookup f25 = some ⟨oc25, od25, .func (PySem.W.fnOf "files_after" "files_after" (defArgs s_p_files_after) (defBody s_p_files_after) (defScope s_p_files_after) .none kV25 dc25 pm25 an25 cd25 ct25), sl25⟩) (c25 : PySem.W.codeIn K cd25 "files_after" = true) (k25 : PySem.W.keepIn K (.ref f25) = true)
    {f26 : Addr} {od26 an26 : Option Addr} {sl26 : Array (Option Value)} {oc26 kV26 dc26 pm26 cd26 ct26 : Value}
    (a26 : PySem.W.nsIn K mainGlobals "settled" = some (some (.ref f26))) (l26 : K.lookup f26 = some ⟨oc26, od26, .func (PySem.W.fnOf "settled" "settled" (defArgs s_p_settled) (defBody s_p_settled) (defScope s_p_settled) .none kV26 dc26 pm26 an26 cd26 ct26), sl26⟩) (c26 : PySem.W.codeIn K cd26 "settled" = true) (k26 : PySem.W.keepIn K (.ref f26) = true)
    {f27 : Addr} {od27 an27 : Option Addr} {sl27 : Array (Option Value)} {oc27 kV27 dc27 pm27 cd27 ct27 : Value}
    (a27 : PySem.W.nsIn K mainGlobals "gone_through" = some (some (.ref f27))) (l27 : K.lookup f27 = some ⟨oc27, od27, .func (PySem.W.fnOf "gone_through" "gone_through" (defArgs s_p_gone_through) (defBody s_p_gone_through) (defScope s_p_gone_through) .none kV27 dc27 pm27 an27 cd27 ct27), sl27⟩) (c27 : PySem.W.codeIn K cd27 "gone_through" = true) (k27 : PySem.W.keepIn K (.ref f27) = true)
    {f28 : Addr} {od28 an28 : Option Addr} {sl28 : Array (Option Value)} {oc28 kV28 dc28 pm28 cd28 ct28 : Value}
    (a28 : PySem.W.nsIn K mainGlobals "need_run" = some (some (.ref f28))) (l28 : K.lookup f28 = some ⟨oc28, od28, .func (PySem.W.fnOf "need_run" "need_run" (defArgs s_p_need_run) (defBody s_p_need_run) (defScope s_p_need_run) .none kV28 dc28 pm28 an28 cd28 ct28), sl28⟩) (c28 : PySem.W.codeIn K cd28 "need_run" = true) (k28 : PySem.W.keepIn K (.ref f28) = true)
    {f29 : Addr} {od29 an29 : Option Addr} {sl29 : Array (Option Value)} {oc29 kV29 dc29 pm29 cd29 ct29 : Value}
    (a29 : PySem.W.nsIn K mainGlobals "_law_kneaded" = some (some (.ref f29))) (l29 : K.lookup f29 = some ⟨oc29, od29, .func (PySem.W.fnOf "_law_kneaded" "_law_kneaded" (defArgs s_kneaded) (defBody s_kneaded) (defScope s_kneaded) .none kV29 dc29 pm29 an29 cd29 ct29), sl29⟩) (c29 : PySem.W.codeIn K cd29 "_law_kneaded" = true) (k29 : PySem.W.keepIn K (.ref f29) = true)
    {f30 : Addr} {od30 an30 : Option Addr} {sl30 : Array (Option Value)} {oc30 kV30 dc30 pm30 cd30 ct30 : Value}
    (a30 : PySem.W.nsIn K mainGlobals "_law_pot_of" = some (some (.ref f30))) (l30 : K.lookup f30 = some ⟨oc30, od30, .func (PySem.W.fnOf "_law_pot_of" "_law_pot_of" (defArgs s_pot_of) (defBody s_pot_of) (defScope s_pot_of) .none kV30 dc30 pm30 an30 cd30 ct30), sl30⟩) (c30 : PySem.W.codeIn K cd30 "_law_pot_of" = true) (k30 : PySem.W.keepIn K (.ref f30) = true)
    {f31 : Addr} {od31 an31 : Option Addr} {sl31 : Array (Option Value)} {oc31 kV31 dc31 pm31 cd31 ct31 : Value}
    (a31 : PySem.W.nsIn K mainGlobals "_law_below" = some (some (.ref f31))) (l31 : K.lookup f31 = some ⟨oc31, od31, .func (PySem.W.fnOf "_law_below" "_law_below" (defArgs s_below) (defBody s_below) (defScope s_below) .none kV31 dc31 pm31 an31 cd31 ct31), sl31⟩) (c31 : PySem.W.codeIn K cd31 "_law_below" = true) (k31 : PySem.W.keepIn K (.ref f31) = true)
    {f32 : Addr} {od32 an32 : Option Addr} {sl32 : Array (Option Value)} {oc32 kV32 dc32 pm32 cd32 ct32 : Value}
    (a32 : PySem.W.nsIn K mainGlobals "_law_pick" = some (some (.ref f32))) (l32 : K.lookup f32 = some ⟨oc32, od32, .func (PySem.W.fnOf "_law_pick" "_law_pick" (defArgs s_pick) (defBody s_pick) (defScope s_pick) .none kV32 dc32 pm32 an32 cd32 ct32), sl32⟩) (c32 : PySem.W.codeIn K cd32 "_law_pick" = true) (k32 : PySem.W.keepIn K (.ref f32) = true)
    {f33 : Addr} {od33 an33 : Option Addr} {sl33 : Array (Option Value)} {oc33 kV33 dc33 pm33 cd33 ct33 : Value}
    (a33 : PySem.W.nsIn K mainGlobals "_law_some_name" = some (some (.ref f33))) (l33 : K.lookup f33 = some ⟨oc33, od33, .func (PySem.W.fnOf "_law_some_name" "_law_some_name" (defArgs s_some_name) (defBody s_some_name) (defScope s_some_name) .none kV33 dc33 pm33 an33 cd33 ct33), sl33⟩) (c33 : PySem.W.codeIn K cd33 "_law_some_name" = true) (k33 : PySem.W.keepIn K (.ref f33) = true)
    {f34 : Addr} {od34 an34 : Option Addr} {sl34 : Array (Option Value)} {oc34 kV34 dc34 pm34 cd34 ct34 : Value}
    (a34 : PySem.W.nsIn K mainGlobals "_law_ordered" = some (some (.ref f34))) (l34 : K.lookup f34 = some ⟨oc34, od34, .func (PySem.W.fnOf "_law_ordered" "_law_ordered" (defArgs s_ordered) (defBody s_ordered) (defScope s_ordered) .none kV34 dc34 pm34 an34 cd34 ct34), sl34⟩) (c34 : PySem.W.codeIn K cd34 "_law_ordered" = true) (k34 : PySem.W.keepIn K (.ref f34) = true)
    {f35 : Addr} {od35 an35 : Option Addr} {sl35 : Array (Option Value)} {oc35 kV35 dc35 pm35 cd35 ct35 : Value}
    (a35 : PySem.W.nsIn K mainGlobals "_law_whole" = some (some (.ref f35))) (l35 : K.lookup f35 = some ⟨oc35, od35, .func (PySem.W.fnOf "_law_whole" "_law_whole" (defArgs s_whole) (defBody s_whole) (defScope s_whole) .none kV35 dc35 pm35 an35 cd35 ct35), sl35⟩) (c35 : PySem.W.codeIn K cd35 "_law_whole" = true) (k35 : PySem.W.keepIn K (.ref f35) = true)
    {f36 : Addr} {od36 an36 : Option Addr} {sl36 : Array (Option Value)} {oc36 kV36 dc36 pm36 cd36 ct36 : Value}
    (a36 : PySem.W.nsIn K mainGlobals "_law_some_source" = some (some (.ref f36))) (l36 : K.lookup f36 = some ⟨oc36, od36, .func (PySem.W.fnOf "_law_some_source" "_law_some_source" (defArgs s_some_source) (defBody s_some_source) (defScope s_some_source) .none kV36 dc36 pm36 an36 cd36 ct36), sl36⟩) (c36 : PySem.W.codeIn K cd36 "_law_some_source" = true) (k36 : PySem.W.keepIn K (.ref f36) = true)
    {f37 : Addr} {od37 an37 : Option Addr} {sl37 : Array (Option Value)} {oc37 kV37 dc37 pm37 cd37 ct37 : Value}
    (a37 : PySem.W.nsIn K mainGlobals "_law_some_rule" = some (some (.ref f37))) (l37 : K.lookup f37 = some ⟨oc37, od37, .func (PySem.W.fnOf "_law_some_rule" "_law_some_rule" (defArgs s_some_rule) (defBody s_some_rule) (defScope s_some_rule) .none kV37 dc37 pm37 an37 cd37 ct37), sl37⟩) (c37 : PySem.W.codeIn K cd37 "_law_some_rule" = true) (k37 : PySem.W.keepIn K (.ref f37) = true)
    {f38 : Addr} {od38 an38 : Option Addr} {sl38 : Array (Option Value)} {oc38 kV38 dc38 pm38 cd38 ct38 : Value}
    (a38 : PySem.W.nsIn K mainGlobals "_law_some_book" = some (some (.ref f38))) (l38 : K.lookup f38 = some ⟨oc38, od38, .func (PySem.W.fnOf "_law_some_book" "_law_some_book" (defArgs s_some_book) (defBody s_some_book) (defScope s_some_book) .none kV38 dc38 pm38 an38 cd38 ct38), sl38⟩) (c38 : PySem.W.codeIn K cd38 "_law_some_book" = true) (k38 : PySem.W.keepIn K (.ref f38) = true)
    {f39 : Addr} {od39 an39 : Option Addr} {sl39 : Array (Option Value)} {oc39 kV39 dc39 pm39 cd39 ct39 : Value}
    (a39 : PySem.W.nsIn K mainGlobals "_law_some_files" = some (some (.ref f39))) (l39 : K.lookup f39 = some ⟨oc39, od39, .func (PySem.W.fnOf "_law_some_files" "_law_some_files" (defArgs s_some_files) (defBody s_some_files) (defScope s_some_files) .none kV39 dc39 pm39 an39 cd39 ct39), sl39⟩) (c39 : PySem.W.codeIn K cd39 "_law_some_files" = true) (k39 : PySem.W.keepIn K (.ref f39) = true)
    {f40 : Addr} {od40 an40 : Option Addr} {sl40 : Array (Option Value)} {oc40 kV40 dc40 pm40 cd40 ct40 : Value}
    (a40 : PySem.W.nsIn K mainGlobals "_law_do" = some (some (.ref f40))) (l40 : K.lookup f40 = some ⟨oc40, od40, .func (PySem.W.fnOf "_law_do" "_law_do" (defArgs s_do) (defBody s_do) (defScope s_do) .none kV40 dc40 pm40 an40 cd40 ct40), sl40⟩) (c40 : PySem.W.codeIn K cd40 "_law_do" = true) (k40 : PySem.W.keepIn K (.ref f40) = true)
    {f41 : Addr} {od41 an41 : Option Addr} {sl41 : Array (Option Value)} {oc41 kV41 dc41 pm41 cd41 ct41 : Value}
    (a41 : PySem.W.nsIn K mainGlobals "_law_word" = some (some (.ref f41))) (l41 : K.lookup f41 = some ⟨oc41, od41, .func (PySem.W.fnOf "_law_word" "_law_word" (defArgs s_word) (defBody s_word) (defScope s_word) .none kV41 dc41 pm41 an41 cd41 ct41), sl41⟩) (c41 : PySem.W.codeIn K cd41 "_law_word" = true) (k41 : PySem.W.keepIn K (.ref f41) = true)
    {f42 : Addr} {od42 an42 : Option Addr} {sl42 : Array (Option Value)} {oc42 kV42 dc42 pm42 cd42 ct42 : Value}
    (a42 : PySem.W.nsIn K mainGlobals "law" = some (some (.ref f42))) (l42 : K.lookup f42 = some ⟨oc42, od42, .func (PySem.W.fnOf "law" "law" (defArgs s_law) (defBody s_law) (defScope s_law) .none kV42 dc42 pm42 an42 cd42 ct42), sl42⟩) (c42 : PySem.W.codeIn K cd42 "law" = true) (k42 : PySem.W.keepIn K (.ref f42) = true)
    (z0 : PySem.W.nsIn K mainGlobals "int" = some none)
    (z1 : PySem.W.nsIn K mainGlobals "abs" = some none)
    (z2 : PySem.W.nsIn K mainGlobals "range" = some none)
    (z3 : PySem.W.nsIn K mainGlobals "enumerate" = some none)
    (z4 : PySem.W.nsIn K mainGlobals "len" = some none)
    (z5 : PySem.W.nsIn K mainGlobals "isinstance" = some none)
    (z6 : PySem.W.nsIn K mainGlobals "str" = some none)
    (z7 : PySem.W.nsIn K mainGlobals "tuple" = some none)
    (z8 : PySem.W.nsIn K mainGlobals "repr" = some none)
    (z9 : PySem.W.nsIn K mainGlobals "list" = some none)
    (z10 : PySem.W.nsIn K mainGlobals "sorted" = some none)
    (z11 : PySem.W.nsIn K mainGlobals "set" = some none)
    (z12 : PySem.W.nsIn K mainGlobals "all" = some none)
    (z13 : PySem.W.nsIn K mainGlobals "bool" = some none)
    {tk0 : Tok} (q0 : PySem.W.nsIn K mainGlobals "CAPITALS" = some (some (.str "ABCDEFGHIJKLMNOPQRSTUVWXYZ" tk0)))
    {tk1 : Tok} (q1 : PySem.W.nsIn K mainGlobals "SMALLS" = some (some (.str "abcdefghijklmnopqrstuvwxyz" tk1)))
    {tk2 : Tok} (q2 : PySem.W.nsIn K mainGlobals "MOST_END_LETTERS" = some (some (.int 3 tk2)))
    {tk3 : Tok} (q3 : PySem.W.nsIn K mainGlobals "MOST_LABEL_LETTERS" = some (some (.int 8 tk3)))
    {tk4 : Tok} (q4 : PySem.W.nsIn K mainGlobals "MOST_NAME_LETTERS" = some (some (.int 6 tk4)))
    {tk5 : Tok} (q5 : PySem.W.nsIn K mainGlobals "MOST_SOURCES" = some (some (.int 3 tk5)))
    {tk6 : Tok} (q6 : PySem.W.nsIn K mainGlobals "MOST_RULES" = some (some (.int 6 tk6)))
    {tk7 : Tok} (q7 : PySem.W.nsIn K mainGlobals "MOST_FILES" = some (some (.int 60 tk7)))
    {C0 : Addr} (ca0 : PySem.W.nsIn K mainGlobals "NoBook" = some (some (.ref C0))) (cx0 : PySem.W.excIn K C0 [.type "ValueError", .type "Exception", .type "BaseException", .type "object"] "ValueError.__new__" = true)
    (ck0 : PySem.W.keepIn K (.ref C0) = true) (cb0 : PySem.W.subIn K (.ref C0) (.type "BaseException") = some true) (ct0 : PySem.W.typeIn K (.ref C0) = some (.type "type")) (ci0 : PySem.W.isClsIn K C0 = true)
    {C1 : Addr} (ca1 : PySem.W.nsIn K mainGlobals "NoFiles" = some (some (.ref C1))) (cx1 : PySem.W.excIn K C1 [.type "ValueError", .type "Exception", .type "BaseException", .type "object"] "ValueError.__new__" = true)
    (ck1 : PySem.W.keepIn K (.ref C1) = true) (cb1 : PySem.W.subIn K (.ref C1) (.type "BaseException") = some true) (ct1 : PySem.W.typeIn K (.ref C1) = some (.type "type")) (ci1 : PySem.W.isClsIn K C1 = true)
    {C2 : Addr} (ca2 : PySem.W.nsIn K mainGlobals "NoName" = some (some (.ref C2))) (cx2 : PySem.W.excIn K C2 [.type "ValueError", .type "Exception", .type "BaseException", .type "object"] "ValueError.__new__" = true)
    (ck2 : PySem.W.keepIn K (.ref C2) = true) (cb2 : PySem.W.subIn K (.ref C2) (.type "BaseException") = some true) (ct2 : PySem.W.typeIn K (.ref C2) = some (.type "type")) (ci2 : PySem.W.isClsIn K C2 = true)
    {C3 : Addr} (ca3 : PySem.W.nsIn K mainGlobals "NoRule" = some (some (.ref C3))) (cx3 : PySem.W.excIn K C3 [.type "ValueError", .type "Exception", .type "BaseException", .type "object"] "ValueError.__new__" = true)
    (ck3 : PySem.W.keepIn K (.ref C3) = true) (cb3 : PySem.W.subIn K (.ref C3) (.type "BaseException") = some true) (ct3 : PySem.W.typeIn K (.ref C3) = some (.type "type")) (ci3 : PySem.W.isClsIn K C3 = true)
    {C4 : Addr} (ca4 : PySem.W.nsIn K mainGlobals "Mismatch" = some (some (.ref C4))) (cx4 : PySem.W.excIn K C4 [.type "ValueError", .type "Exception", .type "BaseException", .type "object"] "ValueError.__new__" = true)
    (ck4 : PySem.W.keepIn K (.ref C4) = true) (cb4 : PySem.W.subIn K (.ref C4) (.type "BaseException") = some true) (ct4 : PySem.W.typeIn K (.ref C4) = some (.type "type")) (ci4 : PySem.W.isClsIn K C4 = true)
    (em0_0 : PySem.W.subIn K (.ref C0) (.ref C0) = some true)
    (em1_0 : PySem.W.subIn K (.ref C1) (.ref C0) = some false)
    (em1_1 : PySem.W.subIn K (.ref C1) (.ref C1) = some true)
    (em2_0 : PySem.W.subIn K (.ref C2) (.ref C0) = some false)
    (em2_1 : PySem.W.subIn K (.ref C2) (.ref C1) = some false)
    (em2_2 : PySem.W.subIn K (.ref C2) (.ref C2) = some true)
    (em3_0 : PySem.W.subIn K (.ref C3) (.ref C0) = some false)
    (em3_1 : PySem.W.subIn K (.ref C3) (.ref C1) = some false)
    (em3_2 : PySem.W.subIn K (.ref C3) (.ref C2) = some false)
    (em3_3 : PySem.W.subIn K (.ref C3) (.ref C3) = some true)
    (em4_0 : PySem.W.subIn K (.ref C4) (.ref C0) = some false)
    (em4_1 : PySem.W.subIn K (.ref C4) (.ref C1) = some false)
    (em4_2 : PySem.W.subIn K (.ref C4) (.ref C2) = some false)
    (em4_3 : PySem.W.subIn K (.ref C4) (.ref C3) = some false)
    (em4_4 : PySem.W.subIn K (.ref C4) (.ref C4) = some true)
    : ∃ fd : FuncData, (∀ (s : Shared) (v : Value), BindsTo s fd ⟨[v], []⟩ [("script", v)]) ∧ ∀ base : Heap, K.In base → base.Ns mainGlobals mg → FnG l.prog w K mg base CX0 14 fa fd ["script"] (spLaw K) := by
  have e := hfa.symm.trans (PySem.W.mg_of X G a42)
  cases e
  refine ⟨PySem.W.fnOf "law" "law" (defArgs s_law) (defBody s_law) (defScope s_law) .none kV42 dc42 pm42 an42 cd42 ct42, fun s v => .of_eq rfl, fun base _ _ => ?_⟩
  have d_p_is_name : Def1 K mg "is_name" s_p_is_name := ⟨_, _, fun_mk l0 c0 k0, PySem.W.mg_of X G a0⟩
  have d_p_is_pattern : Def1 K mg "is_pattern" s_p_is_pattern := ⟨_, _, fun_mk l1 c1 k1, PySem.W.mg_of X G a1⟩
  have d_p_is_end : Def1 K mg "is_end" s_p_is_end := ⟨_, _, fun_mk l2 c2 k2, PySem.W.mg_of X G a2⟩
  have d_p_need_name : Def1 K mg "need_name" s_p_need_name := ⟨_, _, fun_mk l3 c3 k3, PySem.W.mg_of X G a3⟩
  have d_p_need_names : Def1 K mg "need_names" s_p_need_names := ⟨_, _, fun_mk l4 c4 k4, PySem.W.mg_of X G a4⟩
  have d_p_stem_within : Def1 K mg "stem_within" s_p_stem_within := ⟨_, _, fun_mk l5 c5 k5, PySem.W.mg_of X G a5⟩
  have d_p_ascending : Def1 K mg "ascending" s_p_ascending := ⟨_, _, fun_mk l6 c6 k6, PySem.W.mg_of X G a6⟩
  have d_p_is_rule : Def1 K mg "is_rule" s_p_is_rule := ⟨_, _, fun_mk l7 c7 k7, PySem.W.mg_of X G a7⟩
  have d_p_is_label : Def1 K mg "is_label" s_p_is_label := ⟨_, _, fun_mk l8 c8 k8, PySem.W.mg_of X G a8⟩
  have d_p_are_sources : Def1 K mg "are_sources" s_p_are_sources := ⟨_, _, fun_mk l9 c9 k9, PySem.W.mg_of X G a9⟩
  have d_p_is_rule_source : Def1 K mg "is_rule_source" s_p_is_rule_source := ⟨_, _, fun_mk l10 c10 k10, PySem.W.mg_of X G a10⟩
  have d_p_is_book : Def1 K mg "is_book" s_p_is_book := ⟨_, _, fun_mk l11 c11 k11, PySem.W.mg_of X G a11⟩
  have d_p_are_files : Def1 K mg "are_files" s_p_are_files := ⟨_, _, fun_mk l12 c12 k12, PySem.W.mg_of X G a12⟩
  have d_p_fitting : Def1 K mg "fitting" s_p_fitting := ⟨_, _, fun_mk l13 c13 k13, PySem.W.mg_of X G a13⟩
  have d_p_sources_of : Def1 K mg "sources_of" s_p_sources_of := ⟨_, _, fun_mk l14 c14 k14, PySem.W.mg_of X G a14⟩
  have d_p_kin : Def1 K mg "kin" s_p_kin := ⟨_, _, fun_mk l15 c15 k15, PySem.W.mg_of X G a15⟩
  have d_p_need_book : Def1 K mg "need_book" s_p_need_book := ⟨_, _, fun_mk l16 c16 k16, PySem.W.mg_of X G a16⟩
  have d_p_need_files : Def1 K mg "need_files" s_p_need_files := ⟨_, _, fun_mk l17 c17 k17, PySem.W.mg_of X G a17⟩
  have d_p_need_things : Def1 K mg "need_things" s_p_need_things := ⟨_, _, fun_mk l18 c18 k18, PySem.W.mg_of X G a18⟩
  have d_p_is_number_in : Def1 K mg "is_number_in" s_p_is_number_in := ⟨_, _, fun_mk l19 c19 k19, PySem.W.mg_of X G a19⟩
  have d_p_way : Def1 K mg "way" s_p_way := ⟨_, _, fun_mk l20 c20 k20, PySem.W.mg_of X G a20⟩
  have d_p_can : Def1 K mg "can" s_p_can := ⟨_, _, fun_mk l21 c21 k21, PySem.W.mg_of X G a21⟩
  have d_p_made_by : Def1 K mg "made_by" s_p_made_by := ⟨_, _, fun_mk l22 c22 k22, PySem.W.mg_of X G a22⟩
  have d_p_shows_way : Def1 K mg "shows_way" s_p_shows_way := ⟨_, _, fun_mk l23 c23 k23, PySem.W.mg_of X G a23⟩
  have d_p_run : Def1 K mg "run" s_p_run := ⟨_, _, fun_mk l24 c24 k24, PySem.W.mg_of X G a24⟩
  have d_p_files_after : Def1 K mg "files_after" s_p_files_after := ⟨_, _, fun_mk l25 c25 k25, PySem.W.mg_of X G a25⟩
  have d_p_settled : Def1 K mg "settled" s_p_settled := ⟨_, _, fun_mk l26 c26 k26, PySem.W.mg_of X G a26⟩
  have d_p_gone_through : Def1 K mg "gone_through" s_p_gone_through := ⟨_, _, fun_mk l27 c27 k27, PySem.W.mg_of X G a27⟩
  have d_p_need_run : Def1 K mg "need_run" s_p_need_run := ⟨_, _, fun_mk l28 c28 k28, PySem.W.mg_of X G a28⟩
  have d_kneaded : Def1 K mg "_law_kneaded" s_kneaded := ⟨_, _, fun_mk l29 c29 k29, PySem.W.mg_of X G a29⟩
  have d_pot_of : Def1 K mg "_law_pot_of" s_pot_of := ⟨_, _, fun_mk l30 c30 k30, PySem.W.mg_of X G a30⟩
  have d_below : Def1 K mg "_law_below" s_below := ⟨_, _, fun_mk l31 c31 k31, PySem.W.mg_of X G a31⟩
  have d_pick : Def1 K mg "_law_pick" s_pick := ⟨_, _, fun_mk l32 c32 k32, PySem.W.mg_of X G a32⟩
  have d_some_name : Def1 K mg "_law_some_name" s_some_name := ⟨_, _, fun_mk l33 c33 k33, PySem.W.mg_of X G a33⟩
  have d_ordered : Def1 K mg "_law_ordered" s_ordered := ⟨_, _, fun_mk l34 c34 k34, PySem.W.mg_of X G a34⟩
  have d_whole : Def1 K mg "_law_whole" s_whole := ⟨_, _, fun_mk l35 c35 k35, PySem.W.mg_of X G a35⟩
  have d_some_source : Def1 K mg "_law_some_source" s_some_source := ⟨_, _, fun_mk l36 c36 k36, PySem.W.mg_of X G a36⟩
  have d_some_rule : Def1 K mg "_law_some_rule" s_some_rule := ⟨_, _, fun_mk l37 c37 k37, PySem.W.mg_of X G a37⟩
  have d_some_book : Def1 K mg "_law_some_book" s_some_book := ⟨_, _, fun_mk l38 c38 k38, PySem.W.mg_of X G a38⟩
  have d_some_files : Def1 K mg "_law_some_files" s_some_files := ⟨_, _, fun_mk l39 c39 k39, PySem.W.mg_of X G a39⟩
  have d_do : Def1 K mg "_law_do" s_do := ⟨_, _, fun_mk l40 c40 k40, PySem.W.mg_of X G a40⟩
  have d_word : Def1 K mg "_law_word" s_word := ⟨_, _, fun_mk l41 c41 k41, PySem.W.mg_of X G a41⟩
  have z_int : mg "int" = none := PySem.W.mg_none_of X G z0
  have z_abs : mg "abs" = none := PySem.W.mg_none_of X G z1
  have z_range : mg "range" = none := PySem.W.mg_none_of X G z2
  have z_enumerate : mg "enumerate" = none := PySem.W.mg_none_of X G z3
  have z_len : mg "len" = none := PySem.W.mg_none_of X G z4
  have z_isinstance : mg "isinstance" = none := PySem.W.mg_none_of X G z5
  have z_str : mg "str" = none := PySem.W.mg_none_of X G z6
  have z_tuple : mg "tuple" = none := PySem.W.mg_none_of X G z7
  have z_repr : mg "repr" = none := PySem.W.mg_none_of X G z8
  have z_list : mg "list" = none := PySem.W.mg_none_of X G z9
  have z_sorted : mg "sorted" = none := PySem.W.mg_none_of X G z10
  have z_set : mg "set" = none := PySem.W.mg_none_of X G z11
  have z_all : mg "all" = none := PySem.W.mg_none_of X G z12
  have z_bool : mg "bool" = none := PySem.W.mg_none_of X G z13
  have k_CAPITALS : Con1 mg "CAPITALS" (.str capS) := ⟨_, PySem.W.mg_of X G q0, ⟨_, rfl⟩⟩
  have k_SMALLS : Con1 mg "SMALLS" (.str smaS) := ⟨_, PySem.W.mg_of X G q1, ⟨_, rfl⟩⟩
  have k_MOST_END_LETTERS : Con1 mg "MOST_END_LETTERS" (.int 3) := ⟨_, PySem.W.mg_of X G q2, ⟨_, rfl⟩⟩
  have k_MOST_LABEL_LETTERS : Con1 mg "MOST_LABEL_LETTERS" (.int 8) := ⟨_, PySem.W.mg_of X G q3, ⟨_, rfl⟩⟩
  have k_MOST_NAME_LETTERS : Con1 mg "MOST_NAME_LETTERS" (.int 6) := ⟨_, PySem.W.mg_of X G q4, ⟨_, rfl⟩⟩
  have k_MOST_SOURCES : Con1 mg "MOST_SOURCES" (.int 3) := ⟨_, PySem.W.mg_of X G q5, ⟨_, rfl⟩⟩
  have k_MOST_RULES : Con1 mg "MOST_RULES" (.int 6) := ⟨_, PySem.W.mg_of X G q6, ⟨_, rfl⟩⟩
  have k_MOST_FILES : Con1 mg "MOST_FILES" (.int 60) := ⟨_, PySem.W.mg_of X G q7, ⟨_, rfl⟩⟩
  have e_NoBook : Err K mg "NoBook" C0 := ⟨PySem.W.mg_of X G ca0, cx0, ck0, cb0, ct0⟩
  have e_NoFiles : Err K mg "NoFiles" C1 := ⟨PySem.W.mg_of X G ca1, cx1, ck1, cb1, ct1⟩
  have e_NoName : Err K mg "NoName" C2 := ⟨PySem.W.mg_of X G ca2, cx2, ck2, cb2, ct2⟩
  have e_NoRule : Err K mg "NoRule" C3 := ⟨PySem.W.mg_of X G ca3, cx3, ck3, cb3, ct3⟩
  have e_Mismatch : Err K mg "Mismatch" C4 := ⟨PySem.W.mg_of X G ca4, cx4, ck4, cb4, ct4⟩
  have em0_0 := exm_of cb0 ci0 ct0 em0_0
  have em1_0 := exm_of cb0 ci0 ct0 em1_0
  have em1_1 := exm_of cb1 ci1 ct1 em1_1
  have em2_0 := exm_of cb0 ci0 ct0 em2_0
  have em2_1 := exm_of cb1 ci1 ct1 em2_1
  have em2_2 := exm_of cb2 ci2 ct2 em2_2
  have em3_0 := exm_of cb0 ci0 ct0 em3_0
  have em3_1 := exm_of cb1 ci1 ct1 em3_1
  have em3_2 := exm_of cb2 ci2 ct2 em3_2
  have em3_3 := exm_of cb3 ci3 ct3 em3_3
  have em4_0 := exm_of cb0 ci0 ct0 em4_0
  have em4_1 := exm_of cb1 ci1 ct1 em4_1
  have em4_2 := exm_of cb2 ci2 ct2 em4_2
  have em4_3 := exm_of cb3 ci3 ct3 em4_3
  have em4_4 := exm_of cb4 ci4 ct4 em4_4
  have GB : Glb mg := ⟨z_int, z_abs, z_range, z_enumerate, z_len⟩
  have GC : Glc mg := ⟨z_isinstance, z_str, z_tuple, k_CAPITALS, k_SMALLS, k_MOST_END_LETTERS⟩
  have GA : Gla mg := ⟨z_tuple, z_sorted, z_set, z_len⟩
  have GK : Glk mg := ⟨z_all, k_MOST_LABEL_LETTERS, k_MOST_NAME_LETTERS, k_MOST_SOURCES, k_MOST_RULES⟩
  have c1 := cal_kneaded (P := l.prog) (w := w) (base := base) d_kneaded GB
  have c2 := cal_pot_of (P := l.prog) (w := w) (base := base) d_pot_of GB
  have c3 := cal_below d_below GB c1
  have c4 := cal_pick d_pick GB c3
  have c5 := cal_some_name d_some_name GB c3 c4
  have l3 := cal_ordered (P := l.prog) (w := w) (base := base) d_ordered z_tuple z_sorted z_set z_len
  have p1 := cal_p_is_name (P := l.prog) (w := w) (base := base) d_p_is_name GC
  have p2 := cal_p_is_end (P := l.prog) (w := w) (base := base) d_p_is_end GC GB
  have p3 := cal_p_is_pattern d_p_is_pattern GC GB p2
  have b1 := cal_p_is_label (P := l.prog) (w := w) (base := base) d_p_is_label GC GB GK
  have b2 := cal_p_is_rule_source d_p_is_rule_source GB GK p1 p3
  have b3 := cal_p_are_sources d_p_are_sources GC GB GK b2
  have b4 := cal_p_is_rule d_p_is_rule GC GB b1 p3 b3
  have b5 := cal_p_is_book d_p_is_book GC GB GK b4
  have s1 := cal_p_stem_within (P := l.prog) (w := w) (base := base) d_p_stem_within GB
  have a1 := cal_p_ascending (P := l.prog) (w := w) (base := base) d_p_ascending GA
  have f1 := cal_p_are_files d_p_are_files GC GB GK k_MOST_FILES p1 a1
  have w1 := cal_whole (P := l.prog) (w := w) (base := base) d_whole
  have w2 := cal_some_source d_some_source c3 c4 w1
  have w3 := cal_some_rule d_some_rule GB z_tuple c3 c4 w1 w2
  have w4 := cal_some_book d_some_book GB z_tuple c3 w3
  have E : Err5 K mg ⟨C0, C1, C2, C3, C4⟩ := ⟨e_NoBook, e_NoFiles, e_NoName, e_NoRule, e_Mismatch⟩
  have XM : Exm5 K ⟨C0, C1, C2, C3, C4⟩ := ⟨em0_0, em1_0, em1_1, em2_0, em2_1, em2_2, em3_0, em3_1, em3_2, em3_3, em4_0, em4_1, em4_2, em4_3, em4_4⟩
  have n1 := calx_need_book d_p_need_book E.b b5
  have n2 := calx_need_files d_p_need_files E.f f1
  have n3 := calx_need_name d_p_need_name E.n p1
  have N : Nd l.prog w K mg base ⟨C0, C1, C2, C3, C4⟩ := ⟨n1, n2, n3⟩
  have n4 := calx_need_names d_p_need_names GC z_list E.m n3
  have n5 := calx_need_things d_p_need_things N
  have n6 := calx_need_run d_p_need_run N n4
  have x1 := calx_number (P := l.prog) (w := w) (base := base) d_p_is_number_in GC GB z_bool
  have x2 := calx_sources_of d_p_sources_of N E.r E.m x1 s1
  have x3 := calx_fitting d_p_fitting N
  have x4 := calx_kin d_p_kin N
  have x5 := calx_way d_p_way n5
  have x6 := calx_can d_p_can x5
  have x7 := calx_made_by d_p_made_by x5
  have x8 := calx_shows_way d_p_shows_way n5
  have x9 := calx_gone_through d_p_gone_through n6
  have x10 := calx_run d_p_run x9
  have x11 := calx_files_after d_p_files_after x9
  have x12 := calx_settled d_p_settled n6
  have y1 := calx_do d_do ⟨x3, x4, x5, x6, x7, x8, x2, x12, x10, x11⟩
  have y2 := calg_word d_word z_repr E XM y1
  have y3 := cal_some_files d_some_files c3 l3
  exact fn_law (fun_mk l42 c42 k42) ⟨c2, c4, c5, w4, l3, y3, y2⟩ GB ⟨z_list⟩
end Lk
open PySem PySem.W PyProof.Rows in
set_option maxRecDepth 100000 in
set_option maxHeartbeats 0 in
theorem PySem.Challenge.cw_stemrules_k12_books_refused_holds : PySem.Challenge.rw_stemrules_k12_books_refused.Holds := by
  w_on; o_law; k_head; (case hw => w_witness2)
  k_fill
  refine Lk.walkG (l := PySem.Challenge.rw_stemrules_k12_books_refused) (k := 14) (x := "script") (CX := fun w => L2.CX0) (sp := fun w => Lk.spLaw _) rfl rfl ⟨rfl, by decide, by decide⟩ (fun w h Y => PySem.W.kIn_of Y) ?F (fun _ _ a ns hl _ hS => ⟨a, ns, rfl, hS, hl, fun _ => rfl⟩) (fun _ _ _ _ _ z => z)
  case F =>
    intro w mg fa h KX G hmg
    refine' Lk.all_mk KX G hmg ?a0 ?l0 ?c0 ?k0 ?a1 ?l1 ?c1 ?k1 ?a2 ?l2 ?c2 ?k2 ?a3 ?l3 ?c3 ?k3 ?a4 ?l4 ?c4 ?k4 ?a5 ?l5 ?c5 ?k5 ?a6 ?l6 ?c6 ?k6 ?a7 ?l7 ?c7 ?k7 ?a8 ?l8 ?c8 ?k8 ?a9 ?l9 ?c9 ?k9 ?a10 ?l10 ?c10 ?k10 ?a11 ?l11 ?c11 ?k11 ?a12 ?l12 ?c12 ?k12 ?a13 ?l13 ?c13 ?k13 ?a14 ?l14 ?c14 ?k14 ?a15 ?l15 ?c15 ?k15 ?a16 ?l16 ?c16 ?k16 ?a17 ?l17 ?c17 ?k17 ?a18 ?l18 ?c18 ?k18 ?a19 ?l19 ?c19 ?k19 ?a20 ?l20 ?c20 ?k20 ?a21 ?l21 ?c21 ?k21 ?a22 ?l22 ?c22 ?k22 ?a23 ?l23 ?c23 ?k23 ?a24 ?l24 ?c24 ?k24 ?a25 ?l25 ?c25 ?k25 ?a26 ?l26 ?c26 ?k26 ?a27 ?l27 ?c27 ?k27 ?a28 ?l28 ?c28 ?k28 ?a29 ?l29 ?c29 ?k29 ?a30 ?l30 ?c30 ?k30 ?a31 ?l31 ?c31 ?k31 ?a32 ?l32 ?c32 ?k32 ?a33 ?l33 ?c33 ?k33 ?a34 ?l34 ?c34 ?k34 ?a35 ?l35 ?c35 ?k35 ?a36 ?l36 ?c36 ?k36 ?a37 ?l37 ?c37 ?k37 ?a38 ?l38 ?c38 ?k38 ?a39 ?l39 ?c39 ?k39 ?a40 ?l40 ?c40 ?k40 ?a41 ?l41 ?c41 ?k41 ?a42 ?l42 ?c42 ?k42 ?z0 ?z1 ?z2 ?z3 ?z4 ?z5 ?z6 ?z7 ?z8 ?z9 ?z10 ?z11 ?z12 ?z13 ?q0 ?q1 ?q2 ?q3 ?q4 ?q5 ?q6 ?q7 ?ca0 ?cx0 ?ck0 ?cb0 ?ct0 ?ci0 ?ca1 ?cx1 ?ck1 ?cb1 ?ct1 ?ci1 ?ca2 ?cx2 ?ck2 ?cb2 ?ct2 ?ci2 ?ca3 ?cx3 ?ck3 ?cb3 ?ct3 ?ci3 ?ca4 ?cx4 ?ck4 ?cb4 ?ct4 ?ci4 ?em0_0 ?em1_0 ?em1_1 ?em2_0 ?em2_1 ?em2_2 ?em3_0 ?em3_1 ?em3_2 ?em3_3 ?em4_0 ?em4_1 ?em4_2 ?em4_3 ?em4_4
    (case a0 => k_is)
    (case l0 => k_is)
    (case c0 => k_is)
    (case k0 => k_is)
    (case a1 => k_is)
    (case l1 => k_is)
    (case c1 => k_is)
    (case k1 => k_is)
    (case a2 => k_is)
    (case l2 => k_is)
    (case c2 => k_is)
    (case k2 => k_is)
    (case a3 => k_is)
    (case l3 => k_is)
    (case c3 => k_is)
    (case k3 => k_is)
    (case a4 => k_is)
    (case l4 => k_is)
    (case c4 => k_is)
    (case k4 => k_is)
    (case a5 => k_is)
    (case l5 => k_is)
    (case c5 => k_is)
    (case k5 => k_is)
    (case a6 => k_is)
    (case l6 => k_is)
    (case c6 => k_is)
    (case k6 => k_is)
    (case a7 => k_is)
    (case l7 => k_is)
    (case c7 => k_is)
    (case k7 => k_is)
    (case a8 => k_is)
    (case l8 => k_is)
    (case c8 => k_is)
    (case k8 => k_is)
    (case a9 => k_is)
    (case l9 => k_is)
    (case c9 => k_is)
    (case k9 => k_is)
    (case a10 => k_is)
    (case l10 => k_is)
    (case c10 => k_is)
    (case k10 => k_is)
    (case a11 => k_is)
    (case l11 => k_is)
    (case c11 => k_is)
    (case k11 => k_is)
    (case a12 => k_is)
    (case l12 => k_is)
    (case c12 => k_is)
    (case k12 => k_is)
    (case a13 => k_is)
    (case l13 => k_is)
    (case c13 => k_is)
    (case k13 => k_is)
    (case a14 => k_is)
    (case l14 => k_is)
    (case c14 => k_is)
    (case k14 => k_is)
    (case a15 => k_is)
    (case l15 => k_is)
    (case c15 => k_is)
    (case k15 => k_is)
    (case a16 => k_is)
    (case l16 => k_is)
    (case c16 => k_is)
    (case k16 => k_is)
    (case a17 => k_is)
    (case l17 => k_is)
    (case c17 => k_is)
    (case k17 => k_is)
    (case a18 => k_is)
    (case l18 => k_is)
    (case c18 => k_is)
    (case k18 => k_is)
    (case a19 => k_is)
    (case l19 => k_is)
    (case c19 => k_is)
    (case k19 => k_is)
    (case a20 => k_is)
    (case l20 => k_is)
    (case c20 => k_is)
    (case k20 => k_is)
    (case a21 => k_is)
    (case l21 => k_is)
    (case c21 => k_is)
    (case k21 => k_is)
    (case a22 => k_is)
    (case l22 => k_is)
    (case c22 => k_is)
    (case k22 => k_is)
    (case a23 => k_is)
    (case l23 => k_is)
    (case c23 => k_is)
    (case k23 => k_is)
    (case a24 => k_is)
    (case l24 => k_is)
    (case c24 => k_is)
    (case k24 => k_is)
    (case a25 => k_is)
    (case l25 => k_is)
    (case c25 => k_is)
    (case k25 => k_is)
    (case a26 => k_is)
    (case l26 => k_is)
    (case c26 => k_is)
    (case k26 => k_is)
    (case a27 => k_is)
    (case l27 => k_is)
    (case c27 => k_is)
    (case k27 => k_is)
    (case a28 => k_is)
    (case l28 => k_is)
    (case c28 => k_is)
    (case k28 => k_is)
    (case a29 => k_is)
    (case l29 => k_is)
    (case c29 => k_is)
    (case k29 => k_is)
    (case a30 => k_is)
    (case l30 => k_is)
    (case c30 => k_is)
    (case k30 => k_is)
    (case a31 => k_is)
    (case l31 => k_is)
    (case c31 => k_is)
    (case k31 => k_is)
    (case a32 => k_is)
    (case l32 => k_is)
    (case c32 => k_is)
    (case k32 => k_is)
    (case a33 => k_is)
    (case l33 => k_is)
    (case c33 => k_is)
    (case k33 => k_is)
    (case a34 => k_is)
    (case l34 => k_is)
    (case c34 => k_is)
    (case k34 => k_is)
    (case a35 => k_is)
    (case l35 => k_is)
    (case c35 => k_is)
    (case k35 => k_is)
    (case a36 => k_is)
    (case l36 => k_is)
    (case c36 => k_is)
    (case k36 => k_is)
    (case a37 => k_is)
    (case l37 => k_is)
    (case c37 => k_is)
    (case k37 => k_is)
    (case a38 => k_is)
    (case l38 => k_is)
    (case c38 => k_is)
    (case k38 => k_is)
    (case a39 => k_is)
    (case l39 => k_is)
    (case c39 => k_is)
    (case k39 => k_is)
    (case a40 => k_is)
    (case l40 => k_is)
    (case c40 => k_is)
    (case k40 => k_is)
    (case a41 => k_is)
    (case l41 => k_is)
    (case c41 => k_is)
    (case k41 => k_is)
    (case a42 => k_is)
    (case l42 => k_is)
    (case c42 => k_is)
    (case k42 => k_is)
    (case z0 => k_is)
    (case z1 => k_is)
    (case z2 => k_is)
    (case z3 => k_is)
    (case z4 => k_is)
    (case z5 => k_is)
    (case z6 => k_is)
    (case z7 => k_is)
    (case z8 => k_is)
    (case z9 => k_is)
    (case z10 => k_is)
    (case z11 => k_is)
    (case z12 => k_is)
    (case z13 => k_is)
    (case q0 => k_is)
    (case q1 => k_is)
    (case q2 => k_is)
    (case q3 => k_is)
    (case q4 => k_is)
    (case q5 => k_is)
    (case q6 => k_is)
    (case q7 => k_is)
    (case ca0 => k_is)
    (case cx0 => k_exc)
    (case ck0 => k_is)
    (case cb0 => k_is)
    (case ct0 => k_is)
    (case ci0 => k_is)
    (case ca1 => k_is)
    (case cx1 => k_exc)
    (case ck1 => k_is)
    (case cb1 => k_is)
    (case ct1 => k_is)
    (case ci1 => k_is)
    (case ca2 => k_is)
    (case cx2 => k_exc)
    (case ck2 => k_is)
    (case cb2 => k_is)
    (case ct2 => k_is)
    (case ci2 => k_is)
    (case ca3 => k_is)
    (case cx3 => k_exc)
    (case ck3 => k_is)
    (case cb3 => k_is)
    (case ct3 => k_is)
    (case ci3 => k_is)
    (case ca4 => k_is)
    (case cx4 => k_exc)
    (case ck4 => k_is)
    (case cb4 => k_is)
    (case ct4 => k_is)
    (case ci4 => k_is)
    (case em0_0 => first | rfl | k_is)
    (case em1_0 => first | rfl | k_is)
    (case em1_1 => first | rfl | k_is)
    (case em2_0 => first | rfl | k_is)
    (case em2_1 => first | rfl | k_is)
    (case em2_2 => first | rfl | k_is)
    (case em3_0 => first | rfl | k_is)
    (case em3_1 => first | rfl | k_is)
    (case em3_2 => first | rfl | k_is)
    (case em3_3 => first | rfl | k_is)
    (case em4_0 => first | rfl | k_is)
    (case em4_1 => first | rfl | k_is)
    (case em4_2 => first | rfl | k_is)
    (case em4_3 => first | rfl | k_is)
    (case em4_4 => first | rfl | k_is)

