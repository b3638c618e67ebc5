import PyProof.Rows.All
import Wide.All
import OpenK.AllK
import Wide.FinOn
import HandS.Base
import HandS.Call
import HandS.List
import HandS.Comp
import HandS.Ends
import HandS.Dict
import HandS.Iter
import HandS.Text
import HandS.Words
import HandS.WordsList
import PyProof.ReprRoads
import PyProof.ReprBulk
import PyProof.Rows.StrBoot
import HandS.IsInst
import HandS.StrMore
import HandS.Style
import PyProof.StrOps2
import HandS.Exc
import HandS.ExcOwn
import HandS.WordsExc
import PyProof.NeKinds
import HandS.Set
import HandS.Strs
import KE.SortData
import HandS.SetFor
import KE.SortKeyHeap
import HandS.SortKw
import PyProof.StrLaws
import HandS.TupSets
import KE.KDictKeyed
import PySem.Challenge.RW_stemrules_k03_stems
/-! Pot0 -/
set_option Elab.async false
set_option maxRecDepth 100000
set_option maxHeartbeats 4000000
namespace Lk
open PySem PySem.Spec PyProof.Rows L2

/-- a def of the module, as it stands behind the top -/
structure Def1 (K : PySem.W.Frag) (mg : Str → Option Value) (x : String) (st : Stmt) : Prop where
  ex : ∃ (f : Addr) (fd : FuncData), L2.Fun K x x st f fd ∧ mg x = some (.ref f)
/-- a def that may be called by its name, with its promise -/
structure Cal (P : Program) (w : World) (K : PySem.W.Frag) (mg : Str → Option Value) (base : Heap) (k : Nat) (x : String) (sp : Sp) : Prop where
  ex : ∃ (f : Addr) (fd : FuncData) (ps : List Str), FnOk P w K mg base CX0 k f fd ps sp ∧ mg x = some (.ref f) ∧ PySem.W.keepIn K (.ref f) = true ∧ Binds K fd ps []
section
variable {P : Program} {w : World} {K : PySem.W.Frag} {mg : Str → Option Value} {base : Heap}
theorem mkCal {x : String} {st : Stmt} {N ps : List Str} {k : Nat} {sp : Sp} (D : Def1 K mg x st) (S : FnScope N ps (defScope st))
    (hb : ∀ (kV doc pm : Value) (an : Option Addr) (cdv ct : Value) (us : List Value), us.length = ps.length → bindArgs (PySem.W.fnOf x x (defArgs st) (defBody st) (defScope st) .none kV doc pm an cdv ct) ⟨us, []⟩ = pure (ps.zip us))
    (len : ∀ vs H Q E, sp vs H Q E → vs.length = ps.length)
    (hbody : ∀ (f : Addr) (cdv : Value) (A : Around) (outer : List Env) (s : Shared) (H : Hp) (vs : List V) (Q : VK) (E : XK), Room k (A.deeper (envOfC x (defScope st) s.heap.objs.size f cdv)) → sp vs H Q E →
      ∃ t, PSs (cxOf CX0 P w K mg base N x (defScope st) f cdv A outer s H E).nox (defBody st) t ∧ t { nx := fun _ H' => Q .non H', rt := Q } (start N vs) H) : Cal P w K mg base (k + 1) x sp := by
  obtain ⟨f, fd, F, m⟩ := D.ex
  exact ⟨f, fd, ps, F.ok S len fun cdv A outer s H vs Q E hr h => hbody f cdv A outer s H vs Q E hr h, m, F.kp, F.binds hb⟩
theorem Cal.imp {x : String} {k : Nat} {sp sp' : Sp} (c : Cal P w K mg base k x sp) (h : ∀ vs H Q E, sp' vs H Q E → sp vs H Q E) : Cal P w K mg base k x sp' := by
  obtain ⟨f, fd, ps, F, a, b, d⟩ := c.ex
  exact ⟨f, fd, ps, F.imp h, a, b, d⟩
end
section
variable {X : Cx} {k j : Nat} {x : String} {sp : Sp} {p pos : Pos} {e : Expr} {es : List Expr} {t : TA}
theorem pe_cal (c : Cal X.prog X.w X.K X.mg X.base k x sp) (hr : Room j X.A) (hk : k ≤ j) (ha : PA X (e :: es) t) (hg : Gl X x := by rfl)
    (hdb : ((x : Str) == ("__debug__" : Str)) = false := by decide) (he : starEach (e :: es) X.env = (false, eval e X.env) :: starEach es X.env := by rfl) (hpl : (backTo pos (starEach es X.env)).any (·.1) = false := by rfl) :
    PE X (.Call (.Name x p) (e :: es) [] pos) (tCall sp [] E0 t) := by
  obtain ⟨f, fd, ps, F, m, kp, b⟩ := c.ex
  exact pe_call F (hr.mono hk) hg m kp b .nil pass0 ha hdb he hpl
end

/-! ### heaps -/
theorem same_upd {H : Hp} {p : Addr} {o : HO} (h : H p = none) : Same H (upd H p o) := fun b x e => by
  rw [upd_ne (ne_of_none e h)]
  exact e
theorem same_mut {H0 H : Hp} {p : Addr} {o : HO} (s : Same H0 H) (h : H0 p = none) : Same H0 (upd H p o) := fun b x e => by
  rw [upd_ne (ne_of_none e h)]
  exact s b x e
theorem Same.seqT {K : PySem.W.Frag} {H H' : Hp} {a : Addr} {xs : List V} (e : Same H H') (h : SqT K H a xs) : SqT K H' a xs := by
  rcases h with (h | ⟨o, h⟩) | h
  · exact .inl (.inl (e _ _ h))
  · exact .inl (.inr ⟨o, e _ _ h⟩)
  · exact .inr h
/-- all but p stands as it was -/
def But (p : Addr) (H H' : Hp) : Prop := ∀ q o, H q = some o → q ≠ p → H' q = some o
/-- a pot: [cells, place, amount, room] -/
def PotAt (p c : Addr) (H : Hp) : Prop := p ≠ c ∧ (∃ i a b : Int, H p = some (.lst [.ref c, .int i, .int a, .int b])) ∧ ∃ ns : List Int, H c = some (.lst (ns.map V.int)) ∧ ns.length ≤ 17
structure Ext (p c : Addr) (H H' : Hp) : Prop where
  keep : But p H H'
  pot : PotAt p c H'
theorem PotAt.same {p c : Addr} {H H' : Hp} (h : PotAt p c H) (s : Same H H') : PotAt p c H' := by
  obtain ⟨n, ⟨i, a, b, e⟩, ns, e2, l⟩ := h
  exact ⟨n, ⟨i, a, b, s _ _ e⟩, ns, s _ _ e2, l⟩
theorem PotAt.ref {p c : Addr} {H : Hp} (h : PotAt p c H) : Ext p c H H := ⟨fun _ _ e _ => e, h⟩
theorem Ext.trans {p c : Addr} {H H1 H2 : Hp} (a : Ext p c H H1) (b : Ext p c H1 H2) : Ext p c H H2 := ⟨fun q o e n => b.keep q o (a.keep q o e n) n, b.pot⟩
theorem Ext.same {p c : Addr} {H H1 H2 : Hp} (a : Ext p c H H1) (b : Same H1 H2) : Ext p c H H2 := ⟨fun q o e n => b q o (a.keep q o e n), a.pot.same b⟩
theorem Ext.pre {p c : Addr} {H H1 H2 : Hp} (a : Same H H1) (b : Ext p c H1 H2) : Ext p c H H2 := ⟨fun q o e n => b.keep q o (a q o e) n, b.pot⟩
theorem PotAt.nep {p c q : Addr} {H : Hp} (h : PotAt p c H) (e : H q = none) : q ≠ p := by
  obtain ⟨n, ⟨i, a, b, e1⟩, _⟩ := h
  exact fun z => by
    rw [z, e1] at e
    cases e
theorem PotAt.nec {p c q : Addr} {H : Hp} (h : PotAt p c H) (e : H q = none) : q ≠ c := by
  obtain ⟨n, _, ns, e1, _⟩ := h
  exact fun z => by
    rw [z, e1] at e
    cases e
theorem Ext.new {p c q : Addr} {H H1 : Hp} {o : HO} (a : Ext p c H H1) (h : H1 q = none) : Ext p c H (upd H1 q o) := a.same (same_upd h)
/-- an object that H does not know may change -/
theorem Ext.mut {p c q : Addr} {H H1 : Hp} {o : HO} (h0 : PotAt p c H) (a : Ext p c H H1) (h : H q = none) : Ext p c H (upd H1 q o) := by
  have n1 := h0.nep h
  have n2 := h0.nec h
  obtain ⟨n, ⟨i, x, b, e⟩, ns, e2, l⟩ := a.pot
  exact ⟨fun r u er nr => by
    rw [upd_ne (ne_of_none er h)]
    exact a.keep r u er nr, n, ⟨i, x, b, by rw [upd_ne n1.symm]; exact e⟩, ns, by rw [upd_ne n2.symm]; exact e2, l⟩
theorem Ext.get {p c q : Addr} {H H1 : Hp} {o : HO} (a : Ext p c H H1) (h : H q = some o) (n : q ≠ p) : H1 q = some o := a.keep q o h n
theorem Ext.free {p c q : Addr} {H H1 : Hp} (a : Ext p c H H1) (h : H1 q = none) : H q = none := by
  cases e : H q with
  | none => rfl
  | some o =>
    by_cases n : q = p
    · obtain ⟨_, ⟨i, x, b, e1⟩, _⟩ := a.pot
      rw [n, e1] at h
      cases h
    · rw [a.keep q o e n] at h
      cases h
theorem Ext.seq {K : PySem.W.Frag} {p c l : Addr} {H H1 : Hp} {xs : List V} (a : Ext p c H H1) (n : l ≠ p) (h : SqL K H l xs) : SqL K H1 l xs := by
  rcases h with (h | ⟨o, h⟩) | h
  · exact .inl (.inl (a.keep _ _ h n))
  · exact .inl (.inr ⟨o, a.keep _ _ h n⟩)
  · exact .inr h
theorem Ext.seqT {K : PySem.W.Frag} {p c l : Addr} {H H1 : Hp} {xs : List V} (a : Ext p c H H1) (n : l ≠ p) (h : SqT K H l xs) : SqT K H1 l xs := by
  rcases h with (h | ⟨o, h⟩) | h
  · exact .inl (.inl (a.keep _ _ h n))
  · exact .inl (.inr ⟨o, a.keep _ _ h n⟩)
  · exact .inr h
/-- what of the built-ins' names the module leaves alone -/
structure Glb (mg : Str → Option Value) : Prop where
  int : mg "int" = none
  abs : mg "abs" = none
  range : mg "range" = none
  enumerate : mg "enumerate" = none
  len : mg "len" = none

/-! ### mathematics of the slices -/
theorem sIx_some {n d : Nat} {i : Int} (h : 0 ≤ i) : HT.sIx n d (some i) = min i.toNat n := by
  show (if i < 0 then (i + (n : Int)).toNat else min i.toNat n) = _
  rw [if_neg (by omega)]
theorem cut_to {xs : List V} {i : Int} (h : 0 ≤ i) : cutV xs none (some i) = xs.take i.toNat := by
  unfold cutV
  rw [HT.sIx_none, sIx_some h, List.drop_zero, Nat.sub_zero, Nat.min_comm]
  exact List.take_eq_take_iff.mpr (by omega)
theorem cut_from_to {xs : List V} {i j : Int} (h : 0 ≤ i) (h2 : i ≤ j) : cutV xs (some i) (some j) = (xs.drop i.toNat).take (j.toNat - i.toNat) := by
  unfold cutV
  rw [sIx_some h, sIx_some (by omega)]
  by_cases hi : i.toNat ≤ xs.length
  · rw [Nat.min_eq_left hi]
    refine List.take_eq_take_iff.mpr ?_
    rw [List.length_drop]
    omega
  · have e1 : xs.drop (min i.toNat xs.length) = [] := List.drop_eq_nil_of_le (by omega)
    have e2 : xs.drop i.toNat = [] := List.drop_eq_nil_of_le (by omega)
    rw [e1, e2, List.take_nil, List.take_nil]
/-! ### texts by their signs -/
theorem joinL_nil : ∀ l : List (List Nat), TL.joinL [] l = l.flatten
  | [] => rfl
  | [p] => by simp [TL.joinL]
  | p :: q :: r => by
    show p ++ ([] ++ TL.joinL [] (q :: r)) = _
    rw [joinL_nil (q :: r)]
    simp
theorem tl_join0 {x : Str} (hx : TL.tl x = []) (ys : List Str) : TL.tl (Txt.join x ys) = (ys.map TL.tl).flatten := by
  rw [TL.join_eq, TL.tl_join, hx, joinL_nil]
theorem sum_len_le {k : Nat} : ∀ {ys : List Str}, (∀ y ∈ ys, y.length ≤ k) → (ys.map (·.length)).sum ≤ ys.length * k
  | [], _ => Nat.zero_le _
  | y :: r, h => by
    rw [List.map_cons, List.sum_cons, List.length_cons, Nat.succ_mul]
    have h1 := h y List.mem_cons_self
    have h2 := sum_len_le (ys := r) fun z hz => h z (List.mem_cons_of_mem _ hz)
    omega
theorem flat_all {P : Nat → Prop} {ys : List Str} (h : ∀ y ∈ ys, ∀ c ∈ TL.tl y, P c) : ∀ c ∈ (ys.map TL.tl).flatten, P c := by
  intro c hc
  obtain ⟨l, hl, hc⟩ := List.mem_flatten.mp hc
  obtain ⟨y, hy, rfl⟩ := List.mem_map.mp hl
  exact h y hy c hc
theorem flat_len {k : Nat} {ys : List Str} (h : ∀ y ∈ ys, (TL.tl y).length ≤ k) : ((ys.map TL.tl).flatten).length ≤ ys.length * k := by
  induction ys with
  | nil => exact Nat.zero_le _
  | cons y r ih =>
    rw [List.map_cons, List.flatten_cons, List.length_append, List.length_cons, Nat.succ_mul]
    have h1 := h y List.mem_cons_self
    have h2 := ih fun z hz => h z (List.mem_cons_of_mem _ hz)
    omega
def Up (c : Nat) : Prop := 65 ≤ c ∧ c ≤ 90
def Lo (c : Nat) : Prop := 97 ≤ c ∧ c ≤ 122
instance (c : Nat) : Decidable (Up c) := by unfold Up; exact inferInstance
instance (c : Nat) : Decidable (Lo c) := by unfold Lo; exact inferInstance
/-- a drawn name: its head, its tail -/
structure Nm (z : Str) (h t : List Nat) : Prop where
  e : TL.tl z = h ++ t
  up : ∀ c ∈ h, Up c
  lo : ∀ c ∈ t, Lo c
  ne : h ++ t ≠ []
  lh : h.length ≤ 3
  lt : t.length ≤ 3

/-- the reading of a store, in one step -/
theorem set_read {te : TE} {g : TG} {t : TS} {D : Ends} {σ : L2.St} {H : Hp} (h : te σ H fun x H1 => g x σ H1 (t D)) : tSeq (tAsg te g) t D σ H := h

/-! ### places, loops over pairs -/
theorem ixN_lt {n : Nat} {k : Int} (h0 : 0 ≤ k) (h1 : k < n) : ixN n k = some k.toNat := by
  unfold ixN
  rw [if_pos h0, if_pos h1]
theorem atI_lt {α : Type} {xs : List α} {k : Int} (h0 : 0 ≤ k) (h1 : k < xs.length) : ∃ v, atI xs k = some v ∧ xs[k.toNat]? = some v := by
  have hk : k.toNat < xs.length := by omega
  refine ⟨xs[k.toNat], ?_, List.getElem?_eq_getElem hk⟩
  unfold atI
  rw [ixN_lt h0 h1]
  exact List.getElem?_eq_getElem hk
theorem atI_ints {ns : List Int} {k : Int} (h0 : 0 ≤ k) (h1 : k < ns.length) : ∃ z : Int, atI (ns.map V.int) k = some (.int z) := by
  obtain ⟨v, e, g⟩ := atI_lt (xs := ns.map V.int) h0 (by rw [List.length_map]; exact h1)
  rw [List.getElem?_map] at g
  cases q : ns[k.toNat]? with
  | none =>
    rw [q] at g
    cases g
  | some z =>
    rw [q] at g
    cases g
    exact ⟨z, e⟩
theorem map_item {ns : List Int} {i : Nat} {x : V} (h : (ns.map V.int)[i]? = some x) : ∃ z, x = .int z ∧ ns[i]? = some z := by
  rw [List.getElem?_map] at h
  cases q : ns[i]? with
  | none =>
    rw [q] at h
    cases h
  | some z =>
    rw [q] at h
    cases h
    exact ⟨z, rfl, rfl⟩
/-- for i, x in enumerate(xs), xs a list that the body leaves as it is -/
theorem for_enum {K : PySem.W.Frag} {a : Addr} {xs : List V} {g : TG} {tb : TS} {D : Ends} {σ : L2.St} {H : Hp} (Pv : Nat → L2.St → Hp → Prop) (h0 : Pv 0 σ H) (hl : ∀ i σ H, Pv i σ H → SqL K H a xs)
    (hs : ∀ (i : Nat) (x : V) (σ : L2.St) (H : Hp) (T : Addr), xs[i]? = some x → H T = none → Pv i σ H → g (.ref T) σ (upd H T (.tup [.int (i : Int), x])) fun σ2 H2 => tb { D with nx := Pv (i + 1), ct := Pv (i + 1), bk := D.nx } σ2 H2)
    (hd : ∀ σ H, Pv xs.length σ H → D.nx σ H) :
    ∃ W : Nat → Nat → L2.St → Hp → Prop, (∃ m, W 0 m σ H) ∧ ∀ i m σ H, W i m σ H →
      ((Ite K a).stop i H ∧ D.nx σ H) ∨ ((Ite K a).go i H ∧ ∃ N : L2.St → Hp → Prop, (∀ σ' H', N σ' H' → ∃ m', m' < m ∧ W (i + 1) m' σ' H') ∧ ∀ x H', (Ite K a).yld i H x H' → g x σ H' fun σ2 H2 => tb { D with nx := N, ct := N, bk := D.nx } σ2 H2) := by
  refine ⟨fun i m σ H => i + m = xs.length ∧ Pv i σ H, ⟨xs.length, Nat.zero_add _, h0⟩, ?_⟩
  rintro i m σ H ⟨em, p⟩
  have q := hl i σ H p
  cases m with
  | zero =>
    have e : i = xs.length := em
    subst e
    exact .inl ⟨⟨xs, q, Nat.le_refl _⟩, hd σ H p⟩
  | succ m =>
    have hi : i < xs.length := by omega
    refine .inr ⟨⟨xs, xs[i], q, List.getElem?_eq_getElem hi⟩, Pv (i + 1), fun σ' H' p' => ⟨m, Nat.lt_succ_self m, by omega, p'⟩, fun v H' y => ?_⟩
    obtain ⟨T, x, rfl, nT, rfl, f⟩ := y
    exact hs i x σ H T (f xs q) nT p

/-! ### the promises of the law's own helpers -/
def spKneaded : Sp := fun vs H Q _ => ∃ s l : Int, vs = [.int s, .int l] ∧ ∀ r : Int, Q (.int r) H
def spPotOf (K : PySem.W.Frag) : Sp := fun vs H Q _ => ∃ (a : Addr) (ns : List Int), vs = [.ref a] ∧ SqL K H a (ns.map V.int) ∧ ns.length ≤ 63 ∧ ∀ (p c : Addr) (H' : Hp), Same H H' → H p = none → PotAt p c H' → Q (.ref p) H'
def spBelow : Sp := fun vs H Q _ => ∃ (p c : Addr) (n : Int), vs = [.ref p, .int n] ∧ PotAt p c H ∧ 0 < n ∧ n < 1073741824 ∧ ∀ (r : Int) (H' : Hp), 0 ≤ r → r < n → Ext p c H H' → Q (.int r) H'
def spPick (K : PySem.W.Frag) : Sp := fun vs H Q _ => ∃ (p c l : Addr) (xs : List V), vs = [.ref p, .ref l] ∧ PotAt p c H ∧ SqL K H l xs ∧ l ≠ p ∧ 0 < xs.length ∧ xs.length ≤ 1000 ∧ ∀ (v : V) (H' : Hp), v ∈ xs → Ext p c H H' → Q v H'
def spName : Sp := fun vs H Q _ => ∃ (p c : Addr), vs = [.ref p] ∧ PotAt p c H ∧ ∀ (z : Str) (h t : List Nat) (H' : Hp), Nm z h t → Ext p c H H' → Q (.str z) H'
theorem pot_put {p c : Addr} {H H1 : Hp} {i a b : Int} (_h0 : PotAt p c H) (e : Ext p c H H1) : Ext p c H (upd H1 p (.lst [.ref c, .int i, .int a, .int b])) := by
  obtain ⟨n, _, ns, e2, l⟩ := e.pot
  exact ⟨fun q o eq nq => by
    rw [upd_ne nq]
    exact e.keep q o eq nq, n, ⟨i, a, b, upd_same⟩, ns, by rw [upd_ne n.symm]; exact e2, l⟩
theorem eqv_ints_nil (ns : List Int) : PyData.eqv (.list (ns.map PyData.int)) (.list []) = decide (ns = []) := by
  cases ns with
  | nil => rfl
  | cons x r =>
    rw [decide_eq_false (by simp)]
    rfl
theorem dp_ints {K : PySem.W.Frag} {H : Hp} : ∀ ns : List Int, DpAll K H (ns.map V.int) (ns.map PyData.int)
  | [] => .nil
  | x :: r => .cons (.int x) (dp_ints r)
theorem shaped_ints (ns : List Int) : SeqAt.shaped (.list (ns.map PyData.int)) = true := by
  have h1 : ∀ l : List Int, PyData.canLayAll0 (l.map PyData.int) = true := fun l => by
    induction l with
    | nil => rfl
    | cons x r ih => simpa [PyData.canLayAll0, PyData.canLay0] using ih
  have h2 : ∀ l : List Int, PyData.depthAll (l.map PyData.int) = 0 := fun l => by
    induction l with
    | nil => rfl
    | cons x r ih => simpa [PyData.depthAll, PyData.depth] using ih
  unfold SeqAt.shaped
  simp [PyData.canLay0, PyData.depth, h1, h2]

/-- ''.join([pick(pot, letters) for lap in range(below(pot, n))]) -/
theorem word_read {K : PySem.W.Frag} {p c : Addr} {σ : L2.St} {H : Hp} {n : Int} {iv : Nat} {letters : List Str} {tl : TA} {Q : VK} (hL : ∀ (σ : L2.St) (H : Hp) (Q : List V → Hp → Prop), Q (letters.map V.str) H → tl σ H Q) (hne : 0 < letters.length) (hle : letters.length ≤ 1000)
    (h1 : ∀ y ∈ letters, (TL.tl y).length ≤ 1) (hσ : σ[0]? = some (some (.ref p))) (hσ2 : ∀ v : Option V, ((wipe σ [iv]).set iv v)[0]? = some (some (.ref p))) (hw : ∀ v : Option V, wipe ((wipe σ [iv]).set iv v) [iv] = wipe σ [iv])
    (hP : PotAt p c H) (hn : 0 < n) (hn2 : n ≤ 1000) (k : ∀ (ys : List Str) (H' : Hp), (∀ y ∈ ys, y ∈ letters) → (ys.length : Int) < n → Ext p c H H' → Q (.str (Txt.join "" ys)) H') :
    tM1 (fun x xs H Q => ∃ a p, ∃ ys : List Str, x = .str a ∧ xs = [.ref p] ∧ (SqL K H p (ys.map V.str) ∨ SqT K H p (ys.map V.str)) ∧ (ys.map (·.length)).sum + ys.length * a.length ≤ 16777216 ∧ Q (.str (Txt.join a ys)) H)
      (tC (.str "")) (tLc (iRng1 (tCons (tCall spBelow [] E0 (tCons (tVar 0) (tCons (tC (.int n)) tNil))) tNil)) (gName iv) tYes (tCall (spPick K) [] E0 (tCons (tVar 0) (tCons (tLst tl) tNil))) [iv]) σ H Q := by
  refine ⟨⟨_, rfl⟩, _, hσ, p, c, n, rfl, hP, hn, by omega, fun r H1 r0 r1 e1 => ⟨r, rfl, by omega, by omega, fun D nD => ?_⟩⟩
  have nD0 := e1.free nD
  have nDp : D ≠ p := hP.nep nD0
  refine lc_range (lo := 0) (n := r.toNat) (fun i H' => Ext p c H H' ∧ ∃ ys : List Str, H' D = some (.lst (ys.map V.str)) ∧ ys.length = i ∧ ∀ y ∈ ys, y ∈ letters) ⟨e1.mut hP nD0, [], upd_same, rfl, fun y h => nomatch h⟩ ?_ ?_
  · rintro i H2 hi ⟨e2, ys, hD, hl, hy⟩
    refine ⟨hw _, _, hσ2 _, hL _ _ _ ⟨by rw [List.length_map]; exact Nat.le_of_lt (small1000 hle), fun l nl => ?_⟩⟩
    refine ⟨p, c, l, letters.map V.str, rfl, e2.pot.same (same_upd nl), SqL.of upd_same, e2.pot.nep nl, by rw [List.length_map]; exact hne, by rw [List.length_map]; exact hle, fun v H3 hv e3 => ?_⟩
    obtain ⟨y, my, rfl⟩ := List.mem_map.mp hv
    have e4 := e2.trans (Ext.pre (same_upd nl) e3)
    have hD3 : H3 D = some (.lst (ys.map V.str)) := e3.get (by rw [upd_ne (ne_of_none hD nl)]; exact hD) nDp
    refine ⟨_, hD3, by rw [List.length_map, hl]; exact small1000 (by omega), e4.mut hP nD0, ys ++ [y], by rw [upd_same, List.map_append]; rfl, by rw [List.length_append, hl]; rfl, fun z hz => ?_⟩
    rcases List.mem_append.mp hz with hz | hz
    · exact hy z hz
    · rw [List.mem_singleton.mp hz]
      exact my
  · rintro H2 ⟨e2, ys, hD, hl, hy⟩
    have hs : (ys.map (·.length)).sum ≤ ys.length * 1 := sum_len_le fun y h => by
      rw [TL.len_tl]
      exact h1 y (hy y h)
    exact ⟨"", D, ys, rfl, rfl, .inl (SqL.of hD), by
      show (ys.map (·.length)).sum + ys.length * 0 ≤ 16777216
      omega, k ys H2 hy (by omega) e2⟩
end Lk

/-! Repr0 -/
set_option Elab.async false
set_option maxRecDepth 100000
set_option maxHeartbeats 4000000
namespace Lk
open PySem PySem.Spec PyProof.Rows L2

/-! ### data of any form, dicts too -/
def keyD : Key → PyData
  | .inl i => .int i
  | .inr x => .str x
mutual
inductive Th (K : PySem.W.Frag) (H : Hp) : V → PyData → Prop
  | non : Th K H .non .none
  | bl (b : Bool) : Th K H (.bl b) (.bool b)
  | int (i : Int) : Th K H (.int i) (.int i)
  | str (x : Str) : Th K H (.str x) (.str x)
  | lst {a : Addr} {xs : List V} {ds : List PyData} : SqL K H a xs → ThAll K H xs ds → Th K H (.ref a) (.list ds)
  | tup {a : Addr} {xs : List V} {ds : List PyData} : SqT K H a xs → ThAll K H xs ds → Th K H (.ref a) (.tuple ds)
  | dct {a : Addr} {kvs : List (Key × V)} {ds : List (PyData × PyData)} : H a = some (.dK kvs) → ThAll K H (kvs.map (·.2)) (ds.map (·.2)) → ds.map (·.1) = kvs.map (fun p => keyD p.1) → Th K H (.ref a) (.dict ds)
inductive ThAll (K : PySem.W.Frag) (H : Hp) : List V → List PyData → Prop
  | nil : ThAll K H [] []
  | cons {v : V} {vs : List V} {d : PyData} {ds : List PyData} : Th K H v d → ThAll K H vs ds → ThAll K H (v :: vs) (d :: ds)
end
mutual
def noLst : PyData → Bool
  | .none | .bool _ | .int _ | .str _ => true
  | .list _ => false
  | .tuple xs => noLstAll xs
  | .dict kvs => noLstKv kvs
def noLstAll : List PyData → Bool
  | [] => true
  | x :: xs => noLst x && noLstAll xs
def noLstKv : List (PyData × PyData) → Bool
  | [] => true
  | (_, v) :: r => noLst v && noLstKv r
end
theorem noLstKv_map : ∀ ds : List (PyData × PyData), noLstAll (ds.map (·.2)) = noLstKv ds
  | [] => rfl
  | (k, v) :: r => by
    show (noLst v && noLstAll (r.map (·.2))) = (noLst v && noLstKv r)
    rw [noLstKv_map r]
/-- what may be shown -/
structure Wf (d : PyData) : Prop where
  sh : d.showable = true
  lv : d.leavesShort 13 = true
  bk : d.bulk ≤ 1000000
  dp : d.depth ≤ 60
  sy : d.hasDict = false ∨ noLst d = true
section
variable {X : Cx} {pins : List (Addr × Obj)} {σ : L2.St} {H : Hp} {s : Shared}
theorem keys_read {prog : Program} {w : World} {h : Heap} : ∀ {es : List DictEntry} {kvs : List (Key × V)} {vs : List (Key × Value)}, KV kvs vs → Pairs (mixKind prog w) es vs →
    ReadsAll h (es.map (·.key)) (kvs.map fun p => keyD p.1) [] ∧ Vals (kvs.map (·.2)) (es.map (·.val))
  | _, _, _, .nil, .nil => ⟨.nil, .nil⟩
  | _, _, _, .cons (a := a) q t, .cons (e := e) h1 h2 p => by
    obtain ⟨ih1, ih2⟩ := keys_read (h := h) t p
    obtain ⟨q1, q2⟩ := q
    rw [← q1] at h1
    refine ⟨?_, .cons (by show L2.RelV a.2 e.val; rw [h2]; exact q2) ih2⟩
    obtain ⟨k, v⟩ := a
    have h1' : keyIs k e.key = true := h1
    rcases keyIs_shape h1' with ⟨i, t, rfl, e1⟩ | ⟨x, t, rfl, e1⟩
    · have r : Reads h e.key (.int i) [] := by rw [e1]; exact Reads.int i t
      exact ReadsAll.cons r ih1
    · have r : Reads h e.key (.str x) [] := by rw [e1]; exact Reads.str x t
      exact ReadsAll.cons r ih1
theorem th_reads (I : Inv X pins σ H s) {v : V} {d : PyData} (h : Th X.K H v d) : ∀ u, RelV v u → ∃ as, Reads s.heap u d as ∧ (noLst d = true → sysModules ∉ as) := by
  refine Th.rec (motive_1 := fun v d _ => ∀ u, RelV v u → ∃ as, Reads s.heap u d as ∧ (noLst d = true → sysModules ∉ as)) (motive_2 := fun vs ds _ => ∀ us, Vals vs us → ∃ as, ReadsAll s.heap us ds as ∧ (noLstAll ds = true → sysModules ∉ as))
    ?_ ?_ ?_ ?_ ?_ ?_ ?_ ?_ ?_ h
  · intro u r
    cases r
    exact ⟨_, Reads.none, fun _ h => nomatch h⟩
  · intro b u r
    cases r
    exact ⟨_, Reads.bool b, fun _ h => nomatch h⟩
  · intro i u r
    obtain ⟨t, rfl⟩ := r
    exact ⟨_, Reads.int i t, fun _ h => nomatch h⟩
  · intro x u r
    obtain ⟨t, rfl⟩ := r
    exact ⟨_, Reads.str x t, fun _ h => nomatch h⟩
  · intro a xs ds hs _ ih u r
    cases r
    obtain ⟨its, rv, ⟨o, n, ho, hc, _, hd⟩, _⟩ := I.list hs
    obtain ⟨as, hr, _⟩ := ih its rv
    exact ⟨_, Reads.list ho hc hd hr, fun z => by simp [noLst] at z⟩
  · intro a xs ds hs _ ih u r
    cases r
    obtain ⟨its, rv, ⟨o, ho, hc, n, hd⟩, _⟩ := I.tuple hs
    obtain ⟨as, hr, hn⟩ := ih its rv
    exact ⟨_, Reads.tuple ho hc hd hr, fun z => hn (by simpa [noLst] using z)⟩
  · intro a kvs ds hs _ ek ih u r
    cases r
    obtain ⟨_, hsys, vs, kv, o, es, ep, ho, ex, hd, _, hp, _⟩ := (show ObjOk X.prog X.w H s.heap a (.dK kvs) from I.hok a _ hs)
    obtain ⟨rk, rv⟩ := keys_read (h := s.heap) kv hp
    obtain ⟨bs, hr, hn⟩ := ih _ rv
    refine ⟨_, Reads.dict ho ex.1 hd (by rw [ek]; exact rk) hr, fun z hm => ?_⟩
    rcases List.mem_append.mp hm with hm | hm
    · rw [List.mem_singleton.mp hm] at hsys
      exact absurd hsys (by simp)
    · refine hn ?_ hm
      rw [noLstKv_map]
      simpa [noLst] using z
  · intro us r
    cases r
    exact ⟨_, ReadsAll.nil, fun _ h => nomatch h⟩
  · intro v vs d ds _ _ ih1 ih2 us r
    cases r with
    | cons r1 r2 =>
      obtain ⟨as, q1, n1⟩ := ih1 _ r1
      obtain ⟨bs, q2, n2⟩ := ih2 _ r2
      refine ⟨_, ReadsAll.cons q1 q2, fun z hm => ?_⟩
      have z2 : noLst d = true ∧ noLstAll ds = true := by simpa [noLstAll] using z
      rcases List.mem_append.mp hm with hm | hm
      · exact n1 z2.1 hm
      · exact n2 z2.2 hm
theorem Wf.fits {d : PyData} (h : Wf d) : d.shown.length ≤ sizeLine := PyData.shown_fits_bulk (B := 13) (by decide) (by decide) h.lv (Nat.le_trans h.bk (by decide))
/-- repr(x), x data of any form -/
def rRepr (K : PySem.W.Frag) : List V → Hp → VK → Prop := fun xs H Q => ∃ v d, xs = [v] ∧ Th K H v d ∧ Wf d ∧ Q (.str d.shown) H
theorem call_repr (hg : X.A.guards = some []) (hu : X.A.units + 64 < cLine) : CallR X (.builtin "repr") (rRepr X.K) := by
  intro pins s σ H xs us Q I r h
  obtain ⟨v, d, rfl, ht, hw, q⟩ := h
  cases r with
  | cons r1 rr =>
    cases rr
    obtain ⟨as, hr, hn⟩ := th_reads I ht _ r1
    have hz := hw.fits
    have hsm : d.hasDict = true → sysModules ∉ as := fun z => by
      rcases hw.sy with e | e
      · rw [e] at z
        cases z
      · exact hn e
    have fin : ∀ (h' : Heap) (u tk : Nat), (∀ b o, s.heap.get? b = some o → h'.get? b = some o) → EP X pins σ Q (.str d.shown u) { s with heap := h', toks := tk } := fun h' u tk k => ⟨.str d.shown, H, I.kept (t' := tk) k, ⟨u, rfl⟩, q⟩
    have hd := hw.dp
    cases hr with
    | none => exact PySem.P.repr_of_none (fin s.heap _ _ fun _ _ e => e)
    | bool b => exact PySem.P.repr_of_bool (fin s.heap _ _ fun _ _ e => e)
    | int i t => exact PySem.P.repr_of_int (by simpa [PyData.showable] using hw.sh) (fin s.heap _ _ fun _ _ e => e)
    | str x t => exact PySem.P.repr_of_str (fin s.heap _ _ fun _ _ e => e) hz
    | list h1 h2 h3 h4 => exact repr_of_reads' (.list h1 h2 h3 h4) hw.sh hsm hg (by omega) (fun _ _ e => e) (fun h' u tk k => fin h' u tk k) hz
    | tuple h1 h2 h3 h4 => exact repr_of_reads' (.tuple h1 h2 h3 h4) hw.sh hsm hg (by omega) (fun _ _ e => e) (fun h' u tk k => fin h' u tk k) hz
    | dict h1 h2 h3 h4 h5 => exact repr_of_reads' (.dict h1 h2 h3 h4 h5) hw.sh hsm hg (by omega) (fun _ _ e => e) (fun h' u tk k => fin h' u tk k) hz
end
end Lk

/-! Grd0 -/
set_option Elab.async false
set_option maxRecDepth 100000
set_option maxHeartbeats 4000000
namespace Lk
open PySem PySem.Spec PyProof.Rows L2

/-! ### defs that are called where no guard is on the stack: they may show data -/
structure FnG (P : Program) (w : World) (K : PySem.W.Frag) (mg : Str → Option Value) (base : Heap) (CX : CXT) (k : Nat) (f : Addr) (fd : FuncData) (ps : List Str) (sp : Sp) : Prop where
  len : ∀ vs H Q E, sp vs H Q E → vs.length = ps.length
  go : ∀ (A : Around) (above : List Env) (s : Shared) (H : Hp) (args : Args) (us : List Value) (vs : List V) (Q : VK) (E : XK), Room k A → A.guards = some [] →
    Env0 P w K mg base A above s H → BindsTo s fd args (ps.zip us) → Vals vs us → sp vs H Q E → codeAny (model P w) A (.call (.ref f) args) (CR CX above P w H s Q E) s
section
variable {P : Program} {w : World} {K : PySem.W.Frag} {mg : Str → Option Value} {base : Heap} {CX : CXT}
theorem fnG_of {k : Nat} {f : Addr} {nm qn : Str} {pr : Arguments} {bd : List Stmt} {sc : Scope} {d1 d2 d3 d4 cv ct oc : Value} {an od : Option Addr} {sl : Array (Option Value)} {N ps : List Str} {sp : Sp}
    (at_ : K.lookup f = some ⟨oc, od, .func (PySem.W.fnOf nm qn pr bd sc d1 d2 d3 d4 an cv ct), sl⟩) (hc : PySem.W.codeIn K cv qn = true) (S : FnScope N ps sc) (len : ∀ vs H Q E, sp vs H Q E → vs.length = ps.length)
    (hb : ∀ (A : Around) (above : List Env) (s : Shared) (H : Hp) (vs : List V) (Q : VK) (E : XK), Room k (A.deeper (envOfC qn sc s.heap.objs.size f cv)) → (A.deeper (envOfC qn sc s.heap.objs.size f cv)).guards = some [] → sp vs H Q E →
      ∃ t, PSs (cxOf CX P w K mg base N qn sc f cv A above s H E) bd t ∧ t { nx := fun _ H' => Q .non H', rt := Q } (start N vs) H) :
    FnG P w K mg base CX (k + 1) f (PySem.W.fnOf nm qn pr bd sc d1 d2 d3 d4 an cv ct) ps sp := by
  constructor
  · exact len
  · intro A above s H args us vs Q E room gd env bind rel want
    have old : ∀ b o, base.get? b = some o → s.heap.get? b = some o := fun b o e => (env.bs b o e).1
    have kin := env.mod.kin.keeps old
    have mine : ∀ y ∈ ps.zip us, sc.names.lookup y.1 = some .local ∨ (sc.names.lookup y.1 = some .cell ∧ ((cellsFrom (s.heap.objs.size + 1) sc.names []).lookup y.1).isSome = true) := by
      rintro ⟨n, v⟩ hy
      have := S.par n (List.of_mem_zip hy).1
      exact this.imp id fun c => ⟨c, PySem.W.cellsFrom_some _ _ _ (.inl c)⟩
    apply codeAny_call_function room.depth (kin _ _ at_) rfl S.co S.gen rfl (PySem.W.codeRec_of kin hc)
    apply bind
    apply wpAny_newFunctionEnv_cells S.kind mine
    intro env1 he s1 inside
    subst he
    refine ⟨(env.mod.nolimit.keeps old).keeps inside.toInCall.keep, codeAny_func ?_⟩
    obtain ⟨t, walk, read⟩ := hb A above s H vs Q E (room.deeper _) gd want
    have I0 := inv_start (CX := CX) (P := P) (w := w) (E := E) S room.hd env (len _ _ _ _ want) rel inside
    apply wpAny_mono (walk.run [] s1 (start N vs) H _ I0 read)
    · intro fl s2 out
      match fl, out with
      | .ret u, ⟨v, σ', H', J, rv, q⟩ => exact ⟨v, H', J.os, J.bare, J.base, J.hok, rv, q⟩
      | .next, ⟨σ', H', J, q⟩ => exact ⟨V.non, H', J.os, J.bare, J.base, J.hok, rfl, q⟩
      | .brk, ⟨_, _, _, q⟩ => exact False.elim q
      | .cont, ⟨_, _, _, q⟩ => exact False.elim q
    · intro e s2 out
      exact out
structure CalG (P : Program) (w : World) (K : PySem.W.Frag) (mg : Str → Option Value) (base : Heap) (CX : CXT) (k : Nat) (x : String) (sp : Sp) : Prop where
  ex : ∃ (f : Addr) (fd : FuncData) (ps : List Str), FnG P w K mg base CX k f fd ps sp ∧ mg x = some (.ref f) ∧ PySem.W.keepIn K (.ref f) = true ∧ Binds K fd ps []
theorem mkCalG {x : String} {st : Stmt} {N ps : List Str} {k : Nat} {sp : Sp} (D : Def1 K mg x st) (S : FnScope N ps (defScope st))
    (hb : ∀ (kV doc pm : Value) (an : Option Addr) (cdv ct : Value) (us : List Value), us.length = ps.length → bindArgs (PySem.W.fnOf x x (defArgs st) (defBody st) (defScope st) .none kV doc pm an cdv ct) ⟨us, []⟩ = pure (ps.zip us))
    (len : ∀ vs H Q E, sp vs H Q E → vs.length = ps.length)
    (body : ∀ (f : Addr) (cdv : Value) (A : Around) (above : List Env) (s : Shared) (H : Hp) (vs : List V) (Q : VK) (E : XK), Room k (A.deeper (envOfC x (defScope st) s.heap.objs.size f cdv)) →
      (A.deeper (envOfC x (defScope st) s.heap.objs.size f cdv)).guards = some [] → sp vs H Q E →
      ∃ t, PSs (cxOf CX P w K mg base N x (defScope st) f cdv A above s H E) (defBody st) t ∧ t { nx := fun _ H' => Q .non H', rt := Q } (start N vs) H) : CalG P w K mg base CX (k + 1) x sp := by
  obtain ⟨f, fd, F, m⟩ := D.ex
  have b := F.binds hb
  have kp := F.kp
  obtain ⟨oc, od, kV, doc, pm, an, cdv, ct, sl, rfl, lk, hcd⟩ := F.ex
  exact ⟨f, _, ps, fnG_of lk hcd S len fun A above s H vs Q E hr hg h => body f cdv A above s H vs Q E hr hg h, m, kp, b⟩
/-- the whole law, from its promise -/
theorem lawG {mb : Str → Option Value} {k : Nat} {fa a : Addr} {fd : FuncData} {x : Str} {sp : Sp} {s : Shared} {vs : List Value} {ns : List Int}
    (KX : K.In s.heap) (gl : s.heap.Ns mainGlobals mg) (bl : s.heap.Ns builtinsNs mb) (bb : ∀ x : Str, x ≠ "__name__" → mb x = bootBuiltins x) (nl : s.heap.NoLimit) (gens : s.gens = #[])
    (ha : s.heap.get? a = some { cls := .type "list", data := .seq vs.toArray }) (hin : IntsAre vs ns) (short : ns.length ≤ sizeLine) (room : Room k callerA)
    (F : ∀ base : Heap, K.In base → base.Ns mainGlobals mg → FnG P w K mg base CX k fa fd [x] sp) (bind : ∀ (s : Shared) (u : Value), BindsTo s fd ⟨[u], []⟩ [(x, u)])
    (prom : ∀ H : Hp, Only H → SqL K H a (ns.map V.int) → sp [.ref a] H (fun v _ => v = .bl true) fun _ _ _ => False)
    (noX : ∀ H e s', CX [] H s (fun _ _ _ => False) e s' → False) :
    codeAny (model P w) callerA (.call (.ref fa) ⟨[.ref a], []⟩) (fun r s' => r = .ok (.ret (.bool true)) ∧ OldK s.heap s'.heap ∧ s'.os = s.os ∧ AllBare s'.gens) s := by
  have vals := vals_ints hin
  have run : ∀ H : Hp, Only H → SqL K H a (ns.map V.int) → HOk P w H s.heap → (∀ b, H b ≠ none → b = a ∧ K.lookup a = none) →
      codeAny (model P w) callerA (.call (.ref fa) ⟨[.ref a], []⟩) (fun r s' => r = .ok (.ret (.bool true)) ∧ OldK s.heap s'.heap ∧ s'.os = s.os ∧ AllBare s'.gens) s := by
    intro H only seq ok here
    have dicts : ∀ {b : Addr} {m : Str → Option Value}, s.heap.Ns b m → (hidT s.heap H).Ns b m := by
      rintro b m ⟨o, es, ep, e, d, r⟩
      refine ⟨o, es, ep, hidT_get e ?_, d, r⟩
      apply Classical.byContradiction
      intro z
      obtain ⟨rfl, _⟩ := here b z
      rw [ha] at e
      cases e
      cases d
    have kb : K.In (hidT s.heap H) := by
      intro b o e
      refine hidT_get (KX b o e) ?_
      apply Classical.byContradiction
      intro z
      obtain ⟨rfl, q⟩ := here b z
      rw [q] at e
      cases e
    have md : Mod K mg (hidT s.heap H) := ⟨kb, dicts gl, ⟨mb, dicts bl, bb⟩, by
      obtain ⟨mc, h1, h2⟩ := nl
      exact ⟨mc, dicts h1, h2⟩⟩
    have nof : ∀ b ∈ frs ([] : List Env), H b = none := by
      intro b i
      have i2 : b ∈ ([] : List Addr) := i
      cases i2
    have env : Env0 P w K mg (hidT s.heap H) callerA [] s H := ⟨rfl, md, fun b o e => of_hidT e, Nat.le_of_eq (hidT_size _ _), trivial, nof, ok, .of_eq gens⟩
    apply codeAny_mono ((F _ kb (dicts gl)).go callerA [] s H ⟨[.ref a], []⟩ [.ref a] [.ref a] _ _ room rfl env (bind s (.ref a)) (.cons rfl .nil) (prom H only seq))
    intro r s' out
    match r, out with
    | .error e, out => exact (noX H e s' out).elim
    | .ok .next, out => exact False.elim out
    | .ok .brk, out => exact False.elim out
    | .ok .cont, out => exact False.elim out
    | .ok (.ret u), ⟨v, H', os, bare, un, ok', rel, q⟩ =>
      have e1 : v = .bl true := q
      rw [e1] at rel
      have e2 : u = Value.bool true := rel
      rw [e2]
      refine ⟨rfl, OldK.of_keep ?_, os, bare⟩
      intro b o e
      rcases only b with z | ⟨ob, xs, z⟩
      · exact un.keep b o e z (by
          intro i
          have i2 : b ∈ ([] : List Addr) := i
          cases i2) (by
          intro i
          cases i)
      · have after := (ok' b _ (un.frzs b ob _ z)).1
        rw [(ok b _ z).1] at e
        cases e
        exact after
  match q : K.lookup a with
  | some o =>
    have same := KX a o q
    rw [ha] at same
    cases same
    exact run (fun _ => none) (fun _ => .inl rfl) (.inr ⟨_, vs.toArray, _, q, rfl, rfl, rfl, by rw [List.size_toArray, hin.length]; exact short, by simpa using vals⟩) (fun b u z => nomatch z) fun b z => absurd rfl z
  | none =>
    have mine : ∀ {b : Addr} {u : HO}, (fun b => if b = a then some (HO.frz { cls := .type "list", data := .seq vs.toArray } (.lst (ns.map V.int))) else none) b = some u → b = a ∧ u = HO.frz { cls := .type "list", data := .seq vs.toArray } (.lst (ns.map V.int)) := by
      intro b u z
      by_cases h : b = a
      · exact ⟨h, (Option.some.inj ((if_pos h).symm.trans z)).symm⟩
      · exact absurd ((if_neg h).symm.trans z) (by simp)
    refine run (fun b => if b = a then some (.frz { cls := .type "list", data := .seq vs.toArray } (.lst (ns.map V.int))) else none) (fun b => ?_) (.inl (.inr ⟨{ cls := .type "list", data := .seq vs.toArray }, if_pos rfl⟩)) (fun b u z => ?_) fun b z => ⟨?_, q⟩
    · by_cases h : b = a
      · exact .inr ⟨_, _, if_pos h⟩
      · exact .inl (if_neg h)
    · obtain ⟨rfl, rfl⟩ := mine z
      exact ⟨ha, by rw [List.length_map]; exact short, vs, _, vals, ha⟩
    · apply Classical.byContradiction
      intro h
      exact z (if_neg h)
end
/-- the goal that the law's head leaves, from the law's promise -/
theorem walkG {l : PySem.W.OpenLaw} {k : Nat} {q : Program} {loose : List Str} {XP : (Str → Option Value) → Heap → Prop} {YP : World → Heap → Prop} {d : DefRec} {K : Params → PySem.W.Frag} {CX : World → CXT} {sp : World → Sp} {x : Str}
    (most : l.most = some 63) (noD : d.params.defaults = []) (room : Room k callerA) (hY : ∀ (w : World) (h : Heap), YP w h → (K w.params).In h)
    (F : ∀ (w : World) (mg : Str → Option Value) (fa : Addr) (h : Heap), (K w.params).In h → h.Ns mainGlobals mg → mg d.name = some (.ref fa) →
      ∃ fd : FuncData, (∀ (s : Shared) (u : Value), BindsTo s fd ⟨[u], []⟩ [(x, u)]) ∧ ∀ base : Heap, (K w.params).In base → base.Ns mainGlobals mg → FnG l.prog w (K w.params) mg base (CX w) k fa fd [x] (sp w))
    (prom : ∀ (w : World) (H : Hp) (a : Addr) (ns : List Int), ns.length ≤ 63 → Only H → SqL (K w.params) H a (ns.map V.int) → sp w [.ref a] H (fun v _ => v = .bl true) fun _ _ _ => False)
    (noX : ∀ (w : World) (H : Hp) (s : Shared) (e : Value) (s' : Shared), CX w [] H s (fun _ _ _ => False) e s' → False) :
    PySem.W.WalkO q loose XP YP l.row.toRowW d [] (fun f vs => PySem.call f vs) := by
  apply Att.attach_call most noD
  intro w s0 s1 mg mb fa o pm cd doc a vs ns G Y ho hd hcd hmg hobj hints hlen hg
  obtain ⟨fd, hb, hF⟩ := F w mg fa _ (hY w _ Y) G.T.g hmg
  exact lawG (hY w _ Y) G.T.g G.T.b G.T.builtins G.T.nolimit hg hobj hints (Nat.le_trans hlen (by decide)) room hF hb (fun H only seq => prom w H a ns hlen only seq) fun H e s' => noX w H s1 e s'
end Lk

/-! Nam0 -/
set_option Elab.async false
set_option maxRecDepth 100000
set_option maxHeartbeats 4000000
namespace Lk
open PySem PySem.Spec PyProof.Rows L2

def upB (c : Nat) : Bool := decide (65 ≤ c) && decide (c ≤ 90)
def loB (c : Nat) : Bool := decide (97 ≤ c) && decide (c ≤ 122)
def capS : Str := "ABCDEFGHIJKLMNOPQRSTUVWXYZ"
def smaS : Str := "abcdefghijklmnopqrstuvwxyz"
theorem range_has {n k c : Nat} : (List.range' n k).contains c = (decide (n ≤ c) && decide (c < n + k)) := by
  rw [Bool.eq_iff_iff]
  simp [List.mem_range'_1]
theorem cap_has (c : Nat) : capS.cps.contains c = upB c := by
  have e : capS.cps.toList = List.range' 65 26 := by decide +kernel
  rw [← Array.contains_toList, e, range_has, Bool.eq_iff_iff]
  simp [upB]
  omega
theorem sma_has (c : Nat) : smaS.cps.contains c = loB c := by
  have e : smaS.cps.toList = List.range' 97 26 := by decide +kernel
  rw [← Array.contains_toList, e, range_has, Bool.eq_iff_iff]
  simp [loB]
  omega
/-! ### strip -/
theorem drop_tw (p : Nat → Bool) : ∀ l : List Nat, l.drop (l.takeWhile p).length = l.dropWhile p
  | [] => rfl
  | c :: r => by
    rw [List.takeWhile_cons, List.dropWhile_cons]
    by_cases h : p c = true
    · rw [if_pos h, if_pos h]
      exact drop_tw p r
    · rw [if_neg h, if_neg h]
      rfl
theorem tw_len (p : Nat → Bool) : ∀ l : List Nat, (l.takeWhile p).length ≤ l.length
  | [] => Nat.le_refl _
  | c :: r => by
    rw [List.takeWhile_cons]
    split
    · exact Nat.succ_le_succ (tw_len p r)
    · exact Nat.zero_le _
theorem tl_lstrip (p : Nat → Bool) (x : Str) : TL.tl (Txt.stripBy p true false x) = (TL.tl x).dropWhile p := by
  have hlo : stripLo p true x = ((TL.tl x).takeWhile p).length := if_pos rfl
  have hhi : stripHi p false x (stripLo p true x) = x.length := if_neg Bool.false_ne_true
  unfold Txt.stripBy
  by_cases h : stripSame p true false x = true
  · rw [if_pos h]
    have h0 : stripLo p true x = 0 := by
      unfold stripSame at h
      rw [Bool.and_eq_true] at h
      exact beq_iff_eq.mp h.1
    rw [← drop_tw, ← hlo, h0]
    rfl
  · rw [if_neg h]
    unfold stripped
    rw [hhi, TL.tl_strSub_end, hlo, drop_tw]
theorem dw_all {p : Nat → Bool} : ∀ l : List Nat, (l.dropWhile p = [] ↔ l.all p = true)
  | [] => by simp
  | c :: r => by
    rw [List.dropWhile_cons, List.all_cons]
    by_cases h : p c = true
    · rw [if_pos h, h, Bool.true_and]
      exact dw_all r
    · rw [if_neg h]
      simp [h]
theorem tl_strip (p : Nat → Bool) (x : Str) : TL.tl (Txt.stripBy p true true x) = [] ↔ (TL.tl x).all p = true := by
  have hl : x.length = (TL.tl x).length := TL.len_tl x
  have hlo : stripLo p true x = ((TL.tl x).takeWhile p).length := if_pos rfl
  have hhi : ∀ k, stripHi p true x k = x.length - (((TL.tl x).drop k).reverse.takeWhile p).length := fun k => if_pos rfl
  have key : TL.tl (Txt.stripBy p true true x) = ((TL.tl x).drop (stripLo p true x)).take (stripHi p true x (stripLo p true x) - stripLo p true x) := by
    unfold Txt.stripBy
    by_cases h : stripSame p true true x = true
    · rw [if_pos h]
      unfold stripSame at h
      rw [Bool.and_eq_true] at h
      have h0 := beq_iff_eq.mp h.1
      have h1 := beq_iff_eq.mp h.2
      rw [h1, h0, List.drop_zero, Nat.sub_zero, hl, List.take_length]
    · rw [if_neg h]
      unfold stripped
      rw [TL.tl_strSub]
  rw [key, hlo, drop_tw, hhi, drop_tw]
  cases e : (TL.tl x).dropWhile p with
  | nil =>
    rw [List.take_nil]
    exact ⟨fun _ => (dw_all _).mp e, fun _ => rfl⟩
  | cons c r =>
    have hc : p c = false := by
      have := List.head?_dropWhile_not p (TL.tl x)
      rw [e] at this
      simpa using this
    constructor
    · intro h
      exfalso
      have hlen : (c :: r).length + ((TL.tl x).takeWhile p).length = (TL.tl x).length := by
        rw [← e, ← drop_tw, List.length_drop]
        have := tw_len p (TL.tl x)
        omega
      have hrev : (((c :: r).reverse).takeWhile p).length ≤ r.length := by
        rw [List.reverse_cons]
        by_cases ha : r.reverse.all p = true
        · rw [List.takeWhile_append_of_pos (by simpa using ha), List.takeWhile_cons, if_neg (by rw [hc]; decide)]
          simp
        · have := tw_len p (r.reverse ++ [c])
          have h2 : ((r.reverse ++ [c]).takeWhile p).length ≠ (r.reverse ++ [c]).length := fun z => by
            have e2 : (r.reverse ++ [c]).takeWhile p = r.reverse ++ [c] := (List.takeWhile_sublist p).eq_of_length z
            have := List.all_takeWhile (p := p) (l := r.reverse ++ [c])
            rw [e2, List.all_append, Bool.and_eq_true] at this
            exact ha this.1
          rw [List.length_append, List.length_reverse, List.length_singleton] at this h2
          omega
      rw [List.length_cons] at hlen
      have : (List.take (x.length - (((c :: r).reverse).takeWhile p).length - ((TL.tl x).takeWhile p).length) (c :: r)).length = 0 := by rw [h]; rfl
      rw [List.length_take, List.length_cons] at this
      omega
    · intro h
      have := (dw_all _).mpr h
      rw [e] at this
      cases this

/-! ### what a name, an end, a pattern is -/
def nmB (l : List Nat) : Bool := !l.isEmpty && (l.dropWhile upB).all loB
def dName : PyData → Bool
  | .str x => nmB (TL.tl x)
  | _ => false
def dEnd (p : Nat → Bool) : PyData → Bool
  | .str x => decide (x.length ≤ 3) && (TL.tl x).all p
  | _ => false
def isE : PyData → Bool
  | .str x => decide (x = "")
  | _ => false
def dPat : PyData → Bool
  | .tuple [b, e] => dEnd upB b && (dEnd loB e && !(isE b && isE e))
  | _ => false
/-! ### types of data -/
def tyN : PyData → String
  | .none => "NoneType" | .bool _ => "bool" | .int _ => "int" | .str _ => "str" | .list _ => "list" | .tuple _ => "tuple" | .dict _ => "dict"
def isStr : PyData → Bool
  | .str _ => true
  | _ => false
def isTup : PyData → Bool
  | .tuple _ => true
  | _ => false
def isDct : PyData → Bool
  | .dict _ => true
  | _ => false
def isLst : PyData → Bool
  | .list _ => true
  | _ => false
theorem th_ty {K : PySem.W.Frag} {H : Hp} {v : V} {d : PyData} (h : Th K H v d) : TyX K H v (.type (tyN d)) := by
  cases h with
  | non => exact .base .non
  | bl b => exact .base (.bl b)
  | int i => exact .base (.int i)
  | str x => exact .base (.str x)
  | lst h _ =>
    rcases h with (h | ⟨o, h⟩) | ⟨o, its, n, h, hc, _⟩
    · exact .base (.lst h)
    · exact .base (.frz h)
    · exact .kList h hc
  | tup h _ =>
    rcases h with (h | ⟨o, h⟩) | ⟨o, its, n, h, hc, _⟩
    · exact .base (.tup h)
    · exact .fTuple h
    · exact .kTuple h hc
  | dct h _ _ => exact .base (.dK h)
theorem kit_str {K : PySem.W.Frag} : ∀ d : PyData, PySem.W.kitOne K (.type (tyN d)) (.type "str") = some (isStr d)
  | .none => kit_ty (show kitB "NoneType" "str" = some false by decide +kernel)
  | .bool _ => kit_ty (show kitB "bool" "str" = some false by decide +kernel)
  | .int _ => kit_ty (show kitB "int" "str" = some false by decide +kernel)
  | .str _ => kit_ty (show kitB "str" "str" = some true by decide +kernel)
  | .list _ => kit_ty (show kitB "list" "str" = some false by decide +kernel)
  | .tuple _ => kit_ty (show kitB "tuple" "str" = some false by decide +kernel)
  | .dict _ => kit_ty (show kitB "dict" "str" = some false by decide +kernel)
theorem kit_tup {K : PySem.W.Frag} : ∀ d : PyData, PySem.W.kitOne K (.type (tyN d)) (.type "tuple") = some (isTup d)
  | .none => kit_ty (show kitB "NoneType" "tuple" = some false by decide +kernel)
  | .bool _ => kit_ty (show kitB "bool" "tuple" = some false by decide +kernel)
  | .int _ => kit_ty (show kitB "int" "tuple" = some false by decide +kernel)
  | .str _ => kit_ty (show kitB "str" "tuple" = some false by decide +kernel)
  | .list _ => kit_ty (show kitB "list" "tuple" = some false by decide +kernel)
  | .tuple _ => kit_ty (show kitB "tuple" "tuple" = some true by decide +kernel)
  | .dict _ => kit_ty (show kitB "dict" "tuple" = some false by decide +kernel)
theorem kit_lst {K : PySem.W.Frag} : ∀ d : PyData, PySem.W.kitOne K (.type (tyN d)) (.type "list") = some (isLst d)
  | .none => kit_ty (show kitB "NoneType" "list" = some false by decide +kernel)
  | .bool _ => kit_ty (show kitB "bool" "list" = some false by decide +kernel)
  | .int _ => kit_ty (show kitB "int" "list" = some false by decide +kernel)
  | .str _ => kit_ty (show kitB "str" "list" = some false by decide +kernel)
  | .list _ => kit_ty (show kitB "list" "list" = some true by decide +kernel)
  | .tuple _ => kit_ty (show kitB "tuple" "list" = some false by decide +kernel)
  | .dict _ => kit_ty (show kitB "dict" "list" = some false by decide +kernel)
/-- a module's constant -/
def Con1 (mg : Str → Option Value) (x : String) (v : V) : Prop := ∃ u, mg x = some u ∧ RelV v u
section
variable {X : Cx} {x : String} {v : V} {pos : Pos}
theorem pe_con1 (h : Con1 X.mg x v) (hg : Gl X x := by rfl) (hd : ((x : Str) == ("__debug__" : Str)) = false := by decide) : PE X (.Name x pos) (tC v) := by
  obtain ⟨u, e, r⟩ := h
  exact pe_glob hg e r hd
/-- isinstance(e, T), T one built-in class -/
theorem pe_isi {T : String} {e : Expr} {te : TE} {p q pos : Pos} (he : PE X e te) (hm : X.mg "isinstance" = none) (hT : X.mg T = none) (hb : bootBuiltins T = some (.type T)) (hg : Gl X "isinstance" := by rfl) (hgT : Gl X T := by rfl)
    (hn : (T : Str) ≠ "__name__" := by decide) (hd : ((T : Str) == ("__debug__" : Str)) = false := by decide) (h1 : starEach [e, .Name T q] X.env = (false, eval e X.env) :: starEach [.Name T q] X.env := by rfl) (h2 : starEach [.Name T q] X.env = (false, eval (.Name T q) X.env) :: starEach [] X.env := by rfl)
    (h3 : (backTo pos (starEach [.Name T q] X.env)).any (·.1) = false := by rfl) :
    PE X (.Call (.Name "isinstance" p) [e, .Name T q] [] pos) (tCB (rIsi X.K) (tCons te (tCons (tC (.ty T)) tNil))) :=
  pe_callB call_isi hg hm (by decide +kernel) (pa_cons he (pa_cons (pe_bltn (v := .ty T) hgT hT hb rfl hn hd) pa_nil h2) h1) (he := h1) (hpl := h3)
end
/-! ### promises of the program's first functions -/
structure Glc (mg : Str → Option Value) : Prop where
  isinst : mg "isinstance" = none
  str : mg "str" = none
  tuple : mg "tuple" = none
  caps : Con1 mg "CAPITALS" (.str capS)
  smalls : Con1 mg "SMALLS" (.str smaS)
  ends : Con1 mg "MOST_END_LETTERS" (.int 3)
def spIsName (K : PySem.W.Frag) : Sp := fun vs H Q _ => ∃ v d, vs = [v] ∧ Th K H v d ∧ d.bulk ≤ 1000000 ∧ Q (.bl (dName d)) H
def spIsEnd (K : PySem.W.Frag) : Sp := fun vs H Q _ => ∃ v d L p, vs = [v, .str L] ∧ Th K H v d ∧ d.bulk ≤ 1000000 ∧ (∀ c, L.cps.contains c = p c) ∧ Q (.bl (dEnd p d)) H
def spIsPat (K : PySem.W.Frag) : Sp := fun vs H Q _ => ∃ v d, vs = [v] ∧ Th K H v d ∧ d.bulk ≤ 1000000 ∧ Q (.bl (dPat d)) H
def spIsSrc (K : PySem.W.Frag) : Sp := fun vs H Q _ => ∃ v d, vs = [v] ∧ Th K H v d ∧ d.bulk ≤ 1000000 ∧ Q (.bl (dPat d || dName d)) H
theorem not_str {d : PyData} (h : isStr d = false) : dName d = false ∧ (∀ p, dEnd p d = false) ∧ isE d = false := by
  cases d with
  | str x => cases h
  | _ => exact ⟨rfl, fun _ => rfl, rfl⟩
theorem th_str {K : PySem.W.Frag} {H : Hp} {v : V} {d : PyData} (h : Th K H v d) (e : isStr d = true) : ∃ x, v = .str x ∧ d = .str x := by
  cases h with
  | str x => exact ⟨x, rfl, rfl⟩
  | _ => cases e
theorem th_tup {K : PySem.W.Frag} {H : Hp} {v : V} {d : PyData} (h : Th K H v d) (e : isTup d = true) : ∃ a xs ds, v = .ref a ∧ d = .tuple ds ∧ SqT K H a xs ∧ ThAll K H xs ds := by
  cases h with
  | tup hs ha => exact ⟨_, _, _, rfl, rfl, hs, ha⟩
  | _ => cases e
theorem thAll_len {K : PySem.W.Frag} {H : Hp} : ∀ {xs : List V} {ds : List PyData}, ThAll K H xs ds → xs.length = ds.length
  | _, _, .nil => rfl
  | _, _, .cons _ t => congrArg (· + 1) (thAll_len t)
theorem tl_nil_iff {x : Str} : TL.tl x = [] ↔ x = "" := ⟨fun h => TL.ext_tl (by rw [h]; decide +kernel), fun h => by rw [h]; decide +kernel⟩
theorem not_pat {d : PyData} (h : isTup d = false) : dPat d = false := by
  cases d with
  | tuple xs => cases h
  | _ => rfl
theorem not_pat2 : ∀ {ds : List PyData}, ds.length ≠ 2 → dPat (.tuple ds) = false
  | [], _ => rfl
  | [_], _ => rfl
  | [_, _], h => absurd rfl h
  | _ :: _ :: _ :: _, _ => rfl
theorem th_two {K : PySem.W.Frag} {H : Hp} : ∀ {xs : List V} {ds : List PyData}, ThAll K H xs ds → xs.length = 2 → ∃ b c db dc, xs = [b, c] ∧ ds = [db, dc] ∧ Th K H b db ∧ Th K H c dc
  | _, _, .nil, h => nomatch h
  | _, _, .cons _ .nil, h => nomatch h
  | _, _, .cons h1 (.cons h2 .nil), _ => ⟨_, _, _, _, rfl, rfl, h1, h2⟩
  | _, _, .cons _ (.cons _ (.cons _ _)), h => by simp at h
theorem th_three {K : PySem.W.Frag} {H : Hp} : ∀ {xs : List V} {ds : List PyData}, ThAll K H xs ds → xs.length = 3 → ∃ a b c da db dc, xs = [a, b, c] ∧ ds = [da, db, dc] ∧ Th K H a da ∧ Th K H b db ∧ Th K H c dc
  | _, _, .nil, h => nomatch h
  | _, _, .cons _ .nil, h => nomatch h
  | _, _, .cons _ (.cons _ .nil), h => nomatch h
  | _, _, .cons h1 (.cons h2 (.cons h3 .nil)), _ => ⟨_, _, _, _, _, _, rfl, rfl, h1, h2, h3⟩
  | _, _, .cons _ (.cons _ (.cons _ (.cons _ _))), h => by simp at h
theorem end_str {p : Nat → Bool} {d : PyData} (h : dEnd p d = true) : isStr d = true := by
  cases d with
  | str x => rfl
  | _ => cases h
end Lk

/-! Nam1 -/
set_option Elab.async false
set_option maxRecDepth 100000
set_option maxHeartbeats 4000000
namespace Lk
open PySem PySem.Spec PyProof.Rows L2

theorem lt1 {c d : Nat} : decide (([c] : List Nat) < [d]) = decide (c < d) := by
  rw [Bool.eq_iff_iff, decide_eq_true_iff, decide_eq_true_iff, List.cons_lt_cons_iff]
  constructor
  · rintro (h | ⟨_, h⟩)
    · exact h
    · exact absurd h (List.lt_irrefl _)
  · exact fun h => .inl h
/-- a sign as a text -/
abbrev sg (c : Nat) : Str := ⟨#[c]⟩
theorem tl_sg (c : Nat) : TL.tl (sg c) = [c] := rfl
theorem le_sg {x : Str} {a c : Nat} (h : TL.tl x = [a]) : (!decide ((sg c).cps.toList < x.cps.toList)) = decide (a ≤ c) := by
  rw [show x.cps.toList = [a] from h]
  show (!decide (([c] : List Nat) < [a])) = _
  rw [lt1, Bool.eq_iff_iff]
  simp
theorem sg_le {x : Str} {a c : Nat} (h : TL.tl x = [a]) : (!decide (x.cps.toList < (sg c).cps.toList)) = decide (c ≤ a) := by
  rw [show x.cps.toList = [a] from h]
  show (!decide (([a] : List Nat) < [c])) = _
  rw [lt1, Bool.eq_iff_iff]
  simp
theorem tl_cut_to {z : Str} {k : Nat} (h : k ≤ z.length) : TL.tl (cutS z none (some (k : Int))) = (TL.tl z).take k := by
  show ((z.cps.toList.drop (HT.sIx z.length 0 none)).take (HT.sIx z.length z.length (some (k : Int)) - HT.sIx z.length 0 none)) = _
  rw [HT.sIx_none, HT.sIx_nat, Nat.min_eq_left h, List.drop_zero, Nat.sub_zero]
theorem tl_cut_from {z : Str} {k : Nat} (h : k ≤ z.length) : TL.tl (cutS z (some (k : Int)) none) = (TL.tl z).drop k := by
  show ((z.cps.toList.drop (HT.sIx z.length 0 (some (k : Int)))).take (HT.sIx z.length z.length none - HT.sIx z.length 0 (some (k : Int)))) = _
  rw [HT.sIx_none, HT.sIx_nat, Nat.min_eq_left h]
  refine List.take_of_length_le ?_
  have := TL.len_tl z
  rw [List.length_drop]
  show (TL.tl z).length - k ≤ _
  omega
/-- a comprehension over a text's signs: Pv by the signs taken -/
theorem lc_str {x : Str} {g : TG} {tt : TT} {te : TE} {vs : List Nat} {σ : L2.St} {H1 : Hp} {D : Addr} {Qd : Hp → Prop} (Pv : List Nat → Hp → Prop) (h0 : Pv [] (upd H1 D (.lst [])))
    (hs : ∀ pre c post H, TL.tl x = pre ++ c :: post → Pv pre H → g (.str (sg c)) (wipe σ vs) H fun σ2 H2 => wipe σ2 vs = wipe σ vs ∧ tt σ2 H2 fun b H3 =>
      if b = true then te σ2 H3 fun y H4 => ∃ acc, H4 D = some (.lst acc) ∧ acc.length < sizeLine ∧ Pv (pre ++ [c]) (upd H4 D (.lst (acc ++ [y]))) else Pv (pre ++ [c]) H3) (hd : ∀ H, Pv (TL.tl x) H → Qd H) :
    ∃ W : Nat → Nat → Hp → Prop, (∃ m, W 0 m (upd H1 D (.lst []))) ∧ ∀ i m H, W i m H →
      ((Its x).stop i H ∧ Qd H) ∨ ((Its x).go i H ∧ ∃ Nx : Hp → Prop, (∀ H', Nx H' → ∃ m', m' < m ∧ W (i + 1) m' H') ∧ ∀ y H', (Its x).yld i H y H' → g y (wipe σ vs) H' fun σ2 H2 => wipe σ2 vs = wipe σ vs ∧ tt σ2 H2 fun b H3 =>
        if b = true then te σ2 H3 fun y H4 => ∃ acc, H4 D = some (.lst acc) ∧ acc.length < sizeLine ∧ Nx (upd H4 D (.lst (acc ++ [y]))) else Nx H3) := by
  have hl : x.cps.size = (TL.tl x).length := TL.len_tl x
  refine ⟨fun i m H => i + m = (TL.tl x).length ∧ Pv ((TL.tl x).take i) H, ⟨_, Nat.zero_add _, h0⟩, ?_⟩
  rintro i m H ⟨em, p⟩
  cases m with
  | zero =>
    refine .inl ⟨by show x.cps.size ≤ i; omega, hd H ?_⟩
    rw [List.take_of_length_le (by omega)] at p
    exact p
  | succ m =>
    have hi : i < (TL.tl x).length := by omega
    have split : TL.tl x = (TL.tl x).take i ++ (TL.tl x)[i] :: (TL.tl x).drop (i + 1) := by
      rw [← List.drop_eq_getElem_cons hi, List.take_append_drop]
    have more : (TL.tl x).take (i + 1) = (TL.tl x).take i ++ [(TL.tl x)[i]] := List.take_succ_eq_append_getElem hi
    refine .inr ⟨by show i < x.cps.size; omega, Pv ((TL.tl x).take (i + 1)), fun H' p' => ⟨m, Nat.lt_succ_self m, by omega, p'⟩, ?_⟩
    rintro y H' ⟨rfl, c, hc, rfl⟩
    have ec : c = (TL.tl x)[i] := by
      have : (TL.tl x)[i]? = some c := by
        show x.cps.toList[i]? = some c
        rw [Array.getElem?_toList]
        exact hc
      rw [List.getElem?_eq_getElem hi] at this
      exact (Option.some.inj this).symm
    subst ec
    rw [more]
    exact hs _ _ _ _ split p
/-- for c in x, x a text -/
theorem for_str {x : Str} {g : TG} {tb : TS} {D : Ends} {σ : L2.St} {H : Hp} (Pv : List Nat → L2.St → Hp → Prop) (h0 : Pv [] σ H)
    (hs : ∀ pre c post σ H, TL.tl x = pre ++ c :: post → Pv pre σ H → g (.str (sg c)) σ H fun σ2 H2 => tb { D with nx := Pv (pre ++ [c]), ct := Pv (pre ++ [c]), bk := D.nx } σ2 H2)
    (hd : ∀ σ H, Pv (TL.tl x) σ H → D.nx σ H) :
    ∃ W : Nat → Nat → L2.St → Hp → Prop, (∃ m, W 0 m σ H) ∧ ∀ i m σ H, W i m σ H →
      ((Its x).stop i H ∧ D.nx σ H) ∨ ((Its x).go i H ∧ ∃ N : L2.St → Hp → Prop, (∀ σ' H', N σ' H' → ∃ m', m' < m ∧ W (i + 1) m' σ' H') ∧ ∀ y H', (Its x).yld i H y H' → g y σ H' fun σ2 H2 => tb { D with nx := N, ct := N, bk := D.nx } σ2 H2) := by
  have hl : x.cps.size = (TL.tl x).length := TL.len_tl x
  refine ⟨fun i m σ H => i + m = (TL.tl x).length ∧ Pv ((TL.tl x).take i) σ H, ⟨_, Nat.zero_add _, h0⟩, ?_⟩
  rintro i m σ H ⟨em, p⟩
  cases m with
  | zero =>
    refine .inl ⟨by show x.cps.size ≤ i; omega, hd σ H ?_⟩
    rw [List.take_of_length_le (by omega)] at p
    exact p
  | succ m =>
    have hi : i < (TL.tl x).length := by omega
    have split : TL.tl x = (TL.tl x).take i ++ (TL.tl x)[i] :: (TL.tl x).drop (i + 1) := by
      rw [← List.drop_eq_getElem_cons hi, List.take_append_drop]
    have more : (TL.tl x).take (i + 1) = (TL.tl x).take i ++ [(TL.tl x)[i]] := List.take_succ_eq_append_getElem hi
    refine .inr ⟨by show i < x.cps.size; omega, Pv ((TL.tl x).take (i + 1)), fun σ' H' p' => ⟨m, Nat.lt_succ_self m, by omega, p'⟩, ?_⟩
    rintro y H' ⟨rfl, c, hc, rfl⟩
    have ec : c = (TL.tl x)[i] := by
      have : (TL.tl x)[i]? = some c := by
        show x.cps.toList[i]? = some c
        rw [Array.getElem?_toList]
        exact hc
      rw [List.getElem?_eq_getElem hi] at this
      exact (Option.some.inj this).symm
    subst ec
    rw [more]
    exact hs _ _ _ _ _ split p
theorem take_tw {p : Nat → Bool} {l : List Nat} {k : Nat} (h : ∀ c ∈ l.take k, p c = true) (e : ∀ c, l[k]? = some c → p c = false) (hk : k ≤ l.length) : l.takeWhile p = l.take k ∧ l.dropWhile p = l.drop k := by
  induction l generalizing k with
  | nil => simp
  | cons a r ih =>
    cases k with
    | zero =>
      have := e a rfl
      simp [this]
    | succ k =>
      have ha := h a (by simp)
      obtain ⟨h1, h2⟩ := ih (k := k) (fun c hc => h c (by simp [hc])) (fun c hc => e c (by simpa using hc)) (by simpa using hk)
      simp [ha, h1, h2]
/-! ### lists of texts, compared with the empty one -/
theorem dp_strs {K : PySem.W.Frag} {H : Hp} : ∀ ys : List Str, DpAll K H (ys.map V.str) (ys.map PyData.str)
  | [] => .nil
  | x :: r => .cons (.str x) (dp_strs r)
theorem shaped_strs {ys : List Str} (h : ∀ y ∈ ys, PyData.strOk y = true) : SeqAt.shaped (.list (ys.map PyData.str)) = true := by
  have h1 : ∀ l : List Str, (∀ y ∈ l, PyData.strOk y = true) → PyData.canLayAll0 (l.map PyData.str) = true := fun l => by
    induction l with
    | nil => exact fun _ => rfl
    | cons x r ih =>
      intro h
      rw [List.map_cons, PyData.canLayAll0, PyData.canLay0, h x List.mem_cons_self, Bool.true_and]
      exact ih fun y hy => h y (List.mem_cons_of_mem _ hy)
  have h2 : ∀ l : List Str, PyData.depthAll (l.map PyData.str) = 0 := fun l => by
    induction l with
    | nil => rfl
    | cons x r ih => simpa [PyData.depthAll, PyData.depth] using ih
  unfold SeqAt.shaped
  simp [PyData.canLay0, PyData.depth, h1 ys h, h2]
/-- a text of code points, if it is a text -/
def okS : PyData → Bool
  | .str x => PyData.strOk x
  | _ => true
theorem ok_sg {x : Str} {c : Nat} (h : PyData.strOk x = true) (hc : c ∈ TL.tl x) : PyData.strOk (sg c) = true := by
  unfold PyData.strOk at h ⊢
  rw [Array.all_eq_true'] at h
  have := h c (by simpa using hc)
  simpa using this
theorem eqv_strs_nil (ys : List Str) : PyData.eqv (.list (ys.map PyData.str)) (.list []) = decide (ys = []) := by
  cases ys with
  | nil => rfl
  | cons x r =>
    rw [decide_eq_false (by simp)]
    rfl
/-- the law's own helpers' promises -/
def spSplit : Sp := fun vs H Q _ => ∃ x : Str, vs = [.str x] ∧ x.length ≤ 100000 ∧ ∀ (p : Addr) (hs ts : Str), H p = none → TL.tl hs = (TL.tl x).takeWhile upB → TL.tl ts = (TL.tl x).dropWhile upB → Q (.ref p) (upd H p (.tup [.str hs, .str ts]))
def spLName (K : PySem.W.Frag) : Sp := fun vs H Q _ => ∃ v d, vs = [v] ∧ Th K H v d ∧ d.bulk ≤ 100000 ∧ okS d = true ∧ ∀ H', Same H H' → Q (.bl (dName d)) H'
def spLEnd (K : PySem.W.Frag) : Sp := fun vs H Q _ => ∃ v d x y a b, vs = [v, .str x, .str y] ∧ TL.tl x = [a] ∧ TL.tl y = [b] ∧ Th K H v d ∧ d.bulk ≤ 100000 ∧ okS d = true ∧ ∀ H', Same H H' → Q (.bl (dEnd (fun c => decide (a ≤ c) && decide (c ≤ b)) d)) H'
def spLPat (K : PySem.W.Frag) : Sp := fun vs H Q _ => ∃ v d, vs = [v] ∧ Th K H v d ∧ d.bulk ≤ 100000 ∧ (isTup d = true → SeqAt.shaped d = true) ∧ ∀ H', Same H H' → Q (.bl (dPat d)) H'
theorem th_same {K : PySem.W.Frag} {H H' : Hp} (s : Same H H') {v : V} {d : PyData} (h : Th K H v d) : Th K H' v d := by
  refine Th.rec (motive_1 := fun v d _ => Th K H' v d) (motive_2 := fun vs ds _ => ThAll K H' vs ds) ?_ ?_ ?_ ?_ ?_ ?_ ?_ ?_ ?_ h
  · exact .non
  · exact .bl
  · exact .int
  · exact .str
  · exact fun hs _ ih => .lst (s.seq hs) ih
  · exact fun hs _ ih => .tup (Same.seqT s hs) ih
  · exact fun hs _ ek ih => .dct (s _ _ hs) ih ek
  · exact .nil
  · exact fun _ _ i1 i2 => .cons i1 i2
theorem th_dp {K : PySem.W.Frag} {H : Hp} {v : V} {d : PyData} (h : Th K H v d) : d.canLay0 = true → Dp K H v d := by
  refine Th.rec (motive_1 := fun v d _ => d.canLay0 = true → Dp K H v d) (motive_2 := fun vs ds _ => PyData.canLayAll0 ds = true → DpAll K H vs ds) ?_ ?_ ?_ ?_ ?_ ?_ ?_ ?_ ?_ h
  · exact fun _ => .non
  · exact fun b _ => .bl b
  · exact fun i _ => .int i
  · exact fun x _ => .str x
  · exact fun hs _ ih c => .lst hs (ih (by simpa only [PyData.canLay0] using c))
  · exact fun hs _ ih c => .tup hs (ih (by simpa only [PyData.canLay0] using c))
  · exact fun _ _ _ _ c => by simp [PyData.canLay0] at c
  · exact fun _ => .nil
  · intro v vs d ds _ _ i1 i2 c
    have c2 : d.canLay0 = true ∧ PyData.canLayAll0 ds = true := by simpa only [PyData.canLayAll0, Bool.and_eq_true] using c
    exact .cons (i1 c2.1) (i2 c2.2)
theorem ok_of_lay {d : PyData} (h : d.canLay0 = true) : okS d = true := by
  cases d with
  | str x => exact h
  | _ => rfl
theorem eqv_empty (d : PyData) : PyData.eqv d (.str "") = isE d := by
  cases d with
  | str x =>
    show (x == ("" : Str)) = decide (x = "")
    rw [Bool.eq_iff_iff, beq_iff_eq, decide_eq_true_iff]
  | _ => rfl
/-- ''.join([pick(pot, letters) for lap in range(below(pot, n))]), the letters a list that stands -/
theorem word_readT {K : PySem.W.Frag} {p c : Addr} {σ : L2.St} {H : Hp} {n : Int} {iv : Nat} {letters : List Str} {te : TE} {Q : VK}
    (hte : ∀ (H' : Hp) (v : Option V) (Q : VK), Ext p c H H' → (∀ (l : Addr), SqL K H' l (letters.map V.str) → l ≠ p → Q (.ref l) H') → te ((wipe σ [iv]).set iv v) H' Q) (hne : 0 < letters.length) (hle : letters.length ≤ 1000)
    (h1 : ∀ y ∈ letters, (TL.tl y).length ≤ 1) (hσ : σ[0]? = some (some (.ref p))) (hσ2 : ∀ v : Option V, ((wipe σ [iv]).set iv v)[0]? = some (some (.ref p))) (hw : ∀ v : Option V, wipe ((wipe σ [iv]).set iv v) [iv] = wipe σ [iv])
    (hP : PotAt p c H) (hn : 0 < n) (hn2 : n ≤ 1000) (k : ∀ (ys : List Str) (H' : Hp), (∀ y ∈ ys, y ∈ letters) → (ys.length : Int) < n → Ext p c H H' → Q (.str (Txt.join "" ys)) H') :
    tM1 (fun x xs H Q => ∃ a p, ∃ ys : List Str, x = .str a ∧ xs = [.ref p] ∧ (SqL K H p (ys.map V.str) ∨ SqT K H p (ys.map V.str)) ∧ (ys.map (·.length)).sum + ys.length * a.length ≤ 16777216 ∧ Q (.str (Txt.join a ys)) H)
      (tC (.str "")) (tLc (iRng1 (tCons (tCall spBelow [] E0 (tCons (tVar 0) (tCons (tC (.int n)) tNil))) tNil)) (gName iv) tYes (tCall (spPick K) [] E0 (tCons (tVar 0) (tCons te tNil))) [iv]) σ H Q := by
  refine ⟨⟨_, rfl⟩, _, hσ, p, c, n, rfl, hP, hn, by omega, fun r H1 r0 r1 e1 => ⟨r, rfl, by omega, by omega, fun D nD => ?_⟩⟩
  have nD0 := e1.free nD
  have nDp : D ≠ p := hP.nep nD0
  refine lc_range (lo := 0) (n := r.toNat) (fun i H' => Ext p c H H' ∧ ∃ ys : List Str, H' D = some (.lst (ys.map V.str)) ∧ ys.length = i ∧ ∀ y ∈ ys, y ∈ letters) ⟨e1.mut hP nD0, [], upd_same, rfl, fun y h => nomatch h⟩ ?_ ?_
  · rintro i H2 hi ⟨e2, ys, hD, hl, hy⟩
    refine ⟨hw _, _, hσ2 _, hte _ _ _ e2 fun l hS nl => ?_⟩
    refine ⟨p, c, l, letters.map V.str, rfl, e2.pot, hS, nl, by rw [List.length_map]; exact hne, by rw [List.length_map]; exact hle, fun v H3 hv e3 => ?_⟩
    obtain ⟨y, my, rfl⟩ := List.mem_map.mp hv
    have e4 := e2.trans e3
    have hD3 : H3 D = some (.lst (ys.map V.str)) := e3.get hD nDp
    refine ⟨_, hD3, by rw [List.length_map, hl]; exact small1000 (by omega), e4.mut hP nD0, ys ++ [y], by rw [upd_same, List.map_append]; rfl, by rw [List.length_append, hl]; rfl, fun z hz => ?_⟩
    rcases List.mem_append.mp hz with hz | hz
    · exact hy z hz
    · rw [List.mem_singleton.mp hz]
      exact my
  · rintro H2 ⟨e2, ys, hD, hl, hy⟩
    have hs : (ys.map (·.length)).sum ≤ ys.length * 1 := sum_len_le fun y h => by
      rw [TL.len_tl]
      exact h1 y (hy y h)
    exact ⟨"", D, ys, rfl, rfl, .inl (SqL.of hD), by
      show (ys.map (·.length)).sum + ys.length * 0 ≤ 16777216
      omega, k ys H2 hy (by omega) e2⟩
def spSome : Sp := fun vs H Q _ => ∃ (p c : Addr), vs = [.ref p] ∧ PotAt p c H ∧ ∀ (z : Str) (H' : Hp), z.length ≤ 6 → PyData.strOk z = true → Ext p c H H' → Q (.str z) H'
theorem ok_of_all {z : Str} (h : ∀ c ∈ TL.tl z, c < 1114112) : PyData.strOk z = true := by
  unfold PyData.strOk
  rw [Array.all_eq_true']
  intro c hc
  exact decide_eq_true (h c (by simpa using hc))
theorem Nm.ok {z : Str} {h t : List Nat} (n : Nm z h t) : PyData.strOk z = true := ok_of_all fun c hc => by
  rw [n.e] at hc
  rcases List.mem_append.mp hc with hc | hc
  · have := (n.up c hc).2
    omega
  · have := (n.lo c hc).2
    omega
theorem Nm.len {z : Str} {h t : List Nat} (n : Nm z h t) : z.length ≤ 6 := by
  rw [TL.len_tl, n.e, List.length_append]
  have := n.lh
  have := n.lt
  omega
end Lk

/-! Mak0 -/
set_option Elab.async false
set_option maxRecDepth 100000
set_option linter.all false
set_option maxHeartbeats 4000000
namespace Lk
open PySem PySem.Spec PyProof.Rows L2

/-! ### text * int -/
theorem rep_fold (a : Array Nat) : ∀ (k : Nat) (acc : Array Nat), ((List.replicate k a).foldl (· ++ ·) acc).toList = acc.toList ++ (List.replicate k a.toList).flatten
  | 0, acc => by simp
  | k + 1, acc => by
    rw [List.replicate_succ, List.foldl_cons, rep_fold a k, List.replicate_succ, List.flatten_cons, Array.toList_append, List.append_assoc]
def rStrRep : R2 := fun x y H Q => ∃ (a : Str) (k : Nat), x = .str a ∧ y = .int (k : Int) ∧ 2 ≤ k ∧ k ≤ 5000 ∧ a.length ≤ 1000 ∧ ∀ z : Str, TL.tl z = (List.replicate k (TL.tl a)).flatten → Q (.str z) H
theorem op_strRep {X : Cx} : OpR X (binaryOp .Mult) rStrRep := by
  intro pins s σ H x y v u Q I rx ry h
  obtain ⟨a, k, rfl, rfl, k1, k2, ha, q⟩ := h
  obtain ⟨t, rfl⟩ := rx
  obtain ⟨t', rfl⟩ := ry
  have hm : a.length * k ≤ 5000000 := by
    have := Nat.mul_le_mul ha k2
    omega
  have hl := TL.len_tl a
  have long : Builtin.Str.tooLong (a.length * k) = false := by
    unfold Builtin.Str.tooLong
    refine decide_eq_false (Nat.not_lt.mpr (Nat.le_trans hm ?_))
    decide
  refine PySem.P.mul_str (by rw [decide_eq_false (by omega), decide_eq_false (by omega)]; rfl) (fun _ _ => ?_) (fun _ _ => by rw [Int.toNat_natCast]; exact long) ?_
  · refine Int.not_lt.mpr (Int.le_ediv_of_mul_le (by omega) ?_)
    have : ((a.length * k : Nat) : Int) = (a.length : Int) * (k : Int) := Int.natCast_mul _ _
    omega
  · rw [if_neg (by omega), Int.toNat_natCast]
    have big : ((k : Int) == 1) = false := beq_eq_false_iff_ne.mpr (by omega)
    rw [big, Bool.false_or]
    by_cases h0 : a.length = 0
    · rw [if_pos (beq_iff_eq.mpr h0)]
      have e0 : TL.tl a = [] := List.length_eq_zero_iff.mp (by omega)
      exact ⟨.str a, H, I, ⟨_, rfl⟩, q a (by rw [e0]; simp)⟩
    · rw [if_neg (by rw [beq_iff_eq]; exact h0)]
      have e : TL.tl ⟨(List.replicate k a.cps).foldl (· ++ ·) #[]⟩ = (List.replicate k (TL.tl a)).flatten := by
        show ((List.replicate k a.cps).foldl (· ++ ·) #[]).toList = _
        rw [rep_fold, List.nil_append]
      refine ⟨?_, .str _, H, I.tok _, ⟨_, rfl⟩, q _ e⟩
      rw [TL.len_tl, e, List.length_flatten, List.map_replicate, List.sum_replicate_nat, ← hl, Nat.mul_comm]
      exact Nat.le_trans hm (by decide)

/-! ### made data: an expression's reading gives data, and only adds to the heap -/
def Mk1 (K : PySem.W.Frag) (te : TE) (σ : L2.St) (H0 : Hp) (d : PyData) : Prop := ∀ H, Same H0 H → ∀ Q : VK, (∀ v H', Same H H' → Th K H' v d → Q v H') → te σ H Q
def MkA (K : PySem.W.Frag) (ta : TA) (σ : L2.St) (H0 : Hp) (ds : List PyData) : Prop := ∀ H, Same H0 H → ∀ Q : List V → Hp → Prop, (∀ vs H', Same H H' → ThAll K H' vs ds → Q vs H') → ta σ H Q
/-- .. gives a list that stands by itself -/
def MkL (K : PySem.W.Frag) (te : TE) (σ : L2.St) (H0 : Hp) (ds : List PyData) : Prop := ∀ H, Same H0 H → ∀ Q : VK, (∀ p xs H', Same H H' → H' p = some (.lst xs) → ThAll K H' xs ds → Q (.ref p) H') → te σ H Q
section
variable {K : PySem.W.Frag} {σ : L2.St} {H0 : Hp} {te tf : TE} {ta : TA} {d e : PyData} {ds es : List PyData}
theorem thAll_same {H H' : Hp} (s : Same H H') : ∀ {vs : List V} {ds : List PyData}, ThAll K H vs ds → ThAll K H' vs ds
  | _, _, .nil => .nil
  | _, _, .cons h t => .cons (th_same s h) (thAll_same s t)
theorem thAll_app {H : Hp} : ∀ {vs ws : List V} {ds es : List PyData}, ThAll K H vs ds → ThAll K H ws es → ThAll K H (vs ++ ws) (ds ++ es)
  | _, _, _, _, .nil, h => h
  | _, _, _, _, .cons h t, g => .cons h (thAll_app t g)
theorem mk_var {i : Nat} {v : V} (h : σ[i]? = some (some v)) (t : Th K H0 v d) : Mk1 K (tVar i) σ H0 d := fun H s Q q => ⟨v, h, q v H (Same.refl H) (th_same s t)⟩
theorem mk_non : Mk1 K (tC .non) σ H0 .none := fun H _ Q q => q _ H (Same.refl H) .non
theorem mk_int {i : Int} : Mk1 K (tC (.int i)) σ H0 (.int i) := fun H _ Q q => q _ H (Same.refl H) (.int i)
theorem mk_bl {b : Bool} : Mk1 K (tC (.bl b)) σ H0 (.bool b) := fun H _ Q q => q _ H (Same.refl H) (.bl b)
theorem mk_str {x : Str} : Mk1 K (tC (.str x)) σ H0 (.str x) := fun H _ Q q => q _ H (Same.refl H) (.str x)
theorem mk_nil : MkA K tNil σ H0 [] := fun H _ Q q => q _ H (Same.refl H) .nil
theorem mk_cons (h : Mk1 K te σ H0 d) (t : MkA K ta σ H0 ds) : MkA K (tCons te ta) σ H0 (d :: ds) := fun H s Q q =>
  h H s _ fun v H1 s1 h1 => t H1 (s.trans s1) _ fun vs H2 s2 h2 => q _ H2 (s1.trans s2) (.cons (th_same s2 h1) h2)
theorem mk_tup (h : MkA K ta σ H0 ds) (hl : ds.length ≤ 1000) : Mk1 K (tTup ta) σ H0 (.tuple ds) := fun H s Q q =>
  h H s _ fun vs H1 s1 h1 => ⟨by rw [thAll_len h1]; exact Nat.le_of_lt (small1000 hl), fun p np => q _ _ (s1.trans (same_upd np)) (.tup (.inl (.inl upd_same)) (thAll_same (same_upd np) h1))⟩
theorem mk_lstL (h : MkA K ta σ H0 ds) (hl : ds.length ≤ 1000) : MkL K (tLst ta) σ H0 ds := fun H s Q q =>
  h H s _ fun vs H1 s1 h1 => ⟨by rw [thAll_len h1]; exact Nat.le_of_lt (small1000 hl), fun p np => q _ _ _ (s1.trans (same_upd np)) upd_same (thAll_same (same_upd np) h1)⟩
theorem MkL.mk (h : MkL K te σ H0 ds) : Mk1 K te σ H0 (.list ds) := fun H s Q q => h H s _ fun p xs H1 s1 e h1 => q _ H1 s1 (.lst (SqL.of e) h1)
theorem mk_lst (h : MkA K ta σ H0 ds) (hl : ds.length ≤ 1000) : Mk1 K (tLst ta) σ H0 (.list ds) := (mk_lstL h hl).mk
theorem mk_varL {i : Nat} {p : Addr} {xs : List V} (h : σ[i]? = some (some (.ref p))) (e : H0 p = some (.lst xs)) (t : ThAll K H0 xs ds) : MkL K (tVar i) σ H0 ds := fun H s Q q => ⟨_, h, q p xs H (Same.refl H) (s _ _ e) (thAll_same s t)⟩
theorem mk_cat (h : MkL K te σ H0 ds) (g : MkL K tf σ H0 es) (hl : ds.length + es.length ≤ 1000) : MkL K (tOp rCat te tf) σ H0 (ds ++ es) := fun H s Q q =>
  h H s _ fun p xs H1 s1 e1 h1 => g H1 (s.trans s1) _ fun r ys H2 s2 e2 h2 => ⟨p, r, xs, ys, rfl, rfl, s2 _ _ e1, e2, by rw [thAll_len h1, thAll_len h2]; exact Nat.le_of_lt (small1000 hl), fun l nl =>
    q l _ _ ((s1.trans s2).trans (same_upd nl)) upd_same (thAll_same (same_upd nl) (thAll_app (thAll_same s2 h1) h2))⟩
theorem mk_dict0 : Mk1 K tDNewK σ H0 (.dict []) := fun H _ Q q p np => q _ _ (same_upd np) (.dct upd_same .nil rfl)
theorem mk_dict1 {x y : Str} {i j : Nat} (hi : σ[i]? = some (some (.str x))) (hj : σ[j]? = some (some (.str y))) : Mk1 K (tDisp [(tVar i, tVar j)]) σ H0 (.dict [(.str x, .str y)]) := fun H _ Q q p np =>
  ⟨_, hi, _, hj, upd_same, [(Sum.inr x, .str y)], rfl, (by show 1 ≤ 15; decide), q _ _ (by rw [upd_upd]; exact same_upd np) (.dct upd_same (.cons (.str y) .nil) rfl)⟩
theorem mk_addstr {i j : Nat} {x y : Str} (hi : σ[i]? = some (some (.str x))) (hj : σ[j]? = some (some (.str y))) (hl : x.length + y.length ≤ 1000) :
    Mk1 K (tOp (fun x y H Q => ∃ i j, x = .str i ∧ y = .str j ∧ i.length + j.length ≤ sizeLine ∧ Q (.str (i ++ j)) H) (tVar i) (tVar j)) σ H0 (.str (x ++ y)) := fun H _ Q q =>
  ⟨_, hi, _, hj, x, y, rfl, rfl, Nat.le_of_lt (small1000 hl), q _ H (Same.refl H) (.str _)⟩
end
end Lk

/-! Siz0 -/
set_option Elab.async false
set_option maxRecDepth 100000
set_option linter.all false
set_option maxHeartbeats 4000000
namespace Lk
open PySem PySem.Spec PyProof.Rows L2
/-- data without dicts: how large, how deep -/
structure Sz (n k : Nat) (d : PyData) : Prop where
  sh : d.showable = true
  lv : d.leavesShort 13 = true
  bk : d.bulk ≤ n
  dp : d.depth ≤ k
  cl : d.canLay0 = true
theorem Sz.mono {n k m j : Nat} {d : PyData} (h : Sz n k d) (h1 : n ≤ m) (h2 : k ≤ j) : Sz m j d := ⟨h.sh, h.lv, Nat.le_trans h.bk h1, Nat.le_trans h.dp h2, h.cl⟩
theorem Sz.str {n : Nat} {x : Str} (hl : x.length ≤ n) (ho : PyData.strOk x = true) : Sz n 0 (.str x) := by
  refine ⟨rfl, ?_, hl, Nat.le_refl _, ho⟩
  unfold PyData.strOk at ho
  rw [Array.all_eq_true'] at ho
  show (x.cps.toList.all fun c => decide (c < 16 ^ 8)) = true
  rw [List.all_eq_true]
  intro c hc
  have := of_decide_eq_true (ho c (by simpa using hc))
  exact decide_eq_true (Nat.lt_trans this (by decide))
theorem Sz.none {n k : Nat} : Sz n k .none := ⟨rfl, rfl, Nat.zero_le _, Nat.zero_le _, rfl⟩
theorem Sz.bool {n k : Nat} (b : Bool) : Sz n k (.bool b) := ⟨rfl, rfl, Nat.zero_le _, Nat.zero_le _, rfl⟩
theorem Sz.zero {n k : Nat} : Sz n k (.int 0) := ⟨rfl, by decide +kernel, Nat.zero_le _, Nat.zero_le _, rfl⟩
theorem sz_all {n k : Nat} : ∀ {ds : List PyData}, (∀ d ∈ ds, Sz n k d) → PyData.showableAll ds = true ∧ PyData.leavesShortAll 13 ds = true ∧ PyData.bulkAll ds ≤ ds.length * (n + 1) ∧ PyData.depthAll ds ≤ k ∧ PyData.canLayAll0 ds = true
  | [], _ => ⟨rfl, rfl, Nat.zero_le _, Nat.zero_le _, rfl⟩
  | d :: r, h => by
    obtain ⟨h1, h2, h3, h4, h5⟩ := sz_all (ds := r) fun e he => h e (List.mem_cons_of_mem _ he)
    have hd := h d List.mem_cons_self
    refine ⟨?_, ?_, ?_, ?_, ?_⟩
    · rw [PyData.showableAll, hd.sh, h1]; rfl
    · rw [PyData.leavesShortAll, hd.lv, h2]; rfl
    · have := hd.bk
      rw [PyData.bulkAll, List.length_cons, Nat.succ_mul]
      omega
    · rw [PyData.depthAll]
      exact Nat.max_le.mpr ⟨hd.dp, h4⟩
    · rw [PyData.canLayAll0, hd.cl, h5]; rfl
theorem Sz.tuple {n k m : Nat} {ds : List PyData} (h : ∀ d ∈ ds, Sz n k d) (hm : ds.length * (n + 1) ≤ m) : Sz m (k + 1) (.tuple ds) := by
  obtain ⟨h1, h2, h3, h4, h5⟩ := sz_all h
  exact ⟨by simpa only [PyData.showable] using h1, by simpa only [PyData.leavesShort] using h2, by simpa only [PyData.bulk] using Nat.le_trans h3 hm, by simp only [PyData.depth]; omega, by simpa only [PyData.canLay0] using h5⟩
theorem Sz.list {n k m : Nat} {ds : List PyData} (h : ∀ d ∈ ds, Sz n k d) (hm : ds.length * (n + 1) ≤ m) : Sz m (k + 1) (.list ds) := by
  obtain ⟨h1, h2, h3, h4, h5⟩ := sz_all h
  exact ⟨by simpa only [PyData.showable] using h1, by simpa only [PyData.leavesShort] using h2, by simpa only [PyData.bulk] using Nat.le_trans h3 hm, by simp only [PyData.depth]; omega, by simpa only [PyData.canLay0] using h5⟩
/-- what the law's functions ask of a thing -/
structure Okd (d : PyData) : Prop where
  wf : Wf d
  bk : d.bulk ≤ 100000
  os : okS d = true
  sh : isTup d = true → SeqAt.shaped d = true
theorem Sz.okd {n k : Nat} {d : PyData} (h : Sz n k d) (hn : n ≤ 100000) (hk : k ≤ 60) : Okd d := by
  have hb : d.bulk ≤ 100000 := Nat.le_trans h.bk hn
  have hd : d.depth ≤ 60 := Nat.le_trans h.dp hk
  refine ⟨⟨h.sh, h.lv, by omega, hd, .inl (PyData.hasDict_of_canLay d h.cl)⟩, hb, ok_of_lay h.cl, fun _ => ?_⟩
  unfold SeqAt.shaped
  rw [h.cl, decide_eq_true (by omega)]
  rfl
theorem okd_dict0 : Okd (.dict []) := ⟨⟨by decide +kernel, by decide +kernel, by decide +kernel, by decide +kernel, .inr (by decide +kernel)⟩, by decide +kernel, rfl, fun h => nomatch h⟩
theorem okd_dict1 {x y : Str} (hx : Sz 1000 0 (.str x)) (hy : Sz 1000 0 (.str y)) : Okd (.dict [(.str x, .str y)]) := by
  have e1 := hx.lv
  have e2 := hy.lv
  have b1 := hx.bk
  have b2 := hy.bk
  refine ⟨⟨rfl, ?_, ?_, (by show 1 + max (max 0 0) 0 ≤ 60; decide), .inr rfl⟩, ?_, rfl, fun h => nomatch h⟩
  · simp [PyData.leavesShort, PyData.leavesShortKv] at e1 e2 ⊢
    exact ⟨e1, e2⟩
  · simp only [PyData.bulk, PyData.bulkKv] at b1 b2 ⊢
    omega
  · simp only [PyData.bulk, PyData.bulkKv] at b1 b2 ⊢
    omega
theorem wf_b3 (a b c : Bool) : Wf (.tuple [.bool a, .bool b, .bool c]) := by
  have h : Sz 1000 1 (.tuple [.bool a, .bool b, .bool c]) := Sz.tuple (n := 0) (k := 0) (fun d hd => by
    simp only [List.mem_cons, List.mem_nil_iff, or_false] at hd
    rcases hd with rfl | rfl | rfl <;> exact Sz.bool _) (by show 3 * 1 ≤ 1000; decide)
  exact (h.okd (by decide) (by decide)).wf
def spLaw (K : PySem.W.Frag) : Sp := fun vs H Q _ => ∃ (a : Addr) (ns : List Int), vs = [.ref a] ∧ SqL K H a (ns.map V.int) ∧ ns.length ≤ 63 ∧ ∀ H', Q (.bl true) H'
/-- a law's def, nothing raised -/
theorem mkCalG0 {P : Program} {w : World} {K : PySem.W.Frag} {mg : Str → Option Value} {base : Heap} {x : String} {st : Stmt} {N ps : List Str} {k : Nat} {sp : Sp} (D : Def1 K mg x st) (S : FnScope N ps (defScope st))
    (hb : ∀ (kV doc pm : Value) (an : Option Addr) (cdv ct : Value) (us : List Value), us.length = ps.length → bindArgs (PySem.W.fnOf x x (defArgs st) (defBody st) (defScope st) .none kV doc pm an cdv ct) ⟨us, []⟩ = pure (ps.zip us))
    (len : ∀ vs H Q E, sp vs H Q E → vs.length = ps.length)
    (body : ∀ (f : Addr) (cdv : Value) (A : Around) (above : List Env) (s : Shared) (H : Hp) (vs : List V) (Q : VK) (E : XK), Room k (A.deeper (envOfC x (defScope st) s.heap.objs.size f cdv)) →
      (A.deeper (envOfC x (defScope st) s.heap.objs.size f cdv)).guards = some [] → sp vs H Q E →
      ∃ t, PSs (cxOf CX0 P w K mg base N x (defScope st) f cdv A above s H E).nox (defBody st) t ∧ t { nx := fun _ H' => Q .non H', rt := Q } (start N vs) H) : CalG P w K mg base CX0 (k + 1) x sp :=
  mkCalG D S hb len fun f cdv A above s H vs Q E hr hg h => by
    obtain ⟨t, ht, q⟩ := body f cdv A above s H vs Q E hr hg h
    exact ⟨t, ht.nox, q⟩
theorem iteF' {b : Bool} {A B : Prop} (hb : b = false) (h : B) : if b = true then A else B := by
  rw [hb]
  exact iteF h
theorem iteT' {b : Bool} {A B : Prop} (hb : b = true) (h : A) : if b = true then A else B := by
  rw [hb]
  exact iteT h
/-! ### stores and loops over made data -/
section
variable {K : PySem.W.Frag} {σ : L2.St} {H : Hp} {te : TE} {g : TG} {t : TS} {D : Ends} {ds : List PyData}
theorem set_mkL (h : MkL K te σ H ds) (q : ∀ p xs H', Same H H' → H' p = some (.lst xs) → ThAll K H' xs ds → g (.ref p) σ H' (t D)) : tSeq (tAsg te g) t D σ H := h H (Same.refl H) _ q
theorem thAll_get : ∀ {xs : List V} {ds : List PyData} {i : Nat} {x : V}, ThAll K H xs ds → xs[i]? = some x → ∃ d, d ∈ ds ∧ Th K H x d
  | _, _, _, _, .nil, h => by simp at h
  | _, _, 0, _, .cons h _, e => by
    simp at e
    subst e
    exact ⟨_, List.mem_cons_self, h⟩
  | _, _, i + 1, x, .cons _ tl, e => by
    obtain ⟨d, m, h⟩ := thAll_get (i := i) (x := x) tl (by simpa using e)
    exact ⟨d, List.mem_cons_of_mem _ m, h⟩
def zrep (k : Nat) (x : Str) : Str := ⟨((List.replicate k (TL.tl x)).flatten).toArray⟩
theorem tl_zrep (k : Nat) (x : Str) : TL.tl (zrep k x) = (List.replicate k (TL.tl x)).flatten := rfl
theorem mk_rep {i k : Nat} {x : Str} (h : σ[i]? = some (some (.str x))) (k1 : 2 ≤ k) (k2 : k ≤ 5000) (hx : x.length ≤ 1000) : Mk1 K (tOp rStrRep (tVar i) (tC (.int (k : Int)))) σ H (.str (zrep k x)) := fun H1 _ Q q =>
  ⟨_, h, x, k, rfl, rfl, k1, k2, hx, fun z e => by
    have : z = zrep k x := TL.ext_tl e
    subst this
    exact q _ H1 (Same.refl H1) (.str _)⟩
theorem ok_cut {z : Str} {lo hi : Option Int} (h : PyData.strOk z = true) : PyData.strOk (cutS z lo hi) = true := by
  refine ok_of_all fun c hc => ?_
  have hc2 : c ∈ TL.tl z := (List.drop_sublist _ _).subset ((List.take_sublist _ _).subset hc)
  unfold PyData.strOk at h
  rw [Array.all_eq_true'] at h
  exact of_decide_eq_true (h c (by simpa using hc2))
theorem ok_sub {z y : Str} (h : PyData.strOk z = true) (hs : ∀ c ∈ TL.tl y, c ∈ TL.tl z) : PyData.strOk y = true := by
  refine ok_of_all fun c hc => ?_
  unfold PyData.strOk at h
  rw [Array.all_eq_true'] at h
  exact of_decide_eq_true (h c (by simpa using hs c hc))
theorem ok_rep {k : Nat} {x : Str} (h : PyData.strOk x = true) : PyData.strOk (zrep k x) = true := ok_sub h fun c hc => by
  rw [tl_zrep] at hc
  obtain ⟨l, hl, hc⟩ := List.mem_flatten.mp hc
  rw [(List.mem_replicate.mp hl).2] at hc
  exact hc
theorem ok_add {x y : Str} (h : PyData.strOk x = true) (g : PyData.strOk y = true) : PyData.strOk (x ++ y) = true := by
  refine ok_of_all fun c hc => ?_
  unfold PyData.strOk at h g
  rw [Array.all_eq_true'] at h g
  rw [TL.tl_append] at hc
  rcases List.mem_append.mp hc with hc | hc
  · exact of_decide_eq_true (h c (by simpa using hc))
  · exact of_decide_eq_true (g c (by simpa using hc))
theorem len_add (x y : Str) : (x ++ y).length = x.length + y.length := strLen_append x y
theorem len_rep (k : Nat) (x : Str) : (zrep k x).length = k * x.length := by
  rw [TL.len_tl, tl_zrep, List.length_flatten, List.map_replicate, List.sum_replicate_nat, TL.len_tl x]
end
theorem nmB_app {u l : List Nat} (hu : u.all upB = true) (hl : l.all loB = true) (ne : u ++ l ≠ []) : nmB (u ++ l) = true := by
  have e : (u ++ l).dropWhile upB = l := by
    have e1 : ∀ u : List Nat, u.all upB = true → (u ++ l).dropWhile upB = l.dropWhile upB := fun u => by
      induction u with
      | nil => exact fun _ => rfl
      | cons c r ih =>
        intro h
        rw [List.all_cons, Bool.and_eq_true] at h
        rw [List.cons_append, List.dropWhile_cons, if_pos h.1]
        exact ih h.2
    rw [e1 u hu]
    cases l with
    | nil => rfl
    | cons c r =>
      rw [List.all_cons, Bool.and_eq_true] at hl
      have : upB c = false := by
        have h1 := hl.1
        simp only [loB, Bool.and_eq_true, decide_eq_true_eq] at h1
        simp only [upB, Bool.and_eq_false_iff, decide_eq_false_iff_not]
        omega
      rw [List.dropWhile_cons, if_neg (by rw [this]; exact Bool.false_ne_true)]
  unfold nmB
  rw [e, hl, Bool.and_true]
  cases q : u ++ l with
  | nil => exact absurd q ne
  | cons c r => rfl
theorem nmB_bad {u : List Nat} {c : Nat} (hu : u.all upB = true) (h1 : upB c = false) (h2 : loB c = false) : nmB (u ++ [c]) = false := by
  have e : (u ++ [c]).dropWhile upB = [c] := by
    induction u with
    | nil => rw [List.nil_append, List.dropWhile_cons, if_neg (by rw [h1]; exact Bool.false_ne_true)]
    | cons d r ih =>
      rw [List.all_cons, Bool.and_eq_true] at hu
      rw [List.cons_append, List.dropWhile_cons, if_pos hu.1]
      exact ih hu.2
  unfold nmB
  rw [e, List.all_cons, h2, Bool.false_and, Bool.and_false]
theorem all_rep {k c : Nat} {x : Str} (p : Nat → Bool) (hx : TL.tl x = [c]) (hc : p c = true) : (TL.tl (zrep k x)).all p = true := by
  rw [tl_zrep, hx, List.all_eq_true]
  intro d hd
  obtain ⟨l, hl, hd⟩ := List.mem_flatten.mp hd
  rw [(List.mem_replicate.mp hl).2] at hd
  rw [List.mem_singleton.mp hd]
  exact hc
/-- for x in e, e a list of made data -/
theorem for_mkL {K K' : PySem.W.Frag} {σ : L2.St} {H : Hp} {te : TE} {g : TG} {tb : TS} {D : Ends} {ds : List PyData} (h : MkL K te σ H ds)
    (q : ∀ (L : Addr) (xs : List V) (H' : Hp), Same H H' → H' L = some (.lst xs) → ThAll K H' xs ds → ∃ Pv : Nat → L2.St → Hp → Prop, Pv 0 σ H' ∧ (∀ i σ H2, Pv i σ H2 → H2 L = some (.lst xs)) ∧
      (∀ (i : Nat) (x : V) (d : PyData) (σ : L2.St) (H2 : Hp), d ∈ ds → Th K H' x d → Pv i σ H2 → g x σ H2 fun σ2 H3 => tb { D with nx := Pv (i + 1), ct := Pv (i + 1), bk := D.nx } σ2 H3) ∧ ∀ σ H2, Pv xs.length σ H2 → D.nx σ H2) :
    tFor (iList K' te) g tb D σ H := h H (Same.refl H) _ fun L xs H' s e t => by
  obtain ⟨Pv, p0, pl, ps, pd⟩ := q L xs H' s e t
  exact ⟨L, rfl, ⟨_, SqL.of e⟩, for_list (K := K') (a := L) (xs := xs) Pv p0 (fun i σ H2 _ p => SqL.of (pl i σ H2 p)) (fun i x σ H2 hx p => by
    obtain ⟨d, hd, ht⟩ := thAll_get t hx
    exact ps i x d σ H2 hd ht p) pd⟩
theorem or_pat {K : PySem.W.Frag} {σ : L2.St} {H : Hp} {i : Nat} {v : V} {d : PyData} {Q : VK} (hv : σ[i]? = some (some v)) (th : Th K H v d) (ok : Okd d) (h : ∀ H', Same H H' → Q (.bl (dName d || dPat d)) H') :
    if dName d = true then Q (.bl true) H else tCall (spLPat K) [] E0 (tCons (tVar i) tNil) σ H Q := by
  cases e : dName d with
  | true =>
    rw [e, Bool.true_or] at h
    exact iteT (h H (Same.refl H))
  | false =>
    rw [e, Bool.false_or] at h
    exact iteF ⟨v, hv, v, d, rfl, th, ok.bk, ok.sh, h⟩
theorem mkFnG {P : Program} {w : World} {K : PySem.W.Frag} {mg : Str → Option Value} {base : Heap} {CX : CXT} {x : String} {st : Stmt} {f : Addr} {fd : FuncData} {N ps : List Str} {k : Nat} {sp : Sp} (F : L2.Fun K x x st f fd) (S : FnScope N ps (defScope st))
    (len : ∀ vs H Q E, sp vs H Q E → vs.length = ps.length)
    (body : ∀ (cdv : Value) (A : Around) (above : List Env) (s : Shared) (H : Hp) (vs : List V) (Q : VK) (E : XK), Room k (A.deeper (envOfC x (defScope st) s.heap.objs.size f cdv)) →
      (A.deeper (envOfC x (defScope st) s.heap.objs.size f cdv)).guards = some [] → sp vs H Q E →
      ∃ t, PSs (cxOf CX P w K mg base N x (defScope st) f cdv A above s H E) (defBody st) t ∧ t { nx := fun _ H' => Q .non H', rt := Q } (start N vs) H) : FnG P w K mg base CX (k + 1) f fd ps sp := by
  obtain ⟨oc, od, kV, doc, pm, an, cdv, ct, sl, rfl, lk, hcd⟩ := F.ex
  exact fnG_of lk hcd S len fun A above s H vs Q E hr hg h => body cdv A above s H vs Q E hr hg h
theorem mkFnG0 {P : Program} {w : World} {K : PySem.W.Frag} {mg : Str → Option Value} {base : Heap} {x : String} {st : Stmt} {f : Addr} {fd : FuncData} {N ps : List Str} {k : Nat} {sp : Sp} (F : L2.Fun K x x st f fd) (S : FnScope N ps (defScope st))
    (len : ∀ vs H Q E, sp vs H Q E → vs.length = ps.length)
    (body : ∀ (cdv : Value) (A : Around) (above : List Env) (s : Shared) (H : Hp) (vs : List V) (Q : VK) (E : XK), Room k (A.deeper (envOfC x (defScope st) s.heap.objs.size f cdv)) →
      (A.deeper (envOfC x (defScope st) s.heap.objs.size f cdv)).guards = some [] → sp vs H Q E →
      ∃ t, PSs (cxOf CX0 P w K mg base N x (defScope st) f cdv A above s H E).nox (defBody st) t ∧ t { nx := fun _ H' => Q .non H', rt := Q } (start N vs) H) : FnG P w K mg base CX0 (k + 1) f fd ps sp :=
  mkFnG F S len fun cdv A above s H vs Q E hr hg h => by
    obtain ⟨t, ht, q⟩ := body cdv A above s H vs Q E hr hg h
    exact ⟨t, ht.nox, q⟩
end Lk

/-! Try0 -/
set_option Elab.async false
set_option maxRecDepth 100000
set_option linter.all false
set_option maxHeartbeats 4000000
namespace Lk
open PySem PySem.Spec PyProof.Rows L2

abbrev Suite := Addr → Value → Option Addr → TS
/-- the ends of a suite «as n»: behind it n's slot is empty -/
def endsAs (i : Nat) (D : Ends) : Ends := { nx := fun σ H => D.nx (σ.set i none) H, rt := D.rt, bk := fun σ H => D.bk (σ.set i none) H, ct := fun σ H => D.ct (σ.set i none) H }
/-- several clauses «except C as n», the same n: one of them takes what the body raises -/
def wAsL (K : PySem.W.Frag) (i : Nat) (D : Ends) : List (Value × Suite) → WX
  | [] => fun _ _ _ _ => False
  | (c, ts) :: more => fun cls d σ H => ∃ b, PySem.W.exmOne K cls c = some b ∧ (b = true → ∀ a, H a = none → ts a cls d (endsAs i D) (σ.set i (some (.ref a))) H) ∧ (b = false → wAsL K i D more cls d σ H)
inductive HdAs (X : Cx) (n : Str) : List ExceptHandler → List (Value × Suite) → Prop
  | none : HdAs X n [] []
  | more {x : Str} {c : Value} {ts : Suite} {st : Stmt} {sts : List Stmt} {p1 p2 : Pos} {hds : List ExceptHandler} {l : List (Value × Suite)} (names : Names X x c)
      (run : ∀ (a : Addr) (oe : Obj) (cls : Value) (d : Option Addr) (pn : List (Addr × Obj)), Zc cls d oe → (∃ vs, oe.data = .fields vs) → PSs (X.suite a ((a, oe) :: pn)) (st :: sts) (ts a cls d)) (rest : HdAs X n hds l) :
      HdAs X n (.ExceptHandler (some (.Name x p1)) (some n) (st :: sts) p2 :: hds) ((c, ts) :: l)
section
variable {X : Cx} {n : Str} {i : Nat} {body : List Stmt} {hd : ExceptHandler} {hds : List ExceptHandler} {l : List (Value × Suite)} {pos : Pos} {tb : WX → TS}
theorem ps_try_asL (top : X.stack = X.env :: X.outer) (fr : X.env.frame = some X.env.locals) (nd : X.N.Nodup) (slot : X.N[i]? = some n) (loc : X.env.kindOf n = some .local)
    (bodyOk : ∀ (W : WX) (pn : List (Addr × Obj)) (xe : Value → Shared → Prop), Takes (X.tr pn xe) W → PassesOwn (model X.prog X.w) X.A X.env xe → PSs (X.tr pn xe) body (tb W)) (clauses : HdAs X n (hd :: hds) l) :
    PS X (.Try body (hd :: hds) [] [] pos) (fun D σ H => tb (wAsL X.K i D l) D σ H) := by
  constructor
  intro pins s σ H D I rd
  have xok := I.ok
  have frames : X.A.frames = some (X.env :: X.outer) := xok.frames.trans (congrArg some top)
  apply wpAny_Try_except
  let caught : Value → Shared → Prop := fun e s₁ => wpAny (model X.prog X.w) X.A (noteFrame e X.env) (fun _ s₂ => wpAny (model X.prog X.w) X.A (setFlight e none) (fun _ s₃ => wpAny (model X.prog X.w) X.A (handleBy e X.env (hd :: hds)) (SP X pins D) X.xe s₃) X.xe s₂) X.xe s₁
  have takes : Takes (X.tr (X.pn ++ pins) caught) (wAsL X.K i D l) := by
    rintro u s1 ⟨a, B, sI, pins1, σ1, H1, cls, d, rfl, J0, nb, up, sky, fresh, os, ag, want⟩
    have J : Inv X pins σ1 H1 sI := J0.ofTry xok
    rw [show (X.tr (X.pn ++ pins) caught).stack = X.stack from rfl, top] at sky
    show wpAny (model X.prog X.w) X.A (noteFrame (.ref a) X.env) _ _ _
    apply Sky.land Zc.steady frames fr sky
    intro h2 fly up2
    have J2 : Inv X pins σ1 H1 { s1 with heap := h2 } := J.landed nb fly.1 (up.trans up2) os ag
    obtain ⟨o2, vs2, at2, z2, dat2⟩ := fly.there
    have apart : a ∉ frs (X.env :: X.outer) := by
      intro hm
      obtain ⟨_, o', e', hnf⟩ := fly.2.2.1.mem hm
      rw [at2] at e'
      cases e'
      exact hnf _ dat2
    have nL : a ≠ X.env.locals := by
      rintro rfl
      exact apart (List.mem_filterMap.mpr ⟨X.env, List.mem_cons_self, fr⟩)
    have nF : a ∉ X.fs := by
      intro hm
      obtain ⟨e, he, q⟩ := List.mem_filterMap.mp hm
      exact apart (List.mem_filterMap.mpr ⟨e, List.mem_cons_of_mem _ he, q⟩)
    have S2 := J2.suite at2 dat2 fresh nL nF
    have each : ∀ {hs : List ExceptHandler} {ls : List (Value × Suite)}, HdAs X n hs ls → wAsL X.K i D ls cls d σ1 H1 → wpAny (model X.prog X.w) X.A (handleBy (.ref a) X.env hs) (SP X pins D) X.xe { s1 with heap := h2 } := by
      intro hs ls hk
      induction hk with
      | none => exact fun w => w.elim
      | @more x c ts st sts p1 p2 hds2 l2 names run rest ih =>
        rintro ⟨b, matches_, yes, no⟩
        apply wpAny_handleBy_cons (codeAny_handlers_test ?_) (by intro q; cases q)
        have looksT : PySem.W.Looks (model X.prog X.w) h2 (typeOf (.ref a)) cls := fun A Q E s k q => wpAny_typeOf_ref (k _ _ at2) (by rw [z2.1]; exact q)
        have looksM := PySem.W.exm_one (M := model X.prog X.w) J2.kIn looksT matches_
        have named : ∀ {Q : Value → Shared → Prop} {E : Value → Shared → Prop}, Q c { s1 with heap := h2 } → wpAny (model X.prog X.w) (X.A.mark (some (.ref a))) (eval (.Name x p1) X.env) Q E { s1 with heap := h2 } := by
          intro Q E q
          rcases names with ⟨hg, hdbg, hm | ⟨hm, hv, hnn⟩⟩
          · exact ld_glob (X := X.suite a ((a, o2) :: (X.pn ++ pins))) S2 hg hm q hdbg
          · exact ld_blt (X := X.suite a ((a, o2) :: (X.pn ++ pins))) S2 hg hm hv q hnn hdbg
        apply named
        apply looksM.here
        match b, yes, no with
        | false, _, no => exact ih (no rfl)
        | true, yes, _ =>
          apply codeAny_handlers_suite_as
          apply HandSPX.lands_againZ fly
          intro h3 fly3 up3
          have J3 : Inv X pins σ1 H1 { s1 with heap := h3 } := J.landed nb fly3.1 ((up.trans up2).trans up3) os ag
          obtain ⟨o3, vs3, at3, z3, dat3⟩ := fly3.there
          have S3 := J3.suite at3 dat3 fresh nL nF
          apply store_ok (X := X.suite a ((a, o3) :: (X.pn ++ pins))) (v := .ref a) S3 nd slot (.inl loc) rfl (fun s4 S4 => ?_) (.inr loc)
          apply wpAny_mono ((run a o3 cls d (X.pn ++ pins) z3 ⟨_, dat3⟩).run [] s4 _ H1 _ S4 (yes rfl a fresh)) ?_ (fun _ _ z => False.elim z)
          intro fl s5 out
          have close : ∀ {σ6 : L2.St} {H6 : Hp} {Q : Shared → Prop}, Inv (X.suite a ((a, o3) :: (X.pn ++ pins))) [] σ6 H6 s5 → (∀ s7, Inv X pins (σ6.set i Option.none) H6 s7 → Q s7) →
              wpAny (model X.prog X.w) X.A (do bindName X.env n .none; unbindBehindTheSuite X.env n p2) (fun _ s7 => Q s7) X.xe s5 := fun S6 hq => gone_ok (S6.unsuite xok) nd slot loc hq
          match fl, out with
          | .next, ⟨_, _, S6, q6⟩ => exact close S6 fun _ J7 => ⟨_, _, J7, q6⟩
          | .brk, ⟨_, _, S6, q6⟩ => exact close S6 fun _ J7 => ⟨_, _, J7, q6⟩
          | .cont, ⟨_, _, S6, q6⟩ => exact close S6 fun _ J7 => ⟨_, _, J7, q6⟩
          | .ret _, ⟨_, _, _, S6, r6, q6⟩ => exact close S6 fun _ J7 => ⟨_, _, _, J7, r6, q6⟩
    exact each clauses want
  apply wpAny_mono ((bodyOk _ _ caught takes PassesOwn.looking).run [] s σ H D (I.toTry _) rd) ?_ (fun _ _ he => he)
  intro fl s1 out
  match fl, out with
  | .next, ⟨_, _, J, q⟩ => exact wpAny_execs_nil ⟨_, _, J.ofTry xok, q⟩
  | .brk, ⟨_, _, J, q⟩ => exact ⟨_, _, J.ofTry xok, q⟩
  | .cont, ⟨_, _, J, q⟩ => exact ⟨_, _, J.ofTry xok, q⟩
  | .ret _, ⟨_, _, _, J, r, q⟩ => exact ⟨_, _, _, J.ofTry xok, r, q⟩
end
end Lk

/-! Ne0 -/
set_option Elab.async false
set_option maxRecDepth 100000
set_option linter.all false
set_option maxHeartbeats 4000000
namespace PySem
open PySem.SeqAt
section
variable {prog : Program} {w : World} {A : Around} {E : Value → Shared → Prop} {s : Shared}
theorem lk_dict_ne_str (l : Addr) (es : Array DictEntry) (n : Nat) (dd : Option Addr) (sl : Array (Option Value)) (b : Str) (u : Tok) :
    Meets (Builtin.«dict.__ne__» ⟨[.ref l, .str b u], []⟩) (fun _ R s => s.heap.get? l = some { cls := .type "dict", dict := dd, data := .dict es n, slots := sl } ∧ R (.ok (.ret .notImplemented)) s) := by
  refine .of_wp ?_
  rintro prog w A R ⟨hp, g, d, tk, os⟩ ⟨there, h⟩
  have noSub := F.sub_str_dict
  wp_walk using wpAny_loadPart' there, wpAny_load there
  exact ⟨_, rfl, h⟩
theorem lk_str_ne_dict (l : Addr) (es : Array DictEntry) (n : Nat) (dd : Option Addr) (sl : Array (Option Value)) (b : Str) (u : Tok) :
    Meets (Builtin.«str.__ne__» ⟨[.str b u, .ref l], []⟩) (fun _ R s => s.heap.get? l = some { cls := .type "dict", dict := dd, data := .dict es n, slots := sl } ∧ R (.ok (.ret .notImplemented)) s) := by
  refine .of_wp ?_
  rintro prog w A R ⟨hp, g, d, tk, os⟩ ⟨there, h⟩
  wp_walk using wpAny_loadPart' there, wpAny_load there
  exact ⟨_, rfl, h⟩
theorem lk_rc_dict_str {l : Addr} {o : Obj} {es : Array DictEntry} {n : Nat} (b : Str) (u : Tok) (ho : s.heap.get? l = some o) (hc : o.cls = .type "dict") (hd : o.data = .dict es n) (hu : A.units < cLine) {Q : Value → Shared → Prop} (h : Q (.bool true) s) :
    wpAny (model prog w) A (richCompare .NotEq (.ref l) (.str b u)) Q E s := by
  obtain ⟨cls, dd, data, sl⟩ := o
  simp only at hc hd
  subst hc hd
  refine rc_ne_decline_or (a := .ref l) (b := .str b u) (s := s) (k := false) (show s.TypeIs (.ref l) "dict" from ⟨_, ho, rfl⟩) (typeIs_str s b u) (by decide) F.sub_str_dict F.slot_dict_ne F.slot_str_ne_refl ?_ ?_ ?_ ?_ ?_
  · exact fun _ hq => call_meets F.slot_dict_ne ⟨_, ho, rfl⟩ F.entry_dict_ne (F.args_dict_ne_2 _ _) (lk_dict_ne_str l es n dd sl b u) ⟨ho, hq⟩
  · exact fun _ hq => call_meets F.slot_str_ne_refl (typeIs_str s b u) F.entry_str_ne (F.args_str_ne_2 _ _) (lk_str_ne_dict l es n dd sl b u) ⟨ho, hq⟩
  · exact fun _ hq => wpAny_of_eq (rfl : isSame (.ref l) (.str b u) = pure false) hq
  · exact .inr hu
  · exact h
end
end PySem
namespace Lk
open PySem PySem.Spec PyProof.Rows L2
/-- thing != '', thing of any form -/
def rNeE (K : PySem.W.Frag) : R2 := fun x y H Q => ∃ d, y = .str "" ∧ Th K H x d ∧ (d.hasDict = true → isDct d = true) ∧ (d.hasDict = false → SeqAt.shaped d = true) ∧ Q (.bl (!isE d)) H
theorem op_neE {X : Cx} (hu : X.A.units + 64 < cLine) : OpR X (compareOp .NotEq) (rNeE X.K) := by
  intro pins s σ H x y v u Q I rx ry h
  obtain ⟨d, rfl, ht, hd, hs, q⟩ := h
  cases e : d.hasDict with
  | false =>
    have sh := hs e
    refine op_neD hu pins s σ H x (.str "") v u Q I rx ry ⟨d, .str "", th_dp ht (SeqAt.canLay_of_shaped sh), .str _, sh, by decide +kernel, ?_⟩
    rw [eqv_empty]
    exact q
  | true =>
    have hh := hd e
    cases ht with
    | dct ha _ _ =>
      obtain ⟨t, rfl⟩ := ry
      cases rx
      obtain ⟨_, _, vs, kv, o, es, ep, ho, ex, hda, _⟩ := (show ObjOk X.prog X.w H s.heap _ (.dK _) from I.hok _ _ ha)
      exact PySem.lk_rc_dict_str _ _ ho ex.1 hda (by omega) ⟨.bl true, H, I, rfl, q⟩
    | _ => cases hh
end Lk

/-! Xr0 -/
set_option Elab.async false
set_option maxRecDepth 100000
set_option linter.all false
set_option maxHeartbeats 4000000
namespace Lk
open PySem PySem.Spec PyProof.Rows L2
/-- an own class of errors, under ValueError -/
structure Err (K : PySem.W.Frag) (mg : Str → Option Value) (x : String) (C : Addr) : Prop where
  gC : mg x = some (.ref C)
  xC : PySem.W.excIn K C [.type "ValueError", .type "Exception", .type "BaseException", .type "object"] "ValueError.__new__" = true
  kC : PySem.W.keepIn K (.ref C) = true
  bC : PySem.W.subIn K (.ref C) (.type "BaseException") = some true
  tC : PySem.W.typeIn K (.ref C) = some (.type "type")
/-- an error of the class at S, a clause that names the class at T -/
theorem exm_of {K : PySem.W.Frag} {S T : Addr} {b : Bool} (h1 : PySem.W.subIn K (.ref T) (.type "BaseException") = some true) (h2 : PySem.W.isClsIn K T = true) (h3 : PySem.W.typeIn K (.ref T) = some (.type "type")) (h4 : PySem.W.subIn K (.ref S) (.ref T) = some b) :
    PySem.W.exmOne K (.ref S) (.ref T) = some b := by
  have e1 : (PySem.W.subIn K (.ref T) (.type "BaseException") == some true) = true := by rw [h1] <;> rfl
  have e2 : ((PySem.W.clsIn K T).isSome && PySem.W.typeIn K (.ref T) == some (.type "type")) = true := by
    have h2' : (PySem.W.clsIn K T).isSome = true := h2
    rw [h2', h3] <;> rfl
  show (if (PySem.W.subIn K (.ref T) (.type "BaseException") == some true) = true then (if ((PySem.W.clsIn K T).isSome && PySem.W.typeIn K (.ref T) == some (.type "type")) = true then PySem.W.subIn K (.ref S) (.ref T) else none) else none) = some b
  rw [if_pos e1, if_pos e2]
  exact h4
section
variable {X : Cx} {C : Addr} {W : WX} {x : String}
/-- raise C('m') -/
theorem ps_err (R : Err X.K X.mg x C) (calm : X.calm = true) (tk : Takes X W) {m : Str} {j : Nat} {p p2 p3 pos : Pos} (hg : Gl X x := by rfl) (hdb : ((x : Str) == ("__debug__" : Str)) = false := by decide) :
    PS X (.Raise (some (.Call (.Name x p) [.Constant (.str m) j p2] [] p3)) none pos) (fun _ σ H => W (.ref C) none σ H) :=
  ps_raise calm tk (pmk_own PySem.F.excBase_ValueError R.xC R.gC R.kC (raises_own R.bC R.tC) hg hdb)
end
/-- a def that may raise, called by its name -/
structure CalX (P : Program) (w : World) (K : PySem.W.Frag) (mg : Str → Option Value) (base : Heap) (k : Nat) (x : String) (sp : Sp) : Prop where
  ex : ∃ (f : Addr) (fd : FuncData) (ps : List Str), FnOk P w K mg base (L2.CX P w) k f fd ps sp ∧ mg x = some (.ref f) ∧ PySem.W.keepIn K (.ref f) = true ∧ Binds K fd ps []
section
variable {P : Program} {w : World} {K : PySem.W.Frag} {mg : Str → Option Value} {base : Heap}
theorem mkCalX {x : String} {st : Stmt} {N ps : List Str} {k : Nat} {sp : Sp} (D : Def1 K mg x st) (S : FnScope N ps (defScope st))
    (hb : ∀ (kV doc pm : Value) (an : Option Addr) (cdv ct : Value) (us : List Value), us.length = ps.length → bindArgs (PySem.W.fnOf x x (defArgs st) (defBody st) (defScope st) .none kV doc pm an cdv ct) ⟨us, []⟩ = pure (ps.zip us))
    (len : ∀ vs H Q E, sp vs H Q E → vs.length = ps.length)
    (hbody : ∀ (f : Addr) (cdv : Value) (A : Around) (outer : List Env) (s : Shared) (H : Hp) (vs : List V) (Q : VK) (E : XK), Room k (A.deeper (envOfC x (defScope st) s.heap.objs.size f cdv)) → sp vs H Q E →
      ∃ t, PSs (cxOf (L2.CX P w) P w K mg base N x (defScope st) f cdv A outer s H E) (defBody st) t ∧ t { nx := fun _ H' => Q .non H', rt := Q } (start N vs) H) : CalX P w K mg base (k + 1) x sp := by
  obtain ⟨f, fd, F, m⟩ := D.ex
  exact ⟨f, fd, ps, F.okX S len fun cdv A outer s H vs Q E hr h => hbody f cdv A outer s H vs Q E hr h, m, F.kp, F.binds hb⟩
end
section
variable {X : Cx} {k j : Nat} {x : String} {sp : Sp} {p pos : Pos} {e : Expr} {es : List Expr} {t : TA}
/-- called in a def that lets its errors out -/
theorem pe_calX {E : XK} (c : CalX X.prog X.w X.K X.mg X.base k x sp) (hr : Room j X.A) (hk : k ≤ j) (tk : Takes X (fun cls d _ H => E cls d H)) (ha : PA X (e :: es) t) (hg : Gl X x := by rfl)
    (hdb : ((x : Str) == ("__debug__" : Str)) = false := by decide) (he : starEach (e :: es) X.env = (false, eval e X.env) :: starEach es X.env := by rfl) (hpl : (backTo pos (starEach es X.env)).any (·.1) = false := by rfl) :
    PE X (.Call (.Name x p) (e :: es) [] pos) (tCall sp [] E t) := by
  obtain ⟨f, fd, ps, F, m, kp, b⟩ := c.ex
  exact pe_call F (hr.mono hk) hg m kp b .nil (passes_call tk fun _ _ _ _ h => h) ha hdb he hpl
/-- called in a try's body -/
theorem pe_calT {W : WX} (c : CalX X.prog X.w X.K X.mg X.base k x sp) (hr : Room j X.A) (hk : k ≤ j) (tk : Takes X W) (ha : PA X (e :: es) t) (hg : Gl X x := by rfl)
    (hdb : ((x : Str) == ("__debug__" : Str)) = false := by decide) (he : starEach (e :: es) X.env = (false, eval e X.env) :: starEach es X.env := by rfl) (hpl : (backTo pos (starEach es X.env)).any (·.1) = false := by rfl) :
    PE X (.Call (.Name x p) (e :: es) [] pos) (tCallS sp (WE W) t) := by
  obtain ⟨f, fd, ps, F, m, kp, b⟩ := c.ex
  exact pe_callS F (hr.mono hk) hg m kp b (fun σ => passAt tk σ) ha hdb he hpl
/-- a def that asks for no guard on the stack -/
theorem pe_calG (c : CalG X.prog X.w X.K X.mg X.base CX0 k x sp) (hr : Room j X.A) (hk : k ≤ j) (gd : X.A.guards = some []) (ha : PA X (e :: es) t) (hg : Gl X x := by rfl)
    (hdb : ((x : Str) == ("__debug__" : Str)) = false := by decide) (he : starEach (e :: es) X.env = (false, eval e X.env) :: starEach es X.env := by rfl) (hpl : (backTo pos (starEach es X.env)).any (·.1) = false := by rfl) :
    PE X (.Call (.Name x p) (e :: es) [] pos) (tCall sp [] E0 t) := by
  obtain ⟨f, fd, ps, F, m, kp, b⟩ := c.ex
  refine ⟨fun pins s σ H Q I h => ?_⟩
  refine wpAny_Call_Name_kw (ld_glob I hg m ?_ hdb)
  refine PySem.W.callWith_K (h₀ := X.base) I.ok.mod.kin kp (thn (ha.run pos pins s σ H _ I h) fun us s1 ⟨vs, H1, I1, r, q⟩ => ⟨I1.kIn, ?_⟩) he hpl
  replace q : sp (vs ++ []) H1 Q E0 := q
  rw [List.append_nil] at q
  have hl : us.length = ps.length := by rw [← r.length]; exact F.len _ _ _ _ q
  have b2 := b s1 us I1.kIn (by rw [List.append_nil]; exact hl)
  rw [List.append_nil] at b2
  refine wpAny_call (codeAny_mono (F.go X.A X.stack s1 H1 ⟨us, []⟩ us vs Q E0 (hr.mono hk) gd I1.env0 b2 r q) fun r' s' hq => ?_)
  cases r' with
  | error e' => exact pass0 pins σ H1 s1 e' s' I1 hq
  | ok fl =>
    cases fl with
    | ret u => exact I1.after hq
    | next => exact False.elim hq
    | brk => exact False.elim hq
    | cont => exact False.elim hq
end
/-! ### data stands when the pot changes -/
def potLike : List PyData → Bool
  | [_, .int _, .int _, .int _] => true
  | _ => false
mutual
def noPot : PyData → Bool
  | .none | .bool _ | .int _ | .str _ => true
  | .list xs => !potLike xs && noPotAll xs
  | .tuple xs => noPotAll xs
  | .dict kvs => noPotKv kvs
def noPotAll : List PyData → Bool
  | [] => true
  | x :: xs => noPot x && noPotAll xs
def noPotKv : List (PyData × PyData) → Bool
  | [] => true
  | (_, v) :: r => noPot v && noPotKv r
end
theorem noPotKv_map : ∀ ds : List (PyData × PyData), noPotAll (ds.map (·.2)) = noPotKv ds
  | [] => rfl
  | (k, v) :: r => by
    show (noPot v && noPotAll (r.map (·.2))) = (noPot v && noPotKv r)
    rw [noPotKv_map r]
theorem potLike_of {K : PySem.W.Frag} {H : Hp} {x : V} {i a b : Int} : ∀ {ds : List PyData}, ThAll K H [x, .int i, .int a, .int b] ds → potLike ds = true
  | _, .cons _ (.cons (.int _) (.cons (.int _) (.cons (.int _) .nil))) => rfl
theorem th_ext {K : PySem.W.Frag} {p c : Addr} {H H' : Hp} (hP : PotAt p c H) (e : Ext p c H H') {v : V} {d : PyData} (h : Th K H v d) : noPot d = true → Th K H' v d := by
  obtain ⟨_, ⟨i, a, b, hp⟩, _⟩ := hP
  refine Th.rec (motive_1 := fun v d _ => noPot d = true → Th K H' v d) (motive_2 := fun vs ds _ => noPotAll ds = true → ThAll K H' vs ds) ?_ ?_ ?_ ?_ ?_ ?_ ?_ ?_ ?_ h
  · exact fun _ => .non
  · exact fun b _ => .bl b
  · exact fun i _ => .int i
  · exact fun x _ => .str x
  · intro q xs ds hs ha ih n
    have n2 : potLike ds = false ∧ noPotAll ds = true := by simpa only [noPot, Bool.and_eq_true, Bool.not_eq_true'] using n
    by_cases z : q = p
    · rcases hs with (hs | ⟨o, hs⟩) | hs
      · rw [z, hp] at hs
        cases hs
        rw [potLike_of ha] at n2
        cases n2.1
      · rw [z, hp] at hs
        cases hs
      · exact .lst (.inr hs) (ih n2.2)
    · exact .lst (e.seq z hs) (ih n2.2)
  · intro q xs ds hs ha ih n
    have n2 : noPotAll ds = true := by simpa only [noPot] using n
    by_cases z : q = p
    · rcases hs with (hs | ⟨o, hs⟩) | hs
      · rw [z, hp] at hs
        cases hs
      · rw [z, hp] at hs
        cases hs
      · exact .tup (.inr hs) (ih n2)
    · exact .tup (e.seqT z hs) (ih n2)
  · intro q kvs ds hs _ ek ih n
    have n2 : noPotAll (ds.map (·.2)) = true := by
      rw [noPotKv_map]
      simpa only [noPot] using n
    by_cases z : q = p
    · rw [z, hp] at hs
      cases hs
    · exact .dct (e.get hs z) (ih n2) ek
  · exact fun _ => .nil
  · intro v vs d ds _ _ i1 i2 n
    have n2 : noPot d = true ∧ noPotAll ds = true := by simpa only [noPotAll, Bool.and_eq_true] using n
    exact .cons (i1 n2.1) (i2 n2.2)
theorem thAll_ext {K : PySem.W.Frag} {p c : Addr} {H H' : Hp} (hP : PotAt p c H) (e : Ext p c H H') : ∀ {vs : List V} {ds : List PyData}, ThAll K H vs ds → noPotAll ds = true → ThAll K H' vs ds
  | _, _, .nil, _ => .nil
  | _ :: _, d :: ds, .cons h t, n => by
    have n2 : noPot d = true ∧ noPotAll ds = true := by simpa only [noPotAll, Bool.and_eq_true] using n
    exact .cons (th_ext hP e h n2.1) (thAll_ext hP e t n2.2)
end Lk

/-! Clr0 -/
set_option Elab.async false
set_option maxRecDepth 100000
set_option linter.all false
set_option maxHeartbeats 4000000
namespace Lk
open PySem PySem.Spec PyProof.Rows L2
structure Wf0 (d : PyData) : Prop where
  sh : d.showable = true
  lv : d.leavesShort 13 = true
  bk : d.bulk ≤ 1000000
  dp : d.depth ≤ 60
theorem Wf.wf0 {d : PyData} (h : Wf d) : Wf0 d := ⟨h.sh, h.lv, h.bk, h.dp⟩
/-- its lists are not the table of modules -/
inductive Clr (K : PySem.W.Frag) (H : Hp) : V → PyData → Prop
  | flat {v : V} {d : PyData} : Th K H v d → noLst d = true → Clr K H v d
  | lst {p : Addr} {xs : List V} {ds : List PyData} : SqL K H p xs → (p == sysModules) = false → ThAll K H xs ds → noLstAll ds = true → Clr K H (.ref p) (.list ds)
  | two {q : Addr} {v1 v2 : V} {d1 d2 : PyData} : SqT K H q [v1, v2] → Clr K H v1 d1 → Clr K H v2 d2 → Clr K H (.ref q) (.tuple [d1, d2])
section
variable {X : Cx} {pins : List (Addr × Obj)} {σ : L2.St} {H : Hp} {s : Shared}
theorem all_reads (I : Inv X pins σ H s) : ∀ {vs : List V} {ds : List PyData}, ThAll X.K H vs ds → noLstAll ds = true → ∀ us, Vals vs us → ∃ as, ReadsAll s.heap us ds as ∧ sysModules ∉ as
  | _, _, .nil, _, us, r => by
    cases r
    exact ⟨_, ReadsAll.nil, fun h => nomatch h⟩
  | _ :: _, d :: ds, .cons h t, n, us, r => by
    have n2 : noLst d = true ∧ noLstAll ds = true := by simpa [noLstAll] using n
    cases r with
    | cons r1 r2 =>
      obtain ⟨as, q1, m1⟩ := th_reads I h _ r1
      obtain ⟨bs, q2, m2⟩ := all_reads I t n2.2 _ r2
      refine ⟨_, ReadsAll.cons q1 q2, fun hm => ?_⟩
      rcases List.mem_append.mp hm with hm | hm
      · exact m1 n2.1 hm
      · exact m2 hm
theorem clr_reads (I : Inv X pins σ H s) {v : V} {d : PyData} (h : Clr X.K H v d) : ∀ u, RelV v u → ∃ as, Reads s.heap u d as ∧ sysModules ∉ as := by
  induction h with
  | flat h n =>
    intro u r
    obtain ⟨as, q, m⟩ := th_reads I h u r
    exact ⟨as, q, m n⟩
  | lst hs hp ha n =>
    intro u r
    cases r
    obtain ⟨its, rv, ⟨o, k, ho, hc, _, hd⟩, _⟩ := I.list hs
    obtain ⟨as, hr, m⟩ := all_reads I ha n its rv
    refine ⟨_, Reads.list ho hc hd hr, fun hm => ?_⟩
    rcases List.mem_cons.mp hm with hm | hm
    · rw [hm] at hp
      exact absurd hp (by simp)
    · exact m hm
  | two hs _ _ ih1 ih2 =>
    intro u r
    cases r
    obtain ⟨its, rv, ⟨o, ho, hc, n, hd⟩, _⟩ := I.tuple hs
    cases rv with
    | cons r1 rr =>
      cases rr with
      | cons r2 rz =>
        cases rz
        obtain ⟨as, q1, m1⟩ := ih1 _ r1
        obtain ⟨bs, q2, m2⟩ := ih2 _ r2
        refine ⟨_, Reads.tuple ho hc hd (ReadsAll.cons q1 (ReadsAll.cons q2 ReadsAll.nil)), fun hm => ?_⟩
        rcases List.mem_append.mp hm with hm | hm
        · exact m1 hm
        · rcases List.mem_append.mp hm with hm | hm
          · exact m2 hm
          · exact nomatch hm
def rReprC (K : PySem.W.Frag) : List V → Hp → VK → Prop := fun xs H Q => ∃ v d, xs = [v] ∧ Th K H v d ∧ Wf0 d ∧ (d.hasDict = true → Clr K H v d) ∧ Q (.str d.shown) H
theorem call_reprC (hg : X.A.guards = some []) (hu : X.A.units + 64 < cLine) : CallR X (.builtin "repr") (rReprC X.K) := by
  intro pins s σ H xs us Q I r h
  obtain ⟨v, d, rfl, ht, hw, hc, q⟩ := h
  cases r with
  | cons r1 rr =>
    cases rr
    obtain ⟨as, hr, hsm⟩ : ∃ as, Reads s.heap _ d as ∧ (d.hasDict = true → sysModules ∉ as) := by
      cases e : d.hasDict with
      | true =>
        obtain ⟨as, a, b⟩ := clr_reads I (hc e) _ r1
        exact ⟨as, a, fun _ => b⟩
      | false =>
        obtain ⟨as, a, b⟩ := th_reads I ht _ r1
        exact ⟨as, a, fun z => nomatch z⟩
    have hz : d.shown.length ≤ sizeLine := PyData.shown_fits_bulk (B := 13) (by decide) (by decide) hw.lv (Nat.le_trans hw.bk (by decide))
    have fin : ∀ (h' : Heap) (u tk : Nat), (∀ b o, s.heap.get? b = some o → h'.get? b = some o) → EP X pins σ Q (.str d.shown u) { s with heap := h', toks := tk } := fun h' u tk k => ⟨.str d.shown, H, I.kept (t' := tk) k, ⟨u, rfl⟩, q⟩
    have hd := hw.dp
    cases hr with
    | none => exact PySem.P.repr_of_none (fin s.heap _ _ fun _ _ e => e)
    | bool b => exact PySem.P.repr_of_bool (fin s.heap _ _ fun _ _ e => e)
    | int i t => exact PySem.P.repr_of_int (by simpa [PyData.showable] using hw.sh) (fin s.heap _ _ fun _ _ e => e)
    | str x t => exact PySem.P.repr_of_str (fin s.heap _ _ fun _ _ e => e) hz
    | list h1 h2 h3 h4 => exact repr_of_reads' (.list h1 h2 h3 h4) hw.sh hsm hg (by omega) (fun _ _ e => e) (fun h' u tk k => fin h' u tk k) hz
    | tuple h1 h2 h3 h4 => exact repr_of_reads' (.tuple h1 h2 h3 h4) hw.sh hsm hg (by omega) (fun _ _ e => e) (fun h' u tk k => fin h' u tk k) hz
    | dict h1 h2 h3 h4 h5 => exact repr_of_reads' (.dict h1 h2 h3 h4 h5) hw.sh hsm hg (by omega) (fun _ _ e => e) (fun h' u tk k => fin h' u tk k) hz
/-- a list display; the new list is not the table of modules -/
def tLstS (t : TA) : TE := fun σ H Q => t σ H fun xs H1 => xs.length ≤ sizeLine ∧ ∀ p, H1 p = none → (p == sysModules) = false → Q (.ref p) (upd H1 p (.lst xs))
theorem pe_lstS {es : List Expr} {t : TA} {pos : Pos} (h : PA X es t) : PE X (.List es pos) (tLstS t) := by
  refine ⟨fun pins s σ H Q I hq => ?_⟩
  refine wpAny_List_spliced (thn (h.run pos pins s σ H _ I hq) fun us s1 ⟨xs, H1, I1, r, z, q⟩ => ⟨by rw [← r.length]; exact z, ?_⟩)
  have hf : H1 s1.heap.objs.size = none := I1.hok.fresh (Nat.le_refl _)
  have hm : (s1.heap.objs.size == sysModules) = false := beq_eq_false_iff_ne.mpr (Nat.ne_of_gt I1.big)
  refine ⟨.ref s1.heap.objs.size, upd H1 s1.heap.objs.size (.lst xs), I1.laid (t' := s1.toks) (fun b u e => Heap.get?_push_of_some _ e) (Nat.le_refl _) ?_, rfl, q _ hf hm⟩
  exact ⟨z, us, 0, r, Heap.get?_push_size _ rfl⟩
end
theorem Clr.same {K : PySem.W.Frag} {H H' : Hp} (s : Same H H') {v : V} {d : PyData} (h : Clr K H v d) : Clr K H' v d := by
  induction h with
  | flat h n => exact .flat (th_same s h) n
  | lst hs hp ha n => exact .lst (s.seq hs) hp (thAll_same s ha) n
  | two hs _ _ i1 i2 => exact .two (Same.seqT s hs) i1 i2
end Lk

/-! SetG0 -/
set_option Elab.async false
set_option maxRecDepth 100000
set_option linter.all false
set_option maxHeartbeats 4000000
namespace Lk
open PySem PySem.Spec PyProof.Rows L2
/-! ### a set whose members are told by keys, with a table that can be walked -/
section
variable {P : Program} {w : World} {κ : Type} [DecidableEq κ] {knd : KeyKind P w κ}
/-- the entries l bear the keys ks, none twice -/
def Keyed (knd : KeyKind P w κ) (l : List (Int × Value)) (ks : List κ) : Prop :=
  ∃ f : Int × Value → κ, (∀ e ∈ l, (knd.is (f e) e.2 = true ∧ e.1 = knd.hash (f e)) ∧ e.2.scannable = true) ∧ (l.map f).Perm ks ∧ ks.Nodup
theorem Keyed.elems {l : List (Int × Value)} {ks : List κ} (h : Keyed knd l ks) : ElemsOf knd l := by
  obtain ⟨f, g, _⟩ := h
  exact fun e he => ⟨⟨f e, (g e he).1⟩, (g e he).2⟩
theorem Keyed.mem {l : List (Int × Value)} {ks : List κ} (h : Keyed knd l ks) (k : κ) : k ∈ ks ↔ ∃ e ∈ l, knd.is k e.2 = true := by
  obtain ⟨f, g, pm, _⟩ := h
  rw [← pm.mem_iff, List.mem_map]
  constructor
  · rintro ⟨e, he, rfl⟩
    exact ⟨e, he, (g e he).1.1⟩
  · rintro ⟨e, he, q⟩
    rw [KeyKind.is_eq_decide (g e he).1.1 k, decide_eq_true_eq] at q
    exact ⟨e, he, q.symm⟩
theorem Keyed.perm {l l' : List (Int × Value)} {ks : List κ} (h : Keyed knd l ks) (p : l'.Perm l) : Keyed knd l' ks := by
  obtain ⟨f, g, pm, nd⟩ := h
  exact ⟨f, fun e he => g e (p.mem_iff.mp he), (p.map f).trans pm, nd⟩
theorem Keyed.len {l : List (Int × Value)} {ks : List κ} (h : Keyed knd l ks) : l.length = ks.length := by
  obtain ⟨f, _, pm, _⟩ := h
  rw [← pm.length_eq, List.length_map]
theorem Keyed.more {l : List (Int × Value)} {ks : List κ} {k : κ} {x : Value} (h : Keyed knd l ks) (hx : knd.is k x = true) (sx : x.scannable = true) (n : k ∉ ks) : Keyed knd ((knd.hash k, x) :: l) (k :: ks) := by
  have no : ∀ e ∈ l, knd.is k e.2 = false := fun e he => by
    cases q : knd.is k e.2 with
    | false => rfl
    | true => exact absurd ((h.mem k).2 ⟨e, he, q⟩) n
  obtain ⟨f, g, pm, nd⟩ := h
  obtain ⟨F, F0, F1⟩ : ∃ F : Int × Value → κ, F (knd.hash k, x) = k ∧ ∀ e ∈ l, F e = f e := ⟨fun e => if knd.is k e.2 = true then k else f e, if_pos hx, fun e he => if_neg (by rw [no e he]; exact Bool.false_ne_true)⟩
  refine ⟨F, fun e he => ?_, ?_, List.nodup_cons.mpr ⟨n, nd⟩⟩
  · rcases List.mem_cons.mp he with rfl | he
    · rw [F0]
      exact ⟨⟨hx, rfl⟩, sx⟩
    · rw [F1 e he]
      exact g e he
  · rw [List.map_cons, F0, List.map_congr_left F1]
    exact pm.cons k
def GSet (knd : KeyKind P w κ) (h : Heap) (a : Addr) (ks : List κ) : Prop :=
  ∃ o es ep t, h.get? a = some o ∧ o.ExactSet ∧ o.data = .set es ep t ∧ Keyed knd es.toList ks ∧ es.size < scanBound ∧ t.fits es.size = true ∧ Ris t.place.toList ∧ (w.params.followText "set-order" = true ∨ t.led = true)
theorem GSet.at {h h' : Heap} {a : Addr} {ks : List κ} (R : GSet knd h a ks) (k : ∀ o, h.get? a = some o → h'.get? a = some o) : GSet knd h' a ks := by
  obtain ⟨o, es, ep, t, ho, r⟩ := R
  exact ⟨o, es, ep, t, k o ho, r⟩
end
section
variable {P : Program} {w : World} {κ : Type} [DecidableEq κ] {knd : KeyKind P w κ} {A : Around} {E : Value → Shared → Prop} {s : Shared} {a : Addr} {ks : List κ}
/-- the store behind an add, and the wider table where it is too full -/
theorem gset_tail {g : Bool → Sem Unit} (quiet : ∀ (b : Bool) (s₁ : Shared) (Q' : Unit → Shared → Prop), Q' () s₁ → wpAny (model P w) A (g b) Q' E s₁) {o : Obj} {es es1 : Array (Int × Value)} {ep : Nat} {t t1 : SetTable} {ls : List κ}
    (there : s.heap.get? a = some o) (ex : o.ExactSet) (dat : o.data = .set es ep t) (ky : Keyed knd es1.toList ls) (few : es1.size < scanBound) (fit : t1.fits es1.size = true) (ris : Ris t1.place.toList) (led : w.params.followText "set-order" = true ∨ t1.led = true) {dummy : Bool} {R : Option Bool → Shared → Prop}
    (done : ∀ h', Heap.SameBut a s.heap h' → GSet knd h' a ls → R (some true) { s with heap := h' }) :
    wpAny (model P w) A (do
        storeSet a es1 t1
        if (!dummy && t1.tooFull) = true then do
            g (relayAll t1 es1 (SetTable.grown es1.size)).2.2
            storeSet a (relayAll t1 es1 (SetTable.grown es1.size)).1 (relayAll t1 es1 (SetTable.grown es1.size)).2.1
            pure (some true)
          else pure (some true)) R E s := by
  have at1 := store_at (es' := es1) (t' := t1) there dat
  have but1 := Heap.SameBut.update s.heap a (Obj.putSet es1 t1)
  refine wpAny_bind (wpAny_storeSet_of there dat ?_ (fits_of_scanBound few))
  split
  · obtain ⟨pm, ft, rs, ld⟩ := (⟨relayAll_perm t1 es1 (SetTable.grown es1.size), relayAll_fits t1 es1 (SetTable.grown es1.size), relayAll_ris t1 es1 (SetTable.grown es1.size), relayAll_led t1 es1 (SetTable.grown es1.size)⟩ :
      (relayAll t1 es1 (SetTable.grown es1.size)).1.toList.Perm es1.toList ∧ (relayAll t1 es1 (SetTable.grown es1.size)).2.1.fits (relayAll t1 es1 (SetTable.grown es1.size)).1.size = true ∧ Ris (relayAll t1 es1 (SetTable.grown es1.size)).2.1.place.toList ∧ (relayAll t1 es1 (SetTable.grown es1.size)).2.1.led = t1.led)
    revert pm ft rs ld
    generalize relayAll t1 es1 (SetTable.grown es1.size) = Z
    intro pm ft rs ld
    have few2 : Z.1.size < scanBound := by rw [← Array.length_toList, pm.length_eq, Array.length_toList]; exact few
    refine wpAny_bind (quiet _ _ _ (wpAny_bind (wpAny_storeSet_of at1 rfl ?_ (fits_of_scanBound few2))))
    exact wpAny_pure (done _ (but1.trans (Heap.SameBut.update _ a _)) ⟨_, _, _, _, store_at (es' := Z.1) (t' := Z.2.1) at1 rfl, ex, rfl, ky.perm pm, few2, ft, rs, led.imp id fun z => by rw [ld]; exact z⟩)
  · exact wpAny_pure (done _ but1 ⟨_, _, _, _, at1, ex, rfl, ky, few, fit, ris, led⟩)
/-- one more into the set -/
theorem gset_add {k : κ} {x : Value} {Q : Bool → Shared → Prop} (R : GSet knd s.heap a ks) (hx : knd.is k x = true) (sx : x.scannable = true) (room : ks.length + 1 < scanBound)
    (old : k ∈ ks → Q false s) (new : k ∉ ks → ∀ h', Heap.SameBut a s.heap h' → GSet knd h' a (k :: ks) → Q true { s with heap := h' }) : wpAny (model P w) A (setAddHashed a x (knd.hash k)) Q E s := by
  obtain ⟨o, es, ep, t, there, ex, dat, ky, few, fit, ris, led⟩ := R
  have el := ky.elems
  unfold setAddHashed setAddHashedIn
  refine wpAny_holding (wpAny_bind (wpAny_setState_of there dat fit ?_))
  dsimp only
  rw [byScan_of sx few el]
  simp only [↓reduceIte]
  unfold setAddByScan
  refine wpAny_bind (wpAny_bind (wpAny_rule (wpAny_bind (wpAny_setScan_of hx there dat fit el ?_))))
  cases found : List.findIdx? (fun e => knd.is k e.2) es.toList with
  | some j =>
    obtain ⟨hj, pj, _⟩ := List.findIdx?_eq_some_iff_getElem.mp found
    exact wpAny_pure (wpAny_pure (old ((ky.mem k).2 ⟨_, List.getElem_mem hj, pj⟩)))
  | none =>
    have nk : k ∉ ks := fun z => by
      obtain ⟨e, he, q⟩ := (ky.mem k).1 z
      have c := List.findIdx?_eq_none_iff.mp found e he
      rw [q] at c
      cases c
    dsimp only
    have gaveWay : ∀ (b : Bool) {s₁ : Shared} {Q' : Unit → Shared → Prop}, Q' () s₁ → wpAny (model P w) A (match b with | true => rule "set.scan.the-table-gave-way" | false => pure ()) Q' E s₁ := fun b s₁ Q' q => by
      cases b
      · exact wpAny_pure q
      · exact wpAny_rule q
    have pm := layNew_perm t es (knd.hash k) x
    have ft := layNew_fits t es (knd.hash k) x
    have rs := layNew_ris t es (knd.hash k) x ris
    have ld := layNew_led t es (knd.hash k) x
    generalize layNew t es (knd.hash k) x = Z at pm ft rs ld ⊢
    obtain ⟨es1, t1, dummy, gave⟩ := Z
    dsimp only at pm ft rs ld ⊢
    rw [Array.toList_push] at pm
    have pc : es1.toList.Perm ((knd.hash k, x) :: es.toList) := pm.trans (List.perm_append_singleton _ _)
    have ky1 : Keyed knd es1.toList (k :: ks) := (ky.more hx sx nk).perm pc
    have few1 : es1.size < scanBound := by
      rw [← Array.length_toList, ky1.len, List.length_cons]
      exact room
    have led1 : w.params.followText "set-order" = true ∨ t1.led = true := led.imp id fun z => by rw [ld]; exact z
    refine wpAny_bind (gaveWay _ ?_)
    split
    · refine wpAny_bind ?_
      rw [hashByValue_scannable 8 sx]
      refine wpAny_pure ?_
      refine gset_tail (knd := knd) (ls := k :: ks) (fun b s₁ Q' q => gaveWay b q) there ex dat ky1 few1 ?_ ?_ ?_ fun h' sb r => by dsimp only; exact wpAny_pure (new nk h' sb r)
      · first | exact ft | (split <;> first | exact ft | exact SetTable.fits_plain_off ft)
      · first | exact rs | (split <;> exact rs)
      · first | exact led1 | (split <;> exact led1)
    · refine wpAny_bind (wpAny_pure ?_)
      simp only [↓reduceIte]
      exact gset_tail (knd := knd) (ls := k :: ks) (fun b s₁ Q' q => gaveWay b q) there ex dat ky1 few1 ft rs led1 fun h' sb r => by dsimp only; exact wpAny_pure (new nk h' sb r)
end
end Lk

/-! SetG1 -/
set_option Elab.async false
set_option maxRecDepth 100000
set_option linter.all false
set_option maxHeartbeats 4000000
namespace Lk
open PySem PySem.Spec PyProof.Rows L2
section
variable {P : Program} {w : World} {κ : Type} [DecidableEq κ] {knd : KeyKind P w κ} {A : Around} {E : Value → Shared → Prop} {s : Shared}
/-- s.update(..), turn by turn: the keys so far -/
theorem gset_loop {I S : Addr} {fp wr : List Addr} {G : Array GenState → Array GenState → Prop} {n : Nat} {Pv : Nat → Value → Prop} {St : Nat → Shared → Prop} {R : Result → Shared → Prop} (W : WalksS P w A.in1 I fp wr G n Pv St) (apart : S ∉ fp) {ks : List κ}
    (len : n = ks.length) (room : ks.length + 1 < scanBound) (item : ∀ i v, Pv i v → ∃ k, ks[i]? = some k ∧ knd.is k v = true ∧ v.scannable = true)
    (done : ∀ s' us, Moved (S :: wr) G s s' → GSet knd s'.heap S us → (∀ k, k ∈ us ↔ k ∈ ks) → R (.ok (.ret .none)) s') :
    ∀ (m i : Nat) (s1 : Shared) (us : List κ), n - i = m → i ≤ n → St i s1 → Moved (S :: wr) G s s1 → GSet knd s1.heap S us → (∀ k, k ∈ us ↔ k ∈ ks.take i) → us.length ≤ i →
      codeAny (model P w) A (.builtin "set.update.loop" ⟨[.ref S, .ref I], []⟩) R s1 := by
  have aw : S ∉ wr := fun z => apart (W.sub _ z)
  have up : ∀ b ∈ wr, b ∈ S :: wr := fun b hb => List.mem_cons_of_mem _ hb
  intro m
  induction m with
  | zero =>
    intro i s1 us em hi st mv R1 mem _
    have ei : i = n := by omega
    rw [ei] at st mem
    refine codeAny_builtin F.entry_set_update_loop ?_
    rw [Around.under_plainId F.plain_set_update_loop _]
    show wpAny _ A.in1 (pyNext (.ref I) >>= _) _ _ s1
    refine wpAny_bind (W.done s1 _ _ st fun s2 mv2 => ?_)
    show wpAny _ A.in1 (ret Value.none) _ _ s2
    rw [List.take_of_length_le (Nat.le_of_eq len.symm)] at mem
    exact wpAny_pure (done s2 us (Moved.trans W.gtrans mv (mv2.mono up)) (R1.at fun o e => mv2.heap S o aw e) mem)
  | succ m ih =>
    intro i s1 us em hi st mv R1 mem few
    have lt : i < n := by omega
    refine codeAny_builtin F.entry_set_update_loop ?_
    rw [Around.under_plainId F.plain_set_update_loop _]
    show wpAny _ A.in1 (pyNext (.ref I) >>= _) _ _ s1
    refine wpAny_bind (W.item i s1 _ _ lt st fun v s2 pv st2 mv2 => ?_)
    obtain ⟨k, hk, iv, sv⟩ := item i v pv
    have R2 := R1.at (h' := s2.heap) fun o e => mv2.heap S o aw e
    have next : ∀ j, j ∈ ks.take (i + 1) ↔ j ∈ ks.take i ∨ j = k := fun j => by
      rw [List.take_add_one, hk]
      simp [List.mem_append]
    show wpAny _ A.in1 (holding [v] (setAdd S v) >>= _) _ _ s2
    refine wpAny_bind (wpAny_holding ?_)
    unfold setAdd
    refine wpAny_holding (wpAny_bind (knd.pyHash iv ?_))
    have mv12 := Moved.trans W.gtrans mv (mv2.mono up)
    refine gset_add (s := { s2 with toks := s2.toks + 1 }) R2 iv sv (by omega) (fun old => ?_) fun nk h3 sb R3 => ?_
    · refine wpAny_pure ⟨plainId_quiet F.plain_set_update_loop _, ih (i + 1) _ us (by omega) lt (W.frame _ s2 _ _ st2 (Nat.le_succ _) fun b hb o e => e) (mv12.then_heap (Nat.le_succ _) fun b o hb e => e) R2 (fun j => ?_) (by omega)⟩
      rw [next j, mem j]
      exact ⟨.inl, fun z => z.elim id fun e => e ▸ (mem k).1 old⟩
    · refine wpAny_pure ⟨plainId_quiet F.plain_set_update_loop _, ih (i + 1) _ (k :: us) (by omega) lt (W.frame _ s2 _ _ st2 (Nat.le_succ _) fun b hb o e => ?_) (mv12.then_heap (Nat.le_succ _) fun b o hb e => ?_) R3 (fun j => ?_) (by rw [List.length_cons]; omega)⟩
      · rw [sb.2 b (fun z : b = S => apart (by rw [← z]; exact hb))]
        exact e
      · rw [sb.2 b (fun z : b = S => hb (by rw [z]; exact List.mem_cons_self))]
        exact e
      · rw [next j, List.mem_cons, mem j]
        exact Or.comm
theorem gset_loop0 {I S : Addr} {fp wr : List Addr} {G : Array GenState → Array GenState → Prop} {n : Nat} {Pv : Nat → Value → Prop} {St : Nat → Shared → Prop} {R : Result → Shared → Prop} (W : WalksS P w A.in1 I fp wr G n Pv St) (apart : S ∉ fp) {ks : List κ}
    (len : n = ks.length) (room : ks.length + 1 < scanBound) (item : ∀ i v, Pv i v → ∃ k, ks[i]? = some k ∧ knd.is k v = true ∧ v.scannable = true) (st : St 0 s) (R0 : GSet knd s.heap S [])
    (done : ∀ s' us, Moved (S :: wr) G s s' → GSet knd s'.heap S us → (∀ k, k ∈ us ↔ k ∈ ks) → R (.ok (.ret .none)) s') : codeAny (model P w) A (.builtin "set.update.loop" ⟨[.ref S, .ref I], []⟩) R s :=
  gset_loop W apart len room item done (n - 0) 0 s [] rfl (Nat.zero_le _) st (Moved.refl W.grefl) R0 (fun k => by simp) (Nat.le_refl 0)
theorem gset_new {h : Heap} {a : Addr} (ho : h.get? a = some { cls := .type "set", dict := none, data := .set #[] 0 (.fresh 0 0 (!w.params.followText "set-order")) }) (f : Int × Value → κ) : GSet knd h a [] :=
  ⟨_, #[], 0, _, ho, ⟨rfl, rfl, rfl⟩, rfl, ⟨f, fun e he => by simp at he, List.Perm.nil, List.nodup_nil⟩, by decide, by rfl, List.Pairwise.nil, by
    show _ ∨ (!w.params.followText "set-order") = true
    cases w.params.followText "set-order"
    · exact .inr rfl
    · exact .inl rfl⟩
end
end Lk

/-! SetG2 -/
set_option Elab.async false
set_option maxRecDepth 100000
set_option linter.all false
set_option maxHeartbeats 4000000
namespace Lk
open PySem PySem.Spec PyProof.Rows L2
section
variable {P : Program} {w : World} {κ : Type} [DecidableEq κ] {knd : KeyKind P w κ} {A : Around} {E : Value → Shared → Prop} {s : Shared}
set_option maxRecDepth 100000 in
theorem call_set_L {l : Addr} {items : Array Value} {ks : List κ} {Q : Value → Shared → Prop} (hh : A.handled = none) (hl : s.heap.IsList l items) (f : Int × Value → κ) (len : items.size = ks.length) (room : ks.length + 1 < scanBound)
    (item : ∀ (i : Nat) (v : Value), items[i]? = some v → ∃ k, ks[i]? = some k ∧ knd.is k v = true ∧ v.scannable = true)
    (h : ∀ (h' : Heap) (tk : Nat) (us : List κ), GSet knd h' s.heap.objs.size us → (∀ k, k ∈ us ↔ k ∈ ks) → (∀ b o, s.heap.get? b = some o → h'.get? b = some o) → Q (.ref s.heap.objs.size) { s with heap := h', toks := tk }) :
    wpAny (model P w) A (call (.type "set") [.ref l]) Q E s := by
  obtain ⟨c, tl, hmro⟩ := F.called_set.mro
  have hmade := F.called_set.made
  have hsub := F.called_set.sub
  refine wpAny_call (codeAny_of_tree ?_)
  show wpAny _ _ (callAny (.type "set") _) _ _ _
  refine wpAny_pure ⟨Code.quiet_builtin _ (by decide +kernel), codeAny_builtin F.entry_type_call ?_⟩
  rw [Around.under_plain (weight_type_call_type "set" [.ref l] []) rfl]
  have h1 := F.called_set.notType
  have h2 := F.called_set.canCreate
  have hct := F.typeCall_set_1 (.ref l)
  repeat (any_goals (first | assumption | wp_step))
  refine codeAny_mono (code_set_led1 (.ref l) (E := E) (Q₁ := fun obj s₁ => obj = .ref s.heap.objs.size ∧ s₁ = { s with heap := s.heap.push { cls := .type "set", dict := none, data := .set #[] 0 (.fresh 0 0 (!w.params.followText "set-order")) } }) ⟨rfl, rfl⟩) fun r s₁ hr => ?_
  match r, hr with
  | .error e, hr => exact hr
  | .ok .next, hr => exact hr.elim
  | .ok .brk, hr => exact hr.elim
  | .ok .cont, hr => exact hr.elim
  | .ok (.ret obj), ⟨eo, es⟩ =>
    subst eo es
    have hS : (s.heap.push { cls := .type "set", dict := none, data := .set #[] 0 (.fresh 0 0 (!w.params.followText "set-order")) }).get? s.heap.objs.size = some { cls := .type "set", dict := none, data := .set #[] 0 (.fresh 0 0 (!w.params.followText "set-order")) } := Heap.get?_push_size _ rfl
    have hT : Shared.TypeIs { s with heap := s.heap.push { cls := .type "set", dict := none, data := .set #[] 0 (.fresh 0 0 (!w.params.followText "set-order")) } } (.ref s.heap.objs.size) "set" := ⟨_, hS, rfl⟩
    have hli := F.called_set.init.lookup
    have hbi := F.called_set.init.bind (.ref s.heap.objs.size)
    repeat (any_goals (first | assumption | wp_step))
    refine codeAny_mono (codeAny_call_builtin (R := wants (fun r s₂ => r = .none ∧ ∃ h' tk us, s₂ = { s with heap := h', toks := tk } ∧ GSet knd h' s.heap.objs.size us ∧ (∀ k, k ∈ us ↔ k ∈ ks) ∧
        (∀ b o, s.heap.get? b = some o → h'.get? b = some o)) E) F.called_set.init.plain F.entry_set_init (check_set_init_1 hT ?_)) fun r₂ s₂ hr₂ => ?_
    · obtain ⟨⟨ocls, odict, odata, oslots⟩, hol, hcl, nl, hdl⟩ := hl
      simp only at hcl hdl
      subst hcl hdl
      have hol' : (s.heap.push { cls := .type "set", dict := none, data := .set #[] 0 (.fresh 0 0 (!w.params.followText "set-order")) }).get? l = some { cls := .type "list", dict := odict, data := .seq items nl, slots := oslots } := Heap.get?_push_of_some _ hol
      have hsls := F.sub_list_set
      have hslf := F.sub_list_frozenset
      have hne : (Value.type "list" == Value.type "dict") = false := by decide
      have hl1 : (s.heap.push { cls := .type "set", dict := none, data := .set #[] 0 (.fresh 0 0 (!w.params.followText "set-order")) }).IsList l items := ⟨_, hol', rfl, nl, rfl⟩
      unfold Builtin.«set.__init__» noKeywords Builtin.Frozenset.updateFrom
      generalize hPI : pyIter = PI
      wp_walk
      subst hPI
      refine wpAny_pyIter_list hl1 ?_
      refine wpAny_bind (wpAny_runValue ?_)
      have lt : l < s.heap.objs.size := Heap.lt_size hol
      have sz : (s.heap.push { cls := .type "set", dict := none, data := .set #[] 0 (.fresh 0 0 (!w.params.followText "set-order")) }).objs.size = s.heap.objs.size + 1 := Heap.size_push ..
      have quiet : A.in1.in1.in1.handled = none := by simp [hh]
      have n1 : l ≠ (s.heap.push { cls := .type "set", dict := none, data := .set #[] 0 (.fresh 0 0 (!w.params.followText "set-order")) }).objs.size := by
        rw [Heap.size_push]
        exact Nat.ne_of_lt (Nat.lt_succ_of_lt lt)
      have n2 : s.heap.objs.size ∉ [(s.heap.push { cls := .type "set", dict := none, data := .set #[] 0 (.fresh 0 0 (!w.params.followText "set-order")) }).objs.size, l] := by
        rw [Heap.size_push]
        simp only [List.mem_cons, List.not_mem_nil, or_false, not_or]
        exact ⟨Nat.ne_of_lt (Nat.lt_succ_self _), Nat.ne_of_gt lt⟩
      refine gset_loop0 (knd := knd) (ks := ks) ((Walks.list quiet _ l n1 items).toS) n2 len room item ⟨⟨_, Heap.get?_push_size _ rfl, rfl, rfl⟩, (hl1.push _)⟩ ?hS0 ?hR
      case hS0 => exact gset_new (Heap.get?_push_of_some _ hS) f
      case hR =>
        rintro ⟨h', g2, d', tk', os'⟩ us mv R2 mem
        have eg := mv.gens
        have ed := mv.drawn
        have eo := mv.os
        dsimp only at eg ed eo
        subst eg ed eo
        show wpAny _ _ _ _ _ _
        refine wpAny_pure ?_
        show wpAny _ _ (ret Value.none) _ _ _
        refine wpAny_pure ⟨rfl, h', tk', us, rfl, R2, mem, fun b o e => ?_⟩
        have lb := Heap.lt_size e
        refine mv.heap b o ?_ (Heap.get?_push_of_some _ (Heap.get?_push_of_some _ e))
        rw [Heap.size_push]
        simp only [List.mem_cons, List.not_mem_nil, or_false, not_or]
        exact ⟨Nat.ne_of_lt lb, Nat.ne_of_lt (Nat.lt_succ_of_lt lb)⟩
    · match r₂, hr₂ with
      | .error e, hr₂ => exact hr₂
      | .ok .next, hr₂ => exact hr₂.elim
      | .ok .brk, hr₂ => exact hr₂.elim
      | .ok .cont, hr₂ => exact hr₂.elim
      | .ok (.ret r), ⟨er, h', tk, us, es, R2, mem, kp⟩ =>
        subst er es
        repeat (any_goals (first | assumption | wp_step))
        exact h _ _ _ R2 mem kp
end
end Lk

/-! SetG3 -/
set_option Elab.async false
set_option maxRecDepth 100000
set_option linter.all false
set_option maxHeartbeats 4000000
namespace Lk
open PySem PySem.Spec PyProof.Rows L2
section
variable {P : Program} {w : World} {κ : Type} [DecidableEq κ] {knd : KeyKind P w κ} {A : Around} {E : Value → Shared → Prop} {s : Shared}
set_option maxRecDepth 100000 in
theorem call_set_T {l : Addr} {items : Array Value} {ks : List κ} {Q : Value → Shared → Prop} (hh : A.handled = none) (hl : s.heap.IsTuple l items) (f : Int × Value → κ) (len : items.size = ks.length) (room : ks.length + 1 < scanBound)
    (item : ∀ (i : Nat) (v : Value), items[i]? = some v → ∃ k, ks[i]? = some k ∧ knd.is k v = true ∧ v.scannable = true)
    (h : ∀ (h' : Heap) (tk : Nat) (us : List κ), GSet knd h' s.heap.objs.size us → (∀ k, k ∈ us ↔ k ∈ ks) → (∀ b o, s.heap.get? b = some o → h'.get? b = some o) → Q (.ref s.heap.objs.size) { s with heap := h', toks := tk }) :
    wpAny (model P w) A (call (.type "set") [.ref l]) Q E s := by
  obtain ⟨c, tl, hmro⟩ := F.called_set.mro
  have hmade := F.called_set.made
  have hsub := F.called_set.sub
  refine wpAny_call (codeAny_of_tree ?_)
  show wpAny _ _ (callAny (.type "set") _) _ _ _
  refine wpAny_pure ⟨Code.quiet_builtin _ (by decide +kernel), codeAny_builtin F.entry_type_call ?_⟩
  rw [Around.under_plain (weight_type_call_type "set" [.ref l] []) rfl]
  have h1 := F.called_set.notType
  have h2 := F.called_set.canCreate
  have hct := F.typeCall_set_1 (.ref l)
  repeat (any_goals (first | assumption | wp_step))
  refine codeAny_mono (code_set_led1 (.ref l) (E := E) (Q₁ := fun obj s₁ => obj = .ref s.heap.objs.size ∧ s₁ = { s with heap := s.heap.push { cls := .type "set", dict := none, data := .set #[] 0 (.fresh 0 0 (!w.params.followText "set-order")) } }) ⟨rfl, rfl⟩) fun r s₁ hr => ?_
  match r, hr with
  | .error e, hr => exact hr
  | .ok .next, hr => exact hr.elim
  | .ok .brk, hr => exact hr.elim
  | .ok .cont, hr => exact hr.elim
  | .ok (.ret obj), ⟨eo, es⟩ =>
    subst eo es
    have hS : (s.heap.push { cls := .type "set", dict := none, data := .set #[] 0 (.fresh 0 0 (!w.params.followText "set-order")) }).get? s.heap.objs.size = some { cls := .type "set", dict := none, data := .set #[] 0 (.fresh 0 0 (!w.params.followText "set-order")) } := Heap.get?_push_size _ rfl
    have hT : Shared.TypeIs { s with heap := s.heap.push { cls := .type "set", dict := none, data := .set #[] 0 (.fresh 0 0 (!w.params.followText "set-order")) } } (.ref s.heap.objs.size) "set" := ⟨_, hS, rfl⟩
    have hli := F.called_set.init.lookup
    have hbi := F.called_set.init.bind (.ref s.heap.objs.size)
    repeat (any_goals (first | assumption | wp_step))
    refine codeAny_mono (codeAny_call_builtin (R := wants (fun r s₂ => r = .none ∧ ∃ h' tk us, s₂ = { s with heap := h', toks := tk } ∧ GSet knd h' s.heap.objs.size us ∧ (∀ k, k ∈ us ↔ k ∈ ks) ∧
        (∀ b o, s.heap.get? b = some o → h'.get? b = some o)) E) F.called_set.init.plain F.entry_set_init (check_set_init_1 hT ?_)) fun r₂ s₂ hr₂ => ?_
    · obtain ⟨⟨ocls, odict, odata, oslots⟩, hol, hcl, nl, hdl⟩ := hl
      simp only at hcl hdl
      subst hcl hdl
      have hol' : (s.heap.push { cls := .type "set", dict := none, data := .set #[] 0 (.fresh 0 0 (!w.params.followText "set-order")) }).get? l = some { cls := .type "tuple", dict := odict, data := .seq items nl, slots := oslots } := Heap.get?_push_of_some _ hol
      have hsls := F.sub_tuple_set
      have hslf := F.sub_tuple_frozenset
      have hne : (Value.type "tuple" == Value.type "dict") = false := by decide
      have hl1 : (s.heap.push { cls := .type "set", dict := none, data := .set #[] 0 (.fresh 0 0 (!w.params.followText "set-order")) }).IsTuple l items := ⟨_, hol', rfl, nl, rfl⟩
      unfold Builtin.«set.__init__» noKeywords Builtin.Frozenset.updateFrom
      generalize hPI : pyIter = PI
      wp_walk
      subst hPI
      refine wpAny_pyIter_tuple hl1 ?_
      refine wpAny_bind (wpAny_runValue ?_)
      have lt : l < s.heap.objs.size := Heap.lt_size hol
      have sz : (s.heap.push { cls := .type "set", dict := none, data := .set #[] 0 (.fresh 0 0 (!w.params.followText "set-order")) }).objs.size = s.heap.objs.size + 1 := Heap.size_push ..
      have quiet : A.in1.in1.in1.handled = none := by simp [hh]
      have n1 : l ≠ (s.heap.push { cls := .type "set", dict := none, data := .set #[] 0 (.fresh 0 0 (!w.params.followText "set-order")) }).objs.size := by
        rw [Heap.size_push]
        exact Nat.ne_of_lt (Nat.lt_succ_of_lt lt)
      have n2 : s.heap.objs.size ∉ [(s.heap.push { cls := .type "set", dict := none, data := .set #[] 0 (.fresh 0 0 (!w.params.followText "set-order")) }).objs.size, l] := by
        rw [Heap.size_push]
        simp only [List.mem_cons, List.not_mem_nil, or_false, not_or]
        exact ⟨Nat.ne_of_lt (Nat.lt_succ_self _), Nat.ne_of_gt lt⟩
      refine gset_loop0 (knd := knd) (ks := ks) ((Walks.tuple quiet _ l n1 items).toS) n2 len room item ⟨⟨_, Heap.get?_push_size _ rfl, rfl, rfl⟩, (hl1.push _)⟩ ?hS0 ?hR
      case hS0 => exact gset_new (Heap.get?_push_of_some _ hS) f
      case hR =>
        rintro ⟨h', g2, d', tk', os'⟩ us mv R2 mem
        have eg := mv.gens
        have ed := mv.drawn
        have eo := mv.os
        dsimp only at eg ed eo
        subst eg ed eo
        show wpAny _ _ _ _ _ _
        refine wpAny_pure ?_
        show wpAny _ _ (ret Value.none) _ _ _
        refine wpAny_pure ⟨rfl, h', tk', us, rfl, R2, mem, fun b o e => ?_⟩
        have lb := Heap.lt_size e
        refine mv.heap b o ?_ (Heap.get?_push_of_some _ (Heap.get?_push_of_some _ e))
        rw [Heap.size_push]
        simp only [List.mem_cons, List.not_mem_nil, or_false, not_or]
        exact ⟨Nat.ne_of_lt lb, Nat.ne_of_lt (Nat.lt_succ_of_lt lb)⟩
    · match r₂, hr₂ with
      | .error e, hr₂ => exact hr₂
      | .ok .next, hr₂ => exact hr₂.elim
      | .ok .brk, hr₂ => exact hr₂.elim
      | .ok .cont, hr₂ => exact hr₂.elim
      | .ok (.ret r), ⟨er, h', tk, us, es, R2, mem, kp⟩ =>
        subst er es
        repeat (any_goals (first | assumption | wp_step))
        exact h _ _ _ R2 mem kp
end
end Lk

/-! SetS0 -/
set_option Elab.async false
set_option maxRecDepth 100000
set_option linter.all false
set_option maxHeartbeats 4000000
namespace Lk
open PySem PySem.Spec PyProof.Rows L2
/-! ### sorted(s), s a set of texts -/
def strOf : Value → Str
  | .str x _ => x
  | _ => Str.empty
def leT (x y : Str) : Bool := decide (x.cps.toList ≤ y.cps.toList)
theorem leT_data : PySem.W.dataLe false PyData.str = leT := PySem.W.dataLe_str (β := Str) (fun x => x)
theorem leT_trans (x y z : Str) (h : leT x y = true) (g : leT y z = true) : leT x z = true := decide_eq_true (List.le_trans (of_decide_eq_true h) (of_decide_eq_true g))
theorem leT_total (x y : Str) : (leT x y || leT y x) = true := by
  rw [Bool.or_eq_true]
  exact (List.le_total x.cps.toList y.cps.toList).imp (fun h => decide_eq_true h) fun h => decide_eq_true h
theorem leT_anti (x y : Str) (h : leT x y = true) (g : leT y x = true) : x = y := TL.ext_tl (List.le_antisymm (of_decide_eq_true h) (of_decide_eq_true g))
section
variable {P : Program} {w : World} {A : Around} {E : Value → Shared → Prop} {s : Shared} {a : Addr} {us : List Str}
theorem is_strOf {k : Str} {v : Value} (h : (strKind P w).is k v = true) : ∃ t, v = .str k t := by
  cases v with
  | str x t =>
    have e : x = k := by
      have h2 : Value.isStrOf k (.str x t) = true := h
      simpa [Value.isStrOf] using h2
    exact ⟨t, by rw [e]⟩
  | _ => exact Bool.noConfusion (show false = true from h)
theorem sorted_gset {Q : Value → Shared → Prop} (R : GSet (strKind P w) s.heap a us) (hh : A.handled = none) (hu : A.units + 64 < cLine)
    (hQ : ∀ s' p (out : List Value) (c : Nat) (cs : List Str), (∀ b o, s.heap.get? b = some o → s'.heap.get? b = some o) → s'.gens = s.gens → s'.os = s.os → s.heap.objs.size ≤ p →
      s'.heap.get? p = some (seqObj "list" out.toArray c) → PySem.W.EachIs (fun v x => ∃ t, v = Value.str x t) out cs → cs.Perm us → cs.Pairwise (fun x y => leT x y = true) → Q (.ref p) s') :
    wpAny (model P w) A (call (.builtin "sorted") [.ref a]) Q E s := by
  obtain ⟨o, es, ep, t, ho, hex, hd, ky, few, fit, ris, led⟩ := R
  refine Calls.call_function_entry kind_sorted plain_sorted entry_sorted (args_sorted1 _) ?_
  unfold Builtin.«sorted»
  refine wpAny_bind (m := checkCount "sorted" 1 1 _) (wpAny_pure ?_)
  refine wpAny_bind (collect_set (A := A.in1) hh ⟨o, ho, hex.1, hd⟩ fit few ris led fun s1 vs k1 hz g1 o1 pm => ?_)
  obtain ⟨f, hf, pf, nd⟩ := ky
  have each : ∀ v ∈ vs, ∃ t, v = Value.str (strOf v) t := fun v hv => by
    obtain ⟨e, he, rfl⟩ := List.mem_map.mp (pm.mem_iff.mp hv)
    obtain ⟨t, z⟩ := is_strOf (hf e he).1.1
    rw [z]
    exact ⟨t, rfl⟩
  have pu : (vs.map strOf).Perm us := by
    refine (pm.map strOf).trans ?_
    rw [List.map_map]
    refine List.Perm.trans (List.Perm.of_eq (List.map_congr_left fun e he => ?_)) pf
    obtain ⟨t, z⟩ := is_strOf (hf e he).1.1
    show strOf e.2 = f e
    rw [z]
    rfl
  have hvl : vs.length ≤ sizeLine := by
    rw [pm.length_eq, List.length_map, Array.length_toList]
    exact fits_of_scanBound few
  refine wpAny_bind (wpAny_newList ?_ hvl)
  have hoL : (s1.heap.push (seqObj "list" vs.toArray 0)).get? s1.heap.objs.size = some (seqObj "list" vs.toArray 0) := Heap.get?_push_size _ rfl
  have ev : ∀ {l : List Value}, (∀ v ∈ l, ∃ t, v = Value.str (strOf v) t) → PySem.W.EachIs (fun v x => ∃ t, v = Value.str x t) l (l.map strOf) := by
    intro l
    induction l with
    | nil => exact fun _ => .nil
    | cons v r ih => exact fun h => .cons (h v List.mem_cons_self) (ih fun u hu => h u (List.mem_cons_of_mem _ hu))
  have er : ∀ {l : List Value} {h : Heap}, (∀ v ∈ l, ∃ t, v = Value.str (strOf v) t) → PySem.W.EachIs (fun v x => ∃ as, Reads h v (.str x) as ∧ s1.heap.objs.size ∉ as) l (l.map strOf) := by
    intro l h
    induction l with
    | nil => exact fun _ => .nil
    | cons v r ih =>
      refine fun hv => .cons ?_ (ih fun u hu => hv u (List.mem_cons_of_mem _ hu))
      obtain ⟨t, z⟩ := hv v List.mem_cons_self
      rw [z]
      exact ⟨[], Reads.str _ t, fun h => nomatch h⟩
  refine wpAny_bind (wpAny_holding (PySem.W.list_sort_data (enc := PyData.str) (s := { s1 with heap := s1.heap.push (seqObj "list" vs.toArray 0) }) hoL (ev each) (er each) (PySem.W.AllAlike.of fun _ _ => rfl) (PySem.W.Sortable.others fun _ => ⟨(fun z => nomatch z), (fun _ z => nomatch z)⟩) (by rw [List.length_map]; exact hvl) (fun _ _ => by show A.in1.units + 1 + 0 < cLine; simp; omega) fun out len eo => ?_))
  rw [leT_data] at eo
  obtain ⟨c, hc⟩ := sortedHeap_at (vs := vs) (out := out.toArray) hoL
  refine wpAny_pure ⟨_, rfl, hQ _ s1.heap.objs.size out c _ (fun b u e => ?_) g1 o1 hz hc eo ((List.mergeSort_perm _ _).trans pu) ?_⟩
  · have q := k1 b u e
    have hlt := Heap.lt_size q
    show (sortedHeap (s1.heap.push (seqObj "list" vs.toArray 0)) s1.heap.objs.size vs out.toArray).get? b = some u
    rw [sortedHeap_old (Nat.ne_of_lt hlt) (by rw [size_push']; exact Nat.lt_succ_of_lt hlt)]
    exact Heap.get?_push_of_some _ q
  · exact List.pairwise_mergeSort leT_trans leT_total _
end
end Lk

/-! SetS1 -/
set_option Elab.async false
set_option maxRecDepth 100000
set_option linter.all false
set_option maxHeartbeats 4000000
namespace Lk
open PySem PySem.Spec PyProof.Rows L2
/-! ### sets of texts over the layer -/
def SetTx (P : Program) (w : World) (a : Addr) (us : List Str) : HO := .ext fun h => GSet (strKind P w) h a us
section
variable {X : Cx}
theorem setTx_ok {H : Hp} {h : Heap} {a : Addr} {us : List Str} (R : GSet (strKind X.prog X.w) h a us) : ObjOk X.prog X.w H h a (SetTx X.prog X.w a us) :=
  ⟨R, (by
    obtain ⟨o, _, _, _, ho, _⟩ := R
    exact ⟨o, ho⟩), fun _ _ z k => z.at k⟩
theorem strs_item {us : List Value} {ss : List Str} (r : StrsAre us ss) : ∀ (i : Nat) (v : Value), us.toArray[i]? = some v → ∃ k, ss[i]? = some k ∧ (strKind X.prog X.w).is k v = true ∧ v.scannable = true := fun i v h => by
  have h2 : us[i]? = some v := by simpa using h
  obtain ⟨t, e⟩ := SS.strs_at r i v h2
  have lt : i < ss.length := by
    rw [← StrsAre.length r]
    exact (List.getElem?_eq_some_iff.mp h2).1
  refine ⟨ss[i], List.getElem?_eq_getElem lt, ?_, by rw [e]; rfl⟩
  rw [e, List.getD_eq_getElem?_getD, List.getElem?_eq_getElem lt]
  exact strKind_is _ _ _ _
def rSetS (K : PySem.W.Frag) (P : Program) (w : World) : List V → Hp → VK → Prop := fun xs H Q => ∃ (l : Addr) (ss : List Str), xs = [.ref l] ∧ (SqL K H l (ss.map V.str) ∨ SqT K H l (ss.map V.str)) ∧ ss.length + 1 < scanBound ∧
  ∀ (p : Addr) (us : List Str), H p = none → us.Nodup → (∀ x, x ∈ us ↔ x ∈ ss) → Q (.ref p) (upd H p (SetTx P w p us))
theorem call_setS (calm : X.calm = true) : CallR X (.type "set") (rSetS X.K X.prog X.w) := by
  intro pins s σ H xs us Q I r h
  obtain ⟨l, ss, rfl, hl, room, q⟩ := h
  rw [Vals.ref1 r]
  have hn : H s.heap.objs.size = none := I.hok.fresh (Nat.le_refl _)
  have fin : ∀ (h' : Heap) (tk : Nat) (us : List Str), GSet (strKind X.prog X.w) h' s.heap.objs.size us → (∀ k, k ∈ us ↔ k ∈ ss) → (∀ b o, s.heap.get? b = some o → h'.get? b = some o) → EP X pins σ Q (.ref s.heap.objs.size) { s with heap := h', toks := tk } := fun h' tk us R m k =>
    ⟨.ref s.heap.objs.size, upd H s.heap.objs.size (SetTx X.prog X.w s.heap.objs.size us), I.laid (t' := tk) k (Nat.le_refl _) (setTx_ok R), rfl, q _ us hn (by
      obtain ⟨_, _, _, _, _, _, _, ⟨_, _, _, nd⟩, _⟩ := R
      exact nd) m⟩
  rcases hl with hl | hl
  · obtain ⟨its, rv, pl, hz⟩ := I.list hl
    have rs := strs_of_vals rv
    exact call_set_L (knd := strKind X.prog X.w) (ks := ss) (I.ok.hd calm) pl.isList (fun e => strOf e.2) (by rw [List.size_toArray]; exact StrsAre.length rs) room (strs_item rs) fin
  · obtain ⟨its, rv, pl, hz⟩ := I.tuple hl
    have rs := strs_of_vals rv
    exact call_set_T (knd := strKind X.prog X.w) (ks := ss) (I.ok.hd calm) (by
      obtain ⟨o, ho, hc, n, hd⟩ := pl
      exact ⟨o, ho, hc, n, hd⟩) (fun e => strOf e.2) (by rw [List.size_toArray]; exact StrsAre.length rs) room (strs_item rs) fin
theorem vals_each : ∀ {out : List Value} {cs : List Str}, PySem.W.EachIs (fun v x => ∃ t, v = Value.str x t) out cs → Vals (cs.map V.str) out
  | _, _, .nil => .nil
  | _, _, .cons h t => .cons h (vals_each t)
/-- sorted(s), s a set of texts -/
def rSortedS (P : Program) (w : World) : List V → Hp → VK → Prop := fun xs H Q => ∃ (a : Addr) (us : List Str), xs = [.ref a] ∧ H a = some (SetTx P w a us) ∧
  ∀ (p : Addr) (cs : List Str), H p = none → cs.Perm us → cs.Pairwise (fun x y => leT x y = true) → Q (.ref p) (upd H p (.lst (cs.map V.str)))
theorem call_sortedS (calm : X.calm = true) (hu : X.A.units + 64 < cLine) : CallR X (.builtin "sorted") (rSortedS X.prog X.w) := by
  intro pins s σ H xs us Q I r h
  obtain ⟨a, ks, rfl, ha, q⟩ := h
  have R : GSet (strKind X.prog X.w) s.heap a ks := (I.hok a _ ha).1
  rw [Vals.ref1 r]
  refine sorted_gset R (I.ok.hd calm) hu fun s' p out c cs k g o hp hg ev pm pw => ?_
  have hn : H p = none := I.hok.fresh hp
  have few : ks.length < scanBound := by
    obtain ⟨_, es, _, _, _, _, _, ky, few, _⟩ := R
    rw [← ky.len, Array.length_toList]
    exact few
  have hlen : (cs.map V.str).length ≤ sizeLine := by
    rw [List.length_map, pm.length_eq]
    exact fits_of_scanBound few
  have J : Inv X pins σ (upd H p (.lst (cs.map V.str))) { s with heap := s'.heap, gens := s'.gens, drawn := s'.drawn, toks := s'.toks } :=
    I.call (ch := []) (Un.laid k hp hn) (I.hok.laid k hp ⟨hlen, out, c, vals_each ev, hg⟩) (by rw [g]; exact I.bare) (fun _ z => nomatch z)
  have e : s' = { s with heap := s'.heap, gens := s'.gens, drawn := s'.drawn, toks := s'.toks } := by
    cases s'
    cases s
    cases o
    rfl
  rw [e]
  exact ⟨.ref p, _, J, rfl, q p cs hn pm pw⟩
end
end Lk

/-! SetS2 -/
set_option Elab.async false
set_option maxRecDepth 100000
set_option linter.all false
set_option maxHeartbeats 4000000
namespace Lk
open PySem PySem.Spec PyProof.Rows L2
/-! ### sorted(xs, key=len), xs a list of texts -/
def leL (x y : Str) : Bool := decide ((x.length : Int) ≤ (y.length : Int))
theorem leL_data : PySem.W.dataLe false (fun x : Str => PyData.int x.length) = leL := PySem.W.dataLe_int (β := Str) (fun x => (x.length : Int))
theorem each_vals : ∀ {us : List Value} {ss : List Str}, StrsAre us ss → PySem.W.EachIs (fun v x => ∃ t, v = Value.str x t) us ss
  | _, _, .nil => .nil
  | _, _, .cons x t h => .cons ⟨t, rfl⟩ (each_vals h)
section
variable {X : Cx}
def tSortLen (K : PySem.W.Frag) (te : TE) : TE := fun σ H Q => te σ H fun x H1 => ∃ (l : Addr) (ss : List Str), x = .ref l ∧ SqL K H1 l (ss.map V.str) ∧ (∀ y ∈ ss, y.length ≤ sizeLine) ∧ ∀ p, H1 p = none → Q (.ref p) (upd H1 p (.lst ((ss.mergeSort leL).map V.str)))
theorem pe_sortLen {e : Expr} {te : TE} {p p2 kp pos : Pos} (he : PE X e te) (hm : X.mg "sorted" = none) (hl : X.mg "len" = none) (hu : X.A.units + 64 < cLine) (hg : Gl X "sorted" := by rfl) (hgl : Gl X "len" := by rfl)
    (h1 : backTo pos (starEach [e] X.env) = (false, eval e X.env) :: backTo pos (starEach [] X.env) := by rfl) (h2 : (backTo pos (starEach [e] X.env)).any (·.1) = false := by rfl)
    (hs : starEach [e] X.env = (false, eval e X.env) :: starEach [] X.env := by rfl) :
    PE X (.Call (.Name "sorted" p) [e] [⟨some "key", .Name "len" p2, kp⟩] pos) (tSortLen X.K te) := by
  refine ⟨fun pins s σ H Q I h => ?_⟩
  refine wpAny_Call_Name_kw (ld_blt I hg hm (show bootBuiltins "sorted" = some (.builtin "sorted") by decide +kernel) ?_ (by decide) (by decide))
  let Q' : List V → Hp → Prop := fun vs H1 => match vs with
    | [x] => ∃ (l : Addr) (ss : List Str), x = .ref l ∧ SqL X.K H1 l (ss.map V.str) ∧ (∀ y ∈ ss, y.length ≤ sizeLine) ∧ ∀ p, H1 p = none → Q (.ref p) (upd H1 p (.lst ((ss.mergeSort leL).map V.str)))
    | _ => False
  refine PyProof.Rows.callWith_kw (thn ((pa_cons he pa_nil hs).run pos pins s σ H Q' I h) fun us s1 ⟨vs, H1, I1, r1, q1⟩ => ?_) h1 h2 (by rfl) (by rfl)
  match vs, r1, q1 with
  | [x], r1, ⟨l, ss, ex, hl2, hz, q⟩ =>
    subst ex
    have eu := Vals.ref1 r1
    subst eu
    show wpAny _ _ (evalAll ((do let v ← eval (.Name "len" p2) X.env; standAt pos; pure v) :: [])) _ _ s1
    refine wpAny_evalAll_cons (wpAny_bind (ld_blt I1 hgl hl (show bootBuiltins "len" = some (.builtin "len") by decide +kernel) (wpAny_bind (wpAny_standAt (wpAny_pure ?_))) (by decide) (by decide)))
    refine wpAny_evalAll_nil ?_
    show wpAny _ _ (call (.builtin "sorted") [.ref l] [(Str.ofString "key", .builtin "len")]) _ _ s1
    obtain ⟨its, rv, pl, hz2⟩ := I1.list hl2
    have rs := strs_of_vals rv
    rw [List.length_map] at hz2
    have pm := List.mergeSort_perm ss leL
    refine PySem.W.sorted_key_data (k := fun x : Str => PyData.int x.length) (b := false) (f := .builtin "len") pl.isList (each_vals rs) (PySem.W.AllAlike.of fun _ _ => rfl) (PySem.W.Sortable.others fun _ => ⟨(fun z => nomatch z), (fun _ z => nomatch z)⟩) hz2
      (fun _ _ => by show X.A.units + 2 + 0 < cLine; omega) (PyProof.Rows.ksk_s1 _ _) (fun _ => PyProof.Rows.ksk_l1 _ _) (fun _ => PyProof.Rows.ksk_t4 _ _) (fun v y hv hy h2 tk kp => ?_) fun out c h' tk kp fr hD len eo => ?_
    · obtain ⟨t, rfl⟩ := hv
      have hy2 := hz y hy
      rw [sizeLine_eq] at hy2
      exact len_str (by omega) ⟨h2, _, rfl, fun _ _ q => q, Reads.int _ _⟩
    · rw [leL_data] at eo
      have hlen : ((ss.mergeSort leL).map V.str).length ≤ sizeLine := by
        rw [List.length_map, pm.length_eq]
        exact hz2
      exact ⟨.ref _, upd H1 (s1.heap.objs.size + 1) (.lst ((ss.mergeSort leL).map V.str)), I1.laid (t' := tk) kp (Nat.le_succ _) ⟨hlen, out, c, vals_each eo, hD⟩, rfl, q _ (I1.hok.fresh (Nat.le_succ _))⟩
end
end Lk

/-! Asc0 -/
set_option Elab.async false
set_option maxRecDepth 100000
set_option linter.all false
set_option maxHeartbeats 4000000
namespace Lk
open PySem PySem.Spec PyProof.Rows L2
/-! ### the order of names -/
def leA (x y : Str) : Prop := x.length < y.length ∨ (x.length = y.length ∧ leT x y = true)
/-- the ascending list of the different ones -/
structure IsAsc (cs ss : List Str) : Prop where
  nd : cs.Nodup
  mem : ∀ x, x ∈ cs ↔ x ∈ ss
  pw : cs.Pairwise leA
theorem leA_anti {x y : Str} (h : leA x y) (g : leA y x) : x = y := by
  rcases h with h | ⟨e, h⟩
  · rcases g with g | ⟨f, g⟩ <;> omega
  · rcases g with g | ⟨f, g⟩
    · omega
    · exact leT_anti x y h g
theorem IsAsc.uniq {cs ds ss : List Str} (h : IsAsc cs ss) (g : IsAsc ds ss) : cs = ds :=
  List.Perm.eq_of_pairwise (fun _ _ _ _ a b => leA_anti a b) h.pw g.pw ((List.perm_ext_iff_of_nodup h.nd g.nd).mpr fun x => (h.mem x).trans (g.mem x).symm)
theorem IsAsc.same {cs ss ts : List Str} (h : IsAsc cs ss) (e : ∀ x, x ∈ ss ↔ x ∈ ts) : IsAsc cs ts := ⟨h.nd, fun x => (h.mem x).trans (e x), h.pw⟩
theorem two_way {α : Type} {x y : α} (ne : x ≠ y) : ∀ {l : List α}, x ∈ l → y ∈ l → List.Sublist [x, y] l ∨ List.Sublist [y, x] l
  | a :: l, hx, hy => by
    rcases List.mem_cons.mp hx with e1 | h1
    · rcases List.mem_cons.mp hy with e2 | h2
      · exact absurd (e1.trans e2.symm) ne
      · rw [← e1]
        exact .inl (List.Sublist.cons_cons _ (List.singleton_sublist.mpr h2))
    · rcases List.mem_cons.mp hy with e2 | h2
      · rw [← e2]
        exact .inr (List.Sublist.cons_cons _ (List.singleton_sublist.mpr h1))
      · exact (two_way ne h1 h2).imp (fun z => z.cons _) fun z => z.cons _
theorem one_way {α : Type} {x y : α} (ne : x ≠ y) : ∀ {l : List α}, l.Nodup → List.Sublist [x, y] l → List.Sublist [y, x] l → False
  | [], _, h, _ => by cases h
  | a :: l, nd, h, g => by
    obtain ⟨na, nl⟩ := List.nodup_cons.mp nd
    cases h with
    | cons _ h =>
      cases g with
      | cons _ g => exact one_way ne nl h g
      | cons_cons _ g => exact na (h.subset (by simp))
    | cons_cons _ h =>
      cases g with
      | cons _ g => exact na (g.subset (by simp))
      | cons_cons _ g => exact ne rfl
theorem leL_trans (x y z : Str) (h : leL x y = true) (g : leL y z = true) : leL x z = true := by
  have h2 := of_decide_eq_true h
  have g2 := of_decide_eq_true g
  exact decide_eq_true (by omega)
theorem leL_total (x y : Str) : (leL x y || leL y x) = true := by
  rw [Bool.or_eq_true]
  by_cases h : (x.length : Int) ≤ (y.length : Int)
  · exact .inl (decide_eq_true h)
  · exact .inr (decide_eq_true (by omega))
theorem asc_of {us ss cs : List Str} (nd : us.Nodup) (mem : ∀ x, x ∈ us ↔ x ∈ ss) (pm : cs.Perm us) (pw : cs.Pairwise (fun x y => leT x y = true)) : IsAsc (cs.mergeSort leL) ss := by
  have p2 := (List.mergeSort_perm cs leL).trans pm
  have n2 := p2.nodup_iff.mpr nd
  refine ⟨n2, fun x => (p2.mem_iff).trans (mem x), List.pairwise_iff_forall_sublist.mpr fun {x y} hs => ?_⟩
  have hL : leL x y = true := List.pairwise_iff_forall_sublist.mp (List.pairwise_mergeSort leL_trans leL_total cs) hs
  have h2 := of_decide_eq_true hL
  by_cases lt : x.length < y.length
  · exact .inl lt
  have eq : x.length = y.length := by omega
  refine .inr ⟨eq, ?_⟩
  have ne : x ≠ y := List.pairwise_iff_forall_sublist.mp n2 hs
  have hx : x ∈ cs := (List.mergeSort_perm cs leL).mem_iff.mp (hs.subset (by simp))
  have hy : y ∈ cs := (List.mergeSort_perm cs leL).mem_iff.mp (hs.subset (by simp))
  rcases two_way ne hx hy with z | z
  · exact List.pairwise_iff_forall_sublist.mp pw z
  · have hL2 : leL y x = true := decide_eq_true (by omega)
    exact (one_way ne n2 hs (List.pair_sublist_mergeSort leL_trans leL_total hL2 z)).elim
end Lk

/-! Stem0 -/
set_option Elab.async false
set_option maxRecDepth 100000
set_option linter.all false
set_option maxHeartbeats 4000000
namespace Lk
open PySem PySem.Spec PyProof.Rows L2
/-! ### stems -/
theorem starts_tl {x y : Str} : Txt.startswith x y = true ↔ ∃ r, TL.tl x = TL.tl y ++ r := by
  unfold Txt.startswith
  rw [StrLaws.subAt_eq, Bool.and_eq_true, decide_eq_true_eq, beq_iff_eq, List.drop_zero]
  constructor
  · rintro ⟨_, h⟩
    exact ⟨(TL.tl x).drop y.length, by
      have e : TL.tl x = (TL.tl x).take y.length ++ (TL.tl x).drop y.length := (List.take_append_drop _ _).symm
      rw [show (TL.tl x).take y.length = TL.tl y from h] at e
      exact e⟩
  · rintro ⟨r, h⟩
    have l1 : x.length = (TL.tl y ++ r).length := by rw [TL.len_tl, h]
    rw [List.length_append, ← TL.len_tl] at l1
    refine ⟨by omega, ?_⟩
    show (TL.tl x).take y.length = TL.tl y
    rw [h, TL.len_tl, List.take_left]
theorem ends_tl {x y : Str} : Txt.endswith x y = true ↔ ∃ r, TL.tl x = r ++ TL.tl y := by
  unfold Txt.endswith
  rw [StrLaws.subAt_eq, Bool.and_eq_true, decide_eq_true_eq, beq_iff_eq]
  constructor
  · rintro ⟨l, h⟩
    refine ⟨(TL.tl x).take (x.length - y.length), ?_⟩
    have h2 : ((TL.tl x).drop (x.length - y.length)).take y.length = TL.tl y := h
    have l2 : ((TL.tl x).drop (x.length - y.length)).length ≤ y.length := by
      rw [List.length_drop, ← TL.len_tl]
      omega
    rw [List.take_of_length_le l2] at h2
    rw [← h2, List.take_append_drop]
  · rintro ⟨r, h⟩
    have l1 : x.length = (r ++ TL.tl y).length := by rw [TL.len_tl, h]
    rw [List.length_append, ← TL.len_tl] at l1
    refine ⟨by omega, ?_⟩
    show ((TL.tl x).drop (x.length - y.length)).take y.length = TL.tl y
    rw [h, show x.length - y.length = r.length by omega, List.drop_left, TL.len_tl y, List.take_length]
/-- what lies between two ends, where the one are capitals and the other small letters -/
theorem mid_of {z b e : List Nat} (hb : ∀ c ∈ b, upB c = true) (he : ∀ c ∈ e, loB c = true) (h1 : ∃ r, z = b ++ r) (h2 : ∃ r, z = r ++ e) : ∃ m, z = b ++ m ++ e := by
  obtain ⟨r, rfl⟩ := h1
  obtain ⟨q, h2⟩ := h2
  rcases List.append_eq_append_iff.mp h2 with ⟨m, e1, e2⟩ | ⟨m, e1, e2⟩
  · exact ⟨m, by rw [e2, List.append_assoc]⟩
  · cases m with
    | nil => exact ⟨[], by rw [e2]; simp⟩
    | cons c t =>
      have u := hb c (by rw [e1]; simp)
      have v := he c (by rw [e2]; simp)
      simp only [upB, loB, Bool.and_eq_true, decide_eq_true_eq] at u v
      omega
theorem cut_mid {z : Str} {b m e : List Nat} (h : TL.tl z = b ++ m ++ e) : TL.tl (cutS z (some (b.length : Int)) (some ((z.length : Int) - (e.length : Int)))) = m := by
  have l : z.length = b.length + m.length + e.length := by
    rw [TL.len_tl, h, List.length_append, List.length_append]
  show ((TL.tl z).drop (HT.sIx z.length 0 (some (b.length : Int)))).take (HT.sIx z.length z.length (some ((z.length : Int) - (e.length : Int))) - HT.sIx z.length 0 (some (b.length : Int))) = m
  rw [show ((z.length : Int) - (e.length : Int)) = ((b.length + m.length : Nat) : Int) by omega, HT.sIx_nat, HT.sIx_nat, Nat.min_eq_left (by omega), Nat.min_eq_left (by omega), h, List.append_assoc, List.drop_left, show b.length + m.length - b.length = m.length by omega, List.take_left]
end Lk

/-! Pick0 -/
set_option Elab.async false
set_option maxRecDepth 100000
set_option linter.all false
set_option maxHeartbeats 4000000
namespace Lk
open PySem PySem.Spec PyProof.Rows L2
/-! ### one of a display (law04b.tpl has its own copies: do not build both together) -/
section
variable {K : PySem.W.Frag} {H H' : Hp} {p c : Addr} {σ : L2.St}
theorem th_of_mem : ∀ {xs : List V} {ds : List PyData} {x : V}, ThAll K H xs ds → x ∈ xs → ∃ d, d ∈ ds ∧ Th K H x d
  | _, _, _, .nil, h => by simp at h
  | _, _, x, .cons h t, m => by
    rcases List.mem_cons.mp m with rfl | m
    · exact ⟨_, List.mem_cons_self, h⟩
    · obtain ⟨d, hd, ht⟩ := th_of_mem t m
      exact ⟨d, List.mem_cons_of_mem _ hd, ht⟩
theorem noPot_of : ∀ {ds : List PyData} {d : PyData}, noPotAll ds = true → d ∈ ds → noPot d = true
  | e :: r, d, h, m => by
    have n2 : noPot e = true ∧ noPotAll r = true := by simpa only [noPotAll, Bool.and_eq_true] using h
    rcases List.mem_cons.mp m with rfl | m
    · exact n2.1
    · exact noPot_of n2.2 m
/-- one of a new display; the list may have any length -/
theorem pick_new {ta : TA} {ds : List PyData} {Q : VK} {i : Nat} (h : MkA K ta σ H ds) (hn : noPotAll ds = true) (l0 : 0 < ds.length) (l1 : ds.length ≤ 1000) (hP : PotAt p c H) (hi : σ[i]? = some (some (.ref p)))
    (k : ∀ v d H', d ∈ ds → Th K H' v d → Ext p c H H' → Q v H') : tCall (spPick K) [] E0 (tCons (tVar i) (tCons (tLst ta) tNil)) σ H Q :=
  ⟨_, hi, h H (Same.refl H) _ fun xs H1 s1 t1 => by
    have hl := thAll_len t1
    refine ⟨Nat.le_trans (Nat.le_of_eq hl) (Nat.le_trans l1 (by decide)), fun l nl => ?_⟩
    have P1 := hP.same s1
    have s2 : Same H1 (upd H1 l (.lst xs)) := same_upd nl
    refine ⟨p, c, l, xs, rfl, P1.same s2, SqL.of upd_same, P1.nep nl, by omega, by omega, fun v H2 hv e2 => ?_⟩
    obtain ⟨d, hd, ht⟩ := th_of_mem t1 hv
    exact k v d H2 hd (th_ext (P1.same s2) e2 (th_same s2 ht) (noPot_of hn hd)) (Ext.pre (s1.trans s2) e2)⟩
/-- data without lists stands when a list changes -/
theorem th_mutL {D : Addr} {ys : List V} {o : HO} (hD : H D = some (.lst ys)) {v : V} {d : PyData} (h : Th K H v d) : noLst d = true → Th K (upd H D o) v d := by
  refine Th.rec (motive_1 := fun v d _ => noLst d = true → Th K (upd H D o) v d) (motive_2 := fun vs ds _ => noLstAll ds = true → ThAll K (upd H D o) vs ds) ?_ ?_ ?_ ?_ ?_ ?_ ?_ ?_ ?_ h
  · exact fun _ => .non
  · exact fun b _ => .bl b
  · exact fun i _ => .int i
  · exact fun x _ => .str x
  · intro q xs ds _ _ _ n
    simp [noLst] at n
  · intro q xs ds hs ha ih n
    have n2 : noLstAll ds = true := by simpa only [noLst] using n
    rcases hs with (hs | ⟨u, hs⟩) | hs
    · have ne : q ≠ D := fun z => by
        rw [z, hD] at hs
        cases hs
      exact .tup (.inl (.inl (by rw [upd_ne ne]; exact hs))) (ih n2)
    · have ne : q ≠ D := fun z => by
        rw [z, hD] at hs
        cases hs
      exact .tup (.inl (.inr ⟨u, by rw [upd_ne ne]; exact hs⟩)) (ih n2)
    · exact .tup (.inr hs) (ih n2)
  · intro q kvs ds hs _ ek ih n
    have n2 : noLstAll (ds.map (·.2)) = true := by
      rw [noLstKv_map]
      simpa only [noLst] using n
    have ne : q ≠ D := fun z => by
      rw [z, hD] at hs
      cases hs
    exact .dct (by rw [upd_ne ne]; exact hs) (ih n2) ek
  · exact fun _ => .nil
  · intro v vs d ds _ _ i1 i2 n
    have n2 : noLst d = true ∧ noLstAll ds = true := by simpa only [noLstAll, Bool.and_eq_true] using n
    exact .cons (i1 n2.1) (i2 n2.2)
theorem thAll_mutL {D : Addr} {ys : List V} {o : HO} (hD : H D = some (.lst ys)) : ∀ {vs : List V} {ds : List PyData}, ThAll K H vs ds → noLstAll ds = true → ThAll K (upd H D o) vs ds
  | _, _, .nil, _ => .nil
  | _ :: _, d :: ds, .cons h t, n => by
    have n2 : noLst d = true ∧ noLstAll ds = true := by simpa only [noLstAll, Bool.and_eq_true] using n
    exact .cons (th_mutL hD h n2.1) (thAll_mutL hD t n2.2)
/-- what stands ready: a list that grows while the pot moves -/
theorem grow {H0 : Hp} {D : Addr} {n iv : Nat} {te : TE} {α : Type} {f : α → PyData} {Ok : α → Prop} {Qd : Hp → Prop} (flat : ∀ a, noLst (f a) = true ∧ noPot (f a) = true) (hP : PotAt p c H0) (hD0 : H0 D = none) (small : n ≤ 1000)
    (wp : ∀ (x : V), wipe ((wipe σ [iv]).set iv (some x)) [iv] = wipe σ [iv])
    (call : ∀ (x : V) (H' : Hp) (R : VK), PotAt p c H' → (∀ v a H2, Ok a → Ext p c H' H2 → Th K H2 v (f a) → R v H2) → te ((wipe σ [iv]).set iv (some x)) H' R)
    (k : ∀ (vs : List V) (as : List α) (H' : Hp), H' D = some (.lst vs) → ThAll K H' vs (as.map f) → (∀ a ∈ as, Ok a) → as.length = n → Ext p c H0 H' → Qd H') :
    ∃ W : Nat → Nat → Hp → Prop, (∃ m, W 0 m (upd H0 D (.lst []))) ∧ ∀ i m H, W i m H →
      ((Itr 0 n).stop i H ∧ Qd H) ∨ ((Itr 0 n).go i H ∧ ∃ Nx : Hp → Prop, (∀ H', Nx H' → ∃ m', m' < m ∧ W (i + 1) m' H') ∧ ∀ x H', (Itr 0 n).yld i H x H' → gName iv x (wipe σ [iv]) H' fun σ2 H2 => wipe σ2 [iv] = wipe σ [iv] ∧ tYes σ2 H2 fun b H3 =>
        if b = true then te σ2 H3 fun y H4 => ∃ acc, H4 D = some (.lst acc) ∧ acc.length < sizeLine ∧ Nx (upd H4 D (.lst (acc ++ [y]))) else Nx H3) := by
  have nd := hP.nep hD0
  have flatA : ∀ as : List α, noLstAll (as.map f) = true ∧ noPotAll (as.map f) = true := fun as => by
    induction as with
    | nil => exact ⟨rfl, rfl⟩
    | cons a r ih => exact ⟨by rw [List.map_cons, noLstAll, (flat a).1, ih.1]; rfl, by rw [List.map_cons, noPotAll, (flat a).2, ih.2]; rfl⟩
  refine lc_range (lo := 0) (n := n) (fun i H' => ∃ vs as, H' D = some (.lst vs) ∧ ThAll K H' vs (as.map f) ∧ (∀ a ∈ as, Ok a) ∧ as.length = i ∧ Ext p c H0 H') ⟨[], [], upd_same, .nil, (fun _ h => by simp at h), rfl, Ext.mut hP hP.ref hD0⟩ ?_ ?_
  · rintro i H' hi ⟨vs, as, hD, ta, ok, len, e⟩
    refine ⟨wp _, call _ H' _ e.pot fun v a H2 oka e2 th => ⟨vs, e2.get hD nd, ?_, vs ++ [v], as ++ [a], upd_same, ?_, ?_, ?_, Ext.mut hP (e.trans e2) hD0⟩⟩
    · have := thAll_len ta
      rw [List.length_map] at this
      exact small1000 (by omega)
    · rw [List.map_append]
      exact thAll_app (thAll_mutL (e2.get hD nd) (thAll_ext e.pot e2 ta (flatA as).2) (flatA as).1) (.cons (th_mutL (e2.get hD nd) th (flat a).1) .nil)
    · intro y hy
      rcases List.mem_append.mp hy with hy | hy
      · exact ok y hy
      · rw [List.mem_singleton.mp hy]
        exact oka
    · rw [List.length_append, List.length_singleton, len]
  · rintro H' ⟨vs, as, hD, ta, ok, len, e⟩
    exact k vs as H' hD ta ok len e
end
end Lk

/-! TabB0 -/
set_option Elab.async false
set_option maxRecDepth 100000
set_option linter.all false
set_option maxHeartbeats 4000000
namespace Lk
open PySem PySem.Spec PyProof.Rows L2
/-! ### tables of up to 2048 slots -/
/-- the slots that the round meets, as the bits of a number -/
def metBits (m : Nat) : Nat → Nat → Nat → Nat
  | 0, _, acc => acc
  | f + 1, x, acc => metBits m f ((x * 5 + 1) % (m + 1)) (acc ||| 2 ^ x)
def lastOf (m : Nat) : Nat → Nat → Nat
  | 0, x => x
  | f + 1, x => lastOf m f ((x * 5 + 1) % (m + 1))
theorem met_bits (m : Nat) : ∀ (f b acc j : Nat), (metBits m f (lcgN m b) acc).testBit j = true → acc.testBit j = true ∨ ∃ c, c < b + f ∧ lcgN m c = j
  | 0, b, acc, j, h => .inl h
  | f + 1, b, acc, j, h => by
    rcases met_bits m f (b + 1) (acc ||| 2 ^ lcgN m b) j h with z | ⟨c, lt, e⟩
    · rw [Nat.testBit_or, Bool.or_eq_true, Nat.testBit_two_pow, decide_eq_true_eq] at z
      exact z.imp id fun e => ⟨b, by omega, e⟩
    · exact .inr ⟨c, by omega, e⟩
theorem last_of (m : Nat) : ∀ f b : Nat, lastOf m f (lcgN m b) = lcgN m (b + f)
  | 0, _ => rfl
  | f + 1, b => by
    have z := last_of m f (b + 1)
    rw [show b + (f + 1) = b + 1 + f by omega]
    exact z
def MaskB (m : Nat) : Prop := m = 7 ∨ m = 31 ∨ m = 127 ∨ m = 511 ∨ m = 2047
theorem round7 : (metBits 7 8 0 0 == 2 ^ 8 - 1 && lastOf 7 8 0 == 0) = true := by decide +kernel
theorem round31 : (metBits 31 32 0 0 == 2 ^ 32 - 1 && lastOf 31 32 0 == 0) = true := by decide +kernel
theorem round127 : (metBits 127 128 0 0 == 2 ^ 128 - 1 && lastOf 127 128 0 == 0) = true := by decide +kernel
theorem round511 : (metBits 511 512 0 0 == 2 ^ 512 - 1 && lastOf 511 512 0 == 0) = true := by decide +kernel
theorem round2047 : (metBits 2047 2048 0 0 == 2 ^ 2048 - 1 && lastOf 2047 2048 0 == 0) = true := by decide +kernel
theorem roundB {m : Nat} (hm : MaskB m) : (metBits m (m + 1) 0 0 == 2 ^ (m + 1) - 1 && lastOf m (m + 1) 0 == 0) = true := by
  rcases hm with e | e | e | e | e <;> subst e
  · exact round7
  · exact round31
  · exact round127
  · exact round511
  · exact round2047
theorem circleB {m : Nat} (hm : MaskB m) {j : Nat} (hj : j ≤ m) : ∃ b, b ≤ m ∧ lcgN m b = j := by
  have z := roundB hm
  rw [Bool.and_eq_true, beq_iff_eq, beq_iff_eq] at z
  rcases met_bits m (m + 1) 0 0 j (by
    show (metBits m (m + 1) 0 0).testBit j = true
    rw [z.1, Nat.testBit_two_pow_sub_one, decide_eq_true_eq]
    omega) with e | ⟨c, lt, e⟩
  · rw [Nat.zero_testBit] at e
    cases e
  · exact ⟨c, by omega, e⟩
theorem againB {m : Nat} (hm : MaskB m) (k : Nat) : lcgN m (m + 1 + k) = lcgN m k := by
  have z := roundB hm
  rw [Bool.and_eq_true, beq_iff_eq, beq_iff_eq] at z
  have e : lcgN m (m + 1) = 0 := by
    have y := last_of m (m + 1) 0
    rw [Nat.zero_add] at y
    exact y.symm.trans z.2
  rw [← lcgN_add, e]
  have y := lcgN_add m 0 k
  rw [Nat.zero_add] at y
  exact y
/-- a search meets each slot as the start of a run -/
theorem meetB {m : Nat} (hm : MaskB m) (h : Int) {j : Nat} (hj : j ≤ m) : ∃ n, n ≤ m + 12 ∧ runI m (SetTable.bits h) n = j := by
  obtain ⟨a, ha, ea⟩ := circleB hm (runI_le m (SetTable.bits h) 12)
  obtain ⟨b, hb, eb⟩ := circleB hm hj
  have go : ∀ k, lcgI m (runI m (SetTable.bits h) 12) k = lcgN m (a + k) := fun k => by rw [← ea, lcgN_add]
  by_cases c : a ≤ b
  · exact ⟨12 + (b - a), by omega, by rw [runI_tail (bits_lt h), go, Nat.add_sub_cancel' c, eb]⟩
  · exact ⟨12 + (b + (m + 1) - a), by omega, by
      rw [runI_tail (bits_lt h), go, show a + (b + (m + 1) - a) = m + 1 + b by omega, againB hm, eb]⟩
theorem wayB (m : Nat) (h : Int) (k : Nat) : way m h k ≤ m := by
  have lt : SetTable.bits h % (m + 1) ≤ m := Nat.le_of_lt_succ (Nat.mod_lt _ (Nat.succ_pos _))
  have r := runEnd_bd lt
  exact Nat.le_trans (Nat.le_add_right _ _) (nth_in k (runAt m (SetTable.bits h % (m + 1)) (SetTable.bits h)) (show SetTable.bits h % (m + 1) + (SetTable.runEnd m (SetTable.bits h % (m + 1)) - SetTable.bits h % (m + 1)) ≤ m by omega))
/-- a table whose members all are found again by their hashes -/
structure TabB (t : SetTable) (hs : List Int) : Prop where
  ris : Ris t.place.toList
  dm : t.dummies = #[]
  sz : t.place.size = hs.length
  mok : MaskB t.mask
  bd : ∀ x ∈ t.place.toList, x ≤ t.mask
  reach : ∀ (i : Nat) (h : Int) (j : Nat), hs[i]? = some h → t.place.toList[i]? = some j → ∃ k, way t.mask h k = j ∧ ∀ k', k' < k → way t.mask h k' ∈ t.place.toList
theorem oddB {m : Nat} (h : MaskB m) : m % 2 = 1 := by
  rcases h with e | e | e | e | e <;> subst e <;> rfl
theorem topB {m : Nat} (h : MaskB m) : m ≤ 2047 := by
  rcases h with e | e | e | e | e <;> omega
section
variable {t : SetTable} {hs : List Int}
theorem TabB.first (T : TabB t hs) (hl : hs.length ≤ t.mask) (h : Int) : ∃ K, K < 10 * SetTable.turns t.mask ∧ way t.mask h K ∉ t.place.toList ∧ ∀ k, k < K → way t.mask h k ∈ t.place.toList := by
  obtain ⟨j, hj, hn⟩ := st_missing t.place.toList (t.mask + 1) (by rw [Array.length_toList, T.sz]; omega)
  obtain ⟨n, le, e⟩ := meetB T.mok h (Nat.le_of_lt_succ hj)
  obtain ⟨k, lk, ek⟩ := run_nth t.mask (SetTable.bits h) n
  have free : way t.mask h k ∉ t.place.toList := by
    have z : way t.mask h k = j := (congrArg SetTable.Probe.j ek).trans e
    rwa [z]
  obtain ⟨K, h1, h2, h3⟩ := st_least (p := fun k => way t.mask h k ∉ t.place.toList) k free
  exact ⟨K, by unfold SetTable.turns; omega, h2, fun k' lt => Classical.byContradiction (h3 k' lt)⟩
theorem TabB.before (T : TabB t hs) {h : Int} {K i j : Nat} (hK : way t.mask h K ∉ t.place.toList) (hi : hs[i]? = some h) (hj : t.place.toList[i]? = some j) : ∃ k, k < K ∧ way t.mask h k = j := by
  obtain ⟨k, e, hb⟩ := T.reach i h j hi hj
  refine ⟨k, Nat.lt_of_not_le fun le => hK ?_, e⟩
  rcases Nat.eq_or_lt_of_le le with c | c
  · rw [c, e]
    exact List.mem_of_getElem? hj
  · exact hb K c
theorem TabB.put (T : TabB t hs) {h : Int} {K : Nat} (hK : way t.mask h K ∉ t.place.toList) (hb : ∀ k, k < K → way t.mask h k ∈ t.place.toList) {p : Nat} (ep : p = SetTable.below t.place (way t.mask h K)) :
    (t.put (way t.mask h K)).2 = p ∧ p ≤ hs.length ∧ TabB (t.put (way t.mask h K)).1 (hs.take p ++ h :: hs.drop p) ∧ (t.put (way t.mask h K)).1.mask = t.mask ∧ (t.put (way t.mask h K)).1.led = t.led ∧ (t.put (way t.mask h K)).1.fill = hs.length + 1 := by
  have top := wayB t.mask h K
  have pp := put_place t (way t.mask h K)
  have pd := put_dm T.dm (way t.mask h K)
  obtain ⟨c1, _, _⟩ := below_cut T.ris (way t.mask h K)
  rw [← ep] at pp c1
  have long : t.place.toList.length = hs.length := by
    rw [Array.length_toList]
    exact T.sz
  have hp1 : p ≤ t.place.toList.length := by
    rw [Array.length_toList]
    exact c1
  have hp2 : p ≤ hs.length := by rw [← long]; exact hp1
  have n1 : (t.put (way t.mask h K)).1.place.size = hs.length + 1 := by rw [← Array.length_toList, pp, len_ins _ hp1, long]
  have up : ∀ x ∈ t.place.toList, x ∈ (t.put (way t.mask h K)).1.place.toList := fun x m => by
    rw [pp]
    exact mem_ins.2 (.inr m)
  refine ⟨ep.symm, hp2, ⟨ris_insert T.ris fun e => hK (List.mem_of_getElem? (by rw [Array.getElem?_toList]; exact e)), pd, by rw [len_ins _ hp2]; exact n1, T.mok, fun x m => ?_, fun i h' j h1 h2 => ?_⟩, rfl, rfl, ?_⟩
  · rw [pp] at m
    rcases mem_ins.1 m with e | m
    · rw [e]
      exact top
    · exact T.bd x m
  · rw [tins_get hs hp2] at h1
    rw [pp, tins_get _ hp1] at h2
    have old : ∀ i', hs[i']? = some h' → t.place.toList[i']? = some j → ∃ k, way t.mask h' k = j ∧ ∀ k', k' < k → way t.mask h' k' ∈ (t.put (way t.mask h K)).1.place.toList := fun i' g1 g2 => by
      obtain ⟨k, e, z⟩ := T.reach i' h' j g1 g2
      exact ⟨k, e, fun k' lt => up _ (z k' lt)⟩
    by_cases c : i < p
    · rw [if_pos c] at h1 h2
      exact old i h1 h2
    · rw [if_neg c] at h1 h2
      by_cases d : i = p
      · rw [if_pos d] at h1 h2
        cases h1
        cases h2
        exact ⟨K, rfl, fun k' lt => up _ (hb k' lt)⟩
      · rw [if_neg d] at h1 h2
        exact old (i - 1) h1 h2
  · show (t.put (way t.mask h K)).1.place.size + (t.put (way t.mask h K)).1.dummies.size = hs.length + 1
    rw [n1, pd]
    rfl
end
/-! laid out anew -/
theorem freeB {m : Nat} (hm : MaskB m) (owner : Array (Option Nat)) (h : Int) {j : Nat} (hj : j ≤ m) (hf : oAt owner j = none) :
    ∃ K, SetTable.layClean.free m owner (SetTable.turns m) (SetTable.bits h % (m + 1)) (SetTable.bits h) = some (way m h K) ∧ oAt owner (way m h K) = none ∧ ∀ k, k < K → oAt owner (way m h k) ≠ none := by
  obtain ⟨n, le, e⟩ := meetB hm h hj
  have hit : oAt owner (way m h (off m (SetTable.bits h % (m + 1)) (SetTable.bits h) n)) = none := by
    have z : way m h (off m (SetTable.bits h % (m + 1)) (SetTable.bits h) n) = j := by
      have y := congrArg SetTable.Probe.j (nth_off m n (SetTable.bits h % (m + 1)) (SetTable.bits h))
      rw [itL_run] at y
      exact y.trans e
    rw [z]
    exact hf
  obtain ⟨K, k1, k2, k3⟩ := st_least (p := fun k => oAt owner (way m h k) = none) _ hit
  refine ⟨K, free_spec m owner (SetTable.turns m) n _ _ K (by unfold SetTable.turns; omega) k1 (fun k lt => ?_) (by rw [show oAt owner _ = none from k2]; rfl), k2, k3⟩
  have y := k3 k lt
  cases z : oAt owner (nth m (runAt m (SetTable.bits h % (m + 1)) (SetTable.bits h)) k).j with
  | none => exact absurd z y
  | some _ => rfl
theorem sitB {m : Nat} (hm : MaskB m) {done : List Int} {owner : Array (Option Nat)} (W : Own m done owner) (hl : done.length ≤ m) (h : Int) :
    ∃ j, SetTable.layClean.free m owner (SetTable.turns m) (SetTable.bits h % (m + 1)) (SetTable.bits h) = some j ∧ Own m (done ++ [h]) (owner.setIfInBounds j (some done.length)) := by
  obtain ⟨ps, n, hin⟩ := W.ps
  obtain ⟨j0, lt0, no0⟩ := st_missing ps (m + 1) (by omega)
  have free0 : oAt owner j0 = none := Classical.byContradiction fun z => no0 (hin j0 (Nat.le_of_lt_succ lt0) z)
  obtain ⟨K, e1, e2, e3⟩ := freeB hm owner h (Nat.le_of_lt_succ lt0) free0
  have top := wayB m h K
  refine ⟨way m h K, e1, ?_⟩
  generalize ej : way m h K = j at e1 e2 top
  have self := oAt_set_self (owner := owner) (j := j) (some done.length) (by rw [W.sz]; omega)
  have keep : ∀ i, i ≠ j → oAt (owner.setIfInBounds j (some done.length)) i = oAt owner i := fun i => oAt_set_ne _
  have busy : ∀ i, oAt owner i ≠ none → oAt (owner.setIfInBounds j (some done.length)) i ≠ none := fun i hi => by
    rw [keep i fun z => hi (by rw [z, e2])]
    exact hi
  constructor
  · rw [Array.size_setIfInBounds]
    exact W.sz
  · intro i k hi e
    by_cases c : i = j
    · subst c
      rw [self] at e
      cases e
      exact ⟨h, K, by simp, ej, fun k' lt => busy _ (e3 k' lt)⟩
    · rw [keep i c] at e
      obtain ⟨h', K', a1, a2, a3⟩ := W.at_ i k hi e
      exact ⟨h', K', by rw [List.getElem?_append_left (List.getElem?_eq_some_iff.mp a1).1]; exact a1, a2, fun k' lt => busy _ (a3 k' lt)⟩
  · intro k lt
    rw [List.length_append, List.length_singleton] at lt
    rcases Nat.lt_or_ge k done.length with c | c
    · obtain ⟨i, hi, e⟩ := W.all k c
      exact ⟨i, hi, by rw [keep i fun z => by rw [z, e2] at e; cases e]; exact e⟩
    · have z : k = done.length := by omega
      subst z
      exact ⟨j, top, self⟩
  · refine ⟨j :: ps, by rw [List.length_cons, List.length_append, n]; rfl, fun i hi e => ?_⟩
    by_cases c : i = j
    · rw [c]
      exact List.mem_cons_self
    · rw [keep i c] at e
      exact List.mem_cons_of_mem _ (hin i hi e)
theorem layB {m : Nat} (hm : MaskB m) : ∀ (rest done : List Int) (owner : Array (Option Nat)), Own m done owner → done.length + rest.length ≤ m →
    ∃ owner' n, rest.foldl (stepF m) (some (owner, done.length)) = some (owner', n) ∧ Own m (done ++ rest) owner'
  | [], done, owner, W, _ => ⟨owner, done.length, rfl, by rw [List.append_nil]; exact W⟩
  | h :: rest, done, owner, W, hl => by
    rw [List.length_cons] at hl
    obtain ⟨j, e, W1⟩ := sitB hm W (by omega) h
    have n1 : (done ++ [h]).length = done.length + 1 := by rw [List.length_append]; rfl
    obtain ⟨owner', n, f, W2⟩ := layB hm rest _ _ W1 (by omega)
    rw [List.append_assoc] at W2
    refine ⟨owner', n, ?_, W2⟩
    rw [List.foldl_cons, stepF_some e, ← n1]
    exact f
theorem relaidB (t : SetTable) {hs : Array Int} {wanted M : Nat} (hw : SetTable.sizeAbove wanted = M + 1) (hM : MaskB M) (hn : hs.size ≤ M) :
    ∃ t' order, t.relaid hs wanted = some (t', order) ∧ order.toList.Perm (List.range hs.size) ∧ TabB t' (order.toList.map fun i => hs.getD i 0) ∧ t'.mask = M ∧ t'.led = t.led := by
  obtain ⟨owner, n, f, W⟩ := layB hM hs.toList [] _ (Own.init M) (by rw [Array.length_toList]; show 0 + hs.size ≤ M; omega)
  rw [List.nil_append] at W
  have lc : SetTable.layClean M hs = some owner := by
    rw [layClean_eq]
    exact congrArg (Option.map Prod.fst) f
  have made : t.relaid hs wanted = some (tabOf t M owner, ((liveOf M owner).map (·.2)).toArray) := by
    rw [relaid_eq, show SetTable.sizeAbove wanted - 1 = M by omega, lc]
    rfl
  obtain ⟨r1, r2⟩ : Ris ((liveOf M owner).map (·.1)) ∧ ∀ x ∈ (liveOf M owner).map (·.1), x ∈ List.range (M + 1) := ris_live (fun j => owner.getD j none) (List.range (M + 1)) (by
    unfold Ris
    first | exact List.pairwise_lt_range | exact List.pairwise_lt_range _)
  have every : ∀ k, k < hs.size → k ∈ (liveOf M owner).map (·.2) := fun k lt => by
    obtain ⟨j, b1, b2⟩ := W.all k (by rw [Array.length_toList]; exact lt)
    exact List.mem_map.mpr ⟨(j, k), (mem_live W.sz).2 ⟨b1, b2⟩, rfl⟩
  have many : (liveOf M owner).length = hs.size := by
    obtain ⟨ps, p1, p2⟩ := W.ps
    have a := nat_nodup_len ((liveOf M owner).map (·.1)) ps (show ((liveOf M owner).map (·.1)).Nodup from List.Pairwise.imp (fun h => Nat.ne_of_lt h) r1) fun x m => by
      obtain ⟨⟨y, k⟩, m2, rfl⟩ := List.mem_map.mp m
      obtain ⟨b1, b2⟩ := (mem_live W.sz).1 m2
      exact p2 y b1 (by rw [b2]; exact fun z => nomatch z)
    have b := nat_nodup_len (List.range hs.size) ((liveOf M owner).map (·.2)) List.nodup_range fun k m => every k (List.mem_range.mp m)
    rw [List.length_map] at a
    rw [List.length_map, List.length_range] at b
    have hz : hs.toList.length = hs.size := rfl
    omega
  refine ⟨_, _, made, perm_range hs.size _ (by show ((liveOf M owner).map (·.2)).length = _; rw [List.length_map]; exact many) every, ⟨r1, rfl, ?_, hM, fun x m => Nat.le_of_lt_succ (List.mem_range.mp (r2 x m)), fun i h j h1 h2 => ?_⟩, rfl, rfl⟩
  · show ((liveOf M owner).map (·.1)).toArray.size = (((liveOf M owner).map (·.2)).map fun i => hs.getD i 0).length
    simp
  · replace h1 : (((liveOf M owner).map (·.2)).map fun i => hs.getD i 0)[i]? = some h := h1
    replace h2 : ((liveOf M owner).map (·.1))[i]? = some j := h2
    rw [List.getElem?_map, Option.map_eq_some_iff] at h2
    obtain ⟨⟨j1, k⟩, at_, ej⟩ := h2
    replace ej : j1 = j := ej
    subst ej
    obtain ⟨b1, b2⟩ := (mem_live W.sz).1 (List.mem_of_getElem? at_)
    obtain ⟨h', K, g1, g2, g3⟩ := W.at_ j1 k b1 b2
    rw [List.getElem?_map, List.getElem?_map, at_] at h1
    have eh : h' = h := by
      have z : hs.getD k 0 = h := Option.some.inj h1
      rw [Array.getElem?_toList] at g1
      rw [← z, Array.getD_eq_getD_getElem?, g1]
      rfl
    subst eh
    refine ⟨K, g2, fun k' lt => ?_⟩
    cases z : oAt owner (way M h' k') with
    | none => exact absurd z (g3 k' lt)
    | some k2 => exact List.mem_map.mpr ⟨(way M h' k', k2), (mem_live W.sz).2 ⟨wayB M h' k', z⟩, rfl⟩
end Lk

/-! TupG0 -/
set_option Elab.async false
set_option maxRecDepth 100000
set_option linter.all false
set_option maxHeartbeats 4000000
namespace Lk
open PySem PySem.Spec PyProof.Rows L2
/-! ### a set whose members are told by what stands at their addresses: tuples of whatever kind, found by the table -/
section
variable {α β : Type} {R : α → β → Prop}
theorem each_at : ∀ {as : List α} {bs : List β}, PySem.W.EachIs R as bs → ∀ {i : Nat} {b : β}, bs[i]? = some b → ∃ a, as[i]? = some a ∧ R a b
  | _, _, .nil, i, b, h => by cases h
  | _, _, .cons r t, 0, b, h => by
    cases h
    exact ⟨_, rfl, r⟩
  | _, _, .cons r t, i + 1, b, h => each_at t (i := i) h
theorem each_app : ∀ {as cs : List α} {bs ds : List β}, PySem.W.EachIs R as bs → PySem.W.EachIs R cs ds → PySem.W.EachIs R (as ++ cs) (bs ++ ds)
  | _, _, _, _, .nil, g => g
  | _, _, _, _, .cons r t, g => .cons r (each_app t g)
theorem each_take : ∀ {as : List α} {bs : List β} (p : Nat), PySem.W.EachIs R as bs → PySem.W.EachIs R (as.take p) (bs.take p)
  | _, _, 0, _ => .nil
  | _, _, p + 1, .nil => .nil
  | _, _, p + 1, .cons r t => .cons r (each_take p t)
theorem each_drop : ∀ {as : List α} {bs : List β} (p : Nat), PySem.W.EachIs R as bs → PySem.W.EachIs R (as.drop p) (bs.drop p)
  | _, _, 0, h => h
  | _, _, p + 1, .nil => .nil
  | _, _, p + 1, .cons r t => each_drop p t
theorem each_ins {as : List α} {bs : List β} {a : α} {b : β} (p : Nat) (h : PySem.W.EachIs R as bs) (r : R a b) : PySem.W.EachIs R (as.take p ++ a :: as.drop p) (bs.take p ++ b :: bs.drop p) :=
  each_app (each_take p h) (.cons r (each_drop p h))
/-- some of them, by their places -/
theorem each_pick {as : List α} {bs : List β} (h : PySem.W.EachIs R as bs) : ∀ l : List Nat, (∀ i ∈ l, i < bs.length) → PySem.W.EachIs R (l.filterMap fun i => as[i]?) (l.filterMap fun i => bs[i]?)
  | [], _ => .nil
  | i :: l, hl => by
    have e := List.getElem?_eq_getElem (hl i List.mem_cons_self)
    obtain ⟨a, ea, r⟩ := each_at h e
    rw [List.filterMap_cons_some ea, List.filterMap_cons_some e]
    exact .cons r (each_pick h l fun j hj => hl j (List.mem_cons_of_mem _ hj))
theorem pick_all : ∀ bs : List β, (List.range bs.length).filterMap (fun i => bs[i]?) = bs
  | [] => rfl
  | b :: bs => by
    rw [List.length_cons, List.range_succ_eq_map, List.filterMap_cons_some (show (b :: bs)[0]? = some b from rfl), List.filterMap_map]
    exact congrArg (b :: ·) (pick_all bs)
theorem pick_perm {bs : List β} {l : List Nat} (h : l.Perm (List.range bs.length)) : (l.filterMap fun i => bs[i]?).Perm bs := by
  have z := h.filterMap fun i => bs[i]?
  rw [pick_all] at z
  exact z
theorem ins_perm (l : List β) (p : Nat) (b : β) : (l.take p ++ b :: l.drop p).Perm (b :: l) := by
  have z : (l.take p ++ b :: l.drop p).Perm (b :: (l.take p ++ l.drop p)) := List.perm_middle
  rwa [List.take_append_drop] at z
end
/-! the steps of a search -/
def stp (m : Nat) (h : Int) (c : Nat) : SetTable.Probe := nth m (runAt m (SetTable.bits h % (m + 1)) (SetTable.bits h)) c
theorem stp_on (m : Nat) (h : Int) (c q : Nat) : nth m (stp m h c) q = stp m h (c + q) := (nth_add m c _ q).symm
theorem stp_clean (m : Nat) (h : Int) : ∀ c, (stp m h c).dummy = none
  | 0 => rfl
  | c + 1 => by
    have e : stp m h (c + 1) = adv m (stp m h c) := nth_succ m _ c
    rw [e]
    unfold adv
    split
    · exact stp_clean m h c
    · exact stp_clean m h c
/-- what the probe meets from the c-th step on, in steps from the start -/
theorem probe_met {t : SetTable} {hs : List Int} (T : TabB t hs) {h : Int} {g : Nat → Int} {K c : Nat} (lim : K < 10 * SetTable.turns t.mask) (free : way t.mask h K ∉ t.place.toList) (busy : ∀ d, d < K → way t.mask h d ∈ t.place.toList) (le : c ≤ K) :
    (∃ d i, c ≤ d ∧ d < K ∧ t.place.toList[i]? = some (way t.mask h d) ∧ (∀ d' i', c ≤ d' → d' < d → t.place.toList[i']? = some (way t.mask h d') → g i' ≠ h) ∧ t.probe g h (stp t.mask h c) = some (.candidate (way t.mask h d) i (stp t.mask h (d + 1)))) ∨
    ((∀ d' i', c ≤ d' → d' < K → t.place.toList[i']? = some (way t.mask h d') → g i' ≠ h) ∧ t.probe g h (stp t.mask h c) = some (.empty (way t.mask h K) none)) := by
  have ej : ∀ q, (nth t.mask (stp t.mask h c) q).j = way t.mask h (c + q) := fun q => congrArg SetTable.Probe.j (stp_on t.mask h c q)
  have eK : c + (K - c) = K := by omega
  have shift : ∀ {d : Nat}, c ≤ d → way t.mask h d = (nth t.mask (stp t.mask h c) (d - c)).j := fun {d} hd => by
    rw [ej]
    exact congrArg (way t.mask h) (by omega)
  rcases go_spec t T.ris T.dm g h (10 * SetTable.turns t.mask) (K - c) (stp t.mask h c) (stp_clean _ _ _) (by omega) (fun q hq => by
    rw [ej]
    exact busy _ (by omega)) (by rw [ej, eK]; exact free) with ⟨q, i, lt, at_, _, early, e⟩ | ⟨early, e⟩
  · refine .inl ⟨c + q, i, Nat.le_add_right _ _, by omega, by rw [← ej]; exact at_, fun d' i' h1 h2 h3 => early (d' - c) i' (by omega) (by rw [← shift h1]; exact h3), ?_⟩
    rw [ej, stp_on] at e
    exact e
  · refine .inr ⟨fun d' i' h1 h2 h3 => early (d' - c) i' (by omega) (by rw [← shift h1]; exact h3), ?_⟩
    rw [ej, eK] at e
    exact e
section
variable {P : Program} {w : World} {κ : Type} [DecidableEq κ]
/-- what a set asks of such members, besides hash and equality -/
structure Mem (knd : HeapKind P w κ) : Prop where
  st : knd.Stays
  cls : ∀ {A : Around} {E : Value → Shared → Prop} {s : Shared} {k : κ} {b : Addr} {Q : Bool → Shared → Prop}, knd.is s.heap k b → Q false s → wpAny (model P w) A (ofAClassStatement 8 (.ref b)) Q E s
  byV : ∀ {A : Around} {E : Value → Shared → Prop} {s : Shared} {k : κ} {b : Addr} {Q : Bool → Shared → Prop}, knd.is s.heap k b → (∀ v, Q v s) → wpAny (model P w) A (hashByValue 8 (.ref b)) Q E s
variable {knd : HeapKind P w κ}
theorem Mem.keep (M : Mem knd) {h h' : Heap} {k : κ} {b : Addr} (x : knd.is h k b) (kp : ∀ c u, h.get? c = some u → h'.get? c = some u) : knd.is h' k b := M.st.stays (fun c u _ _ hc _ => kp c u hc) x
/-- an entry of the table, and the key that it bears; B tells which key stands at which address -/
def Row (knd : HeapKind P w κ) (B : κ → Addr → Prop) (e : Int × Value) (k : κ) : Prop := ∃ b, e = (knd.hash k, Value.ref b) ∧ B k b
structure TRow (knd : HeapKind P w κ) (B : κ → Addr → Prop) (h : Heap) (a : Addr) (ks : List κ) (es : Array (Int × Value)) (ep : Nat) (t : SetTable) : Prop where
  here : ∃ o, h.get? a = some o ∧ o.ExactSet ∧ o.data = .set es ep t
  each : PySem.W.EachIs (Row knd B) es.toList ks
  tab : TabB t (ks.map knd.hash)
  diff : ks.Nodup
  led : w.params.followText "set-order" = true ∨ t.led = true
  loose : ks.length * 5 < t.mask * 3
  few : ks.length ≤ 1200
def Sees (knd : HeapKind P w κ) (B : κ → Addr → Prop) (h : Heap) : Prop := ∀ k b, B k b → knd.is h k b
variable {B : κ → Addr → Prop} {A : Around} {E : Value → Shared → Prop} {s : Shared} {a : Addr} {ks : List κ} {es : Array (Int × Value)} {ep : Nat} {t : SetTable}
theorem TRow.many (R : TRow knd B s.heap a ks es ep t) : es.size = ks.length := by
  have z := R.each.length
  rwa [Array.length_toList] at z
theorem fits_tab {hs : List Int} (T : TabB t hs) {n : Nat} (e : hs.length = n) (le : n ≤ t.mask) : t.fits n = true := by
  have z := T.sz
  unfold SetTable.fits SetTable.fill
  simp only [T.dm, Bool.and_eq_true, beq_iff_eq, decide_eq_true_eq, List.size_toArray, List.length_nil]
  omega
theorem TRow.fit (R : TRow knd B s.heap a ks es ep t) : t.fits es.size = true := by
  have z := R.loose
  exact fits_tab R.tab (by rw [List.length_map, R.many]) (by rw [R.many]; omega)
theorem TRow.at (R : TRow knd B s.heap a ks es ep t) {i : Nat} {k : κ} (h : ks[i]? = some k) : ∃ b, es[i]? = some (knd.hash k, Value.ref b) ∧ B k b := by
  obtain ⟨e, he, b, eb, z⟩ := each_at R.each h
  refine ⟨b, ?_, z⟩
  rw [← Array.getElem?_toList, he, eb]
theorem TRow.odd (R : TRow knd B s.heap a ks es ep t) : t.gaveWay = false := by
  unfold SetTable.gaveWay
  rw [oddB R.tab.mok]
  rfl
/-- a search shows nothing of such members -/
theorem seen_none (M : Mem knd) {k : κ} {x : Addr} {Q : Bool → Shared → Prop} (hx : knd.is s.heap k x) {ys : List Value} (hy : ∀ y ∈ ys, ∃ k' c, y = Value.ref c ∧ knd.is s.heap k' c) (q : Q false s) : wpAny (model P w) A (searchCouldBeSeen (.ref x) ys) Q E s := by
  unfold searchCouldBeSeen
  refine wpAny_bind (wpAny_forIn_list _ (fun l z u => z.1 = none ∧ u = s ∧ ∀ y ∈ l, y ∈ ys) _ ?step ?stop _ _ ⟨rfl, rfl, fun _ m => m⟩)
  case step =>
    rintro v l z u ⟨hz, rfl, sub⟩
    obtain ⟨k', c, rfl, hc⟩ := hy v (sub v List.mem_cons_self)
    have on : ∀ y ∈ l, y ∈ ys := fun y m => sub y (List.mem_cons_of_mem _ m)
    dsimp only
    by_cases same : (x == c || (carriedByValue (.ref x) && carriedByValue (.ref c))) = true
    · exact wp_if_pos same (wpAny_pure ⟨rfl, rfl, on⟩)
    · refine wp_if_neg same (wpAny_bind (knd.quiet hx ?_))
      simp only [Bool.not_true, Bool.false_eq_true, if_false]
      refine wpAny_bind (knd.quiet hc ?_)
      simp only [Bool.not_true, Bool.false_eq_true, if_false]
      refine wpAny_bind (M.cls hx ?_)
      simp only [Bool.false_eq_true, if_false]
      refine wpAny_bind (M.cls hc ?_)
      simp only [Bool.false_eq_true, if_false]
      exact wpAny_pure ⟨rfl, rfl, on⟩
  case stop =>
    rintro ⟨z1, z2⟩ u ⟨hz, rfl, _⟩
    cases hz
    exact wpAny_pure q
/-- the search from the c-th step on -/
theorem search_on (M : Mem knd) (C : Sees knd B s.heap) (R : TRow knd B s.heap a ks es ep t) {x : Addr} {k : κ} (hx : knd.is s.heap k x) (room : knd.room A) {K : Nat} (lim : K < 10 * SetTable.turns t.mask) (free : way t.mask (knd.hash k) K ∉ t.place.toList)
    (busy : ∀ d, d < K → way t.mask (knd.hash k) d ∈ t.place.toList) {Q : SetFound → Shared → Prop} (old : k ∈ ks → Q (.there none) s) (new : k ∉ ks → Q (.free (way t.mask (knd.hash k) K) false) s) :
    ∀ (f c : Nat) (stand : Option SetTable.Probe), stand.getD (t.probeStart (knd.hash k)) = stp t.mask (knd.hash k) c → c ≤ K → K - c < f → (∀ i : Nat, ks[i]? = some k → ∃ d, c ≤ d ∧ d < K ∧ t.place.toList[i]? = some (way t.mask (knd.hash k) d)) →
      wpAny (model P w) A (setSearchFrom a (.ref x) (knd.hash k) true f stand) Q E s := by
  obtain ⟨o, ho, hex, hd⟩ := R.here
  intro f
  induction f with
  | zero => exact fun c _ _ _ lt => absurd lt (Nat.not_lt_zero _)
  | succ f ih =>
    intro c stand es0 le lt ahead
    rw [setSearchFrom_succ]
    refine wpAny_bind (wpAny_setState_of (a := a) ho hd (TRow.fit R) ?_)
    dsimp only
    rw [R.odd]
    simp only [Bool.false_eq_true, if_false]
    try refine wpAny_bind (wpAny_pure ?_)
    rw [es0]
    have bears : ∀ (i : Nat) (k' : κ), ks[i]? = some k' → (es[i]?.map (·.1)).getD 0 = knd.hash k' := fun i k' h => by
      obtain ⟨b, e, _⟩ := R.at h
      rw [e]
      rfl
    rcases probe_met R.tab (g := fun i => (es[i]?.map (·.1)).getD 0) lim free busy le with ⟨d, i, h1, h2, h3, early, e⟩ | ⟨early, e⟩
    · rw [e]
      dsimp only
      have lti : i < ks.length := by
        have z := (List.getElem?_eq_some_iff.mp h3).1
        have z2 := R.tab.sz
        rw [List.length_map] at z2
        rw [Array.length_toList] at z
        omega
      have hk : ks[i]? = some ks[i] := List.getElem?_eq_getElem lti
      generalize ks[i] = k' at hk
      obtain ⟨b, eb, hb⟩ := R.at hk
      have live : t.slot (way t.mask (knd.hash k) d) = .live i := slot_live R.tab.ris h3
      have tail : wpAny (model P w) A (searchRest a (.ref x) (knd.hash k) true f es t (way t.mask (knd.hash k) d) i (stp t.mask (knd.hash k) (d + 1))) Q E s := by
        unfold searchRest
        rw [eb]
        dsimp only
        refine wpAny_bind (wpAny_holding (knd.eqBool room (C _ _ hb) hx ?_))
        refine wpAny_bind (wpAny_setState_of (a := a) ho hd (TRow.fit R) ?_)
        dsimp only
        by_cases eq : k' = k
        · refine wp_if_pos (by rw [decide_eq_true eq]; rfl) (wpAny_pure (old ?_))
          rw [← eq]
          exact List.mem_of_getElem? hk
        · refine wp_if_neg (by rw [decide_eq_false eq]; exact Bool.false_ne_true) ?_
          try refine wpAny_bind (wpAny_pure ?_)
          rw [sameMem]
          dsimp only
          simp only [↓reduceIte, live, eb]
          refine wpAny_bind (wpAny_isSame_ref_self (wpAny_bind (wpAny_pure ?_)))
          simp only [↓reduceIte]
          refine wp_if_neg (by rw [decide_eq_false eq]; exact Bool.false_ne_true) ?_
          refine ih (d + 1) _ rfl h2 (by omega) fun i0 h0 => ?_
          obtain ⟨d0, g1, g2, g3⟩ := ahead i0 h0
          refine ⟨d0, ?_, g2, g3⟩
          rcases Nat.lt_trichotomy d0 d with z | z | z
          · exact absurd (bears i0 k h0) (early d0 i0 g1 z g3)
          · rw [z] at g3
            have s0 := slot_live R.tab.ris g3
            rw [live] at s0
            injection s0 with s0
            rw [s0, h0] at hk
            exact absurd (Option.some.inj hk).symm eq
          · exact z
      by_cases hl : t.led = true
      · rw [hl]
        simp only [Bool.not_true, Bool.false_eq_true, if_false]
        try refine wpAny_bind (wpAny_pure ?_)
        exact tail
      · rw [Bool.not_eq_true] at hl
        rw [hl]
        simp only [Bool.not_false, if_true]
        refine wpAny_bind (seen_none M hx (fun y hy => ?_) ?_)
        · obtain ⟨e1, m, ey⟩ := List.mem_map.mp hy
          have m2 : e1 ∈ es.toList := by
            have z : e1 ∈ es ∧ e1.1 = knd.hash k := by simpa using m
            exact Array.mem_toList_iff.mpr z.1
          obtain ⟨k2, _, b2, z2, z3⟩ := PySem.W.EachIs.left R.each e1 m2
          refine ⟨k2, b2, ?_, C _ _ z3⟩
          rw [← ey, z2]
        · simp only [Bool.false_eq_true, if_false]
          try refine wpAny_bind (wpAny_pure ?_)
          exact tail
    · rw [e]
      dsimp only
      refine wpAny_pure (new fun m => ?_)
      obtain ⟨i0, lt0, e0⟩ := List.getElem_of_mem m
      have h0 : ks[i0]? = some k := by rw [List.getElem?_eq_getElem lt0, e0]
      obtain ⟨d0, g1, g2, g3⟩ := ahead i0 h0
      exact early d0 i0 g1 g2 g3 (bears i0 k h0)
theorem search_all (M : Mem knd) (C : Sees knd B s.heap) (R : TRow knd B s.heap a ks es ep t) {x : Addr} {k : κ} (hx : knd.is s.heap k x) (room : knd.room A) {Q : SetFound → Shared → Prop} (old : k ∈ ks → Q (.there none) s)
    (new : ∀ K, k ∉ ks → way t.mask (knd.hash k) K ∉ t.place.toList → (∀ d, d < K → way t.mask (knd.hash k) d ∈ t.place.toList) → Q (.free (way t.mask (knd.hash k) K) false) s) : wpAny (model P w) A (setSearch a (.ref x) (knd.hash k) true) Q E s := by
  have lo := R.loose
  obtain ⟨K, lim, free, busy⟩ := R.tab.first (by rw [List.length_map]; omega) (knd.hash k)
  have big : 10 * SetTable.turns t.mask ≤ 30000 := by
    have z := topB R.tab.mok
    unfold SetTable.turns
    omega
  unfold setSearch
  refine search_on M C R hx room lim free busy old (fun n => new K n free busy) 100000 0 none rfl (Nat.zero_le _) (by omega) fun i hi => ?_
  have h1 : (ks.map knd.hash)[i]? = some (knd.hash k) := by rw [List.getElem?_map, hi]; rfl
  have h2 : i < t.place.toList.length := by
    have z := (List.getElem?_eq_some_iff.mp h1).1
    rw [Array.length_toList, R.tab.sz]
    exact z
  have h3 := List.getElem?_eq_getElem h2
  obtain ⟨d, lt, e⟩ := R.tab.before free h1 h3
  exact ⟨d, Nat.zero_le _, lt, by rw [h3, e]⟩
end
end Lk

/-! TupG1 -/
set_option Elab.async false
set_option maxRecDepth 100000
set_option linter.all false
set_option maxHeartbeats 4000000
namespace Lk
open PySem PySem.Spec PyProof.Rows L2
section
variable {P : Program} {w : World} {κ : Type} [DecidableEq κ] {knd : HeapKind P w κ} {A : Around} {E : Value → Shared → Prop} {s : Shared} {a : Addr} {B : κ → Addr → Prop}
/-- a set with these keys, in whatever order -/
def TSet (knd : HeapKind P w κ) (B : κ → Addr → Prop) (h : Heap) (a : Addr) (ks : List κ) : Prop := ∃ ls es ep t, TRow knd B h a ls es ep t ∧ ls.Perm ks
theorem size_308 : SetTable.sizeAbove (SetTable.grown 77) = 512 := by decide +kernel
theorem size_1228 : SetTable.sizeAbove (SetTable.grown 307) = 2048 := by decide +kernel
/-- a table laid out anew, with more room -/
theorem tset_relay {o : Obj} {es : Array (Int × Value)} {ep : Nat} {t : SetTable} {ls ks : List κ} (ho : s.heap.get? a = some o) (hex : o.ExactSet) (hd : o.data = .set es ep t) (each : PySem.W.EachIs (Row knd B) es.toList ls) (T : TabB t (ls.map knd.hash)) (inside : ls.length ≤ t.mask)
    (pm : ls.Perm ks) (nd : ks.Nodup) (led : w.params.followText "set-order" = true ∨ t.led = true) (few : ks.length ≤ 1200) {wanted N : Nat} (hw : SetTable.sizeAbove wanted = N + 1) (hN : MaskB N) (loose : ks.length * 5 < N * 3) {Q : Unit → Shared → Prop}
    (q : ∀ h', Heap.SameBut a s.heap h' → TSet knd B h' a ks → Q () { s with heap := h' }) : wpAny (model P w) A (setRelay a wanted) Q E s := by
  have n0 : es.size = ls.length := by
    have z := each.length
    rwa [Array.length_toList] at z
  have n1 : ls.length = ks.length := pm.length_eq
  have nN := topB hN
  obtain ⟨t', order, e, hp, T', em, el⟩ := relaidB t (hs := es.map (·.1)) (wanted := wanted) (M := N) hw hN (by rw [Array.size_map]; omega)
  rw [Array.size_map, n0] at hp
  have sub : ∀ i ∈ order.toList, i < ls.length := fun i hi => List.mem_range.mp (hp.mem_iff.mp hi)
  have each' := each_pick each order.toList sub
  have perm' : (order.toList.filterMap fun i => ls[i]?).Perm ls := pick_perm hp
  have hashes : ∀ l : List Nat, (∀ i ∈ l, i < ls.length) → (l.filterMap fun i => ls[i]?).map knd.hash = l.map fun i => (es.map (·.1)).getD i 0 := by
    intro l
    induction l with
    | nil => exact fun _ => rfl
    | cons i l ih =>
      intro hl
      have lt := hl i List.mem_cons_self
      have ei := List.getElem?_eq_getElem lt
      obtain ⟨e1, he, b, eb, _⟩ := each_at each ei
      rw [Array.getElem?_toList] at he
      have eh : (es.map (·.1)).getD i 0 = knd.hash (ls[i]'lt) := by
        rw [Array.getD_eq_getD_getElem?, Array.getElem?_map, he, eb]
        rfl
      rw [List.filterMap_cons_some ei, List.map_cons, List.map_cons, ih fun j hj => hl j (List.mem_cons_of_mem _ hj), eh]
  rw [← hashes _ sub] at T'
  have toL : (order.filterMap (es[·]?)).toList = order.toList.filterMap fun i => es.toList[i]? := by
    simp
  have n2 : (order.filterMap (es[·]?)).size = es.size := by
    rw [← Array.length_toList, toL, each'.length, perm'.length_eq, n0]
  have sb : Heap.SameBut a s.heap (s.heap.update a (Obj.putSet (order.filterMap (es[·]?)) t')) := Heap.SameBut.update ..
  rw [setRelay_eq]
  refine wpAny_bind (wpAny_setState_of (a := a) ho hd (fits_tab T (by rw [List.length_map, n0]) (by omega)) ?_)
  dsimp only
  refine wp_if_neg (by rw [hw, sizeLine_eq]; omega) ?_
  try refine wpAny_bind (wpAny_pure ?_)
  rw [e]
  dsimp only
  refine wpAny_bind (wp_if_neg (by rw [n2]; simp) ?_)
  try refine wpAny_bind (wpAny_pure ?_)
  refine wpAny_pure ?_
  dsimp only
  refine wpAny_storeSet_of (a := a) ho hd (q _ sb ⟨_, order.filterMap (es[·]?), ep + 1, t', ⟨⟨_, store_at ho hd, ⟨hex.1, hex.2.1, hex.2.2⟩, rfl⟩, ?_, T', ?_, ?_, ?_, ?_⟩, perm'.trans pm⟩) (by rw [n2, n0, sizeLine_eq]; omega)
  · rw [toL]
    exact each'
  · exact (perm'.trans pm).nodup_iff.mpr nd
  · exact led.imp id fun z => by rw [el]; exact z
  · rw [(perm'.trans pm).length_eq, em]
    exact loose
  · rw [(perm'.trans pm).length_eq]
    exact few
/-- one more -/
theorem tset_add (M : Mem knd) {ks : List κ} (C : Sees knd B s.heap) (R0 : TSet knd B s.heap a ks) {x : Addr} {k : κ} (hx : B k x) (room : knd.room A) (few : ks.length + 1 ≤ 1200) {Q : Bool → Shared → Prop} (old : k ∈ ks → Q false s)
    (new : k ∉ ks → ∀ h', Heap.SameBut a s.heap h' → TSet knd B h' a (k :: ks) → Q true { s with heap := h' }) : wpAny (model P w) A (setAddHashed a (.ref x) (knd.hash k)) Q E s := by
  obtain ⟨ls, es, ep, t, R, pm⟩ := R0
  obtain ⟨o, ho, hex, hd⟩ := R.here
  have n0 := R.many
  have n1 : ls.length = ks.length := pm.length_eq
  have lo := R.loose
  unfold setAddHashed
  refine wpAny_holding ?_
  rw [show (100000 : Nat) = 99999 + 1 from rfl, setAddHashedIn_succ]
  refine wpAny_bind (wpAny_setState_of (a := a) ho hd (TRow.fit R) ?_)
  dsimp only
  refine wp_if_neg (by simp [byScan, Value.scannable]) ?_
  try refine wpAny_bind (wpAny_pure ?_)
  refine wpAny_bind (search_all M C R (C _ _ hx) room (fun m => ?_) fun K m free busy => ?_)
  · dsimp only
    exact wpAny_pure (old (pm.mem_iff.mp m))
  · have nm : k ∉ ks := fun z => m (pm.mem_iff.mpr z)
    dsimp only
    refine wpAny_bind (wpAny_setState_of (a := a) ho hd (TRow.fit R) ?_)
    dsimp only
    obtain ⟨q1, q2, q3, q4, q5, q9⟩ := R.tab.put free busy rfl
    generalize t.put (way t.mask (knd.hash k) K) = Z at q1 q3 q4 q5 q9 ⊢
    obtain ⟨t1, p⟩ := Z
    dsimp only at q1 q3 q4 q5 q9 ⊢
    rw [← q1] at q3
    have hs1 : (ls.map knd.hash).take p ++ knd.hash k :: (ls.map knd.hash).drop p = (ls.take p ++ k :: ls.drop p).map knd.hash := by
      rw [List.map_append, List.map_cons, List.map_take, List.map_drop]
    rw [hs1] at q3
    have toL : (SetTable.insertAt es p (knd.hash k, Value.ref x)).toList = es.toList.take p ++ (knd.hash k, Value.ref x) :: es.toList.drop p := SetTable.toList_insertAt ..
    have each1 : PySem.W.EachIs (Row knd B) (SetTable.insertAt es p (knd.hash k, Value.ref x)).toList (ls.take p ++ k :: ls.drop p) := by
      rw [toL]
      exact each_ins p R.each ⟨x, rfl, hx⟩
    have pm1 : (ls.take p ++ k :: ls.drop p).Perm (k :: ks) := (ins_perm ls p k).trans (pm.cons k)
    have nd1 : (k :: ks).Nodup := List.nodup_cons.mpr ⟨nm, pm.nodup_iff.mp R.diff⟩
    have n3 : (ls.take p ++ k :: ls.drop p).length = ks.length + 1 := pm1.length_eq
    rw [List.length_map, n1] at q9
    generalize SetTable.insertAt es p (knd.hash k, Value.ref x) = es1 at toL each1 ⊢
    generalize ls.take p ++ k :: ls.drop p = l1 at each1 pm1 q3 n3
    have n4 : es1.size = ks.length + 1 := by
      rw [← Array.length_toList, each1.length, n3]
    have led1 : w.params.followText "set-order" = true ∨ t1.led = true := R.led.imp id fun z => by rw [q5]; exact z
    -- whatever the table says of its members' hashes from here on, the rest is the same
    have rest : ∀ t2 : SetTable, TabB t2 (l1.map knd.hash) → t2.mask = t.mask → (w.params.followText "set-order" = true ∨ t2.led = true) → t2.fill = ks.length + 1 →
        wpAny (model P w) A (do
          storeSet a es1 t2
          if (!false && t2.tooFull) = true then setRelay a (SetTable.grown (es.size + 1))
          pure true) Q E s := by
      intro t2 T2 em led2 fl
      have sb : Heap.SameBut a s.heap (s.heap.update a (Obj.putSet es1 t2)) := Heap.SameBut.update ..
      have at2 := store_at (es' := es1) (t' := t2) ho hd
      refine wpAny_bind (wpAny_storeSet_of (a := a) ho hd ?_ (by rw [n4, sizeLine_eq]; omega))
      generalize s.heap.update a (Obj.putSet es1 t2) = h1 at sb at2 ⊢
      by_cases full : t2.tooFull = true
      · have tight : (ks.length + 1) * 5 ≥ t.mask * 3 := by
          have z := full
          unfold SetTable.tooFull at z
          rw [decide_eq_true_eq, fl, em] at z
          exact z
        have two : (t.mask = 7 ∧ ks.length = 4) ∨ (t.mask = 31 ∧ ks.length = 18) ∨ (t.mask = 127 ∧ ks.length = 76) ∨ (t.mask = 511 ∧ ks.length = 306) := by
          rcases R.tab.mok with e | e | e | e | e
          · exact .inl ⟨e, by omega⟩
          · exact .inr (.inl ⟨e, by omega⟩)
          · exact .inr (.inr (.inl ⟨e, by omega⟩))
          · exact .inr (.inr (.inr ⟨e, by omega⟩))
          · omega
        simp only [full, Bool.not_false, Bool.and_true, if_true]
        rw [n0, n1]
        have go : ∀ N, SetTable.sizeAbove (SetTable.grown (ks.length + 1)) = N + 1 → MaskB N → (ks.length + 1) * 5 < N * 3 → wpAny (model P w) A (setRelay a (SetTable.grown (ks.length + 1)) >>= fun _ => pure true) Q E { s with heap := h1 } := fun N c1 c2 c3 =>
          wpAny_bind (tset_relay (s := { s with heap := h1 }) at2 ⟨hex.1, hex.2.1, hex.2.2⟩ rfl each1 T2 (by rw [em]; rcases two with ⟨e, f⟩ | ⟨e, f⟩ | ⟨e, f⟩ | ⟨e, f⟩ <;> omega) pm1 nd1 led2 few c1 c2 c3 fun h2 sb2 r => wpAny_pure (new nm h2 (sb.trans sb2) r))
        rcases two with ⟨_, e⟩ | ⟨_, e⟩ | ⟨_, e⟩ | ⟨_, e⟩
        · exact go 31 (by rw [e]; exact size_20) (.inr (.inl rfl)) (by omega)
        · exact go 127 (by rw [e]; exact size_76) (.inr (.inr (.inl rfl))) (by omega)
        · exact go 511 (by rw [e]; exact size_308) (.inr (.inr (.inr (.inl rfl)))) (by omega)
        · exact go 2047 (by rw [e]; exact size_1228) (.inr (.inr (.inr (.inr rfl)))) (by omega)
      · rw [Bool.not_eq_true] at full
        simp only [full, Bool.not_false, Bool.and_false, Bool.false_eq_true, if_false]
        refine wpAny_bind (wpAny_pure (wpAny_pure (new nm h1 sb ⟨l1, es1, ep + 1, t2, ⟨⟨_, at2, ⟨hex.1, hex.2.1, hex.2.2⟩, rfl⟩, each1, T2, pm1.nodup_iff.mpr nd1, led2, ?_, by omega⟩, pm1⟩)))
        unfold SetTable.tooFull at full
        rw [decide_eq_false_iff_not, fl, em] at full
        rw [n3, em]
        omega
    have plainOff : TabB { t1 with plain := false } (l1.map knd.hash) := ⟨q3.ris, q3.dm, q3.sz, q3.mok, q3.bd, q3.reach⟩
    by_cases pl : t1.plain = true
    · rw [pl]
      simp only [if_true]
      refine wpAny_bind (M.byV (C _ _ hx) fun v => ?_)
      cases v
      · exact rest { t1 with plain := false } plainOff q4 led1 q9
      · exact rest t1 q3 q4 led1 q9
    · rw [Bool.not_eq_true] at pl
      rw [pl]
      simp only [Bool.false_eq_true, if_false]
      refine wpAny_bind (wpAny_pure ?_)
      exact rest t1 q3 q4 led1 q9
end
end Lk

/-! TupG2 -/
set_option Elab.async false
set_option maxRecDepth 100000
set_option linter.all false
set_option maxHeartbeats 4000000
namespace Lk
open PySem PySem.Spec PyProof.Rows L2
section
variable {P : Program} {w : World} {κ : Type} [DecidableEq κ] {knd : HeapKind P w κ} {B : κ → Addr → Prop} {A : Around} {E : Value → Shared → Prop} {s : Shared}
theorem TSet.at {h h' : Heap} {a : Addr} {ks : List κ} (R : TSet knd B h a ks) (ha : ∀ o, h.get? a = some o → h'.get? a = some o) : TSet knd B h' a ks := by
  obtain ⟨ls, es, ep, t, r, pm⟩ := R
  obtain ⟨o, ho, hx⟩ := r.here
  exact ⟨ls, es, ep, t, ⟨⟨o, ha o ho, hx⟩, r.each, r.tab, r.diff, r.led, r.loose, r.few⟩, pm⟩
theorem TSet.nodup {h : Heap} {a : Addr} {ks : List κ} (R : TSet knd B h a ks) : ks.Nodup := by
  obtain ⟨_, _, _, _, r, pm⟩ := R
  exact pm.nodup_iff.mp r.diff
theorem tset_new {h : Heap} {a : Addr} (ho : h.get? a = some { cls := .type "set", dict := none, data := .set #[] 0 (.fresh 0 0 (!w.params.followText "set-order")) }) : TSet knd B h a [] :=
  ⟨[], #[], 0, _, ⟨⟨_, ho, ⟨rfl, rfl, rfl⟩, rfl⟩, .nil, ⟨List.Pairwise.nil, rfl, rfl, .inl rfl, fun x m => (by cases m), fun i z j hi => (by cases hi)⟩, List.nodup_nil, by
    show _ ∨ (!w.params.followText "set-order") = true
    cases w.params.followText "set-order"
    · exact .inr rfl
    · exact .inl rfl, (by decide : 0 * 5 < 7 * 3), (by decide : 0 ≤ 1200)⟩, .nil⟩
/-- s.update(..), turn by turn; h0: a heap in which the members stand, and which is not written -/
theorem tset_loop (M : Mem knd) {I S : Addr} {fp wr : List Addr} {G : Array GenState → Array GenState → Prop} {n : Nat} {Pv : Nat → Value → Prop} {St : Nat → Shared → Prop} {R : Result → Shared → Prop} (W : WalksS P w A.in1 I fp wr G n Pv St) (apart : S ∉ fp) {ks : List κ}
    (len : n = ks.length) (few : ks.length ≤ 1200) (room : knd.room A.in1) {h0 : Heap} (fresh : ∀ b ∈ S :: wr, h0.get? b = none) (C : Sees knd B h0) (item : ∀ i v, Pv i v → ∃ k b, ks[i]? = some k ∧ v = .ref b ∧ B k b)
    (done : ∀ s' us, Moved (S :: wr) G s s' → (∀ b o, h0.get? b = some o → s'.heap.get? b = some o) → TSet knd B s'.heap S us → (∀ k, k ∈ us ↔ k ∈ ks) → R (.ok (.ret .none)) s') :
    ∀ (m i : Nat) (s1 : Shared) (us : List κ), n - i = m → i ≤ n → St i s1 → Moved (S :: wr) G s s1 → (∀ b o, h0.get? b = some o → s1.heap.get? b = some o) → TSet knd B s1.heap S us → (∀ k, k ∈ us ↔ k ∈ ks.take i) → us.length ≤ i →
      codeAny (model P w) A (.builtin "set.update.loop" ⟨[.ref S, .ref I], []⟩) R s1 := by
  have aw : S ∉ wr := fun z => apart (W.sub _ z)
  have up : ∀ b ∈ wr, b ∈ S :: wr := fun b hb => List.mem_cons_of_mem _ hb
  have kept : ∀ {s1 s2 : Shared}, Moved wr G s1 s2 → (∀ b o, h0.get? b = some o → s1.heap.get? b = some o) → ∀ b o, h0.get? b = some o → s2.heap.get? b = some o := fun mv kp b o e =>
    mv.heap b o (fun hb => by
      rw [fresh b (up b hb)] at e
      cases e) (kp b o e)
  intro m
  induction m with
  | zero =>
    intro i s1 us em hi st mv kp R1 mem _
    have ei : i = n := by omega
    rw [ei] at st mem
    refine codeAny_builtin F.entry_set_update_loop ?_
    rw [Around.under_plainId F.plain_set_update_loop _]
    show wpAny _ A.in1 (pyNext (.ref I) >>= _) _ _ s1
    refine wpAny_bind (W.done s1 _ _ st fun s2 mv2 => ?_)
    show wpAny _ A.in1 (ret Value.none) _ _ s2
    rw [List.take_of_length_le (Nat.le_of_eq len.symm)] at mem
    exact wpAny_pure (done s2 us (Moved.trans W.gtrans mv (mv2.mono up)) (kept mv2 kp) (R1.at fun o e => mv2.heap S o aw e) mem)
  | succ m ih =>
    intro i s1 us em hi st mv kp R1 mem most
    have lt : i < n := by omega
    refine codeAny_builtin F.entry_set_update_loop ?_
    rw [Around.under_plainId F.plain_set_update_loop _]
    show wpAny _ A.in1 (pyNext (.ref I) >>= _) _ _ s1
    refine wpAny_bind (W.item i s1 _ _ lt st fun v s2 pv st2 mv2 => ?_)
    obtain ⟨k, b, hk, ev, hb⟩ := item i v pv
    subst ev
    have kp2 := kept mv2 kp
    have C2 : Sees knd B s2.heap := fun k b z => M.keep (C k b z) kp2
    have R2 := R1.at (h' := s2.heap) fun o e => mv2.heap S o aw e
    have next : ∀ j, j ∈ ks.take (i + 1) ↔ j ∈ ks.take i ∨ j = k := fun j => by
      rw [List.take_add_one, hk]
      simp [List.mem_append]
    show wpAny _ A.in1 (holding [Value.ref b] (setAdd S (.ref b)) >>= _) _ _ s2
    refine wpAny_bind (wpAny_holding ?_)
    unfold setAdd
    refine wpAny_holding (wpAny_bind (knd.pyHash room (C2 _ _ hb) ?_))
    have mv12 := Moved.trans W.gtrans mv (mv2.mono up)
    refine tset_add (s := { s2 with toks := s2.toks + knd.draws k }) M C2 R2 hb room (by omega) (fun old => ?_) fun nk h3 sb R3 => ?_
    · refine wpAny_pure ⟨plainId_quiet F.plain_set_update_loop _, ih (i + 1) _ us (by omega) lt (W.frame _ s2 _ _ st2 (Nat.le_add_right _ _) fun b hb o e => e) (mv12.then_heap (Nat.le_add_right _ _) fun b o hb e => e) kp2 R2 (fun j => ?_) (by omega)⟩
      rw [next j, mem j]
      exact ⟨.inl, fun z => z.elim id fun e => e ▸ (mem k).1 old⟩
    · refine wpAny_pure ⟨plainId_quiet F.plain_set_update_loop _, ih (i + 1) _ (k :: us) (by omega) lt (W.frame _ s2 _ _ st2 (Nat.le_add_right _ _) fun b hb o e => ?_) (mv12.then_heap (Nat.le_add_right _ _) fun b o hb e => ?_) (fun b o e => ?_) R3 (fun j => ?_) (by rw [List.length_cons]; omega)⟩
      · rw [sb.2 b (fun z : b = S => apart (by rw [← z]; exact hb))]
        exact e
      · rw [sb.2 b (fun z : b = S => hb (by rw [z]; exact List.mem_cons_self))]
        exact e
      · refine (sb.2 b fun z => ?_).trans (kp2 b o e)
        rw [z, fresh S List.mem_cons_self] at e
        cases e
      · rw [next j, List.mem_cons, mem j]
        exact Or.comm
end
end Lk

/-! TupG3 -/
set_option Elab.async false
set_option maxRecDepth 100000
set_option linter.all false
set_option maxHeartbeats 4000000
namespace Lk
open PySem PySem.Spec PyProof.Rows L2
section
variable {P : Program} {w : World} {κ : Type} [DecidableEq κ] {knd : HeapKind P w κ} {B : κ → Addr → Prop} {A : Around} {E : Value → Shared → Prop} {s : Shared}
set_option maxRecDepth 100000 in
theorem call_set_M (M : Mem knd) {l : Addr} {items : Array Value} {ks : List κ} {Q : Value → Shared → Prop} (hh : A.handled = none) (hl : s.heap.IsList l items) (len : items.size = ks.length) (few : ks.length ≤ 1200) (room : ∀ A' : Around, A'.units ≤ A.units + 8 → knd.room A') (C : Sees knd B s.heap)
    (item : ∀ (i : Nat) (v : Value), items[i]? = some v → ∃ k b, ks[i]? = some k ∧ v = .ref b ∧ B k b)
    (h : ∀ (h' : Heap) (tk : Nat) (us : List κ), TSet knd B h' s.heap.objs.size us → (∀ k, k ∈ us ↔ k ∈ ks) → (∀ b o, s.heap.get? b = some o → h'.get? b = some o) → Q (.ref s.heap.objs.size) { s with heap := h', toks := tk }) :
    wpAny (model P w) A (call (.type "set") [.ref l]) Q E s := by
  obtain ⟨c, tl, hmro⟩ := F.called_set.mro
  have hmade := F.called_set.made
  have hsub := F.called_set.sub
  refine wpAny_call (codeAny_of_tree ?_)
  show wpAny _ _ (callAny (.type "set") _) _ _ _
  refine wpAny_pure ⟨Code.quiet_builtin _ (by decide +kernel), codeAny_builtin F.entry_type_call ?_⟩
  rw [Around.under_plain (weight_type_call_type "set" [.ref l] []) rfl]
  have h1 := F.called_set.notType
  have h2 := F.called_set.canCreate
  have hct := F.typeCall_set_1 (.ref l)
  repeat (any_goals (first | assumption | wp_step))
  refine codeAny_mono (code_set_led1 (.ref l) (E := E) (Q₁ := fun obj s₁ => obj = .ref s.heap.objs.size ∧ s₁ = { s with heap := s.heap.push { cls := .type "set", dict := none, data := .set #[] 0 (.fresh 0 0 (!w.params.followText "set-order")) } }) ⟨rfl, rfl⟩) fun r s₁ hr => ?_
  match r, hr with
  | .error e, hr => exact hr
  | .ok .next, hr => exact hr.elim
  | .ok .brk, hr => exact hr.elim
  | .ok .cont, hr => exact hr.elim
  | .ok (.ret obj), ⟨eo, es⟩ =>
    subst eo es
    have hS : (s.heap.push { cls := .type "set", dict := none, data := .set #[] 0 (.fresh 0 0 (!w.params.followText "set-order")) }).get? s.heap.objs.size = some { cls := .type "set", dict := none, data := .set #[] 0 (.fresh 0 0 (!w.params.followText "set-order")) } := Heap.get?_push_size _ rfl
    have hT : Shared.TypeIs { s with heap := s.heap.push { cls := .type "set", dict := none, data := .set #[] 0 (.fresh 0 0 (!w.params.followText "set-order")) } } (.ref s.heap.objs.size) "set" := ⟨_, hS, rfl⟩
    have hli := F.called_set.init.lookup
    have hbi := F.called_set.init.bind (.ref s.heap.objs.size)
    repeat (any_goals (first | assumption | wp_step))
    refine codeAny_mono (codeAny_call_builtin (R := wants (fun r s₂ => r = .none ∧ ∃ h' tk us, s₂ = { s with heap := h', toks := tk } ∧ TSet knd B h' s.heap.objs.size us ∧ (∀ k, k ∈ us ↔ k ∈ ks) ∧
        (∀ b o, s.heap.get? b = some o → h'.get? b = some o)) E) F.called_set.init.plain F.entry_set_init (check_set_init_1 hT ?_)) fun r₂ s₂ hr₂ => ?_
    · obtain ⟨⟨ocls, odict, odata, oslots⟩, hol, hcl, nl, hdl⟩ := hl
      simp only at hcl hdl
      subst hcl hdl
      have hol' : (s.heap.push { cls := .type "set", dict := none, data := .set #[] 0 (.fresh 0 0 (!w.params.followText "set-order")) }).get? l = some { cls := .type "list", dict := odict, data := .seq items nl, slots := oslots } := Heap.get?_push_of_some _ hol
      have hsls := F.sub_list_set
      have hslf := F.sub_list_frozenset
      have hne : (Value.type "list" == Value.type "dict") = false := by decide
      have hl1 : (s.heap.push { cls := .type "set", dict := none, data := .set #[] 0 (.fresh 0 0 (!w.params.followText "set-order")) }).IsList l items := ⟨_, hol', rfl, nl, rfl⟩
      unfold Builtin.«set.__init__» noKeywords Builtin.Frozenset.updateFrom
      generalize hPI : pyIter = PI
      wp_walk
      subst hPI
      refine wpAny_pyIter_list hl1 ?_
      refine wpAny_bind (wpAny_runValue ?_)
      have lt : l < s.heap.objs.size := Heap.lt_size hol
      have sz : (s.heap.push { cls := .type "set", dict := none, data := .set #[] 0 (.fresh 0 0 (!w.params.followText "set-order")) }).objs.size = s.heap.objs.size + 1 := Heap.size_push ..
      have quiet : A.in1.in1.in1.handled = none := by simp [hh]
      have n1 : l ≠ (s.heap.push { cls := .type "set", dict := none, data := .set #[] 0 (.fresh 0 0 (!w.params.followText "set-order")) }).objs.size := by
        rw [Heap.size_push]
        exact Nat.ne_of_lt (Nat.lt_succ_of_lt lt)
      have n2 : s.heap.objs.size ∉ [(s.heap.push { cls := .type "set", dict := none, data := .set #[] 0 (.fresh 0 0 (!w.params.followText "set-order")) }).objs.size, l] := by
        rw [Heap.size_push]
        simp only [List.mem_cons, List.not_mem_nil, or_false, not_or]
        exact ⟨Nat.ne_of_lt (Nat.lt_succ_self _), Nat.ne_of_gt lt⟩
      have none_at : ∀ b, s.heap.objs.size ≤ b → s.heap.get? b = none := fun b hb => by
        cases q : s.heap.get? b with
        | none => rfl
        | some o => exact absurd (Nat.lt_of_lt_of_le (Heap.lt_size q) hb) (Nat.lt_irrefl _)
      refine tset_loop (knd := knd) (B := B) (ks := ks) (h0 := s.heap) M ((Walks.list quiet _ l n1 items).toS) n2 len few (room _ (by simp)) (fun b hb => ?fresh) C item ?hR (items.size - 0) 0 _ [] rfl (Nat.zero_le _) ⟨⟨_, Heap.get?_push_size _ rfl, rfl, rfl⟩, (hl1.push _)⟩ (Moved.refl fun _ => rfl) (fun b o e => Heap.get?_push_of_some _ (Heap.get?_push_of_some _ e)) ?hS0 (fun k => by simp) (Nat.le_refl 0)
      case fresh =>
        rcases List.mem_cons.mp hb with e | hb
        · rw [e]
          exact none_at _ (Nat.le_refl _)
        · rw [List.mem_singleton.mp hb, Heap.size_push]
          exact none_at _ (Nat.le_succ _)
      case hS0 => exact tset_new (Heap.get?_push_of_some _ hS)
      case hR =>
        rintro ⟨h', g2, d', tk', os'⟩ us mv kp R2 mem
        have eg := mv.gens
        have ed := mv.drawn
        have eo := mv.os
        dsimp only at eg ed eo
        subst eg ed eo
        show wpAny _ _ _ _ _ _
        refine wpAny_pure ?_
        show wpAny _ _ (ret Value.none) _ _ _
        exact wpAny_pure ⟨rfl, h', tk', us, rfl, R2, mem, kp⟩
    · match r₂, hr₂ with
      | .error e, hr₂ => exact hr₂
      | .ok .next, hr₂ => exact hr₂.elim
      | .ok .brk, hr₂ => exact hr₂.elim
      | .ok .cont, hr₂ => exact hr₂.elim
      | .ok (.ret r), ⟨er, h', tk, us, es, R2, mem, kp⟩ =>
        subst er es
        repeat (any_goals (first | assumption | wp_step))
        exact h _ _ _ R2 mem kp
end
end Lk

/-! TupS0 -/
set_option Elab.async false
set_option maxRecDepth 100000
set_option linter.all false
set_option maxHeartbeats 4000000
namespace Lk
open PySem PySem.Spec PyProof.Rows L2
/-! ### sorted(s), s a set of tuples -/
theorem each_perm {α β : Type} {R : α → β → Prop} {as' as : List α} (p : as'.Perm as) : ∀ {bs : List β}, PySem.W.EachIs R as bs → ∃ bs', PySem.W.EachIs R as' bs' ∧ bs'.Perm bs := by
  induction p with
  | nil => exact fun h => ⟨_, h, .refl _⟩
  | cons a _ ih =>
    intro bs h
    cases h with
    | cons r t =>
      obtain ⟨cs, h1, h2⟩ := ih t
      exact ⟨_, .cons r h1, h2.cons _⟩
  | swap a b l =>
    intro bs h
    cases h with
    | cons r t =>
      cases t with
      | cons r2 t => exact ⟨_, .cons r2 (.cons r t), List.Perm.swap ..⟩
  | trans _ _ ih1 ih2 =>
    intro bs h
    obtain ⟨cs, h1, h2⟩ := ih2 h
    obtain ⟨ds, h3, h4⟩ := ih1 h1
    exact ⟨ds, h3, h4.trans h2⟩
theorem each_map_left {α β γ : Type} {R : α → β → Prop} {S : γ → β → Prop} {f : α → γ} (g : ∀ a b, R a b → S (f a) b) : ∀ {as : List α} {bs : List β}, PySem.W.EachIs R as bs → PySem.W.EachIs S (as.map f) bs
  | _, _, .nil => .nil
  | _, _, .cons r t => .cons (g _ _ r) (each_map_left g t)
theorem each_with {α β : Type} {R : α → β → Prop} {p : β → Prop} : ∀ {as : List α} {bs : List β}, PySem.W.EachIs R as bs → (∀ b ∈ bs, p b) → PySem.W.EachIs (fun a b => R a b ∧ p b) as bs
  | _, _, .nil, _ => .nil
  | _, _, .cons r t, h => .cons ⟨r, h _ List.mem_cons_self⟩ (each_with t fun b m => h b (List.mem_cons_of_mem _ m))
section
variable {P : Program} {w : World} {κ : Type} [DecidableEq κ] {knd : HeapKind P w κ} {B : κ → Addr → Prop} {A : Around} {E : Value → Shared → Prop} {s : Shared} {a : Addr} {ks : List κ}
def At (B : κ → Addr → Prop) (v : Value) (k : κ) : Prop := ∃ b, v = .ref b ∧ B k b
theorem tset_sorted {Q : Value → Shared → Prop} (R0 : TSet knd B s.heap a ks) (hh : A.handled = none) (enc : κ → PyData) (rd : ∀ k b, k ∈ ks → B k b → Reads s.heap (.ref b) (enc k) []) (al : PySem.W.AllAlike (ks.map enc)) (so : PySem.W.Sortable (ks.map enc)) (hu : ∀ k ∈ ks, A.units + 2 + (enc k).depth < cLine)
    (hQ : ∀ s' p (out : List Value) (c : Nat) (cs : List κ), (∀ b o, s.heap.get? b = some o → s'.heap.get? b = some o) → s'.gens = s.gens → s'.os = s.os → s.heap.objs.size ≤ p →
      s'.heap.get? p = some (seqObj "list" out.toArray c) → PySem.W.EachIs (At B) out cs → cs.Perm ks → cs.Pairwise (fun x y => PySem.W.dataLe false enc x y = true) → Q (.ref p) s') :
    wpAny (model P w) A (call (.builtin "sorted") [.ref a]) Q E s := by
  obtain ⟨ls, es, ep, t, R, pm0⟩ := R0
  obtain ⟨o, ho, hex, hd⟩ := R.here
  have n0 : ks.length ≤ 1200 := by
    rw [← pm0.length_eq]
    exact R.few
  have n1 : es.size = ks.length := by
    rw [R.many]
    exact pm0.length_eq
  refine Calls.call_function_entry kind_sorted plain_sorted entry_sorted (args_sorted1 _) ?_
  unfold Builtin.«sorted»
  refine wpAny_bind (m := checkCount "sorted" 1 1 _) (wpAny_pure ?_)
  refine wpAny_bind (collect_set (A := A.in1) hh ⟨o, ho, hex.1, hd⟩ (TRow.fit R) (by unfold scanBound; omega) R.tab.ris R.led fun s1 vs kp hz g1 o1 pm => ?_)
  obtain ⟨cs, each, pc⟩ := each_perm pm (each_map_left (S := At B) (f := Prod.snd) (fun e k ⟨b, e1, h⟩ => ⟨b, by rw [e1], h⟩) R.each)
  have pk : cs.Perm ks := pc.trans pm0
  have n2 : cs.length = ks.length := pk.length_eq
  have n3 : vs.length = ks.length := each.length.trans n2
  refine wpAny_bind (wpAny_newList ?_ (by rw [n3, sizeLine_eq]; omega))
  have hoL : (s1.heap.push (seqObj "list" vs.toArray 0)).get? s1.heap.objs.size = some (seqObj "list" vs.toArray 0) := Heap.get?_push_size _ rfl
  have kp1 : ∀ b u, s.heap.get? b = some u → (s1.heap.push (seqObj "list" vs.toArray 0)).get? b = some u := fun b u e => Heap.get?_push_of_some _ (kp b u e)
  have er : PySem.W.EachIs (fun v k => ∃ as, Reads (s1.heap.push (seqObj "list" vs.toArray 0)) v (enc k) as ∧ s1.heap.objs.size ∉ as) vs cs := by
    refine (each_with each fun k m => pk.mem_iff.mp m).mono fun v k ⟨⟨b, ev, hb⟩, m⟩ => ⟨[], ?_, fun z => nomatch z⟩
    rw [ev]
    exact PyProof.Rows.Reads.keeps kp1 (rd k b m hb)
  have al' : PySem.W.AllAlike (cs.map enc) := fun d m d' m' => al d ((pk.map enc).mem_iff.mp m) d' ((pk.map enc).mem_iff.mp m')
  have so' : PySem.W.Sortable (cs.map enc) := so.imp (fun z d m => z d ((pk.map enc).mem_iff.mp m)) fun z d m => z d ((pk.map enc).mem_iff.mp m)
  refine wpAny_bind (wpAny_holding (PySem.W.list_sort_data (enc := enc) (s := { s1 with heap := s1.heap.push (seqObj "list" vs.toArray 0) }) hoL each er al' so' (by rw [n2, sizeLine_eq]; omega) (fun k m => ?_) fun out len eo => ?_))
  · have z := hu k (pk.mem_iff.mp m)
    show A.in1.units + 1 + (enc k).depth < cLine
    simp
    omega
  · obtain ⟨c, hc⟩ := sortedHeap_at (vs := vs) (out := out.toArray) hoL
    refine wpAny_pure ⟨_, rfl, hQ _ s1.heap.objs.size out c _ (fun b u e => ?_) g1 o1 hz hc eo ((List.mergeSort_perm _ _).trans pk) (PySem.W.sort_pairwise (PySem.W.sortLe_total _ _ _) _)⟩
    have q := kp b u e
    have lt := Heap.lt_size q
    show (sortedHeap (s1.heap.push (seqObj "list" vs.toArray 0)) s1.heap.objs.size vs out.toArray).get? b = some u
    rw [sortedHeap_old (Nat.ne_of_lt lt) (by rw [size_push']; exact Nat.lt_succ_of_lt lt)]
    exact Heap.get?_push_of_some _ q
end
/-! ### tuples of ints and texts as members -/
section
variable {P : Program} {w : World}
theorem mix_items {k : List Key} {vs : List Value} (h : ItemsAre (mixKind P w) k vs) : ∀ v ∈ vs, (∃ i t, v = Value.int i t) ∨ ∃ x t, v = Value.str x t := by
  induction h with
  | nil => exact fun v m => nomatch m
  | cons r _ ih =>
    intro v m
    rcases List.mem_cons.mp m with e | m
    · rcases keyIs_shape r with ⟨i, t, e2, _⟩ | ⟨x, t, e2, _⟩
      · exact .inl ⟨i, t, e.trans (by first | exact e2 | exact (by assumption))⟩
      · exact .inr ⟨x, t, e.trans (by first | exact e2 | exact (by assumption))⟩
    · exact ih v m
theorem mixMem : Mem (tupleKind (mixKind P w)) where
  st := tupleKind_stays
  cls := fun {A E s k b Q} x q => by
    have hT := IsTupleKey.typeIs x
    obtain ⟨o, its, n, ho, _, hd, hi⟩ := x
    have low : ∀ (d : Nat) (v : Value), v ∈ its.toList → ofAClassStatement d v = pure false := fun d v m => by
      rcases mix_items hi v m with ⟨i, t, rfl⟩ | ⟨z, t, rfl⟩ <;> cases d <;> rfl
    unfold ofAClassStatement
    refine wpAny_bind (wpAny_typeOf hT ?_)
    dsimp only
    simp only [show (("tuple" : String) == "tuple") = true by decide, if_true, Bool.not_true, Bool.false_eq_true, if_false]
    try refine wpAny_bind (wpAny_pure ?_)
    try simp only [Bool.not_true, Bool.false_eq_true, if_false]
    refine wpAny_bind (wpAny_seqItems (a := b) ho hd ?_)
    dsimp only
    rw [← Array.forIn_toList]
    refine wpAny_bind (wpAny_forIn_list _ (fun l z u => z.1 = none ∧ u = s ∧ ∀ v ∈ l, v ∈ its.toList) _ ?step ?stop _ _ ⟨rfl, rfl, fun _ m => m⟩)
    case step =>
      rintro v l z u ⟨hz, rfl, sub⟩
      rw [low _ v (sub v List.mem_cons_self)]
      refine wpAny_bind (wpAny_pure ?_)
      simp only [Bool.false_eq_true, if_false]
      exact wpAny_pure ⟨rfl, rfl, fun y m => sub y (List.mem_cons_of_mem _ m)⟩
    case stop =>
      rintro ⟨z1, z2⟩ u ⟨hz, rfl, _⟩
      cases hz
      exact wpAny_pure q
  byV := fun {A E s k b Q} x q => by
    have hT := IsTupleKey.typeIs x
    obtain ⟨o, its, n, ho, _, hd, hi⟩ := x
    have low : ∀ (d : Nat) (v : Value), v ∈ its.toList → hashByValue d v = pure true ∨ hashByValue d v = pure false := fun d v m => by
      rcases mix_items hi v m with ⟨i, t, rfl⟩ | ⟨z, t, rfl⟩ <;> cases d <;> first | exact .inl rfl | exact .inr rfl
    unfold hashByValue
    refine wpAny_bind (wpAny_specialOf hT F.slot_tuple_hash.lookup ?_)
    show wpAny _ _ (seqItems? (.ref b) >>= _) _ _ s
    refine wpAny_bind (wpAny_seqItems (a := b) ho hd ?_)
    show wpAny _ _ (forIn its _ _ >>= _) _ _ s
    rw [← Array.forIn_toList]
    refine wpAny_bind (wpAny_forIn_list _ (fun l z u => z.1 = none ∧ u = s ∧ ∀ v ∈ l, v ∈ its.toList) _ ?step ?stop _ _ ⟨rfl, rfl, fun _ m => m⟩)
    case step =>
      rintro v l z u ⟨hz, rfl, sub⟩
      rcases low 7 v (sub v List.mem_cons_self) with e | e
      · rw [e]
        refine wpAny_bind (wpAny_pure ?_)
        simp only [Bool.not_true, Bool.false_eq_true, if_false]
        exact wpAny_pure ⟨rfl, rfl, fun y m => sub y (List.mem_cons_of_mem _ m)⟩
      · rw [e]
        refine wpAny_bind (wpAny_pure ?_)
        simp only [Bool.not_false, if_true]
        exact wpAny_pure (wpAny_pure (q _))
    case stop =>
      rintro ⟨z1, z2⟩ u ⟨hz, rfl, _⟩
      cases hz
      exact wpAny_pure (q _)
end
end Lk

/-! TupS1 -/
set_option Elab.async false
set_option maxRecDepth 100000
set_option linter.all false
set_option maxHeartbeats 4000000
namespace Lk
open PySem PySem.Spec PyProof.Rows L2
/-! ### sets of pairs (length, text) over the layer -/
def keyP (x : Str) : List Key := [Sum.inl (x.length : Int), Sum.inr x]
def unP : List Key → Str
  | [_, Sum.inr x] => x
  | _ => Str.empty
def vP (x : Str) : List V := [V.int (x.length : Int), V.str x]
def encK : Key → PyData
  | .inl n => .int n
  | .inr x => .str x
def encP (k : List Key) : PyData := .tuple (k.map encK)
/-- which pair stands at which address -/
def InL (L : List (Addr × Str)) (k : List Key) (b : Addr) : Prop := ∃ x, (b, x) ∈ L ∧ k = keyP x
def SetPr (P : Program) (w : World) (L : List (Addr × Str)) (a : Addr) (us : List Str) : HO := .ext fun h => TSet (tupleKind (mixKind P w)) (InL L) h a (us.map keyP)
theorem un_keys {us : List (List Key)} {L : List (Addr × Str)} (h : ∀ k ∈ us, k ∈ L.map fun p => keyP p.2) : (us.map unP).map keyP = us := by
  rw [List.map_map]
  refine (List.map_congr_left fun k m => ?_).trans (List.map_id _)
  obtain ⟨p, _, rfl⟩ := List.mem_map.mp (h k m)
  rfl
theorem keyP_inj {x y : Str} (h : keyP x = keyP y) : x = y := by
  injection h with _ h
  injection h with h _
  injection h
/-- the order of such pairs is the order of names -/
theorem leP {x y : Str} (h : PySem.W.dataLe false encP (keyP x) (keyP y) = true) : leA x y := by
  rw [PySem.W.dataLe_eq] at h
  have h1 : (!PySem.W.dataLt (.tuple [.int (y.length : Int), .str y]) (.tuple [.int (x.length : Int), .str x])) = true := h
  rw [PySem.W.dataLt_pair (by rfl) (by rfl), PySem.W.dataLt_int, PySem.W.dataLt_str] at h1
  simp only [PyData.eqv, beq_iff_eq, Bool.not_eq_true', Int.natCast_inj] at h1
  by_cases e : y.length = x.length
  · rw [if_pos e] at h1
    by_cases f : y = x
    · exact .inr ⟨e.symm, by rw [f]; exact decide_eq_true (List.le_refl _)⟩
    · rw [if_neg f] at h1
      exact .inr ⟨e.symm, decide_eq_true (List.not_lt.mp (of_decide_eq_false h1))⟩
  · rw [if_neg e] at h1
    have z := of_decide_eq_false h1
    exact .inl (by omega)
section
variable {X : Cx}
theorem items_mix {P : Program} {w : World} {n : Int} {x : Str} {us : List Value} (h : Vals [V.int n, V.str x] us) : ItemsAre (mixKind P w) [Sum.inl n, Sum.inr x] us := by
  cases h with
  | cons r t =>
    cases t with
    | cons r2 t =>
      cases t
      obtain ⟨t1, rfl⟩ := r
      obtain ⟨t2, rfl⟩ := r2
      exact .cons (keyIs_int n t1) (.cons (keyIs_str x t2) .nil)
theorem isP {pins : List (Addr × Obj)} {σ : L2.St} {H : Hp} {s : Shared} {b : Addr} {x : Str} (I : Inv X pins σ H s) (h : SqT X.K H b (vP x)) : IsTupleKey (mixKind X.prog X.w) s.heap (keyP x) b ∧ Reads s.heap (.ref b) (encP (keyP x)) [] := by
  obtain ⟨its, r, ⟨o, ho, hc, n, hd⟩, _⟩ := I.tuple h
  refine ⟨⟨o, its.toArray, n, ho, hc, hd, items_mix r⟩, ?_⟩
  cases r with
  | cons r t =>
    cases t with
    | cons r2 t =>
      cases t
      obtain ⟨t1, rfl⟩ := r
      obtain ⟨t2, rfl⟩ := r2
      exact .tuple ho hc hd (.cons (.int _ t1) (.cons (.str _ t2) .nil))
def rSetPr (K : PySem.W.Frag) (P : Program) (w : World) : List V → Hp → VK → Prop := fun xs H Q => ∃ (l : Addr) (L : List (Addr × Str)), xs = [.ref l] ∧ SqL K H l (L.map fun p => V.ref p.1) ∧ (∀ p ∈ L, SqT K H p.1 (vP p.2)) ∧ L.length ≤ 1200 ∧
  ∀ (p : Addr) (us : List Str), H p = none → us.Nodup → (∀ x, x ∈ us ↔ x ∈ L.map (·.2)) → Q (.ref p) (upd H p (SetPr P w L p us))
theorem call_setPr (calm : X.calm = true) (hu : X.A.units + 64 < cLine) : CallR X (.type "set") (rSetPr X.K X.prog X.w) := by
  intro pins s σ H xs us Q I r h
  obtain ⟨l, L, rfl, hl, ht, few, q⟩ := h
  rw [Vals.ref1 r]
  have hn : H s.heap.objs.size = none := I.hok.fresh (Nat.le_refl _)
  obtain ⟨its, rv, pl, hz⟩ := I.list hl
  have ei : its = L.map fun p => Value.ref p.1 := by
    clear hl ht few q hz pl
    induction L generalizing its with
    | nil => cases rv; rfl
    | cons p L ih =>
      cases rv with
      | cons r t =>
        cases r
        rw [ih _ t]
        rfl
  have keys : ∀ (i : Nat) (v : Value), its.toArray[i]? = some v → ∃ k b, (L.map fun p => keyP p.2)[i]? = some k ∧ v = .ref b ∧ InL L k b := fun i v hv => by
    have h2 : its[i]? = some v := by simpa using hv
    rw [ei, List.getElem?_map] at h2
    obtain ⟨p, hp, e⟩ := Option.map_eq_some_iff.mp h2
    exact ⟨keyP p.2, p.1, by rw [List.getElem?_map, hp]; rfl, e.symm, p.2, List.mem_of_getElem? hp, rfl⟩
  refine call_set_M (knd := tupleKind (mixKind X.prog X.w)) (B := InL L) (ks := L.map fun p => keyP p.2) mixMem (I.ok.hd calm) pl.isList (by rw [List.size_toArray, ei, List.length_map, List.length_map]) (by rw [List.length_map]; exact few)
    (fun A' le => by show A'.units < cLine; omega) (fun k b ⟨x, m, e⟩ => by rw [e]; exact (isP I (ht _ m)).1) keys fun h' tk us R mem kp => ?_
  have eu := un_keys fun k m => (mem k).mp m
  refine ⟨.ref s.heap.objs.size, upd H s.heap.objs.size (SetPr X.prog X.w L s.heap.objs.size (us.map unP)), I.laid (t' := tk) kp (Nat.le_refl _) ?_, rfl, q _ (us.map unP) hn ?_ fun x => ?_⟩
  · refine ⟨by show TSet _ _ _ _ _; rw [eu]; exact R, ?_, fun _ _ z k => TSet.at z k⟩
    obtain ⟨_, _, _, _, R1, _⟩ := R
    obtain ⟨o, ho, _⟩ := R1.here
    exact ⟨o, ho⟩
  · have nd := R.nodup
    rw [← eu] at nd
    exact List.Pairwise.of_map keyP (fun _ _ ne e => ne (congrArg keyP e)) nd
  · constructor
    · intro m
      obtain ⟨k, hk, e⟩ := List.mem_map.mp m
      obtain ⟨p, hp, e2⟩ := List.mem_map.mp ((mem k).mp hk)
      rw [← e, ← e2]
      exact List.mem_map.mpr ⟨p, hp, rfl⟩
    · intro m
      obtain ⟨p, hp, e⟩ := List.mem_map.mp m
      exact List.mem_map.mpr ⟨keyP p.2, (mem _).mpr (List.mem_map.mpr ⟨p, hp, rfl⟩), e⟩
/-- sorted(s), s such a set -/
def rSortedPr (K : PySem.W.Frag) (P : Program) (w : World) : List V → Hp → VK → Prop := fun xs H Q => ∃ (a : Addr) (L : List (Addr × Str)) (us : List Str), xs = [.ref a] ∧ H a = some (SetPr P w L a us) ∧ (∀ p ∈ L, SqT K H p.1 (vP p.2)) ∧
  ∀ (p : Addr) (M : List (Addr × Str)), H p = none → (∀ m ∈ M, m ∈ L) → (M.map (·.2)).Perm us → (M.map (·.2)).Pairwise leA → Q (.ref p) (upd H p (.lst (M.map fun m => V.ref m.1)))
theorem each_pairs {L : List (Addr × Str)} : ∀ {out : List Value} {cs : List (List Key)}, PySem.W.EachIs (At (InL L)) out cs → ∃ M : List (Addr × Str), (∀ m ∈ M, m ∈ L) ∧ out = M.map (fun m => Value.ref m.1) ∧ cs = M.map fun m => keyP m.2
  | _, _, .nil => ⟨[], (fun _ m => nomatch m), rfl, rfl⟩
  | _, _, .cons ⟨b, e1, x, m, e2⟩ t => by
    obtain ⟨M, h1, h2, h3⟩ := each_pairs t
    refine ⟨(b, x) :: M, fun y my => ?_, by rw [List.map_cons, ← h2, e1], by rw [List.map_cons, ← h3, e2]⟩
    rcases List.mem_cons.mp my with e | my
    · rw [e]
      exact m
    · exact h1 y my
theorem call_sortedPr (calm : X.calm = true) (hu : X.A.units + 64 < cLine) : CallR X (.builtin "sorted") (rSortedPr X.K X.prog X.w) := by
  intro pins s σ H xs us Q I r h
  obtain ⟨a, L, ks, rfl, ha, ht, q⟩ := h
  have R : TSet (tupleKind (mixKind X.prog X.w)) (InL L) s.heap a (ks.map keyP) := (I.hok a _ ha).1
  rw [Vals.ref1 r]
  have shape : ∀ d ∈ (ks.map keyP).map encP, ∃ x : Str, d = .tuple [.int (x.length : Int), .str x] := fun d m => by
    obtain ⟨k, hk, e⟩ := List.mem_map.mp m
    obtain ⟨x, _, e2⟩ := List.mem_map.mp hk
    exact ⟨x, by rw [← e, ← e2]; rfl⟩
  refine tset_sorted R (I.ok.hd calm) encP (fun k b _ ⟨x, m, e⟩ => by rw [e]; exact (isP I (ht _ m)).2) (fun d m d' m' => ?_) (.inl fun d m => ?_) (fun k m => ?_) fun s' p out c cs kp g o hp hg ev pm pw => ?_
  · obtain ⟨x, rfl⟩ := shape d m
    obtain ⟨y, rfl⟩ := shape d' m'
    rfl
  · obtain ⟨x, rfl⟩ := shape d m
    exact ⟨_, _, rfl⟩
  · obtain ⟨x, _, rfl⟩ := List.mem_map.mp m
    show X.A.units + 2 + 1 < cLine
    omega
  · obtain ⟨M, h1, h2, h3⟩ := each_pairs ev
    have hn : H p = none := I.hok.fresh hp
    have few : (ks.map keyP).length ≤ 1200 := by
      obtain ⟨ls, _, _, _, R1, pm1⟩ := R
      rw [← pm1.length_eq]
      exact R1.few
    have lenM : M.length ≤ 1200 := by
      have z := pm.length_eq
      rw [h3, List.length_map] at z
      omega
    have hlen : (M.map fun m => V.ref m.1).length ≤ sizeLine := by
      rw [List.length_map, sizeLine_eq]
      omega
    have hv : Vals (M.map fun m => V.ref m.1) out := by
      rw [h2]
      clear h1 h2 h3 lenM hlen ev
      induction M with
      | nil => exact .nil
      | cons m M ih => exact .cons rfl ih
    have J : Inv X pins σ (upd H p (.lst (M.map fun m => V.ref m.1))) { s with heap := s'.heap, gens := s'.gens, drawn := s'.drawn, toks := s'.toks } :=
      I.call (ch := []) (Un.laid kp hp hn) (I.hok.laid kp hp ⟨hlen, out, c, hv, hg⟩) (by rw [g]; exact I.bare) (fun _ z => nomatch z)
    have e : s' = { s with heap := s'.heap, gens := s'.gens, drawn := s'.drawn, toks := s'.toks } := by
      cases s'
      cases s
      cases o
      rfl
    rw [e]
    refine ⟨.ref p, _, J, rfl, q p M hn h1 ?_ ?_⟩
    · rw [h3] at pm
      have z := pm.map unP
      rw [List.map_map, List.map_map] at z
      have e1 : (unP ∘ fun m : Addr × Str => keyP m.2) = fun m => m.2 := rfl
      have e2 : ks.map (unP ∘ keyP) = ks := (List.map_congr_left fun _ _ => rfl).trans (List.map_id _)
      rw [e1, e2] at z
      exact z
    · rw [h3, List.pairwise_map] at pw
      rw [List.pairwise_map]
      exact pw.imp fun h => leP h
end
end Lk

/-! K03t -/
set_option Elab.async false
set_option linter.all false
set_option maxRecDepth 100000
set_option maxHeartbeats 4000000
namespace Lk
open PySem PySem.Spec PyProof.Rows L2
def top (i : Nat) : Stmt := PySem.Challenge.pw_stemrules_k03_stems.main.body.getD i (.Pass ⟨0, 0, 0, 0⟩)
abbrev s_p_is_name : Stmt := top 8
abbrev s_p_is_pattern : Stmt := top 9
abbrev s_p_is_end : Stmt := top 10
abbrev s_p_is_source : Stmt := top 11
abbrev s_p_parts : Stmt := top 12
abbrev s_p_stem : Stmt := top 13
abbrev s_p_put_in : Stmt := top 14
abbrev s_p_in_order : Stmt := top 15
abbrev s_p_need_name : Stmt := top 16
abbrev s_p_need_names : Stmt := top 17
abbrev s_p_stem_within : Stmt := top 18
abbrev s_p_filled : Stmt := top 19
abbrev s_p_ascending : Stmt := top 20
abbrev s_kneaded : Stmt := top 22
abbrev s_pot_of : Stmt := top 23
abbrev s_below : Stmt := top 24
abbrev s_pick : Stmt := top 25
abbrev s_some_name : Stmt := top 26
abbrev s_split : Stmt := top 27
abbrev s_stem : Stmt := top 28
abbrev s_put : Stmt := top 29
abbrev s_ordered : Stmt := top 30
abbrev s_law : Stmt := top 31
end Lk

/-! K03a -/
set_option Elab.async false
set_option linter.all false
set_option maxRecDepth 100000
set_option maxHeartbeats 4000000
namespace Lk
open PySem PySem.Spec PyProof.Rows L2
section
variable {P : Program} {w : World} {K : PySem.W.Frag} {mg : Str → Option Value} {base : Heap}
structure Gla (mg : Str → Option Value) : Prop where
  tuple : mg "tuple" = none
  sorted : mg "sorted" = none
  set : mg "set" = none
  len : mg "len" = none
def spAsc (K : PySem.W.Frag) : Sp := fun vs H Q _ => ∃ (l : Addr) (ss : List Str), vs = [.ref l] ∧ (SqL K H l (ss.map V.str) ∨ SqT K H l (ss.map V.str)) ∧ ss.length + 1 < scanBound ∧ (∀ y ∈ ss, y.length ≤ sizeLine) ∧
  ∀ (cs : List Str) (p : Addr) (H' : Hp), Same H H' → H' p = some (.tup (cs.map V.str)) → IsAsc cs ss → Q (.ref p) H'
theorem sc_p_ascending : FnScope ["names"] ["names"] (defScope s_p_ascending) := ⟨rfl, rfl, rfl, by decide +kernel, rfl, by decide +kernel, by decide +kernel⟩
theorem cal_p_ascending (D : Def1 K mg "ascending" s_p_ascending) (T : Gla mg) : Cal P w K mg base 1 "ascending" (spAsc K) := by
  refine mkCal D sc_p_ascending (fun _ _ _ _ _ _ us hl => match us, hl with | [_], _ => rfl) (fun vs H Q E h => ?_) (fun f cdv A outer s H vs Q E hr h => ?_)
  · obtain ⟨l, ss, rfl, _⟩ := h
    rfl
  · obtain ⟨l, ss, rfl, hl, room, small, k⟩ := h
    refine ⟨_, pss_one (ps_ret (pe_callTy call_tuple_of (by rfl) T.tuple (by decide +kernel) (pa_cons (pe_sortLen (pe_callB (call_sortedS rfl hr.units) (by rfl) T.sorted (by decide +kernel) (pa_cons (pe_callTy (call_setS rfl) (by rfl) T.set (by decide +kernel) (pa_cons (pv 0) pa_nil)) pa_nil)) T.sorted T.len hr.units) pa_nil))), ?_⟩
    exact ⟨_, rfl, l, ss, rfl, hl, room, fun p us np nd mem => ⟨p, us, rfl, upd_same, fun p2 cs n2 pm pw => ⟨p2, cs, rfl, SqL.of upd_same, fun y hy => small y ((mem y).mp (pm.mem_iff.mp hy)), fun p3 n3 => ⟨p3, _, rfl, .inl ⟨SqL.of upd_same, fun t nt =>
      k _ t _ ((((same_upd np).trans (same_upd n2)).trans (same_upd n3)).trans (same_upd nt)) upd_same (asc_of nd mem pm pw)⟩⟩⟩⟩⟩
end
end Lk

/-! K03s -/
set_option Elab.async false
set_option linter.all false
set_option maxRecDepth 100000
set_option maxHeartbeats 4000000
namespace Lk
open PySem PySem.Spec PyProof.Rows L2
section
variable {P : Program} {w : World} {K : PySem.W.Frag} {mg : Str → Option Value} {base : Heap}
def spSW (K : PySem.W.Frag) : Sp := fun vs H Q _ => ∃ (q : Addr) (b e z : Str), vs = [.ref q, .str z] ∧ SqT K H q [.str b, .str e] ∧ (∀ c ∈ TL.tl b, upB c = true) ∧ (∀ c ∈ TL.tl e, loB c = true) ∧ b.length ≤ 1000000 ∧ e.length ≤ 1000000 ∧ z.length ≤ 1000000 ∧
  (∀ m : Str, TL.tl z = TL.tl b ++ TL.tl m ++ TL.tl e → Q (.str m) H) ∧ ((¬ ∃ m : Str, TL.tl z = TL.tl b ++ TL.tl m ++ TL.tl e) → Q .non H)
theorem sc_p_stem_within : FnScope ["pattern", "name", "begin", "end"] ["pattern", "name"] (defScope s_p_stem_within) := ⟨rfl, rfl, rfl, by decide +kernel, rfl, by decide +kernel, by decide +kernel⟩
theorem cal_p_stem_within (D : Def1 K mg "stem_within" s_p_stem_within) (G : Glb mg) : Cal P w K mg base 1 "stem_within" (spSW K) := by
  refine mkCal D sc_p_stem_within (fun _ _ _ _ _ _ us hl => match us, hl with | [_, _], _ => rfl) (fun vs H Q E h => ?_) (fun f cdv A outer s H vs Q E hr h => ?_)
  · obtain ⟨q, b, e, z, rfl, _⟩ := h
    rfl
  · obtain ⟨q, b, e, z, rfl, hq, hb, he, lb, le, lz, yes, no⟩ := h
    refine ⟨_, pss_cons (ps_asg (pv 0) (pg_tup rfl (pgs_cons (pg_name (i := 2) sc_p_stem_within.nd rfl (.inl rfl)) (pgs_cons (pg_name (i := 3) sc_p_stem_within.nd rfl (.inl rfl)) pgs_nil))))
      (pss_cons (ps_if (PW.pt (pw_and (pt_val (pe_m1 PySem.F.slot_str_startswith PySem.F.type_str_startswith mt_startswith (pv 1) (pv 2))) (pw_and1 (pt_val (pe_m1 PySem.F.slot_str_endswith PySem.F.type_str_endswith mt_endswith (pv 1) (pv 3))))))
        (pss_one (ps_ret (pe_slice sl_str (pv 1) (po_some (pe_callB call_len_str (by rfl) G.len PySem.boot_len (pa_cons (pv 2) pa_nil))) (po_some (pe_op op_sub (pe_callB call_len_str (by rfl) G.len PySem.boot_len (pa_cons (pv 1) pa_nil)) (pe_callB call_len_str (by rfl) G.len PySem.boot_len (pa_cons (pv 3) pa_nil))))))) pss_nil)
      (pss_one (ps_ret pe_non))), ?_⟩
    have big : ∀ n : Nat, n ≤ 1000000 → n ≤ sizeLine := fun n h => Nat.le_trans h (by decide)
    refine ⟨_, rfl, q, _, rfl, hq, rfl, _, _, rfl, _, _, rfl, rfl, ?_⟩
    refine ⟨_, rfl, ⟨z, rfl⟩, _, rfl, z, b, rfl, rfl, _, rfl, ?_⟩
    by_cases hs : Txt.startswith z b = true
    · refine iteT' hs ⟨_, rfl, ⟨z, rfl⟩, _, rfl, z, e, rfl, rfl, _, rfl, ?_⟩
      by_cases hn : Txt.endswith z e = true
      · refine iteT' hn ?_
        obtain ⟨m, hm⟩ := mid_of hb he (starts_tl.mp hs) (ends_tl.mp hn)
        refine ⟨_, rfl, _, rfl, b, rfl, big _ lb, _, rfl, _, rfl, z, rfl, big _ lz, _, rfl, e, rfl, big _ le, _, _, rfl, rfl, _, rfl, z, rfl, big _ lz, yes _ ?_⟩
        have c := cut_mid hm
        rw [← TL.len_tl, ← TL.len_tl] at c
        rw [c]
        exact hm
      · refine iteF' (Bool.eq_false_iff.mpr hn) (no ?_)
        rintro ⟨m, hm⟩
        exact hn (ends_tl.mpr ⟨_, hm⟩)
    · refine iteF' (Bool.eq_false_iff.mpr hs) ?_
      refine iteF (no ?_)
      rintro ⟨m, hm⟩
      exact hs (starts_tl.mpr ⟨TL.tl m ++ TL.tl e, by rw [hm, List.append_assoc]⟩)
end
end Lk

/-! K03q -/
set_option Elab.async false
set_option linter.all false
set_option maxRecDepth 100000
set_option maxHeartbeats 4000000
namespace Lk
open PySem PySem.Spec PyProof.Rows L2
section
variable {P : Program} {w : World} {K : PySem.W.Frag} {mg : Str → Option Value} {base : Heap}
theorem sc_p_is_name : FnScope ["thing"] ["thing"] (defScope s_p_is_name) := ⟨rfl, rfl, rfl, by decide +kernel, rfl, by decide +kernel, by decide +kernel⟩
theorem cal_p_is_name (D : Def1 K mg "is_name" s_p_is_name) (T : Glc mg) : Cal P w K mg base 1 "is_name" (spIsName K) := by
  refine mkCal D sc_p_is_name (fun _ _ _ _ _ _ us hl => match us, hl with | [_], _ => rfl) (fun vs H Q E h => ?_) (fun f cdv A outer s H vs Q E hr h => ?_)
  · obtain ⟨v, d, rfl, _⟩ := h
    rfl
  · obtain ⟨v, d, rfl, ht, hb, k⟩ := h
    refine ⟨_, pss_one (ps_ret (pe_and (pe_isi (T := "str") (pv 0) T.isinst T.str (by decide +kernel)) (pe_and (pe_cmpR op_ne (pv 0) pe_str (nomark _))
      (pe_one (pe_cmpR op_eq (pe_m1 PySem.F.slot_str_lstrip PySem.F.type_str_lstrip mt_lstripChars (pe_m1 PySem.F.slot_str_lstrip PySem.F.type_str_lstrip mt_lstripChars (pv 0) (pe_con1 T.caps)) (pe_con1 T.smalls)) pe_str (nomark _)))))), ?_⟩
    refine ⟨_, rfl, v, _, _, _, _, rfl, .ty _, th_ty ht, kit_str d, _, rfl, ?_⟩
    cases e : isStr d with
    | false =>
      rw [(not_str e).1] at k
      exact iteF k
    | true =>
      obtain ⟨x, rfl, rfl⟩ := th_str ht e
      refine iteT ⟨_, rfl, rfl, _, rfl, ?_⟩
      have hx : x.length ≤ sizeLine := Nat.le_trans hb (by decide)
      have e1 : TL.tl (Txt.lstripChars (Txt.lstripChars x capS) smaS) = ((TL.tl x).dropWhile upB).dropWhile loB := by
        rw [Txt.lstripChars, tl_lstrip, Txt.lstripChars, tl_lstrip, funext cap_has, funext sma_has]
      have h2 : (Txt.lstripChars x capS).length ≤ sizeLine := by
        rw [TL.len_tl, Txt.lstripChars, tl_lstrip]
        refine Nat.le_trans ?_ hx
        rw [TL.len_tl, ← drop_tw, List.length_drop]
        omega
      refine ite2 (fun hne => ?_) (fun hne => ?_)
      · have hn : TL.tl x ≠ [] := fun z => by
          rw [tl_nil_iff.mp z] at hne
          exact absurd hne (by decide)
        refine ⟨_, rfl, ⟨x, rfl⟩, x, capS, rfl, rfl, hx, ⟨_, rfl⟩, _, smaS, rfl, rfl, h2, rfl, ?_⟩
        have e2 : decide (V.str (Txt.lstripChars (Txt.lstripChars x capS) smaS) = V.str "") = dName (.str x) := by
          rw [Bool.eq_iff_iff, decide_eq_true_iff]
          show _ ↔ (!(TL.tl x).isEmpty && ((TL.tl x).dropWhile upB).all loB) = true
          rw [V.str.injEq, ← tl_nil_iff, e1, dw_all]
          cases q : TL.tl x with
          | nil => exact absurd q hn
          | cons c r => simp
        rw [e2]
        exact k
      · have hn : x = "" := by
          apply Classical.byContradiction
          intro z
          exact hne (by rw [decide_eq_false (by rw [V.str.injEq]; exact z)]; rfl)
        subst hn
        exact k
theorem sc_p_is_end : FnScope ["thing", "letters"] ["thing", "letters"] (defScope s_p_is_end) := ⟨rfl, rfl, rfl, by decide +kernel, rfl, by decide +kernel, by decide +kernel⟩
theorem cal_p_is_end (D : Def1 K mg "is_end" s_p_is_end) (T : Glc mg) (G : Glb mg) : Cal P w K mg base 1 "is_end" (spIsEnd K) := by
  refine mkCal D sc_p_is_end (fun _ _ _ _ _ _ us hl => match us, hl with | [_, _], _ => rfl) (fun vs H Q E h => ?_) (fun f cdv A outer s H vs Q E hr h => ?_)
  · obtain ⟨v, d, L, p, rfl, _⟩ := h
    rfl
  · obtain ⟨v, d, L, p, rfl, ht, hb, hL, k⟩ := h
    refine ⟨_, pss_one (ps_ret (pe_and (pe_isi (T := "str") (pv 0) T.isinst T.str (by decide +kernel)) (pe_and (pe_cmpR op_le (pe_callB call_len_str (by rfl) G.len PySem.boot_len (pa_cons (pv 0) pa_nil)) (pe_con1 T.ends) (nomark _))
      (pe_one (pe_cmpR op_eq (pe_m1 PySem.F.slot_str_strip PySem.F.type_str_strip mt_stripChars (pv 0) (pv 1)) pe_str (nomark _)))))), ?_⟩
    refine ⟨_, rfl, v, _, _, _, _, rfl, .ty _, th_ty ht, kit_str d, _, rfl, ?_⟩
    cases e : isStr d with
    | false =>
      rw [(not_str e).2.1] at k
      exact iteF k
    | true =>
      obtain ⟨x, rfl, rfl⟩ := th_str ht e
      have hx : x.length ≤ sizeLine := Nat.le_trans hb (by decide)
      refine iteT ⟨_, rfl, x, rfl, hx, _, _, rfl, rfl, _, rfl, ?_⟩
      refine ite2 (fun hne => ?_) (fun hne => ?_)
      · have h3 : x.length ≤ 3 := by
          have := of_decide_eq_true hne
          omega
        refine ⟨_, rfl, ⟨x, rfl⟩, _, rfl, x, L, rfl, rfl, hx, rfl, ?_⟩
        have e2 : decide (V.str (Txt.stripChars x L) = V.str "") = dEnd p (.str x) := by
          rw [Bool.eq_iff_iff, decide_eq_true_iff]
          show _ ↔ (decide (x.length ≤ 3) && (TL.tl x).all p) = true
          rw [V.str.injEq, ← tl_nil_iff, Txt.stripChars, tl_strip, funext hL, decide_eq_true h3, Bool.true_and]
        rw [e2]
        exact k
      · have e2 : dEnd p (.str x) = false := by
          show (decide (x.length ≤ 3) && (TL.tl x).all p) = false
          rw [decide_eq_false (fun z => hne (decide_eq_true (by omega))), Bool.false_and]
        rw [e2] at k
        exact k
theorem sc_p_is_pattern : FnScope ["thing", "begin", "end"] ["thing"] (defScope s_p_is_pattern) := ⟨rfl, rfl, rfl, by decide +kernel, rfl, by decide +kernel, by decide +kernel⟩
theorem cal_p_is_pattern (D : Def1 K mg "is_pattern" s_p_is_pattern) (T : Glc mg) (G : Glb mg) (CE : Cal P w K mg base 1 "is_end" (spIsEnd K)) : Cal P w K mg base 2 "is_pattern" (spIsPat K) := by
  refine mkCal D sc_p_is_pattern (fun _ _ _ _ _ _ us hl => match us, hl with | [_], _ => rfl) (fun vs H Q E h => ?_) (fun f cdv A outer s H vs Q E hr h => ?_)
  · obtain ⟨v, d, rfl, _⟩ := h
    rfl
  · obtain ⟨v, d, rfl, ht, hb, k⟩ := h
    refine ⟨_, pss_cons (ps_if (PW.pt (pw_or (pt_not (pt_val (pe_isi (T := "tuple") (pv 0) T.isinst T.tuple (by decide +kernel)))) (pw_or1 (pt_cmpR op_ne (pe_callB call_len_seq (by rfl) G.len PySem.boot_len (pa_cons (pv 0) pa_nil)) pe_int (nomark _))))) (pss_one (ps_ret pe_bl)) pss_nil)
      (pss_cons (ps_asg (pv 0) (pg_tup rfl (pgs_cons (pg_name (i := 1) sc_p_is_pattern.nd rfl (.inl rfl)) (pgs_cons (pg_name (i := 2) sc_p_is_pattern.nd rfl (.inl rfl)) pgs_nil))))
      (pss_one (ps_ret (pe_and (pe_cal CE hr (by decide) (pa_cons (pv 1) (pa_cons (pe_con1 T.caps) pa_nil))) (pe_and (pe_cal CE hr (by decide) (pa_cons (pv 2) (pa_cons (pe_con1 T.smalls) pa_nil))) (pe_one (pe_cmpR op_ne (pe_op op_add_str (pv 1) (pv 2)) pe_str (nomark _)))))))), ?_⟩
    refine ⟨_, rfl, v, _, _, _, _, rfl, .ty _, th_ty ht, kit_tup d, _, rfl, ?_⟩
    cases e : isTup d with
    | false =>
      rw [not_pat e] at k
      exact iteT (iteT k)
    | true =>
      obtain ⟨a, xs, ds, rfl, rfl, hs, ha⟩ := th_tup ht e
      have hl := thAll_len ha
      refine iteF ⟨_, rfl, a, xs, rfl, .inr hs, rfl, _, rfl, ?_⟩
      refine ite2 (fun hne => ?_) (fun hne => ?_)
      · have h2 : ds.length ≠ 2 := fun z => by
          rw [hl, z] at hne
          exact absurd hne (by decide)
        rw [not_pat2 h2] at k
        exact k
      · have h2 : xs.length = 2 := by
          apply Classical.byContradiction
          intro z
          refine hne ?_
          rw [decide_eq_false (by rw [V.int.injEq]; omega)]
          rfl
        obtain ⟨b, c, db, dc, rfl, rfl, hb1, hc1⟩ := th_two ha h2
        have hbk : db.bulk ≤ 1000000 ∧ dc.bulk ≤ 1000000 := by
          simp only [PyData.bulk, PyData.bulkAll] at hb
          omega
        refine ⟨_, rfl, a, _, rfl, hs, rfl, b, [c], rfl, c, [], rfl, rfl, ?_⟩
        refine ⟨_, rfl, b, db, capS, upB, rfl, hb1, hbk.1, cap_has, _, rfl, ?_⟩
        have ep : dPat (.tuple [db, dc]) = (dEnd upB db && (dEnd loB dc && !(isE db && isE dc))) := rfl
        cases e1 : dEnd upB db with
        | false =>
          rw [ep, e1, Bool.false_and] at k
          exact iteF k
        | true =>
          refine iteT ⟨_, rfl, c, dc, smaS, loB, rfl, hc1, hbk.2, sma_has, _, rfl, ?_⟩
          cases e2 : dEnd loB dc with
          | false =>
            rw [ep, e1, e2, Bool.true_and, Bool.false_and] at k
            exact iteF k
          | true =>
            obtain ⟨x, rfl, rfl⟩ := th_str hb1 (end_str e1)
            obtain ⟨y, rfl, rfl⟩ := th_str hc1 (end_str e2)
            refine iteT ⟨_, rfl, _, rfl, x, y, rfl, rfl, ?_, rfl, ?_⟩
            · have l1 : x.length ≤ 1000000 := hbk.1
              have l2 : y.length ≤ 1000000 := hbk.2
              exact Nat.le_trans (Nat.add_le_add l1 l2) (by decide)
            · have e3 : (!decide (V.str (x ++ y) = V.str "")) = dPat (.tuple [.str x, .str y]) := by
                rw [ep, e1, e2, Bool.true_and, Bool.true_and]
                congr 1
                rw [Bool.eq_iff_iff, decide_eq_true_iff]
                show _ ↔ (decide (x = "") && decide (y = "")) = true
                rw [V.str.injEq, ← tl_nil_iff, TL.tl_append, Bool.and_eq_true, decide_eq_true_iff, decide_eq_true_iff, List.append_eq_nil_iff, tl_nil_iff, tl_nil_iff]
              rw [e3]
              exact k
theorem sc_p_is_source : FnScope ["thing"] ["thing"] (defScope s_p_is_source) := ⟨rfl, rfl, rfl, by decide +kernel, rfl, by decide +kernel, by decide +kernel⟩
theorem cal_p_is_source (D : Def1 K mg "is_source" s_p_is_source) (CN : Cal P w K mg base 1 "is_name" (spIsName K)) (CP : Cal P w K mg base 2 "is_pattern" (spIsPat K)) : Cal P w K mg base 3 "is_source" (spIsSrc K) := by
  refine mkCal D sc_p_is_source (fun _ _ _ _ _ _ us hl => match us, hl with | [_], _ => rfl) (fun vs H Q E h => ?_) (fun f cdv A outer s H vs Q E hr h => ?_)
  · obtain ⟨v, d, rfl, _⟩ := h
    rfl
  · obtain ⟨v, d, rfl, ht, hb, k⟩ := h
    refine ⟨_, pss_one (ps_ret (pe_or (pe_cal CP hr (by decide) (pa_cons (pv 0) pa_nil)) (pe_one (pe_cal CN hr (by decide) (pa_cons (pv 0) pa_nil))))), ?_⟩
    refine ⟨_, rfl, v, d, rfl, ht, hb, _, rfl, ?_⟩
    cases e : dPat d with
    | true =>
      rw [e, Bool.true_or] at k
      exact iteT k
    | false =>
      rw [e, Bool.false_or] at k
      exact iteF ⟨_, rfl, v, d, rfl, ht, hb, k⟩
end
end Lk

/-! K03u -/
set_option Elab.async false
set_option linter.all false
set_option maxRecDepth 100000
set_option maxHeartbeats 4000000
namespace Lk
open PySem PySem.Spec PyProof.Rows L2
section
variable {P : Program} {w : World} {K : PySem.W.Frag} {mg : Str → Option Value} {base : Heap}
theorem th_strs {H : Hp} : ∀ ss : List Str, ThAll K H (ss.map V.str) (ss.map PyData.str)
  | [] => .nil
  | x :: r => .cons (.str x) (th_strs r)
def spFill (K : PySem.W.Frag) : Sp := fun vs H Q _ => ∃ (v : V) (m : Str), vs = [v, .str m] ∧ m.length ≤ 1000000 ∧ ((∃ x, v = .str x ∧ Q (.str x) H) ∨ ∃ q b e, v = .ref q ∧ SqT K H q [.str b, .str e] ∧ b.length ≤ 1000000 ∧ e.length ≤ 1000000 ∧ Q (.str (b ++ m ++ e)) H)
theorem sc_p_filled : FnScope ["source", "within", "begin", "end"] ["source", "within"] (defScope s_p_filled) := ⟨rfl, rfl, rfl, by decide +kernel, rfl, by decide +kernel, by decide +kernel⟩
theorem cal_p_filled (D : Def1 K mg "filled" s_p_filled) (T : Glc mg) : Cal P w K mg base 1 "filled" (spFill K) := by
  refine mkCal D sc_p_filled (fun _ _ _ _ _ _ us hl => match us, hl with | [_, _], _ => rfl) (fun vs H Q E h => ?_) (fun f cdv A outer s H vs Q E hr h => ?_)
  · obtain ⟨v, m, rfl, _⟩ := h
    rfl
  · obtain ⟨v, m, rfl, lm, how⟩ := h
    refine ⟨_, pss_cons (ps_if (pt_val (pe_isi (T := "str") (pv 0) T.isinst T.str (by decide +kernel))) (pss_one (ps_ret (pv 0))) pss_nil)
      (pss_cons (ps_asg (pv 0) (pg_tup rfl (pgs_cons (pg_name (i := 2) sc_p_filled.nd rfl (.inl rfl)) (pgs_cons (pg_name (i := 3) sc_p_filled.nd rfl (.inl rfl)) pgs_nil))))
      (pss_one (ps_ret (pe_op op_add_str (pe_op op_add_str (pv 2) (pv 1)) (pv 3))))), ?_⟩
    have big : ∀ n : Nat, n ≤ 4000000 → n ≤ sizeLine := fun n h => Nat.le_trans h (by decide)
    rcases how with ⟨x, rfl, k⟩ | ⟨q, b, e, rfl, hq, lb, le, k⟩
    · exact ⟨_, rfl, .str x, _, _, _, _, rfl, .ty _, th_ty (.str x : Th K H (.str x) (.str x)), kit_str (.str x), _, rfl, iteT ⟨_, rfl, k⟩⟩
    · have th : Th K H (.ref q) (.tuple [.str b, .str e]) := .tup hq (.cons (.str b) (.cons (.str e) .nil))
      refine ⟨_, rfl, .ref q, _, _, _, _, rfl, .ty _, th_ty th, kit_str (.tuple [.str b, .str e]), _, rfl, iteF ?_⟩
      refine ⟨_, rfl, q, _, rfl, hq, rfl, _, _, rfl, _, _, rfl, rfl, ?_⟩
      exact ⟨_, rfl, _, rfl, b, m, rfl, rfl, big _ (by omega), _, rfl, b ++ m, e, rfl, rfl, big _ (by rw [len_add]; omega), k⟩
def spNeed0 (K : PySem.W.Frag) : Sp := fun vs H Q _ => ∃ z : Str, vs = [.str z] ∧ z.length ≤ 1000000 ∧ dName (.str z) = true ∧ Q .non H
theorem sc_need0 : FnScope ["thing"] ["thing"] (defScope s_p_need_name) := ⟨rfl, rfl, rfl, by decide +kernel, rfl, by decide +kernel, by decide +kernel⟩
theorem cal_need (D : Def1 K mg "need_name" s_p_need_name) (C1 : Cal P w K mg base 1 "is_name" (spIsName K)) : Cal P w K mg base 2 "need_name" (spNeed0 K) := by
  refine mkCal D sc_need0 (fun _ _ _ _ _ _ us hl => match us, hl with | [_], _ => rfl) (fun vs H Q E h => ?_) (fun f cdv A outer s H vs Q E hr h => ?_)
  · obtain ⟨z, rfl, _⟩ := h
    rfl
  · obtain ⟨z, rfl, lz, nz, k⟩ := h
    refine ⟨_, pss_one (ps_if (pt_not (pt_val (pe_cal C1 hr (by decide) (pa_cons (pv 0) pa_nil)))) (pss_one ps_never) pss_nil), ?_⟩
    exact ⟨_, rfl, .str z, .str z, rfl, .str z, lz, _, rfl, iteF' (by rw [nz]; rfl) k⟩
def spParts (K : PySem.W.Frag) : Sp := fun vs H Q _ => ∃ z : Str, vs = [.str z] ∧ z.length ≤ 1000000 ∧ dName (.str z) = true ∧
  ∀ (h t : Str) (p : Addr) (H' : Hp), Same H H' → H' p = some (.tup [.str h, .str t]) → TL.tl h = (TL.tl z).takeWhile upB → TL.tl t = (TL.tl z).dropWhile upB → Q (.ref p) H'
theorem sc_p_parts : FnScope ["name", "tail"] ["name"] (defScope s_p_parts) := ⟨rfl, rfl, rfl, by decide +kernel, rfl, by decide +kernel, by decide +kernel⟩
theorem cal_p_parts (D : Def1 K mg "parts" s_p_parts) (T : Glc mg) (G : Glb mg) (C1 : Cal P w K mg base 2 "need_name" (spNeed0 K)) : Cal P w K mg base 3 "parts" (spParts K) := by
  refine mkCal D sc_p_parts (fun _ _ _ _ _ _ us hl => match us, hl with | [_], _ => rfl) (fun vs H Q E h => ?_) (fun f cdv A outer s H vs Q E hr h => ?_)
  · obtain ⟨z, rfl, _⟩ := h
    rfl
  · obtain ⟨z, rfl, lz, nz, k⟩ := h
    refine ⟨_, pss_cons (ps_expr (pe_cal C1 hr (by decide) (pa_cons (pv 0) pa_nil)))
      (pss_cons (ps_set (i := 1) sc_p_parts.nd rfl (.inl rfl) (pe_m1 PySem.F.slot_str_lstrip PySem.F.type_str_lstrip mt_lstripChars (pv 0) (pe_con1 T.caps)))
      (pss_one (ps_ret (pe_tup (pa_cons (pe_slice sl_str (pv 0) po_none (po_some (pe_op op_sub (pe_callB call_len_str (by rfl) G.len PySem.boot_len (pa_cons (pv 0) pa_nil)) (pe_callB call_len_str (by rfl) G.len PySem.boot_len (pa_cons (pv 1) pa_nil))))) (pa_cons (pv 1) pa_nil)))))), ?_⟩
    have big : ∀ n : Nat, n ≤ 4000000 → n ≤ sizeLine := fun n h => Nat.le_trans h (by decide)
    have tt : TL.tl (Txt.lstripChars z capS) = (TL.tl z).dropWhile upB := by rw [Txt.lstripChars, tl_lstrip, funext cap_has]
    have lt : (Txt.lstripChars z capS).length ≤ z.length := by
      rw [TL.len_tl, tt, TL.len_tl z]
      exact (List.dropWhile_sublist upB).length_le
    refine ⟨_, rfl, z, rfl, lz, nz, ?_⟩
    refine ⟨_, rfl, ⟨z, rfl⟩, z, capS, rfl, rfl, big _ (by omega), ?_⟩
    refine ⟨_, rfl, _, rfl, z, rfl, big _ (by omega), _, rfl, _, rfl, big _ (by omega), _, _, rfl, rfl, _, rfl, z, rfl, big _ (by omega), _, rfl, (by show 2 ≤ sizeLine; decide), fun p np => ?_⟩
    refine k _ _ p _ (same_upd np) upd_same ?_ tt
    have e : ((z.length : Int) - ((Txt.lstripChars z capS).length : Int)) = (((TL.tl z).takeWhile upB).length : Int) := by
      have h1 : (TL.tl z).length = ((TL.tl z).takeWhile upB).length + ((TL.tl z).dropWhile upB).length := by
        rw [← List.length_append, List.takeWhile_append_dropWhile]
      rw [TL.len_tl z, TL.len_tl (Txt.lstripChars z capS), tt, h1]
      omega
    rw [e, tl_cut_to (by rw [TL.len_tl]; exact (List.takeWhile_sublist upB).length_le)]
    exact (List.prefix_iff_eq_take.mp (List.takeWhile_prefix upB)).symm
end
section
variable {P : Program} {w : World} {K : PySem.W.Frag} {mg : Str → Option Value} {base : Heap}
theorem pat_ends {b e : Str} (h : dPat (.tuple [.str b, .str e]) = true) : (∀ c ∈ TL.tl b, upB c = true) ∧ (∀ c ∈ TL.tl e, loB c = true) ∧ b.length ≤ 3 ∧ e.length ≤ 3 := by
  have h2 : (dEnd upB (.str b) && (dEnd loB (.str e) && !(isE (.str b) && isE (.str e)))) = true := h
  rw [Bool.and_eq_true, Bool.and_eq_true] at h2
  obtain ⟨h3, h4, _⟩ := h2
  have h5 : (decide (b.length ≤ 3) && (TL.tl b).all upB) = true := h3
  have h6 : (decide (e.length ≤ 3) && (TL.tl e).all loB) = true := h4
  rw [Bool.and_eq_true, decide_eq_true_eq, List.all_eq_true] at h5 h6
  exact ⟨h5.2, h6.2, h5.1, h6.1⟩
def spStem (K : PySem.W.Frag) : Sp := fun vs H Q _ => ∃ (q : Addr) (b e z : Str), vs = [.ref q, .str z] ∧ SqT K H q [.str b, .str e] ∧ dPat (.tuple [.str b, .str e]) = true ∧ z.length ≤ 1000000 ∧ dName (.str z) = true ∧
  (∀ m : Str, TL.tl z = TL.tl b ++ TL.tl m ++ TL.tl e → Q (.str m) H) ∧ ((¬ ∃ m : Str, TL.tl z = TL.tl b ++ TL.tl m ++ TL.tl e) → Q .non H)
theorem sc_p_stem : FnScope ["pattern", "name"] ["pattern", "name"] (defScope s_p_stem) := ⟨rfl, rfl, rfl, by decide +kernel, rfl, by decide +kernel, by decide +kernel⟩
theorem cal_p_stem (D : Def1 K mg "stem" s_p_stem) (C1 : Cal P w K mg base 2 "need_name" (spNeed0 K)) (C2 : Cal P w K mg base 2 "is_pattern" (spIsPat K)) (C3 : Cal P w K mg base 1 "stem_within" (spSW K)) : Cal P w K mg base 3 "stem" (spStem K) := by
  refine mkCal D sc_p_stem (fun _ _ _ _ _ _ us hl => match us, hl with | [_, _], _ => rfl) (fun vs H Q E h => ?_) (fun f cdv A outer s H vs Q E hr h => ?_)
  · obtain ⟨q, b, e, z, rfl, _⟩ := h
    rfl
  · obtain ⟨q, b, e, z, rfl, hq, hp, lz, nz, yes, no⟩ := h
    obtain ⟨hb, he, lb, le⟩ := pat_ends hp
    refine ⟨_, pss_cons (ps_if (pt_not (pt_val (pe_cal C2 hr (by decide) (pa_cons (pv 0) pa_nil)))) (pss_one ps_never) pss_nil)
      (pss_cons (ps_expr (pe_cal C1 hr (by decide) (pa_cons (pv 1) pa_nil)))
      (pss_one (ps_ret (pe_cal C3 hr (by decide) (pa_cons (pv 0) (pa_cons (pv 1) pa_nil)))))), ?_⟩
    have bk : (PyData.tuple [.str b, .str e]).bulk ≤ 1000000 := by
      show b.length + 1 + (e.length + 1 + 0) ≤ 1000000
      omega
    refine ⟨_, rfl, .ref q, .tuple [.str b, .str e], rfl, .tup hq (.cons (.str b) (.cons (.str e) .nil)), bk, _, rfl, iteF' (by rw [hp]; rfl) ?_⟩
    exact ⟨_, rfl, z, rfl, lz, nz, _, rfl, _, rfl, q, b, e, z, rfl, hq, hb, he, by omega, by omega, lz, yes, no⟩
def spPut (K : PySem.W.Frag) : Sp := fun vs H Q _ => ∃ (v : V) (m : Str), vs = [v, .str m] ∧ m.length ≤ 1000000 ∧ (m = "" ∨ dName (.str m) = true) ∧
  ((∃ x : Str, v = .str x ∧ x.length ≤ 1000000 ∧ dName (.str x) = true ∧ Q (.str x) H) ∨ ∃ q b e, v = .ref q ∧ SqT K H q [.str b, .str e] ∧ dPat (.tuple [.str b, .str e]) = true ∧ Q (.str (b ++ m ++ e)) H)
theorem sc_p_put : FnScope ["source", "stem"] ["source", "stem"] (defScope s_p_put_in) := ⟨rfl, rfl, rfl, by decide +kernel, rfl, by decide +kernel, by decide +kernel⟩
theorem cal_p_put (D : Def1 K mg "put_in" s_p_put_in) (C1 : Cal P w K mg base 1 "is_name" (spIsName K)) (C2 : Cal P w K mg base 3 "is_source" (spIsSrc K)) (C3 : Cal P w K mg base 1 "filled" (spFill K)) : Cal P w K mg base 4 "put_in" (spPut K) := by
  refine mkCal D sc_p_put (fun _ _ _ _ _ _ us hl => match us, hl with | [_, _], _ => rfl) (fun vs H Q E h => ?_) (fun f cdv A outer s H vs Q E hr h => ?_)
  · obtain ⟨v, m, rfl, _⟩ := h
    rfl
  · obtain ⟨v, m, rfl, lm, hm, how⟩ := h
    refine ⟨_, pss_cons (ps_if (pt_not (pt_val (pe_cal C2 hr (by decide) (pa_cons (pv 0) pa_nil)))) (pss_one ps_never) pss_nil)
      (pss_cons (ps_if (PW.pt (pw_and (pt_cmpR op_ne (pv 1) pe_str (nomark _)) (pw_and1 (pt_not (pt_val (pe_cal C1 hr (by decide) (pa_cons (pv 1) pa_nil))))))) (pss_one ps_never) pss_nil)
      (pss_one (ps_ret (pe_cal C3 hr (by decide) (pa_cons (pv 0) (pa_cons (pv 1) pa_nil)))))), ?_⟩
    have bd : ∀ d : PyData, Th K H v d → d.bulk ≤ 1000000 → (dPat d || dName d) = true → ((∃ x, v = .str x ∧ Q (.str x) H) ∨ ∃ q b e, v = .ref q ∧ SqT K H q [.str b, .str e] ∧ b.length ≤ 1000000 ∧ e.length ≤ 1000000 ∧ Q (.str (b ++ m ++ e)) H) → tSeq (tIfS (tNot (tB (tCall (spIsSrc K) [] E0 (tCons (tVar 0) tNil)))) tNever tNext)
        (tSeq (tIfS (tAnd (tTest (tOp rNe (tVar 1) (tC (.str "")))) (tNot (tB (tCall (spIsName K) [] E0 (tCons (tVar 1) tNil))))) tNever tNext) (tRet (tCall (spFill K) [] E0 (tCons (tVar 0) (tCons (tVar 1) tNil))))) { nx := fun _ H' => Q V.non H', rt := Q } [some v, some (.str m)] H := fun d hd hb hs hk => by
      refine ⟨_, rfl, v, d, rfl, hd, hb, _, rfl, iteF' (by rw [hs]; rfl) ?_⟩
      refine ⟨_, rfl, rfl, _, rfl, ?_⟩
      by_cases z : m = ""
      · refine iteF' (by rw [z]; decide) ?_
        exact iteF ⟨_, rfl, _, rfl, v, m, rfl, lm, hk⟩
      · refine iteT' (by rw [decide_eq_false (fun y => z (V.str.inj y))]; rfl) ?_
        refine ⟨_, rfl, .str m, .str m, rfl, .str m, lm, _, rfl, iteF' (by rw [hm.resolve_left z]; rfl) ?_⟩
        exact ⟨_, rfl, _, rfl, v, m, rfl, lm, hk⟩
    rcases how with ⟨x, rfl, lx, nx, k⟩ | ⟨q, b, e, rfl, hq, hp, k⟩
    · exact bd (.str x) (.str x) lx (by rw [nx, Bool.or_true]) (.inl ⟨x, rfl, k⟩)
    · obtain ⟨hb, he, lb, le⟩ := pat_ends hp
      refine bd (.tuple [.str b, .str e]) (.tup hq (.cons (.str b) (.cons (.str e) .nil))) (by show b.length + 1 + (e.length + 1 + 0) ≤ 1000000; omega) (by rw [hp, Bool.true_or]) (.inr ⟨q, b, e, rfl, hq, by omega, by omega, k⟩)
def spOrd (K : PySem.W.Frag) : Sp := fun vs H Q _ => ∃ (l : Addr) (ss : List Str), vs = [.ref l] ∧ SqL K H l (ss.map V.str) ∧ ss.length + 1 < scanBound ∧ (PyData.list (ss.map PyData.str)).bulk ≤ 1000000 ∧ (∀ y ∈ ss, y.length ≤ 1000000 ∧ dName (.str y) = true) ∧
  ∀ (cs : List Str) (p : Addr) (H' : Hp), Same H H' → H' p = some (.tup (cs.map V.str)) → IsAsc cs ss → Q (.ref p) H'
def spNeedN (K : PySem.W.Frag) : Sp := fun vs H Q _ => ∃ (l : Addr) (ss : List Str), vs = [.ref l] ∧ SqL K H l (ss.map V.str) ∧ (∀ y ∈ ss, y.length ≤ 1000000 ∧ dName (.str y) = true) ∧ Q .non H
theorem sc_p_needn : FnScope ["thing", "name"] ["thing"] (defScope s_p_need_names) := ⟨rfl, rfl, rfl, by decide +kernel, rfl, by decide +kernel, by decide +kernel⟩
theorem cal_needn (D : Def1 K mg "need_names" s_p_need_names) (T : Glc mg) (gl : mg "list" = none) (C1 : Cal P w K mg base 2 "need_name" (spNeed0 K)) : Cal P w K mg base 3 "need_names" (spNeedN K) := by
  refine mkCal D sc_p_needn (fun _ _ _ _ _ _ us hl => match us, hl with | [_], _ => rfl) (fun vs H Q E h => ?_) (fun f cdv A outer s H vs Q E hr h => ?_)
  · obtain ⟨l, ss, rfl, _⟩ := h
    rfl
  · obtain ⟨l, ss, rfl, hl, each, k⟩ := h
    refine ⟨_, pss_cons (ps_if (pt_not (pt_val (pe_isi (T := "list") (pv 0) T.isinst gl (by decide +kernel)))) (pss_one ps_never) pss_nil)
      (pss_one (ps_for PassesOwn.never rfl (pi_list (pv 0)) (pg_name (i := 1) sc_p_needn.nd rfl (.inl rfl)) (pss_one (ps_expr (pe_cal C1 hr (by decide) (pa_cons (pv 1) pa_nil)))))), ?_⟩
    have th : Th K H (.ref l) (.list (ss.map .str)) := .lst hl (th_strs ss)
    refine ⟨_, rfl, .ref l, _, _, _, _, rfl, .ty _, th_ty th, kit_lst (.list (ss.map .str)), _, rfl, iteF' rfl ?_⟩
    refine ⟨_, rfl, l, rfl, ⟨_, hl⟩, for_list (K := K) (a := l) (xs := ss.map V.str) (fun i σ H' => H' = H ∧ ∃ v1, σ = [some (.ref l), v1]) ⟨rfl, _, rfl⟩ ?_ ?_ ?_⟩
    · rintro i σ H' _ ⟨rfl, _⟩
      exact hl
    · rintro i x σ H' hx ⟨rfl, v1, rfl⟩
      obtain ⟨y, hy, rfl⟩ : ∃ y, y ∈ ss ∧ x = .str y := by
        obtain ⟨y, hy, e⟩ := List.mem_map.mp (List.mem_of_getElem? hx)
        exact ⟨y, hy, e.symm⟩
      exact ⟨_, rfl, y, rfl, (each y hy).1, (each y hy).2, rfl, _, rfl⟩
    · rintro σ H' ⟨rfl, v1, rfl⟩
      exact k
theorem sc_p_order : FnScope ["names"] ["names"] (defScope s_p_in_order) := ⟨rfl, rfl, rfl, by decide +kernel, rfl, by decide +kernel, by decide +kernel⟩
theorem cal_p_order (D : Def1 K mg "in_order" s_p_in_order) (C1 : Cal P w K mg base 3 "need_names" (spNeedN K)) (C2 : Cal P w K mg base 1 "ascending" (spAsc K)) : Cal P w K mg base 4 "in_order" (spOrd K) := by
  refine mkCal D sc_p_order (fun _ _ _ _ _ _ us hl => match us, hl with | [_], _ => rfl) (fun vs H Q E h => ?_) (fun f cdv A outer s H vs Q E hr h => ?_)
  · obtain ⟨l, ss, rfl, _⟩ := h
    rfl
  · obtain ⟨l, ss, rfl, hl, room, bk, each, k⟩ := h
    refine ⟨_, pss_cons (ps_expr (pe_cal C1 hr (by decide) (pa_cons (pv 0) pa_nil)))
      (pss_one (ps_ret (pe_cal C2 hr (by decide) (pa_cons (pv 0) pa_nil)))), ?_⟩
    refine ⟨_, rfl, l, ss, rfl, hl, each, ?_⟩
    exact ⟨_, rfl, l, ss, rfl, .inl hl, room, fun y hy => Nat.le_trans (each y hy).1 (by decide), k⟩
end
end Lk

/-! K03l -/
set_option Elab.async false
set_option linter.all false
set_option maxRecDepth 100000
set_option maxHeartbeats 4000000
namespace Lk
open PySem PySem.Spec PyProof.Rows L2
section
variable {P : Program} {w : World} {K : PySem.W.Frag} {mg : Str → Option Value} {base : Heap}
def spLStem (K : PySem.W.Frag) : Sp := fun vs H Q _ => ∃ (q : Addr) (b e z : Str), vs = [.ref q, .str z] ∧ SqT K H q [.str b, .str e] ∧ b.length ≤ 1000000 ∧ e.length ≤ 1000000 ∧ z.length ≤ 1000000 ∧
  (∀ m : Str, TL.tl z = TL.tl b ++ TL.tl m ++ TL.tl e → Q (.str m) H) ∧ ((¬ ∃ m : Str, TL.tl z = TL.tl b ++ TL.tl m ++ TL.tl e) → Q .non H)
theorem sc_stem : FnScope ["pattern", "name", "begin", "end", "middle"] ["pattern", "name"] (defScope s_stem) := ⟨rfl, rfl, rfl, by decide +kernel, rfl, by decide +kernel, by decide +kernel⟩
theorem cal_stem (D : Def1 K mg "_law_stem" s_stem) (G : Glb mg) : Cal P w K mg base 1 "_law_stem" (spLStem K) := by
  refine mkCal D sc_stem (fun _ _ _ _ _ _ us hl => match us, hl with | [_, _], _ => rfl) (fun vs H Q E h => ?_) (fun f cdv A outer s H vs Q E hr h => ?_)
  · obtain ⟨q, b, e, z, rfl, _⟩ := h
    rfl
  · obtain ⟨q, b, e, z, rfl, hq, lb, le, lz, yes, no⟩ := h
    refine ⟨_, pss_cons (ps_asg (pv 0) (pg_tup rfl (pgs_cons (pg_name (i := 2) sc_stem.nd rfl (.inl rfl)) (pgs_cons (pg_name (i := 3) sc_stem.nd rfl (.inl rfl)) pgs_nil))))
      (pss_cons (ps_if (pt_cmpR op_lt (pe_callB call_len_str (by rfl) G.len PySem.boot_len (pa_cons (pv 1) pa_nil)) (pe_op op_add (pe_callB call_len_str (by rfl) G.len PySem.boot_len (pa_cons (pv 2) pa_nil)) (pe_callB call_len_str (by rfl) G.len PySem.boot_len (pa_cons (pv 3) pa_nil))) (nomark _)) (pss_one (ps_ret pe_non)) pss_nil)
      (pss_cons (ps_set (i := 4) sc_stem.nd rfl (.inl rfl) (pe_slice sl_str (pv 1) (po_some (pe_callB call_len_str (by rfl) G.len PySem.boot_len (pa_cons (pv 2) pa_nil))) (po_some (pe_op op_sub (pe_callB call_len_str (by rfl) G.len PySem.boot_len (pa_cons (pv 1) pa_nil)) (pe_callB call_len_str (by rfl) G.len PySem.boot_len (pa_cons (pv 3) pa_nil))))))
      (pss_one (ps_ret (pe_ifExp (pt_cmpR op_eq (pe_op op_add_str (pe_op op_add_str (pv 2) (pv 4)) (pv 3)) (pv 1) (nomark _)) (pv 4) pe_non))))), ?_⟩
    have big : ∀ n : Nat, n ≤ 4000000 → n ≤ sizeLine := fun n h => Nat.le_trans h (by decide)
    refine ⟨_, rfl, q, _, rfl, hq, rfl, _, _, rfl, _, _, rfl, rfl, ?_⟩
    refine ⟨_, rfl, z, rfl, big _ (by omega), _, rfl, b, rfl, big _ (by omega), _, rfl, e, rfl, big _ (by omega), _, _, rfl, rfl, _, _, rfl, rfl, _, rfl, ?_⟩
    refine ite2 (fun hlt => ?_) (fun hge => ?_)
    · refine no ?_
      rintro ⟨m, hm⟩
      have l := congrArg List.length hm
      rw [List.length_append, List.length_append, ← TL.len_tl, ← TL.len_tl, ← TL.len_tl, ← TL.len_tl] at l
      have h2 := of_decide_eq_true hlt
      omega
    have hge2 : ¬ ((z.length : Int) < (b.length : Int) + (e.length : Int)) := fun y => hge (decide_eq_true y)
    refine ⟨_, rfl, _, rfl, b, rfl, big _ (by omega), _, rfl, _, rfl, z, rfl, big _ (by omega), _, rfl, e, rfl, big _ (by omega), _, _, rfl, rfl, _, rfl, z, rfl, big _ (by omega), ?_⟩
    have lc := cutS_length z (some (b.length : Int)) (some ((z.length : Int) - (e.length : Int)))
    generalize hM : cutS z (some (b.length : Int)) (some ((z.length : Int) - (e.length : Int))) = M at lc ⊢
    refine ⟨_, rfl, _, rfl, b, M, rfl, rfl, big _ (by omega), _, rfl, b ++ M, e, rfl, rfl, big _ (by rw [len_add]; omega), _, rfl, rfl, _, rfl, ?_⟩
    refine ite2 (fun eq => ?_) (fun ne => ?_)
    · have h2 := V.str.inj (of_decide_eq_true eq)
      exact ⟨_, rfl, yes M (by rw [← h2, TL.tl_append, TL.tl_append])⟩
    · refine no ?_
      rintro ⟨m, hm⟩
      have c := cut_mid hm
      rw [← TL.len_tl, ← TL.len_tl, hM] at c
      have em : M = m := TL.ext_tl c
      exact ne (decide_eq_true (congrArg V.str (TL.ext_tl (by rw [TL.tl_append, TL.tl_append, em, hm]))))
theorem sc_put : FnScope ["source", "middle"] ["source", "middle"] (defScope s_put) := ⟨rfl, rfl, rfl, by decide +kernel, rfl, by decide +kernel, by decide +kernel⟩
theorem cal_put (D : Def1 K mg "_law_put" s_put) (T : Glc mg) : Cal P w K mg base 1 "_law_put" (spFill K) := by
  refine mkCal D sc_put (fun _ _ _ _ _ _ us hl => match us, hl with | [_, _], _ => rfl) (fun vs H Q E h => ?_) (fun f cdv A outer s H vs Q E hr h => ?_)
  · obtain ⟨v, m, rfl, _⟩ := h
    rfl
  · obtain ⟨v, m, rfl, lm, how⟩ := h
    refine ⟨_, pss_one (ps_ret (pe_ifExp (pt_val (pe_isi (T := "str") (pv 0) T.isinst T.str (by decide +kernel))) (pv 0) (pe_op op_add_str (pe_op op_add_str (pe_ix ix_tup (pv 0) pe_int (fun _ _ => rfl)) (pv 1)) (pe_ix ix_tup (pv 0) pe_int (fun _ _ => rfl))))), ?_⟩
    have big : ∀ n : Nat, n ≤ 4000000 → n ≤ sizeLine := fun n h => Nat.le_trans h (by decide)
    rcases how with ⟨x, rfl, k⟩ | ⟨q, b, e, rfl, hq, lb, le, k⟩
    · exact ⟨_, rfl, .str x, _, _, _, _, rfl, .ty _, th_ty (.str x : Th K H (.str x) (.str x)), kit_str (.str x), _, rfl, iteT ⟨_, rfl, k⟩⟩
    · have th : Th K H (.ref q) (.tuple [.str b, .str e]) := .tup hq (.cons (.str b) (.cons (.str e) .nil))
      refine ⟨_, rfl, .ref q, _, _, _, _, rfl, .ty _, th_ty th, kit_str (.tuple [.str b, .str e]), _, rfl, iteF ?_⟩
      exact ⟨_, rfl, q, _, 0, .str b, rfl, rfl, hq, atI_nat (j := 0) rfl, _, rfl, b, m, rfl, rfl, big _ (by omega), _, rfl, q, _, 1, .str e, rfl, rfl, hq, atI_nat (j := 1) rfl, b ++ m, e, rfl, rfl, big _ (by rw [len_add]; omega), k⟩
end
end Lk

/-! K03o -/
set_option Elab.async false
set_option linter.all false
set_option maxRecDepth 100000
set_option maxHeartbeats 4000000
namespace Lk
open PySem PySem.Spec PyProof.Rows L2
theorem nodup_len {α : Type} : ∀ {l m : List α}, l.Nodup → (∀ x ∈ l, x ∈ m) → l.length ≤ m.length
  | [], _, _, _ => Nat.zero_le _
  | x :: l, m, nd, sub => by
    obtain ⟨n1, n2⟩ := List.nodup_cons.mp nd
    obtain ⟨a, b, e⟩ := List.append_of_mem (sub x List.mem_cons_self)
    have z : l.length ≤ (a ++ b).length := nodup_len n2 fun y my => by
      have q := sub y (List.mem_cons_of_mem _ my)
      rw [e] at q
      rcases List.mem_append.mp q with q | q
      · exact List.mem_append.mpr (.inl q)
      · rcases List.mem_cons.mp q with q | q
        · rw [q] at my
          exact absurd my n1
        · exact List.mem_append.mpr (.inr q)
    rw [e]
    simp only [List.length_append, List.length_cons] at z ⊢
    omega
section
variable {P : Program} {w : World} {K : PySem.W.Frag} {mg : Str → Option Value} {base : Heap}
/-- the law's own ascending tuple of the different ones -/
def spLOrd (K : PySem.W.Frag) : Sp := fun vs H Q _ => ∃ (l : Addr) (ss : List Str), vs = [.ref l] ∧ SqL K H l (ss.map V.str) ∧ ss.length ≤ 1200 ∧ (∀ y ∈ ss, y.length ≤ sizeLine) ∧
  ∀ (cs : List Str) (p : Addr) (H' : Hp), Same H H' → H' p = some (.tup (cs.map V.str)) → IsAsc cs ss → Q (.ref p) H'
theorem sc_ordered : FnScope ["row", "name", "size"] ["row"] (defScope s_ordered) := ⟨rfl, rfl, rfl, by decide +kernel, rfl, by decide +kernel, by decide +kernel⟩
theorem cal_ordered (D : Def1 K mg "_law_ordered" s_ordered) (tt : mg "tuple" = none) (ts : mg "sorted" = none) (te : mg "set" = none) (tl : mg "len" = none) : Cal P w K mg base 1 "_law_ordered" (spLOrd K) := by
  refine mkCal D sc_ordered (fun _ _ _ _ _ _ us hl => match us, hl with | [_], _ => rfl) (fun vs H Q E h => ?_) (fun f cdv A outer s H vs Q E hr h => ?_)
  · obtain ⟨l, ss, rfl, _⟩ := h
    rfl
  · obtain ⟨l, ss, rfl, hl, few, small, k⟩ := h
    refine ⟨_, pss_one (ps_ret (pe_callTy call_tuple_of (by rfl) tt (by decide +kernel) (pa_cons
      (pe_lc (own := [("size", 2), ("name", 1)]) (g := gTup K 2 (gCons (gName 2) (gCons (gName 1) gNil))) (tt := tYes) (by rfl) sc_ordered.nd
        (pi_list (pe_callB (call_sortedPr rfl hr.units) (by rfl) ts (by decide +kernel) (pa_cons (pe_callTy (call_setPr rfl hr.units) (by rfl) te (by decide +kernel) (pa_cons
          (pe_lc (own := [("name", 1)]) (g := gName 1) (tt := tYes) (by rfl) sc_ordered.nd (pi_list (pv 0))
            (blkOk_by (own := [("name", 1)]) (N := ["row", "name", "size"]) (sc := defScope s_ordered) (by decide +kernel)) (fun _ _ _ _ _ => pg_name (i := 1) sc_ordered.nd rfl (Or.inl rfl)) (fun _ _ _ _ _ => pts_nil)
            (fun _ _ _ _ _ => pe_tup (pa_cons (pe_callB call_len_str (by rfl) tl PySem.boot_len (pa_cons (pv 1) pa_nil)) (pa_cons (pv 1) pa_nil)))) pa_nil)) pa_nil)))
        (blkOk_by (own := [("size", 2), ("name", 1)]) (N := ["row", "name", "size"]) (sc := defScope s_ordered) (by decide +kernel))
        (fun _ _ _ _ _ => pg_tup rfl (pgs_cons (pg_name (i := 2) sc_ordered.nd rfl (Or.inl rfl)) (pgs_cons (pg_name (i := 1) sc_ordered.nd rfl (Or.inl rfl)) pgs_nil))) (fun _ _ _ _ _ => pts_nil)
        (fun _ _ _ _ _ => pv 1)) pa_nil))), ?_⟩
    refine ⟨.ref l, rfl, l, rfl, ⟨_, hl⟩, fun D nD => ?_⟩
    have step : ∀ i, i < ss.length → ss.take (i + 1) = ss.take i ++ [ss[i]!] := fun i hi => by
      rw [List.take_add_one, List.getElem?_eq_getElem hi, List.getElem!_eq_getElem?_getD, List.getElem?_eq_getElem hi]
      rfl
    refine lc_list (K := K) (a := l) (xs := ss.map V.str) (fun i H' => Same H H' ∧ ∃ L : List (Addr × Str), H' D = some (.lst (L.map fun p => V.ref p.1)) ∧ L.map (·.2) = ss.take i ∧ ∀ p ∈ L, H' p.1 = some (.tup (vP p.2)))
      ⟨same_upd nD, [], upd_same, rfl, fun p m => nomatch m⟩ (fun i H' _ h => h.1.seq hl) ?_ ?_
    · rintro i x H' hx ⟨sH, L, hD, eL, ht⟩
      have hi : i < ss.length := by
        have z := (List.getElem?_eq_some_iff.mp hx).1
        rwa [List.length_map] at z
      rw [List.getElem?_map, List.getElem?_eq_getElem hi] at hx
      obtain rfl : V.str ss[i] = x := Option.some.inj hx
      have lenL : L.length ≤ i := by
        have z := congrArg List.length eL
        rw [List.length_map, List.length_take] at z
        omega
      refine ⟨rfl, _, rfl, ss[i], rfl, small _ (List.getElem_mem hi), _, rfl, (by show 2 ≤ sizeLine; decide), fun b nb => ?_⟩
      have sb := same_upd (o := .tup (vP ss[i])) nb
      have nbD : b ≠ D := fun z => by
        rw [z, hD] at nb
        cases nb
      refine ⟨_, sb _ _ hD, by rw [List.length_map]; exact (by rw [sizeLine_eq]; omega), same_mut (sH.trans sb) nD, L ++ [(b, ss[i])], by rw [upd_same, List.map_append]; rfl, ?_, fun p hp => ?_⟩
      · rw [step i hi, List.map_append, eL, List.getElem!_eq_getElem?_getD, List.getElem?_eq_getElem hi]
        rfl
      · rcases List.mem_append.mp hp with m | m
        · have np : p.1 ≠ D := fun z => by
            have q := ht p m
            rw [z, hD] at q
            cases q
          rw [upd_ne np]
          exact sb _ _ (ht p m)
        · rw [List.mem_singleton.mp m]
          exact (upd_ne nbD).trans upd_same
    · rintro H1 ⟨sH, L, hD, eL, ht⟩
      rw [List.length_map, List.take_length] at eL
      have lenL : L.length = ss.length := by rw [← eL, List.length_map]
      refine ⟨D, L, rfl, SqL.of hD, fun p m => SqT.of (ht p m), by omega, fun p us np nd mem => ?_⟩
      refine ⟨p, L, us, rfl, upd_same, fun q m => Same.seqT (same_upd np) (SqT.of (ht q m)), fun p2 M np2 sub pm pw => ?_⟩
      have s2 : Same H1 (upd (upd H1 p (SetPr P w L p us)) p2 (.lst (M.map fun m => V.ref m.1))) := (same_upd np).trans (same_upd np2)
      have hp2 : upd (upd H1 p (SetPr P w L p us)) p2 (.lst (M.map fun m => V.ref m.1)) p2 = some (.lst (M.map fun m => V.ref m.1)) := upd_same
      refine ⟨p2, rfl, ⟨_, SqL.of hp2⟩, fun D2 nD2 => ?_⟩
      have asc : IsAsc (M.map (·.2)) ss := ⟨pm.nodup_iff.mpr nd, fun x => by rw [pm.mem_iff, mem x, eL], pw⟩
      have htM : ∀ m ∈ M, upd (upd H1 p (SetPr P w L p us)) p2 (.lst (M.map fun m => V.ref m.1)) m.1 = some (.tup (vP m.2)) := fun m hm => s2 _ _ (ht m (sub m hm))
      have lenM : M.length ≤ 1200 := by
        have z1 := pm.length_eq
        have z2 : us.length ≤ (L.map (·.2)).length := nodup_len nd fun x m => (mem x).mp m
        rw [List.length_map] at z1 z2
        omega
      let H2 : Hp := upd (upd H1 p (SetPr P w L p us)) p2 (.lst (M.map fun m => V.ref m.1))
      have nD2 : H2 D2 = none := nD2
      have htM : ∀ m ∈ M, H2 m.1 = some (.tup (vP m.2)) := htM
      have sH2 : Same H H2 := sH.trans s2
      refine lc_list (K := K) (a := p2) (xs := M.map fun m => V.ref m.1) (fun i H' => Same H2 H' ∧ H' D2 = some (.lst (((M.map (·.2)).take i).map V.str)))
        ⟨same_upd nD2, upd_same⟩ (fun i H' _ h => h.1.seq (SqL.of hp2)) ?_ ?_
      · rintro i x H' hx ⟨sH', hD2⟩
        obtain ⟨m, hm, rfl⟩ := Option.map_eq_some_iff.mp ((List.getElem?_map ..).symm.trans hx)
        have hi : i < M.length := (List.getElem?_eq_some_iff.mp hm).1
        have mm : m ∈ M := List.mem_of_getElem? hm
        refine ⟨m.1, vP m.2, rfl, SqT.of (sH' _ _ (htM m mm)), rfl, _, _, rfl, _, _, rfl, rfl, rfl, _, rfl, _, hD2, ?_, same_mut sH' nD2, ?_⟩
        · rw [List.length_map, List.length_take, List.length_map]
          exact (by rw [sizeLine_eq]; omega)
        · rw [upd_same, List.take_add_one, List.getElem?_map, hm, List.map_append]
          rfl
      · rintro H3 ⟨sH3, hD2⟩
        rw [List.length_map] at hD2
        have e : (M.map (·.2)).take M.length = M.map (·.2) := List.take_of_length_le (by rw [List.length_map]; exact Nat.le_refl _)
        rw [e] at hD2
        exact ⟨D2, _, rfl, .inl ⟨SqL.of hD2, fun t nt => k _ t _ ((sH2.trans sH3).trans (same_upd nt)) upd_same asc⟩⟩
end
end Lk

/-! K03m -/
set_option Elab.async false
set_option linter.all false
set_option maxRecDepth 100000
set_option maxHeartbeats 4000000
namespace Lk
open PySem PySem.Spec PyProof.Rows L2
/-! ### mathematics of names, patterns and stems -/
def CapA (x : Str) : Prop := ∀ c ∈ TL.tl x, upB c = true
def SmaA (x : Str) : Prop := ∀ c ∈ TL.tl x, loB c = true
theorem lo_up {c : Nat} (h : loB c = true) : upB c = false := by
  unfold loB at h
  unfold upB
  simp only [Bool.and_eq_true, decide_eq_true_eq] at h
  rw [Bool.and_eq_false_iff]
  exact .inr (decide_eq_false (by omega))
theorem nm_heads {z : Str} {h t : List Nat} (n : Nm z h t) : (∀ c ∈ h, upB c = true) ∧ ∀ c ∈ t, loB c = true :=
  ⟨fun c hc => by
    have z := n.up c hc
    unfold Up at z
    unfold upB
    rw [decide_eq_true z.1, decide_eq_true z.2]
    rfl, fun c hc => by
    have z := n.lo c hc
    unfold Lo at z
    unfold loB
    rw [decide_eq_true z.1, decide_eq_true z.2]
    rfl⟩
theorem split_caps : ∀ {h t : List Nat}, (∀ c ∈ h, upB c = true) → (∀ c ∈ t, loB c = true) → (h ++ t).takeWhile upB = h ∧ (h ++ t).dropWhile upB = t
  | [], [], _, _ => ⟨rfl, rfl⟩
  | [], c :: t, _, ht => by
    have z := lo_up (ht c List.mem_cons_self)
    exact ⟨by simp [z], by simp [z]⟩
  | c :: h, t, hh, ht => by
    obtain ⟨a, b⟩ := split_caps (h := h) (t := t) (fun x hx => hh x (List.mem_cons_of_mem _ hx)) ht
    have z := hh c List.mem_cons_self
    exact ⟨by simp [z, a], by simp [z, b]⟩
theorem nm_split {z : Str} {h t : List Nat} (n : Nm z h t) : (TL.tl z).takeWhile upB = h ∧ (TL.tl z).dropWhile upB = t := by
  obtain ⟨a, b⟩ := nm_heads n
  rw [n.e]
  exact split_caps a b
theorem name_of {u v : List Nat} (hu : ∀ c ∈ u, upB c = true) (hv : ∀ c ∈ v, loB c = true) (ne : u ++ v ≠ []) : nmB (u ++ v) = true := nmB_app (List.all_eq_true.mpr hu) (List.all_eq_true.mpr hv) ne
theorem nm_isName {z : Str} {h t : List Nat} (n : Nm z h t) : dName (.str z) = true := by
  show nmB (TL.tl z) = true
  obtain ⟨a, b⟩ := nm_heads n
  rw [n.e]
  exact name_of a b n.ne
theorem pat_of {b e : Str} (hb : CapA b) (he : SmaA e) (lb : b.length ≤ 3) (le : e.length ≤ 3) (ne : ¬ (b = "" ∧ e = "")) : dPat (.tuple [.str b, .str e]) = true := by
  show (dEnd upB (.str b) && (dEnd loB (.str e) && !(isE (.str b) && isE (.str e)))) = true
  have h1 : dEnd upB (.str b) = true := by
    show (decide (b.length ≤ 3) && (TL.tl b).all upB) = true
    rw [decide_eq_true lb, List.all_eq_true.mpr hb]
    rfl
  have h2 : dEnd loB (.str e) = true := by
    show (decide (e.length ≤ 3) && (TL.tl e).all loB) = true
    rw [decide_eq_true le, List.all_eq_true.mpr he]
    rfl
  have h3 : (isE (.str b) && isE (.str e)) = false := by
    rw [Bool.eq_false_iff]
    intro y
    rw [Bool.and_eq_true] at y
    exact ne ⟨of_decide_eq_true y.1, of_decide_eq_true y.2⟩
  rw [h1, h2, h3]
  rfl
/-- a name, or nothing: capitals, then small ones -/
def NmE (l : List Nat) : Prop := (l.dropWhile upB).all loB = true
theorem nmE_parts {l : List Nat} (h : NmE l) : ∃ u v, l = u ++ v ∧ (∀ c ∈ u, upB c = true) ∧ ∀ c ∈ v, loB c = true :=
  ⟨l.takeWhile upB, l.dropWhile upB, (List.takeWhile_append_dropWhile).symm, List.all_eq_true.mp List.all_takeWhile, List.all_eq_true.mp h⟩
theorem nmE_of {u v : List Nat} (hu : ∀ c ∈ u, upB c = true) (hv : ∀ c ∈ v, loB c = true) : NmE (u ++ v) := by
  unfold NmE
  rw [(split_caps hu hv).2]
  exact List.all_eq_true.mpr hv
theorem nmE_iff {m : Str} : (m = "" ∨ dName (.str m) = true) ↔ NmE (TL.tl m) := by
  constructor
  · rintro (e | h)
    · rw [e]
      unfold NmE
      decide +kernel
    · have h2 : nmB (TL.tl m) = true := h
      unfold nmB at h2
      rw [Bool.and_eq_true] at h2
      exact h2.2
  · intro h
    by_cases e : m = ""
    · exact .inl e
    · refine .inr ?_
      show nmB (TL.tl m) = true
      unfold nmB
      rw [Bool.and_eq_true]
      refine ⟨?_, h⟩
      have ne : TL.tl m ≠ [] := fun z => e (tl_nil_iff.mp z)
      cases q : TL.tl m with
      | nil => exact absurd q ne
      | cons a b => rfl
/-- between two ends -/
theorem nmE_put {b m e : Str} (hb : CapA b) (he : SmaA e) (hm : NmE (TL.tl m)) : NmE (TL.tl (b ++ m ++ e)) := by
  obtain ⟨u, v, e1, hu, hv⟩ := nmE_parts hm
  rw [TL.tl_append, TL.tl_append, e1, ← List.append_assoc, List.append_assoc]
  exact nmE_of (fun c hc => (List.mem_append.mp hc).elim (hb c) (hu c)) fun c hc => (List.mem_append.mp hc).elim (hv c) (he c)
theorem nmE_mid {b e z : List Nat} {m : List Nat} (hb : ∀ c ∈ b, upB c = true) (hz : NmE z) (h : z = b ++ m ++ e) : NmE m := by
  unfold NmE at hz ⊢
  rw [h, List.append_assoc, List.dropWhile_append_of_pos hb, List.dropWhile_append] at hz
  split at hz
  · rename_i q
    rw [List.isEmpty_iff] at q
    rw [q]
    rfl
  · rw [List.all_append, Bool.and_eq_true] at hz
    exact hz.1
theorem mid_uniq {b e m n z : List Nat} (h : z = b ++ m ++ e) (g : z = b ++ n ++ e) : m = n := by
  rw [h, List.append_assoc, List.append_assoc] at g
  exact List.append_cancel_right (List.append_cancel_left g)
theorem put_ne {b m e : Str} (h : ¬ (b = "" ∧ e = "")) : b ++ m ++ e ≠ "" := fun z => by
  have q := tl_nil_iff.mpr z
  rw [TL.tl_append, TL.tl_append, List.append_eq_nil_iff, List.append_eq_nil_iff] at q
  exact h ⟨tl_nil_iff.mp q.1.1, tl_nil_iff.mp q.2⟩
theorem shaped_tup {ss : List Str} (h : ∀ x ∈ ss, PyData.strOk x = true) : SeqAt.shaped (.tuple (ss.map PyData.str)) = true := by
  have h1 : ∀ l : List Str, (∀ x ∈ l, PyData.strOk x = true) → PyData.canLayAll0 (l.map PyData.str) = true ∧ PyData.depthAll (l.map PyData.str) = 0 := fun l => by
    induction l with
    | nil => exact fun _ => ⟨rfl, rfl⟩
    | cons x r ih =>
      intro h
      obtain ⟨a, b⟩ := ih fun y hy => h y (List.mem_cons_of_mem _ hy)
      refine ⟨?_, ?_⟩
      · rw [List.map_cons, PyData.canLayAll0, a, Bool.and_true]
        exact h x List.mem_cons_self
      · rw [List.map_cons, PyData.depthAll, b]
        rfl
  obtain ⟨a, b⟩ := h1 ss h
  unfold SeqAt.shaped
  rw [PyData.canLay0, a, PyData.depth, b]
  rfl
theorem dp_tup {K : PySem.W.Frag} {H : Hp} : ∀ ss : List Str, DpAll K H (ss.map V.str) (ss.map PyData.str)
  | [] => .nil
  | x :: r => .cons (.str x) (dp_tup r)
end Lk

/-! K03p -/
set_option Elab.async false
set_option linter.all false
set_option maxRecDepth 100000
set_option maxHeartbeats 4000000
namespace Lk
open PySem PySem.Spec PyProof.Rows L2
/-! ### the pot of numbers -/
section
variable {P : Program} {w : World} {K : PySem.W.Frag} {mg : Str → Option Value} {base : Heap}
theorem sc_kneaded : FnScope ["seed", "lap", "prime", "amount", "again"] ["seed", "lap"] (defScope s_kneaded) := ⟨rfl, rfl, rfl, by decide +kernel, rfl, by decide +kernel, by decide +kernel⟩
theorem cal_kneaded (D : Def1 K mg "_law_kneaded" s_kneaded) (T : Glb mg) : Cal P w K mg base 1 "_law_kneaded" spKneaded := by
  refine mkCal D sc_kneaded (fun _ _ _ _ _ _ us hl => match us, hl with | [_, _], _ => rfl) (fun vs H Q E h => ?_) (fun f cdv A outer s H vs Q E hr h => ?_)
  · obtain ⟨s, l, rfl, _⟩ := h
    rfl
  · obtain ⟨s, l, rfl, k⟩ := h
    refine ⟨_, pss_cons (ps_set (i := 2) sc_kneaded.nd rfl (.inl rfl) pe_int)
      (pss_cons (ps_set (i := 3) sc_kneaded.nd rfl (.inl rfl) (pe_op op_mod (pe_callTy call_int1 (by rfl) T.int (by decide +kernel)
        (pa_cons (pe_op op_add (pe_op op_add (pe_op op_mul (pv 0) pe_int) (pe_op op_mul (pv 1) pe_int)) pe_int) pa_nil)) (pv 2)))
      (pss_cons (ps_for PassesOwn.never rfl (pi_range1 (by rfl) T.range (pa_cons pe_int pa_nil)) (pg_name (i := 4) sc_kneaded.nd rfl (.inl rfl))
        (pss_one (ps_set (i := 3) sc_kneaded.nd rfl (.inl rfl) (pe_op op_mod (pe_callTy call_int1 (by rfl) T.int (by decide +kernel)
          (pa_cons (pe_op op_add (pe_op op_add (pe_op op_add (pe_op op_mul (pv 3) (pv 3)) (pe_op op_mul pe_int (pv 3))) (pe_op op_mul pe_int (pv 4))) (pv 1)) pa_nil)) (pv 2)))))
      (pss_one (ps_ret (pe_op op_add (pe_op op_mul (pv 3) (pv 2)) (pe_op op_mod (pe_callTy call_int1 (by rfl) T.int (by decide +kernel)
          (pa_cons (pe_op op_add (pe_op op_mul (pv 3) pe_int) (pv 1)) pa_nil)) (pv 2))))))), ?_⟩
    refine ⟨_, rfl, _, _, rfl, rfl, .inr (by decide), _, rfl, _, _, rfl, rfl, .inr (by decide), _, _, rfl, rfl, _, _, rfl, rfl, .inl ⟨_, rfl, _, rfl, _, _, rfl, rfl, (by show (0 : Int) < 2305843009213693907; decide), ?_⟩⟩
    refine ⟨4, rfl, by decide, by decide, for_range (n := 4) (fun i σ H' => ∃ (m : Int) (v : Option V), σ = [some (.int s), some (.int l), some (.int 2305843009213693907), some (.int m), v] ∧ 0 ≤ m ∧ m < 2305843009213693907 ∧ H' = H)
      ⟨_, none, rfl, Int.emod_nonneg _ (by decide), Int.emod_lt_of_pos _ (by decide), rfl⟩ ?_ ?_⟩
    · rintro i σ H' hi ⟨m, v, rfl, m0, m1, rfl⟩
      refine ⟨_, rfl, _, rfl, _, _, rfl, rfl, .inl ⟨by omega, by omega⟩, _, rfl, _, _, rfl, rfl, .inr ⟨by omega, by omega⟩, _, _, rfl, rfl, _, rfl, _, _, rfl, rfl, .inl ⟨by decide, by decide⟩, _, _, rfl, rfl, _, rfl, _, _, rfl, rfl,
        .inl ⟨_, rfl, _, rfl, _, _, rfl, rfl, (by show (0 : Int) < 2305843009213693907; decide), ?_⟩⟩
      exact ⟨_, _, rfl, Int.emod_nonneg _ (by decide), Int.emod_lt_of_pos _ (by decide), rfl⟩
    · rintro σ H' ⟨m, v, rfl, m0, m1, rfl⟩
      refine ⟨_, rfl, _, rfl, _, _, rfl, rfl, .inl ⟨by omega, by omega⟩, _, rfl, _, _, rfl, rfl, .inl ⟨by omega, by omega⟩, _, rfl, _, _, rfl, rfl, .inl ⟨_, rfl, _, rfl, _, _, rfl, rfl, (by show (0 : Int) < 2305843009213693907; decide), ?_⟩⟩
      exact ⟨_, _, rfl, rfl, k _⟩

theorem sc_pot_of : FnScope ["script", "cells", "place", "cell"] ["script"] (defScope s_pot_of) := ⟨rfl, rfl, rfl, by decide +kernel, rfl, by decide +kernel, by decide +kernel⟩
theorem cal_pot_of (D : Def1 K mg "_law_pot_of" s_pot_of) (T : Glb mg) : Cal P w K mg base 1 "_law_pot_of" (spPotOf K) := by
  refine mkCal D sc_pot_of (fun _ _ _ _ _ _ us hl => match us, hl with | [_], _ => rfl) (fun vs H Q E h => ?_) (fun f cdv A outer s H vs Q E hr h => ?_)
  · obtain ⟨a, ns, rfl, _⟩ := h
    rfl
  · obtain ⟨a, ns, rfl, hS, hlen, k⟩ := h
    refine ⟨_, pss_cons (ps_setLc (i := 1) (own := [("cell", 3)]) (g := gName 3) (tt := tYes) (by rfl) sc_pot_of.nd rfl rfl (sw_true rfl rfl rfl (by decide +kernel)) (pi_list (pe_slice sl_list (pv 0) po_none (po_some pe_int)))
        (blkOk_by (own := [("cell", 3)]) (N := ["script", "cells", "place", "cell"]) (sc := defScope s_pot_of) (by decide +kernel)) (fun _ _ _ _ _ => pg_name (i := 3) sc_pot_of.nd rfl (Or.inl rfl)) (fun _ _ _ _ _ => pts_nil)
        (fun _ _ _ _ _ => pe_callB call_abs (by rfl) T.abs (by decide +kernel) (pa_cons (pv 3) pa_nil)))
      (pss_cons (ps_for PassesOwn.never rfl (pi_enum (by rfl) T.enumerate (pa_cons (pe_slice sl_list (pv 0) (po_some pe_int) (po_some pe_int)) pa_nil)) (pg_tup rfl (pgs_cons (pg_name (i := 2) sc_pot_of.nd rfl (.inl rfl)) (pgs_cons (pg_name (i := 3) sc_pot_of.nd rfl (.inl rfl)) pgs_nil)))
        (pss_one (ps_asg (pe_op op_add (pe_ix ix_list (pv 1) (pe_op op_mod (pv 2) pe_int) (fun _ _ => rfl)) (pe_callB call_abs (by rfl) T.abs (by decide +kernel) (pa_cons (pv 3) pa_nil))) (pg_sub (pv 1) (pe_op op_mod (pv 2) pe_int) set_list))))
      (pss_one (ps_ret (pe_lst (pa_cons (pv 1) (pa_cons pe_int (pa_cons pe_int (pa_cons pe_int pa_nil)))))))), ?_⟩
    refine ⟨_, rfl, 17, rfl, a, _, rfl, hS, fun q nq => ⟨q, rfl, ⟨_, SqL.of upd_same⟩, fun D nD => ?_⟩⟩
    have e17 : cutV (ns.map V.int) none (some 17) = (ns.take 17).map V.int := by
      rw [cut_to (by decide), List.map_take]
      rfl
    have sq : Same H (upd H q (.lst (cutV (ns.map V.int) none (some 17)))) := same_upd nq
    have nDq : D ≠ q := fun z => by
      rw [z, upd_same] at nD
      cases nD
    have nD0 : H D = none := sq.free nD
    refine lc_list (K := K) (a := q) (xs := (ns.take 17).map V.int) (fun i H' => Same H H' ∧ H' q = some (.lst ((ns.take 17).map V.int)) ∧ ∃ ms : List Int, H' D = some (.lst (ms.map V.int)) ∧ ms.length = i)
      ⟨same_mut sq nD0, by rw [upd_ne nDq.symm, upd_same, e17], [], upd_same, rfl⟩ (fun i H' _ h => SqL.of h.2.1) ?_ ?_
    · rintro i x H' hx ⟨sH, hq, ms, hD, hm⟩
      obtain ⟨z, rfl, hz⟩ := map_item hx
      have hi : i < 17 := by
        have := (List.getElem?_eq_some_iff.mp hx).1
        rw [List.length_map, List.length_take] at this
        omega
      refine ⟨rfl, _, rfl, z, rfl, _, hD, ?_, same_mut sH nD0, ?_, ms ++ [if z < 0 then -z else z], ?_, ?_⟩
      · rw [List.length_map, hm]
        exact small1000 (by omega)
      · rw [upd_ne nDq.symm]
        exact hq
      · rw [upd_same, List.map_append]
        rfl
      · rw [List.length_append, List.length_singleton, hm]
    · rintro H1 ⟨sH, hq, ms, hD, hm⟩
      rw [List.length_map, List.length_take] at hm
      refine ⟨_, rfl, 17, rfl, 60, rfl, a, _, rfl, sH.seq hS, fun r nr => ⟨r, _, rfl, SqL.of upd_same, ?_⟩⟩
      have e60 : cutV (ns.map V.int) (some 17) (some 60) = ((ns.drop 17).take 43).map V.int := by
        rw [cut_from_to (by decide) (by decide), List.map_take, List.map_drop]
        rfl
      have sr : Same H1 (upd H1 r (.lst (cutV (ns.map V.int) (some 17) (some 60)))) := same_upd nr
      have nrD : D ≠ r := ne_of_none hD nr
      refine for_enum (K := K) (a := r) (xs := ((ns.drop 17).take 43).map V.int) (fun i σ H' => ∃ (v2 v3 : Option V) (ms : List Int), σ = [some (.ref a), some (.ref D), v2, v3] ∧ Same H H' ∧ H' r = some (.lst (((ns.drop 17).take 43).map V.int)) ∧ H' D = some (.lst (ms.map V.int)) ∧ ms.length = min 17 ns.length)
        ⟨none, none, ms, rfl, sH.trans sr, by rw [upd_same, e60], by rw [upd_ne nrD]; exact hD, hm⟩ (fun i σ H' ⟨_, _, _, _, _, h, _⟩ => SqL.of h) ?_ ?_
      · rintro i x σ H' t hx nt ⟨v2, v3, ms, rfl, sH', hr', hD', hm'⟩
        obtain ⟨z, rfl, hz⟩ := map_item hx
        have hl : 17 < ns.length := by
          have := (List.getElem?_eq_some_iff.mp hz).1
          rw [List.length_take, List.length_drop] at this
          omega
        have ml : ms.length = 17 := by omega
        have ntD : D ≠ t := ne_of_none hD' nt
        have ntr : r ≠ t := ne_of_none hr' nt
        obtain ⟨y, hy⟩ := atI_ints (ns := ms) (k := (i : Int) % 17) (Int.emod_nonneg _ (by decide)) (by rw [ml]; exact Int.emod_lt_of_pos _ (by decide))
        refine ⟨t, _, rfl, .inl (.inl upd_same), rfl, _, _, rfl, _, _, rfl, rfl, ?_⟩
        refine ⟨_, rfl, _, rfl, _, _, rfl, rfl, (by show (0 : Int) < 17; decide), D, ms.map V.int, _, .int y, rfl, rfl, SqL.of (by rw [upd_ne ntD]; exact hD'), hy, _, rfl, z, rfl, y, _, rfl, rfl, ?_⟩
        refine ⟨_, rfl, _, rfl, _, _, rfl, rfl, (by show (0 : Int) < 17; decide), D, ms.map V.int, _, _, rfl, rfl, (by rw [upd_ne ntD]; exact hD'), ixN_lt (Int.emod_nonneg _ (by decide)) (by rw [List.length_map, ml]; exact Int.emod_lt_of_pos _ (by decide)), ?_⟩
        refine ⟨_, _, ms.set ((i : Int) % 17).toNat (y + if z < 0 then -z else z), rfl, same_mut (sH'.trans (same_upd nt)) nD0, ?_, ?_, ?_⟩
        · rw [upd_ne nrD.symm, upd_ne ntr]
          exact hr'
        · rw [upd_same, List.map_set]
        · rw [List.length_set]
          exact hm'
      · rintro σ H' ⟨v2, v3, ms, rfl, sH', hr', hD', hm'⟩
        refine ⟨_, rfl, (by show 4 ≤ sizeLine; decide), fun l nl => ?_⟩
        exact k l D _ (sH'.trans (same_upd nl)) (sH'.free nl) ⟨(ne_of_none hD' nl).symm, ⟨0, 0, 0, upd_same⟩, ms, by rw [upd_ne (ne_of_none hD' nl)]; exact hD', by omega⟩

theorem sc_below : FnScope ["pot", "bound", "cells", "place", "amount", "found"] ["pot", "bound"] (defScope s_below) := ⟨rfl, rfl, rfl, by decide +kernel, rfl, by decide +kernel, by decide +kernel⟩
theorem cal_below (D : Def1 K mg "_law_below" s_below) (T : Glb mg) (CK : Cal P w K mg base 1 "_law_kneaded" spKneaded) : Cal P w K mg base 2 "_law_below" spBelow := by
  refine mkCal D sc_below (fun _ _ _ _ _ _ us hl => match us, hl with | [_, _], _ => rfl) (fun vs H Q E h => ?_) (fun f cdv A outer s H vs Q E hr h => ?_)
  · obtain ⟨p, c, n, rfl, _⟩ := h
    rfl
  · obtain ⟨p, c, n, rfl, hP, n0, n1, k⟩ := h
    have hu := hu_of hr
    refine ⟨_, pss_cons (ps_if (pt_cmpR op_lt (pe_ix ix_list (pv 0) pe_int (fun _ _ => rfl)) (pv 1) (nomark _))
        (pss_cons (ps_par (i := 2) (j := 3) (by rfl) sc_below.nd rfl rfl (by decide) rfl rfl (pa_cons (pe_ix ix_list (pv 0) pe_int (fun _ _ => rfl)) (pa_cons (pe_ix ix_list (pv 0) pe_int (fun _ _ => rfl)) pa_nil)) (by rfl))
        (pss_cons (ps_set (i := 4) sc_below.nd rfl (.inl rfl) (pe_ifExp (pt_cmpR (op_neD hr.units) (pv 2) (pe_lst pa_nil) (nomark _))
            (pe_ix ix_list (pv 2) (pe_op op_modN (pv 3) (pe_callB call_len_seq (by rfl) T.len PySem.boot_len (pa_cons (pv 2) pa_nil))) (fun _ _ => rfl)) pe_int))
        (pss_cons (ps_if (PW.pt (pw_or (pt_cmpR op_ge (pv 3) (pe_callB call_len_seq (by rfl) T.len PySem.boot_len (pa_cons (pv 2) pa_nil)) (nomark _)) (pw_or1 (pt_cmpR op_lt (pv 4) (pe_op op_pow pe_int pe_int) (nomark _)))))
            (pss_one (ps_set (i := 4) sc_below.nd rfl (.inl rfl) (pe_cal CK hr (by decide) (pa_cons (pe_op op_mod (pe_callTy call_int1 (by rfl) T.int (by decide +kernel) (pa_cons (pv 4) pa_nil)) pe_int) (pa_cons (pv 3) pa_nil))))) pss_nil)
        (pss_cons (ps_asg (pe_op op_add (pv 3) pe_int) (pg_sub (pv 0) pe_int set_list))
        (pss_cons (ps_asg (pv 4) (pg_sub (pv 0) pe_int set_list))
        (pss_one (ps_asg (pv 4) (pg_sub (pv 0) pe_int set_list)))))))) pss_nil)
      (pss_cons (ps_set (i := 5) sc_below.nd rfl (.inl rfl) (pe_op op_mod (pe_callTy call_int1 (by rfl) T.int (by decide +kernel) (pa_cons (pe_ix ix_list (pv 0) pe_int (fun _ _ => rfl)) pa_nil)) (pv 1)))
      (pss_cons (ps_asg (pe_op op_fdivN (pe_ix ix_list (pv 0) pe_int (fun _ _ => rfl)) (pv 1)) (pg_sub (pv 0) pe_int set_list))
      (pss_cons (ps_asg (pe_op op_fdivN (pe_ix ix_list (pv 0) pe_int (fun _ _ => rfl)) (pv 1)) (pg_sub (pv 0) pe_int set_list))
      (pss_one (ps_ret (pv 5)))))), ?_⟩
    -- the end, from any pot
    have tail : ∀ (v2 v3 v4 : Option V) (H1 : Hp), Ext p c H H1 → ∀ (t : TS), t = tSeq (tAsg (tOp (rI (fun _ j => 0 < j) fun i j => V.int (i % j)) (tCB (fun xs H Q => (∃ i, xs = [V.int i] ∧ Q (.int i) H) ∨ ∃ k, xs = [V.bl k] ∧ Q (.int (if k then 1 else 0)) H) (tCons (tOp (rIxL K) (tVar 0) (tC (.int 2))) tNil)) (tVar 1)) (gName 5))
        (tSeq (tAsg (tOp (rI CDivN fun i j => V.int (i.fdiv j)) (tOp (rIxL K) (tVar 0) (tC (.int 2))) (tVar 1)) (gSub (tVar 0) (tC (.int 2)) rSetL)) (tSeq (tAsg (tOp (rI CDivN fun i j => V.int (i.fdiv j)) (tOp (rIxL K) (tVar 0) (tC (.int 3))) (tVar 1)) (gSub (tVar 0) (tC (.int 3)) rSetL)) (tRet (tVar 5)))) →
        t { nx := fun _ H' => Q .non H', rt := Q } [some (.ref p), some (.int n), v2, v3, v4, none] H1 := by
      rintro v2 v3 v4 H1 e t rfl
      obtain ⟨npc, ⟨i, a, b, hp⟩, _⟩ := id e.pot
      refine ⟨_, rfl, p, _, 2, .int a, rfl, rfl, SqL.of hp, atI_nat (j := 2) rfl, .inl ⟨_, rfl, _, rfl, _, _, rfl, rfl, n0, ?_⟩⟩
      refine ⟨_, rfl, p, _, 2, .int a, rfl, rfl, SqL.of hp, atI_nat (j := 2) rfl, _, rfl, _, _, rfl, rfl, ⟨by omega, by omega⟩, ?_⟩
      refine ⟨_, rfl, p, _, 2, 2, rfl, rfl, hp, rfl, ?_⟩
      refine ⟨_, rfl, p, _, 3, .int b, rfl, rfl, SqL.of upd_same, atI_nat (j := 3) rfl, _, rfl, _, _, rfl, rfl, ⟨by omega, by omega⟩, ?_⟩
      refine ⟨_, rfl, p, _, 3, 3, rfl, rfl, upd_same, rfl, ?_⟩
      refine ⟨_, rfl, k _ _ (Int.emod_nonneg _ (by omega)) (Int.emod_lt_of_pos _ n0) ?_⟩
      exact pot_put hP (pot_put hP e)
    obtain ⟨npc, ⟨i, a, b, hp⟩, ns, hc, hl⟩ := id hP
    refine ⟨_, rfl, p, _, 3, .int b, rfl, rfl, SqL.of hp, atI_nat (j := 3) rfl, _, rfl, _, _, rfl, rfl, _, rfl, ?_⟩
    refine ite2 (fun _ => ?_) (fun _ => tail _ _ _ H hP.ref _ rfl)
    refine ⟨_, rfl, p, _, 0, .ref c, rfl, rfl, SqL.of hp, atI_nat (j := 0) rfl, _, rfl, p, _, 1, .int i, rfl, rfl, SqL.of hp, atI_nat (j := 1) rfl, _, _, rfl, ?_⟩
    refine ⟨_, rfl, Nat.zero_le _, fun q nq => ⟨_, _, .lst (SqL.of (by rw [upd_ne (ne_of_none hc nq)]; exact hc)) (dp_ints ns), .lst (SqL.of upd_same) .nil, shaped_ints ns, rfl, _, rfl, ?_⟩⟩
    rw [eqv_ints_nil]
    have e1 : Ext p c H (upd H q (.lst [])) := hP.ref.new nq
    have hc1 : (upd H q (.lst [])) c = some (.lst (ns.map V.int)) := by rw [upd_ne (ne_of_none hc nq)]; exact hc
    have hp1 : (upd H q (.lst [])) p = some (.lst [.ref c, .int i, .int a, .int b]) := by rw [upd_ne (ne_of_none hp nq)]; exact hp
    refine ite2 (fun hn => ?wayA) (fun hn => ?wayB)
    case' wayA =>
      have hn2 : 0 < ns.length := List.length_pos_iff.mpr fun z => by
        rw [z] at hn
        exact absurd hn (by decide)
      obtain ⟨z, hz⟩ := atI_ints (ns := ns) (k := Int.fmod i (((ns.map V.int).length : Nat) : Int)) (Int.fmod_nonneg_of_pos _ (by rw [List.length_map]; omega)) (by
        rw [List.length_map]
        exact Int.fmod_lt_of_pos _ (by omega))
      refine ⟨_, rfl, _, rfl, _, rfl, c, _, rfl, .inl (SqL.of hc1), _, _, rfl, rfl, (by rw [List.length_map]; show ((ns.length : Nat) : Int) ≠ 0; omega), c, _, _, .int z, rfl, rfl, SqL.of hc1, hz, ?_⟩
    all_goals
      refine ⟨_, rfl, _, rfl, c, _, rfl, .inl (SqL.of hc1), _, _, rfl, rfl, _, rfl, ?_⟩
      refine ite2 (fun _ => iteT ?_) (fun _ => ⟨_, rfl, _, _, rfl, rfl, ⟨by decide, by decide, by decide⟩, _, _, rfl, rfl, _, rfl, ite2 (fun _ => ?_) (fun _ => ?_)⟩)
      all_goals try refine ⟨_, rfl, .inl ⟨_, rfl, _, _, rfl, rfl, (by show (0 : Int) < 982451629; decide), _, rfl, _, _, rfl, fun r => ?_⟩⟩
      all_goals
        refine ⟨_, rfl, _, _, rfl, rfl, _, rfl, p, _, 1, 1, rfl, rfl, hp1, rfl, ?_⟩
        refine ⟨_, rfl, _, rfl, p, _, 2, 2, rfl, rfl, upd_same, rfl, ?_⟩
        refine ⟨_, rfl, _, rfl, p, _, 3, 3, rfl, rfl, upd_same, rfl, ?_⟩
        exact tail _ _ _ _ (pot_put hP (pot_put hP (pot_put hP e1))) _ rfl
end
end Lk

/-! K03v -/
set_option Elab.async false
set_option linter.all false
set_option maxRecDepth 100000
set_option maxHeartbeats 4000000
namespace Lk
open PySem PySem.Spec PyProof.Rows L2
section
variable {P : Program} {w : World} {K : PySem.W.Frag} {mg : Str → Option Value} {base : Heap}
theorem sc_split : FnScope ["name", "size"] ["name"] (defScope s_split) := ⟨rfl, rfl, rfl, by decide +kernel, rfl, by decide +kernel, by decide +kernel⟩
theorem cal_split (D : Def1 K mg "_law_split" s_split) (G : Glb mg) : Cal P w K mg base 1 "_law_split" spSplit := by
  refine mkCal D sc_split (fun _ _ _ _ _ _ us hl => match us, hl with | [_], _ => rfl) (fun vs H Q E h => ?_) (fun f cdv A outer s H vs Q E hr h => ?_)
  · obtain ⟨x, rfl, _⟩ := h
    rfl
  · obtain ⟨x, rfl, hx, k⟩ := h
    have hz : x.length ≤ sizeLine := Nat.le_trans hx (by decide)
    have tA : TL.tl ("A" : Str) = [65] := by decide +kernel
    have tZ : TL.tl ("Z" : Str) = [90] := by decide +kernel
    have hl := TL.len_tl x
    refine ⟨_, pss_cons (ps_set (i := 1) sc_split.nd rfl (.inl rfl) pe_int)
      (pss_cons (ps_while PassesOwn.never (PW.pt (pw_and (pt_cmpR op_lt (pv 1) (pe_callB call_len_str (by rfl) G.len PySem.boot_len (pa_cons (pv 0) pa_nil)) (nomark _)) (pw_and1 (pt_chain op_le_str op_le_str pe_str (pe_item_str (pv 0) (pv 1) (fun _ _ => rfl)) pe_str))))
        (pss_one (ps_set (i := 1) sc_split.nd rfl (.inl rfl) (pe_op op_add (pv 1) pe_int))))
      (pss_one (ps_ret (pe_tup (pa_cons (pe_slice sl_str (pv 0) po_none (po_some (pv 1))) (pa_cons (pe_slice sl_str (pv 0) (po_some (pv 1)) po_none) pa_nil)))))), ?_⟩
    have fin : ∀ n : Nat, n ≤ (TL.tl x).length → (∀ c ∈ (TL.tl x).take n, upB c = true) → (∀ c, (TL.tl x)[n]? = some c → upB c = false) → tRet (tTup (tCons (tSl rSlS (tVar 0) tNoPart (tPart (tVar 1))) (tCons (tSl rSlS (tVar 0) (tPart (tVar 1)) tNoPart) tNil))) { nx := fun _ H' => Q .non H', rt := Q } [some (.str x), some (.int (n : Int))] H := by
      intro n hn up stop
      have hn2 : n ≤ x.length := by omega
      refine ⟨_, rfl, _, rfl, _, rfl, x, rfl, hz, _, rfl, _, rfl, _, rfl, x, rfl, hz, (by show 2 ≤ sizeLine; decide), fun p np => ?_⟩
      obtain ⟨e1, e2⟩ := take_tw up stop hn
      exact k p _ _ np (by rw [tl_cut_to hn2, e1]) (by rw [tl_cut_from hn2, e2])
    refine ⟨fun m σ H' => ∃ n : Nat, σ = [some (.str x), some (.int (n : Int))] ∧ n + m = (TL.tl x).length ∧ (∀ c ∈ (TL.tl x).take n, upB c = true) ∧ H' = H, ⟨_, 0, rfl, Nat.zero_add _, by simp, rfl⟩, ?_⟩
    rintro m σ H' ⟨n, rfl, em, up, rfl⟩
    refine ⟨_, rfl, _, rfl, x, rfl, hz, _, _, rfl, rfl, _, rfl, ?_⟩
    refine ite2 (fun hlt => ?_) (fun hge => ?_)
    · have hn : n < (TL.tl x).length := by
        have := of_decide_eq_true hlt
        omega
      have hc : x.cps[(n : Int).toNat]? = some ((TL.tl x)[n]) := by
        rw [Int.toNat_natCast, ← Array.getElem?_toList]
        exact List.getElem?_eq_getElem hn
      refine ⟨_, rfl, _, rfl, x, _, _, rfl, rfl, by omega, by omega, by omega, hc, _, _, rfl, rfl, _, rfl, ?_⟩
      rw [le_sg tA]
      have bad : ∀ b : Bool, upB ((TL.tl x)[n]) = b → ∀ c, (TL.tl x)[n]? = some c → upB c = b := fun b hb c h => by
        rw [List.getElem?_eq_getElem hn] at h
        rw [← Option.some.inj h]
        exact hb
      refine ite2 (fun h1 => ?_) (fun h1 => ?_)
      · refine ⟨_, _, rfl, rfl, _, rfl, ?_⟩
        rw [sg_le tZ]
        refine ite2 (fun h2 => ?_) (fun h2 => ?_)
        · have hu : upB ((TL.tl x)[n]) = true := by
            unfold upB
            rw [h1, h2]
            rfl
          refine ⟨fun σ' H'' => ∃ n' : Nat, n' = n + 1 ∧ σ' = [some (.str x), some (.int (n' : Int))] ∧ H'' = H', fun σ' H'' hN => ?_, _, rfl, _, _, rfl, rfl, n + 1, rfl, ?_, rfl⟩
          · obtain ⟨n', rfl, rfl, rfl⟩ := hN
            refine ⟨m - 1, by omega, n + 1, rfl, by omega, fun c hc' => ?_, rfl⟩
            rw [List.take_succ_eq_append_getElem hn] at hc'
            rcases List.mem_append.mp hc' with h | h
            · exact up c h
            · rw [List.mem_singleton.mp h]
              exact hu
          · show [some (V.str x), some (V.int ((n : Int) + 1))] = _
            rw [show ((n + 1 : Nat) : Int) = (n : Int) + 1 by omega]
        · exact fin n (by omega) up (bad false (by unfold upB; rw [Bool.not_eq_true _ |>.mp h2, Bool.and_false]))
      · exact ⟨_, rfl, fin n (by omega) up (bad false (by unfold upB; rw [Bool.not_eq_true _ |>.mp h1, Bool.false_and]))⟩
    · have hn : n = (TL.tl x).length := by
        have : ¬ ((n : Int) < (x.length : Int)) := fun z => hge (decide_eq_true z)
        omega
      exact fin n (by omega) up (fun c h => by
        rw [List.getElem?_eq_none (by omega)] at h
        cases h)
end
end Lk

/-! K03n -/
set_option Elab.async false
set_option linter.all false
set_option maxRecDepth 100000
set_option maxHeartbeats 4000000
namespace Lk
open PySem PySem.Spec PyProof.Rows L2
section
variable {P : Program} {w : World} {K : PySem.W.Frag} {mg : Str → Option Value} {base : Heap}
theorem sc_pick : FnScope ["pot", "items"] ["pot", "items"] (defScope s_pick) := ⟨rfl, rfl, rfl, by decide +kernel, rfl, by decide +kernel, by decide +kernel⟩
theorem cal_pick (D : Def1 K mg "_law_pick" s_pick) (T : Glb mg) (CB : Cal P w K mg base 2 "_law_below" spBelow) : Cal P w K mg base 3 "_law_pick" (spPick K) := by
  refine mkCal D sc_pick (fun _ _ _ _ _ _ us hl => match us, hl with | [_, _], _ => rfl) (fun vs H Q E h => ?_) (fun f cdv A outer s H vs Q E hr h => ?_)
  · obtain ⟨p, c, l, xs, rfl, _⟩ := h
    rfl
  · obtain ⟨p, c, l, xs, rfl, hP, hS, nl, h0, h1, k⟩ := h
    refine ⟨_, pss_one (ps_ret (pe_ix ix_list (pv 1) (pe_cal CB hr (by decide) (pa_cons (pv 0) (pa_cons (pe_callB call_len_seq (by rfl) T.len PySem.boot_len (pa_cons (pv 1) pa_nil)) pa_nil))) (fun _ _ => rfl))), ?_⟩
    refine ⟨_, rfl, _, rfl, _, rfl, l, xs, rfl, .inl hS, p, c, _, rfl, hP, by omega, by omega, fun r H' r0 r1 e => ?_⟩
    obtain ⟨v, hv, hg⟩ := atI_lt (xs := xs) r0 r1
    exact ⟨l, xs, r, v, rfl, rfl, e.seq nl hS, hv, k v H' (List.mem_of_getElem? hg) e⟩
theorem sc_some_name : FnScope ["pot", "head", "tail", "lap"] ["pot"] (defScope s_some_name) := ⟨rfl, rfl, rfl, by decide +kernel, rfl, by decide +kernel, by decide +kernel⟩
theorem cal_some_name (D : Def1 K mg "_law_some_name" s_some_name) (T : Glb mg) (CB : Cal P w K mg base 2 "_law_below" spBelow) (CP : Cal P w K mg base 3 "_law_pick" (spPick K)) : Cal P w K mg base 4 "_law_some_name" spName := by
  refine mkCal D sc_some_name (fun _ _ _ _ _ _ us hl => match us, hl with | [_], _ => rfl) (fun vs H Q E h => ?_) (fun f cdv A outer s H vs Q E hr h => ?_)
  · obtain ⟨p, c, rfl, _⟩ := h
    rfl
  · obtain ⟨p, c, rfl, hP, k⟩ := h
    refine ⟨_, pss_cons (ps_set (i := 1) sc_some_name.nd rfl (.inl rfl) (pe_join pe_str (pe_lc (own := [("lap", 3)]) (g := gName 3) (tt := tYes) (by rfl) sc_some_name.nd (pi_range1 (by rfl) T.range (pa_cons (pe_cal CB hr (by decide) (pa_cons (pv 0) (pa_cons pe_int pa_nil))) pa_nil))
          (blkOk_by (own := [("lap", 3)]) (N := ["pot", "head", "tail", "lap"]) (sc := defScope s_some_name) (by decide +kernel)) (fun _ _ _ _ _ => pg_name (i := 3) sc_some_name.nd rfl (Or.inl rfl)) (fun _ _ _ _ _ => pts_nil)
          (fun _ _ _ _ _ => pe_cal CP hr (by decide) (pa_cons (pv 0) (pa_cons (pe_lst (pa_cons pe_str (pa_cons pe_str (pa_cons pe_str (pa_cons pe_str pa_nil))))) pa_nil))))))
      (pss_cons (ps_set (i := 2) sc_some_name.nd rfl (.inl rfl) (pe_join pe_str (pe_lc (own := [("lap", 3)]) (g := gName 3) (tt := tYes) (by rfl) sc_some_name.nd (pi_range1 (by rfl) T.range (pa_cons (pe_cal CB hr (by decide) (pa_cons (pv 0) (pa_cons pe_int pa_nil))) pa_nil))
          (blkOk_by (own := [("lap", 3)]) (N := ["pot", "head", "tail", "lap"]) (sc := defScope s_some_name) (by decide +kernel)) (fun _ _ _ _ _ => pg_name (i := 3) sc_some_name.nd rfl (Or.inl rfl)) (fun _ _ _ _ _ => pts_nil)
          (fun _ _ _ _ _ => pe_cal CP hr (by decide) (pa_cons (pv 0) (pa_cons (pe_lst (pa_cons pe_str (pa_cons pe_str (pa_cons pe_str (pa_cons pe_str pa_nil))))) pa_nil))))))
      (pss_one (ps_ret (pe_ifExp (pt_cmpR op_ne (pe_op op_add_str (pv 1) (pv 2)) pe_str (nomark _)) (pe_op op_add_str (pv 1) (pv 2)) (pe_cal CP hr (by decide) (pa_cons (pv 0) (pa_cons (pe_lst (pa_cons pe_str (pa_cons pe_str (pa_cons pe_str pa_nil)))) pa_nil))))))), ?_⟩
    have hU : ∀ y : Str, y ∈ ([("A" : Str), "A", "B", "Z"] : List Str) → (TL.tl y).length ≤ 1 ∧ ∀ c ∈ TL.tl y, Up c := by decide +kernel
    have hL : ∀ y : Str, y ∈ ([("c" : Str), "o", "o", "s"] : List Str) → (TL.tl y).length ≤ 1 ∧ ∀ c ∈ TL.tl y, Lo c := by decide +kernel
    have e0 : TL.tl ("" : Str) = [] := by decide +kernel
    refine set_read ?_
    refine word_read (K := K) (σ := [some (.ref p), none, none, none]) (n := 4) (iv := 3) (p := p) (c := c) (letters := [("A" : Str), "A", "B", "Z"]) ?hL (by decide) (by decide) (fun y h => (hU y h).1) (by rfl) (fun _ => by rfl) (fun _ => by rfl) hP (by decide) (by decide) fun hs H1 mh lh e1 => ?_
    case hL => exact fun σ H Q q => q
    refine set_read ?_
    refine word_read (K := K) (σ := [some (.ref p), some (.str (Txt.join "" hs)), none, none]) (n := 4) (iv := 3) (p := p) (c := c) (letters := [("c" : Str), "o", "o", "s"]) ?hL (by decide) (by decide) (fun y h => (hL y h).1) (by rfl) (fun _ => by rfl) (fun _ => by rfl) e1.pot (by decide) (by decide) fun ts H2 mt lt e2 => ?_
    case hL => exact fun σ H Q q => q
    have e := e1.trans e2
    have th : TL.tl (Txt.join "" hs) = (hs.map TL.tl).flatten := tl_join0 e0 hs
    have tt : TL.tl (Txt.join "" ts) = (ts.map TL.tl).flatten := tl_join0 e0 ts
    have lh1 := flat_len (k := 1) (ys := hs) fun y h => (hU y (mh y h)).1
    have lt1 := flat_len (k := 1) (ys := ts) fun y h => (hL y (mt y h)).1
    have ll : (Txt.join "" hs).length + (Txt.join "" ts).length ≤ sizeLine := by
      rw [TL.len_tl, TL.len_tl, th, tt]
      exact Nat.le_of_lt (small1000 (by omega))
    refine ⟨_, rfl, _, rfl, _, _, rfl, rfl, ll, rfl, _, rfl, ?_⟩
    refine ite2 (fun hne => ?_) (fun hne => ?_)
    · refine ⟨_, rfl, _, rfl, _, _, rfl, rfl, ll, k _ (hs.map TL.tl).flatten (ts.map TL.tl).flatten H2 ⟨by rw [TL.tl_append, th, tt], flat_all fun y h => (hU y (mh y h)).2, flat_all fun y h => (hL y (mt y h)).2, fun z => ?_, by omega, by omega⟩ e⟩
      have z2 : Txt.join "" hs ++ Txt.join "" ts = ("" : Str) := TL.ext_tl (by rw [TL.tl_append, th, tt, z, e0])
      rw [z2] at hne
      exact absurd hne (by decide)
    · refine ⟨_, rfl, (by show 3 ≤ sizeLine; decide), fun l nl => ?_⟩
      refine ⟨p, c, l, _, rfl, e.pot.same (same_upd nl), SqL.of upd_same, e.pot.nep nl, by decide, by decide, fun v H3 hv e3 => ?_⟩
      have e4 := e.trans (Ext.pre (same_upd nl) e3)
      have h3 : v = .str "A" ∨ v = .str "o" ∨ v = .str "Z" := by simpa using hv
      rcases h3 with rfl | rfl | rfl
      · exact k _ [65] [] _ ⟨by decide +kernel, by decide, by decide, by decide, by decide, by decide⟩ e4
      · exact k _ [] [111] _ ⟨by decide +kernel, by decide, by decide, by decide, by decide, by decide⟩ e4
      · exact k _ [90] [] _ ⟨by decide +kernel, by decide, by decide, by decide, by decide, by decide⟩ e4
end
end Lk

/-! K03w -/
set_option Elab.async false
set_option linter.all false
set_option maxRecDepth 100000
set_option maxHeartbeats 4000000
namespace Lk
open PySem PySem.Spec PyProof.Rows L2
section
variable {P : Program} {w : World} {K : PySem.W.Frag} {mg : Str → Option Value} {base : Heap}
theorem sc_law : FnScope ["script", "pot", "turn", "name", "head", "tail", "begin", "end", "pattern", "found", "source", "middle", "lap", "row", "shown", "far"] ["script"] (defScope s_law) := ⟨rfl, rfl, rfl, by decide +kernel, rfl, by decide +kernel, by decide +kernel⟩
structure Cs03 (P : Program) (w : World) (K : PySem.W.Frag) (mg : Str → Option Value) (base : Heap) : Prop where
  pot : Cal P w K mg base 1 "_law_pot_of" (spPotOf K)
  below : Cal P w K mg base 2 "_law_below" spBelow
  pick : Cal P w K mg base 3 "_law_pick" (spPick K)
  name : Cal P w K mg base 4 "_law_some_name" spName
  split : Cal P w K mg base 1 "_law_split" spSplit
  lstem : Cal P w K mg base 1 "_law_stem" (spLStem K)
  lput : Cal P w K mg base 1 "_law_put" (spFill K)
  lord : Cal P w K mg base 1 "_law_ordered" (spLOrd K)
  stem : Cal P w K mg base 3 "stem" (spStem K)
  parts : Cal P w K mg base 3 "parts" (spParts K)
  put : Cal P w K mg base 4 "put_in" (spPut K)
  ord : Cal P w K mg base 4 "in_order" (spOrd K)
structure Gls (mg : Str → Option Value) : Prop where
  repr : mg "repr" = none
  max : mg "max" = none
/-- the test says no, at most the pot has moved -/
def NoT (p c : Addr) (t : TT) (σ : L2.St) (H : Hp) : Prop := ∀ Q2 : Bool → Hp → Prop, (∀ H', Ext p c H H' → Q2 false H') → t σ H Q2
theorem no_ifS {p c : Addr} {t : TT} {ts r : TS} {σ : L2.St} {D : Ends} {H : Hp} (h : NoT p c t σ H) (k : ∀ H', Ext p c H H' → r D σ H') : tSeq (tIfS t ts tNext) r D σ H := h _ fun H' e => iteF (k H' e)
theorem no_if {p c : Addr} {t : TT} {ts : TS} {σ : L2.St} {D : Ends} {H : Hp} (h : NoT p c t σ H) (k : ∀ H', Ext p c H H' → D.nx σ H') : tIfS t ts tNext D σ H := h _ fun H' e => iteF (k H' e)
theorem no_or {p c : Addr} {t u : TT} {σ : L2.St} {H : Hp} (h1 : NoT p c t σ H) (h2 : ∀ H1, Ext p c H H1 → NoT p c u σ H1) : NoT p c (tOr t u) σ H := fun _ q => h1 _ fun H1 e1 => iteF (h2 H1 e1 _ fun H' e => q H' (e1.trans e))
theorem cut_sub {z : Str} {lo hi : Option Int} {c : Nat} (h : c ∈ TL.tl (cutS z lo hi)) : c ∈ TL.tl z := (List.drop_sublist _ _).subset ((List.take_sublist _ _).subset h)
theorem ite_str {k : Bool} {σ : L2.St} {H : Hp} {Q : VK} {x y : Str} {i : Nat} (hi : σ[i]? = some (some (.str y))) (h : Q (.str (if k = true then x else y)) H) : if k = true then tC (.str x) σ H Q else tVar i σ H Q := by
  cases k
  · exact ⟨_, hi, h⟩
  · exact h
theorem ok_caps {x : Str} (h : CapA x) : PyData.strOk x = true := ok_of_all fun c hc => by
  have z := h c hc
  unfold upB at z
  simp only [Bool.and_eq_true, decide_eq_true_eq] at z
  omega
theorem ok_smalls {x : Str} (h : SmaA x) : PyData.strOk x = true := ok_of_all fun c hc => by
  have z := h c hc
  unfold loB at z
  simp only [Bool.and_eq_true, decide_eq_true_eq] at z
  omega
/-- what a stem is -/
def Fnd (b e z : Str) (v : V) : Prop := (∃ m : Str, v = .str m ∧ TL.tl z = TL.tl b ++ TL.tl m ++ TL.tl e) ∨ (v = .non ∧ ¬ ∃ m : Str, TL.tl z = TL.tl b ++ TL.tl m ++ TL.tl e)
theorem fnd_uniq {b e z : Str} {v u : V} (h : Fnd b e z v) (g : Fnd b e z u) : v = u := by
  rcases h with ⟨m, rfl, h⟩ | ⟨rfl, h⟩
  · rcases g with ⟨n, rfl, g⟩ | ⟨_, g⟩
    · exact congrArg V.str (TL.ext_tl (mid_uniq h g))
    · exact absurd ⟨m, h⟩ g
  · rcases g with ⟨n, _, g⟩ | ⟨rfl, _⟩
    · exact absurd ⟨n, g⟩ h
    · rfl
theorem fnd_scal {b e z : Str} {v u : V} (h : Fnd b e z v) (g : Fnd b e z u) : scal v u = true := by
  rcases h with ⟨m, rfl, _⟩ | ⟨rfl, _⟩ <;> rcases g with ⟨n, rfl, _⟩ | ⟨rfl, _⟩ <;> rfl
theorem stem_read {H : Hp} {Q : VK} {q : Addr} {b e z : Str} {σ : L2.St} {i j : Nat} (hi : σ[i]? = some (some (.ref q))) (hj : σ[j]? = some (some (.str z))) (hq : SqT K H q [.str b, .str e]) (hp : dPat (.tuple [.str b, .str e]) = true) (lz : z.length ≤ 1000000) (nz : dName (.str z) = true) (h : ∀ v, Fnd b e z v → Q v H) :
    tCall (spStem K) [] E0 (tCons (tVar i) (tCons (tVar j) tNil)) σ H Q :=
  ⟨_, hi, _, hj, q, b, e, z, rfl, hq, hp, lz, nz, fun m hm => h _ (.inl ⟨m, rfl, hm⟩), fun no => h _ (.inr ⟨rfl, no⟩)⟩
theorem lstem_read {H : Hp} {Q : VK} {q : Addr} {b e z : Str} {σ : L2.St} {i j : Nat} (hi : σ[i]? = some (some (.ref q))) (hj : σ[j]? = some (some (.str z))) (hq : SqT K H q [.str b, .str e]) (lb : b.length ≤ 1000000) (le : e.length ≤ 1000000) (lz : z.length ≤ 1000000) (h : ∀ v, Fnd b e z v → Q v H) :
    tCall (spLStem K) [] E0 (tCons (tVar i) (tCons (tVar j) tNil)) σ H Q :=
  ⟨_, hi, _, hj, q, b, e, z, rfl, hq, lb, le, lz, fun m hm => h _ (.inl ⟨m, rfl, hm⟩), fun no => h _ (.inr ⟨rfl, no⟩)⟩
theorem nx_open {x : V} {i : Nat} {q : L2.St → Hp → Prop} {rt : VK} {bk ct : L2.St → Hp → Prop} {σ : L2.St} {H : Hp} (h : gName i x σ H q) : gName i x σ H (Ends.nx { nx := q, rt := rt, bk := bk, ct := ct }) := h
theorem next_read {x : V} {i : Nat} {te : TE} {g : TG} {r : TS} {D : Ends} {σ : L2.St} {H : Hp} (h : te (σ.set i (some x)) H fun y H1 => g y (σ.set i (some x)) H1 (r D)) : gName i x σ H (tSeq (tAsg te g) r D) := h
theorem next_if {x : V} {i : Nat} {t : TT} {ts r : TS} {D : Ends} {σ : L2.St} {H : Hp} (h : tSeq (tIfS t ts tNext) r D (σ.set i (some x)) H) : gName i x σ H (tSeq (tIfS t ts tNext) r D) := h
theorem mk_addE {te tf : TE} {σ : L2.St} {H0 : Hp} {x y : Str} (h : Mk1 K te σ H0 (.str x)) (g : Mk1 K tf σ H0 (.str y)) (hl : x.length + y.length ≤ 1000) :
    Mk1 K (tOp (fun x y H Q => ∃ i j, x = .str i ∧ y = .str j ∧ i.length + j.length ≤ sizeLine ∧ Q (.str (i ++ j)) H) te tf) σ H0 (.str (x ++ y)) := fun H s Q q =>
  h H s _ fun v H1 s1 h1 => g H1 (s.trans s1) _ fun u H2 s2 h2 => by
    cases h1
    cases h2
    exact ⟨x, y, rfl, rfl, Nat.le_of_lt (small1000 hl), q _ H2 (s1.trans s2) (.str _)⟩
def SrcD (d : PyData) : Prop := (∃ x : Str, d = .str x ∧ dName (.str x) = true ∧ x.length ≤ 1000) ∨ ∃ b e : Str, d = .tuple [.str b, .str e] ∧ dPat (.tuple [.str b, .str e]) = true
theorem rep_sub {k : Nat} {x : Str} {c : Nat} (h : c ∈ TL.tl (zrep k x)) : c ∈ TL.tl x := by
  rw [tl_zrep] at h
  obtain ⟨l, hl, hc⟩ := List.mem_flatten.mp h
  rw [(List.mem_replicate.mp hl).2] at hc
  exact hc
theorem th_strv {H : Hp} {v : V} {x : Str} (h : Th K H v (.str x)) : v = .str x := by
  cases h
  rfl
theorem th_pair {H : Hp} {v : V} {b e : Str} (h : Th K H v (.tuple [.str b, .str e])) : ∃ q, v = .ref q ∧ SqT K H q [.str b, .str e] := by
  cases h with
  | tup hs ha =>
    cases ha with
    | cons h1 t =>
      cases t with
      | cons h2 t =>
        cases t
        cases h1
        cases h2
        exact ⟨_, rfl, hs⟩
theorem strs_eq {H : Hp} : ∀ {vs : List V} {ss : List Str}, ThAll K H vs (ss.map PyData.str) → vs = ss.map V.str
  | _, [], .nil => rfl
  | _, s :: ss, .cons h t => by
    cases h
    rw [strs_eq t]
    rfl
theorem next_if1 {x : V} {i : Nat} {t : TT} {ts : TS} {D : Ends} {σ : L2.St} {H : Hp} (h : tIfS t ts tNext D (σ.set i (some x)) H) : gName i x σ H (tIfS t ts tNext D) := h
theorem potLike_strs (ss : List Str) : potLike (ss.map PyData.str) = false := by
  rcases ss with _ | ⟨a, _ | ⟨b, _ | ⟨c, _ | ⟨d, _ | _⟩⟩⟩⟩ <;> rfl
theorem noPot_strs (ss : List Str) : noPotAll (ss.map PyData.str) = true := by
  induction ss with
  | nil => rfl
  | cons x r ih =>
    rw [List.map_cons, noPotAll, ih]
    rfl
/-- the great name at the end -/
def midS : Str := zrep 20 "A" ++ zrep 20 "b"
def farS : Str := "ABD" ++ midS ++ "xyz"
instance : DecidableRel leA := fun x y => inferInstanceAs (Decidable (x.length < y.length ∨ (x.length = y.length ∧ leT x y = true)))
theorem strs_th {H : Hp} {v : V} {ds : List Str} (h : ∃ d, d ∈ ds.map PyData.str ∧ Th K H v d) : ∃ x ∈ ds, v = .str x := by
  obtain ⟨d, hd, ht⟩ := h
  obtain ⟨x, hx, rfl⟩ := List.mem_map.mp hd
  cases ht
  exact ⟨x, hx, rfl⟩
set_option maxHeartbeats 0
theorem fn_law {f : Addr} {fd : FuncData} (F : L2.Fun K "law" "law" s_law f fd) (C : Cs03 P w K mg base) (G : Glb mg) (T : Glc mg) (R : Gls mg) : FnG P w K mg base CX0 6 f fd ["script"] (spLaw K) := by
  refine mkFnG0 F sc_law (fun vs H Q E h => ?_) (fun cdv A outer s H vs Q E hr hg h => ?_)
  · obtain ⟨a, ns, rfl, _⟩ := h
    rfl
  · obtain ⟨a, ns, rfl, hS, hlen, k⟩ := h
    refine ⟨_, (pss_cons (ps_set (i := 1) sc_law.nd rfl (.inr rfl) (pe_cal C.pot hr (by decide) (pa_cons (pv 0) pa_nil)))
    (pss_cons (ps_for PassesOwn.never rfl (pi_range1 (by rfl) G.range (pa_cons pe_int pa_nil)) (pg_name (i := 2) sc_law.nd rfl (.inl rfl))
    (pss_cons (ps_set (i := 3) sc_law.nd rfl (.inl rfl) (pe_cal C.name hr (by decide) (pa_cons (pv 1) pa_nil)))
    (pss_cons (ps_asg (pe_cal C.split hr (by decide) (pa_cons (pv 3) pa_nil)) (pg_tup rfl (pgs_cons (pg_name (i := 4) sc_law.nd rfl (.inl rfl)) (pgs_cons (pg_name (i := 5) sc_law.nd rfl (.inl rfl)) pgs_nil))))
    (pss_cons (ps_set (i := 6) sc_law.nd rfl (.inl rfl) (pe_slice sl_str (pe_cal C.pick hr (by decide) (pa_cons (pv 1) (pa_cons (pe_lst (pa_cons (pe_slice sl_str (pv 4) po_none (po_some (pe_cal C.below hr (by decide) (pa_cons (pv 1) (pa_cons pe_int pa_nil))))) (pa_cons (pe_cal C.pick hr (by decide) (pa_cons (pv 1) (pa_cons (pe_lst (pa_cons pe_str (pa_cons pe_str (pa_cons pe_str (pa_cons pe_str pa_nil))))) pa_nil))) pa_nil))) pa_nil))) po_none (po_some pe_int)))
    (pss_cons (ps_set (i := 7) sc_law.nd rfl (.inl rfl) (pe_slice sl_str (pv 5) (po_some (pe_callB (call_max2 rfl) (by rfl) R.max (by decide +kernel) (pa_cons pe_int (pa_cons (pe_op op_sub (pe_callB call_len_str (by rfl) G.len PySem.boot_len (pa_cons (pv 5) pa_nil)) (pe_cal C.below hr (by decide) (pa_cons (pv 1) (pa_cons pe_int pa_nil)))) pa_nil)))) po_none))
    (pss_cons (ps_set (i := 7) sc_law.nd rfl (.inl rfl) (pe_cal C.pick hr (by decide) (pa_cons (pv 1) (pa_cons (pe_lst (pa_cons (pv 7) (pa_cons (pe_cal C.pick hr (by decide) (pa_cons (pv 1) (pa_cons (pe_lst (pa_cons pe_str (pa_cons pe_str (pa_cons pe_str (pa_cons pe_str pa_nil))))) pa_nil))) pa_nil))) pa_nil))))
    (pss_cons (ps_set (i := 6) sc_law.nd rfl (.inl rfl) (pe_ifExp (pt_cmpR op_eq (pe_op op_add_str (pv 6) (pv 7)) pe_str (nomark _)) pe_str (pv 6)))
    (pss_cons (ps_set (i := 8) sc_law.nd rfl (.inl rfl) (pe_tup (pa_cons (pv 6) (pa_cons (pv 7) pa_nil))))
    (pss_cons (ps_set (i := 9) sc_law.nd rfl (.inl rfl) (pe_cal C.stem hr (by decide) (pa_cons (pv 8) (pa_cons (pv 3) pa_nil))))
    (pss_cons (ps_if (PW.pt (pw_or (pt_cmpR (op_neD hr.units) (pe_cal C.parts hr (by decide) (pa_cons (pv 3) pa_nil)) (pe_tup (pa_cons (pv 4) (pa_cons (pv 5) pa_nil))) (nomark _)) (pw_or1 (pt_cmpR op_ne (pv 9) (pe_cal C.lstem hr (by decide) (pa_cons (pv 8) (pa_cons (pv 3) pa_nil))) (nomark _))))) (pss_one (ps_ret pe_bl)) pss_nil)
    (pss_cons (ps_if (PW.pt (pw_and (pt_cmpR op_notN (pv 9) pe_non (nomark _)) (pw_and1 (pt_cmpR op_ne (pe_cal C.put hr (by decide) (pa_cons (pv 8) (pa_cons (pv 9) pa_nil))) (pv 3) (nomark _))))) (pss_one (ps_ret pe_bl)) pss_nil)
    (pss_cons (ps_if (pt_cmpR op_ne (pe_cal C.stem hr (by decide) (pa_cons (pv 8) (pa_cons (pe_op op_add_str (pv 6) (pv 7)) pa_nil))) pe_str (nomark _)) (pss_one (ps_ret pe_bl)) pss_nil)
    (pss_cons (ps_set (i := 10) sc_law.nd rfl (.inl rfl) (pe_cal C.pick hr (by decide) (pa_cons (pv 1) (pa_cons (pe_lst (pa_cons (pv 3) (pa_cons (pe_op op_add_str (pe_op op_add_str (pe_op op_strRep (pv 4) pe_int) (pe_op op_strRep (pv 5) pe_int)) pe_str) (pa_cons (pe_tup (pa_cons pe_str (pa_cons pe_str pa_nil))) (pa_cons (pe_tup (pa_cons pe_str (pa_cons pe_str pa_nil))) (pa_cons (pe_tup (pa_cons pe_str (pa_cons pe_str pa_nil))) (pa_cons (pe_tup (pa_cons (pv 6) (pa_cons (pv 7) pa_nil))) pa_nil))))))) pa_nil))))
    (pss_cons (ps_set (i := 11) sc_law.nd rfl (.inl rfl) (pe_cal C.pick hr (by decide) (pa_cons (pv 1) (pa_cons (pe_lst (pa_cons (pe_cal C.name hr (by decide) (pa_cons (pv 1) pa_nil)) (pa_cons pe_str pa_nil))) pa_nil))))
    (pss_cons (ps_if (pt_cmpR op_ne (pe_cal C.put hr (by decide) (pa_cons (pv 10) (pa_cons (pv 11) pa_nil))) (pe_cal C.lput hr (by decide) (pa_cons (pv 10) (pa_cons (pv 11) pa_nil))) (nomark _)) (pss_one (ps_ret pe_bl)) pss_nil)
    (pss_cons (ps_if (PW.pt (pw_and (pt_not (pt_val (pe_isi (T := "str") (pv 10) T.isinst T.str (by decide +kernel)))) (pw_and1 (pt_cmpR op_ne (pe_cal C.stem hr (by decide) (pa_cons (pv 10) (pa_cons (pe_cal C.put hr (by decide) (pa_cons (pv 10) (pa_cons (pv 11) pa_nil))) pa_nil))) (pv 11) (nomark _))))) (pss_one (ps_ret pe_bl)) pss_nil)
    (pss_cons (ps_set (i := 13) sc_law.nd rfl (.inl rfl) (pe_op op_cat (pe_lc (own := [("lap", 12)]) (g := gName 12) (tt := tYes) (by rfl) sc_law.nd (pi_range1 (by rfl) G.range (pa_cons (pe_cal C.below hr (by decide) (pa_cons (pv 1) (pa_cons pe_int pa_nil))) pa_nil)) (blkOk_by (own := [("lap", 12)]) (N := ["script", "pot", "turn", "name", "head", "tail", "begin", "end", "pattern", "found", "source", "middle", "lap", "row", "shown", "far"]) (sc := defScope s_law) (by decide +kernel)) (fun _ _ _ _ _ => pg_name (i := 12) sc_law.nd rfl (Or.inl rfl)) (fun _ _ _ _ _ => pts_nil) (fun _ _ _ _ _ => (pe_cal C.name hr (by decide) (pa_cons (pv 1) pa_nil)))) (pe_lst (pa_cons (pv 3) pa_nil))))
    (pss_cons (ps_set (i := 14) sc_law.nd rfl (.inl rfl) (pe_callB (call_repr hg hr.units) (by rfl) R.repr bootS_repr (pa_cons (pv 13) pa_nil)))
    (pss_one (ps_if (PW.pt (pw_or (pt_cmpR (op_neD hr.units) (pe_cal C.ord hr (by decide) (pa_cons (pv 13) pa_nil)) (pe_cal C.lord hr (by decide) (pa_cons (pv 13) pa_nil)) (nomark _)) (pw_or1 (pt_cmpR op_ne (pe_callB (call_repr hg hr.units) (by rfl) R.repr bootS_repr (pa_cons (pv 13) pa_nil)) (pv 14) (nomark _))))) (pss_one (ps_ret pe_bl)) pss_nil))))))))))))))))))))
    (pss_cons (ps_set (i := 15) sc_law.nd rfl (.inl rfl) (pe_cal C.put hr (by decide) (pa_cons (pe_tup (pa_cons pe_str (pa_cons pe_str pa_nil))) (pa_cons (pe_op op_add_str (pe_op op_strRep pe_str pe_int) (pe_op op_strRep pe_str pe_int)) pa_nil))))
    (pss_cons (ps_if (PW.pt (pw_or (pt_cmpR (op_neD hr.units) (pe_cal C.parts hr (by decide) (pa_cons (pv 15) pa_nil)) (pe_tup (pa_cons (pe_op op_add_str pe_str (pe_op op_strRep pe_str pe_int)) (pa_cons (pe_op op_add_str (pe_op op_strRep pe_str pe_int) pe_str) pa_nil))) (nomark _)) (pw_or1 (pt_cmpR op_ne (pe_cal C.stem hr (by decide) (pa_cons (pe_tup (pa_cons pe_str (pa_cons pe_str pa_nil))) (pa_cons (pv 15) pa_nil))) (pe_op op_add_str (pe_op op_strRep pe_str pe_int) (pe_op op_strRep pe_str pe_int)) (nomark _))))) (pss_one (ps_ret pe_bl)) pss_nil)
    (pss_cons (ps_if (PW.pt (pw_or (pt_cmpR (op_neD hr.units) (pe_cal C.ord hr (by decide) (pa_cons (pe_lst (pa_cons (pv 15) (pa_cons pe_str (pa_cons (pv 15) pa_nil)))) pa_nil)) (pe_tup (pa_cons pe_str (pa_cons (pv 15) pa_nil))) (nomark _)) (pw_or1 (pt_cmpR op_ne (pe_cal C.put hr (by decide) (pa_cons pe_str (pa_cons pe_str pa_nil))) pe_str (nomark _))))) (pss_one (ps_ret pe_bl)) pss_nil)
    (pss_cons (ps_set (i := 13) sc_law.nd rfl (.inl rfl) (pe_lst (pa_cons pe_str (pa_cons pe_str (pa_cons pe_str (pa_cons pe_str (pa_cons pe_str (pa_cons pe_str (pa_cons pe_str (pa_cons pe_str pa_nil))))))))))
    (pss_one (ps_ret (pe_and (pe_cmpR (op_eqD hr.units) (pe_cal C.ord hr (by decide) (pa_cons (pe_lst pa_nil) pa_nil)) (pe_tup pa_nil) (nomark _)) (pe_one (pe_cmpR (op_eqD hr.units) (pe_cal C.ord hr (by decide) (pa_cons (pv 13) pa_nil)) (pe_tup (pa_cons pe_str (pa_cons pe_str (pa_cons pe_str (pa_cons pe_str (pa_cons pe_str (pa_cons pe_str (pa_cons pe_str pa_nil)))))))) (nomark _)))))))))))), ?_⟩
    refine ⟨_, rfl, a, ns, rfl, hS, hlen, fun p c H1 s1 np hP => ?_⟩
    refine ⟨25, rfl, by decide, by decide, for_range (n := 25) (fun i σ H' => ∃ v2 v3 v4 v5 v6 v7 v8 v9 v10 v11 v12 v13 v14 : Option V, σ = [some (.ref a), some (.ref p), v2, v3, v4, v5, v6, v7, v8, v9, v10, v11, v12, v13, v14, none] ∧ PotAt p c H')
      ⟨none, none, none, none, none, none, none, none, none, none, none, none, none, rfl, hP⟩ ?_ ?_⟩
    · rintro i σ H2 hi ⟨v2, v3, v4, v5, v6, v7, v8, v9o, v10o, v11, v12, v13, v14, rfl, hP2⟩
      refine ⟨_, rfl, p, c, rfl, hP2, fun z hz tz H3 nm e3 => ?_⟩
      have lz := nm.len
      have okz := nm.ok
      have nz := nm_isName nm
      obtain ⟨hup, hlo⟩ := nm_heads nm
      obtain ⟨sp1, sp2⟩ := nm_split nm
      refine ⟨_, rfl, z, rfl, by omega, fun q1 hs ts nq1 eh et => ⟨q1, _, rfl, SqT.of upd_same, rfl, _, _, rfl, _, _, rfl, rfl, ?_⟩⟩
      have e4 := e3.new (o := .tup [.str hs, .str ts]) nq1
      have P4 := e4.pot
      generalize upd H3 q1 (.tup [.str hs, .str ts]) = H4 at e4 P4 ⊢
      have tks : ∀ c ∈ TL.tl hs, upB c = true := by
        rw [eh, sp1]
        exact hup
      have tkt : ∀ c ∈ TL.tl ts, loB c = true := by
        rw [et, sp2]
        exact hlo
      have lhs : hs.length ≤ 3 := by
        rw [TL.len_tl, eh, sp1]
        exact nm.lh
      have lts : ts.length ≤ 3 := by
        rw [TL.len_tl, et, sp2]
        exact nm.lt
      have big : ∀ n : Nat, n ≤ 4000000 → n ≤ sizeLine := fun n h => Nat.le_trans h (by decide)
      -- the beginning
      refine ⟨_, rfl, _, rfl, _, rfl, p, c, 4, rfl, P4, by decide, by decide, fun r5 H5 r50 r51 e5 => ⟨r5, rfl, hs, rfl, big _ (by omega), ?_⟩⟩
      refine pick_new (K := K) (p := p) (c := c) (i := 1) (mk_cons mk_str (mk_cons mk_str (mk_cons mk_str (mk_cons mk_str mk_nil)))) rfl (by decide) (by decide) e5.pot rfl fun v6 d6 H6 hd6 th6 e6 => ?_
      refine ⟨(by show 2 ≤ sizeLine; decide), fun l7 n7 => ⟨p, c, l7, _, rfl, e6.pot.same (same_upd n7), SqL.of upd_same, e6.pot.nep n7, (by show 0 < 2; decide), (by show 2 ≤ 1000; decide), fun v7 H7 hv7 e7 => ?_⟩⟩
      have P7 := e7.pot
      obtain ⟨b0, rfl, cb0, lb0⟩ : ∃ x, v7 = .str x ∧ CapA x ∧ x.length ≤ 3 := by
        rcases List.mem_cons.mp hv7 with e | m
        · exact ⟨_, e, fun c hc => tks c (cut_sub hc), Nat.le_trans (cutS_length _ _ _) lhs⟩
        · obtain ⟨x, hx, ex⟩ := strs_th (ds := ["", "A", "B", "ZA"]) ⟨d6, hd6, th6⟩
          have q : ∀ x ∈ (["", "A", "B", "ZA"] : List Str), (∀ c ∈ TL.tl x, upB c = true) ∧ x.length ≤ 3 := by decide +kernel
          exact ⟨x, (List.mem_singleton.mp m).trans ex, (q x hx).1, (q x hx).2⟩
      refine ⟨3, rfl, b0, rfl, big _ (by omega), ?_⟩
      have cb1 : CapA (cutS b0 none (some 3)) := fun c hc => cb0 c (cut_sub hc)
      have lb1 : (cutS b0 none (some 3)).length ≤ 3 := Nat.le_trans (cutS_length _ _ _) lb0
      generalize cutS b0 none (some 3) = b1 at cb1 lb1 ⊢
      -- the end
      refine ⟨_, rfl, _, rfl, ts, rfl, big _ (by omega), _, rfl, p, c, 4, rfl, P7, by decide, by decide, fun r8 H8 r80 r81 e8 => ⟨_, _, rfl, rfl, _, _, rfl, _, rfl, ts, rfl, big _ (by omega), ?_⟩⟩
      have P8 := e8.pot
      have ct0 : SmaA (cutS ts (some (if (ts.length : Int) - r8 > 0 then (ts.length : Int) - r8 else 0)) none) := fun c hc => tkt c (cut_sub hc)
      have lt0 : (cutS ts (some (if (ts.length : Int) - r8 > 0 then (ts.length : Int) - r8 else 0)) none).length ≤ 3 := Nat.le_trans (cutS_length _ _ _) lts
      generalize cutS ts (some (if (ts.length : Int) - r8 > 0 then (ts.length : Int) - r8 else 0)) none = t0 at ct0 lt0 ⊢
      refine ⟨_, rfl, _, rfl, ?_⟩
      refine pick_new (K := K) (p := p) (c := c) (i := 1) (mk_cons mk_str (mk_cons mk_str (mk_cons mk_str (mk_cons mk_str mk_nil)))) rfl (by decide) (by decide) P8 rfl fun v9 d9 H9 hd9 th9 e9 => ?_
      refine ⟨(by show 2 ≤ sizeLine; decide), fun l10 n10 => ⟨p, c, l10, _, rfl, e9.pot.same (same_upd n10), SqL.of upd_same, e9.pot.nep n10, (by show 0 < 2; decide), (by show 2 ≤ 1000; decide), fun v10 H10 hv10 e10 => ?_⟩⟩
      have P10 := e10.pot
      obtain ⟨e, rfl, ce, le⟩ : ∃ x, v10 = .str x ∧ SmaA x ∧ x.length ≤ 3 := by
        rcases List.mem_cons.mp hv10 with e | m
        · exact ⟨_, e, ct0, lt0⟩
        · obtain ⟨x, hx, ex⟩ := strs_th (ds := ["", "o", "s", "co"]) ⟨d9, hd9, th9⟩
          have q : ∀ x ∈ (["", "o", "s", "co"] : List Str), (∀ c ∈ TL.tl x, loB c = true) ∧ x.length ≤ 3 := by decide +kernel
          exact ⟨x, (List.mem_singleton.mp m).trans ex, (q x hx).1, (q x hx).2⟩
      -- not both empty
      refine ⟨_, rfl, _, rfl, b1, e, rfl, rfl, big _ (by omega), rfl, _, rfl, ite_str (i := 6) rfl ?_⟩
      obtain ⟨b, eb⟩ : ∃ b, b = (if decide (V.str (b1 ++ e) = V.str "") = true then ("Z" : Str) else b1) := ⟨_, rfl⟩
      rw [← eb]
      have hb : CapA b ∧ b.length ≤ 3 ∧ ¬ (b = "" ∧ e = "") := by
        by_cases y : V.str (b1 ++ e) = V.str ""
        · rw [if_pos (decide_eq_true y)] at eb
          rw [eb]
          exact ⟨(show ∀ c ∈ TL.tl ("Z" : Str), upB c = true by decide +kernel), by decide +kernel, fun q => absurd q.1 (by decide +kernel)⟩
        · rw [if_neg (fun q => y (of_decide_eq_true q))] at eb
          rw [eb]
          exact ⟨cb1, lb1, fun q => y (by rw [q.1, q.2]; rfl)⟩
      obtain ⟨cb, lb, nbe⟩ := hb
      clear eb
      have pat := pat_of cb ce lb le nbe
      -- the pattern
      refine ⟨_, rfl, _, rfl, (by show 2 ≤ sizeLine; decide), fun q11 n11 => ?_⟩
      have e11 := P10.ref.new (o := .tup [.str b, .str e]) n11
      have P11 := e11.pot
      have hq : upd H10 q11 (.tup [.str b, .str e]) q11 = some (.tup [.str b, .str e]) := upd_same
      have nqp : q11 ≠ p := P10.nep n11
      generalize upd H10 q11 (.tup [.str b, .str e]) = H11 at e11 P11 hq ⊢
      have okb : PyData.strOk b = true := ok_caps cb
      have oke : PyData.strOk e = true := ok_smalls ce
      have nzE : NmE (TL.tl z) := nmE_iff.mp (.inr nz)
      have lz2 : z.length ≤ 1000000 := by omega
      have lb2 : b.length ≤ 1000000 := by omega
      have le2 : e.length ≤ 1000000 := by omega
      -- found
      refine nx_open (next_read ?_)
      refine stem_read (K := K) (q := q11) (b := b) (e := e) (z := z) rfl rfl (SqT.of hq) pat lz2 nz fun vf fnd => ?_
      refine next_if (no_ifS (p := p) (c := c) (no_or (fun Q2 q => ?_) fun H12 e12 Q2 q => ?_) fun H12 e12 => ?_)
      · refine ⟨_, rfl, z, rfl, lz2, nz, fun h2 t2 q2 H12 s12 e2 eh2 et2 => ⟨_, rfl, _, rfl, (by show 2 ≤ sizeLine; decide), fun q3 n3 => ?_⟩⟩
        have e4 : h2 = hs := TL.ext_tl (eh2.trans eh.symm)
        have e5 : t2 = ts := TL.ext_tl (et2.trans et.symm)
        rw [e4, e5] at e2
        have sh : SeqAt.shaped (.tuple [.str hs, .str ts]) = true := shaped_tup (ss := [hs, ts]) fun x hx => by
          rcases List.mem_cons.mp hx with e | hx
          · rw [e]
            exact ok_caps tks
          · rw [List.mem_singleton.mp hx]
            exact ok_smalls tkt
        refine ⟨.tuple [.str hs, .str ts], .tuple [.str hs, .str ts], .tup (SqT.of ((same_upd n3) _ _ e2)) (.cons (.str _) (.cons (.str _) .nil)), .tup (SqT.of upd_same) (.cons (.str _) (.cons (.str _) .nil)), sh, sh, _, rfl, ?_⟩
        rw [SeqAt.eqv_refl _ (SeqAt.canLay_of_shaped sh)]
        exact q _ ((Ext.same P11.ref s12).same (same_upd n3))
      · refine ⟨_, rfl, lstem_read (K := K) (q := q11) (b := b) (e := e) (z := z) rfl rfl (SqT.of (e12.get hq nqp)) lb2 le2 lz2 fun vg gnd => ?_⟩
        rw [fnd_uniq gnd fnd]
        exact ⟨fnd_scal fnd fnd, _, rfl, by rw [decide_eq_true rfl]; exact q H12 e12.pot.ref⟩
      -- the stem, put in again
      refine no_ifS (p := p) (c := c) (fun Q2 q => ?_) fun H13 e13 => ?_
      · refine ⟨_, rfl, rfl, _, rfl, ?_⟩
        rcases fnd with ⟨m, rfl, hm⟩ | ⟨rfl, hn⟩
        · have lm : m.length ≤ z.length := by
            have l := congrArg List.length hm
            rw [List.length_append, List.length_append] at l
            have l1 := TL.len_tl z
            have l2 := TL.len_tl m
            omega
          have back : b ++ m ++ e = z := TL.ext_tl (by rw [TL.tl_append, TL.tl_append, hm])
          refine iteT' (by rw [decide_eq_false (fun y => nomatch y)]; rfl) ⟨_, rfl, _, rfl, .ref q11, m, rfl, by omega, nmE_iff.mpr (nmE_mid cb nzE hm), .inr ⟨q11, b, e, rfl, SqT.of (e12.get hq nqp), pat, _, rfl, rfl, _, rfl, ?_⟩⟩
          rw [back, decide_eq_true rfl]
          exact q H12 e12.pot.ref
        · exact iteF' (by rw [decide_eq_true rfl]; rfl) (q H12 e12.pot.ref)
      have hq13 := (e12.trans e13).get hq nqp
      refine no_ifS (p := p) (c := c) (fun Q2 q => ?_) fun H14 e14 => ?_
      · have t0 : TL.tl ("" : Str) = [] := by decide +kernel
        have hbe : TL.tl (b ++ e) = TL.tl b ++ TL.tl ("" : Str) ++ TL.tl e := by rw [TL.tl_append, t0, List.append_nil]
        have nb : dName (.str (b ++ e)) = true := (nmE_iff.mpr (by rw [TL.tl_append]; exact nmE_of cb ce)).resolve_left fun y => by
          have y2 := tl_nil_iff.mpr y
          rw [TL.tl_append, List.append_eq_nil_iff] at y2
          exact nbe ⟨tl_nil_iff.mp y2.1, tl_nil_iff.mp y2.2⟩
        refine ⟨_, rfl, _, rfl, _, rfl, b, e, rfl, rfl, big _ (by omega), q11, b, e, b ++ e, rfl, SqT.of hq13, pat, by rw [len_add]; omega, nb, fun m hm => ?_, fun no => absurd ⟨"", hbe⟩ no⟩
        have em : m = "" := TL.ext_tl (mid_uniq hm hbe)
        exact ⟨rfl, _, rfl, by rw [em, decide_eq_true rfl]; exact q H13 e13.pot.ref⟩
      -- a source, a stem
      refine set_read ?_
      refine pick_new (K := K) (p := p) (c := c) (i := 1) (ds := [.str z, .str (zrep 3 hs ++ zrep 3 ts ++ "o"), .tuple [.str "A", .str "x"], .tuple [.str "", .str "z"], .tuple [.str "B", .str ""], .tuple [.str b, .str e]])
        (mk_cons (mk_var rfl (.str z)) (mk_cons (mk_addE (mk_addE (mk_rep (k := 3) rfl (by decide) (by decide) (by omega)) (mk_rep (k := 3) rfl (by decide) (by decide) (by omega)) (by rw [len_rep, len_rep]; omega)) mk_str (by rw [len_add, len_rep, len_rep]; show 3 * hs.length + 3 * ts.length + 1 ≤ 1000; omega))
        (mk_cons (mk_tup (mk_cons mk_str (mk_cons mk_str mk_nil)) (by show 2 ≤ 1000; decide)) (mk_cons (mk_tup (mk_cons mk_str (mk_cons mk_str mk_nil)) (by show 2 ≤ 1000; decide)) (mk_cons (mk_tup (mk_cons mk_str (mk_cons mk_str mk_nil)) (by show 2 ≤ 1000; decide))
        (mk_cons (mk_tup (mk_cons (mk_var rfl (.str b)) (mk_cons (mk_var rfl (.str e)) mk_nil)) (by show 2 ≤ 1000; decide)) mk_nil)))))) rfl (by show 0 < 6; decide) (by show 6 ≤ 1000; decide) e14.pot rfl fun vd d H15 hd thd e15 => ?_
      obtain ⟨npd, src⟩ : noPot d = true ∧ SrcD d := by
        simp only [List.mem_cons, List.mem_nil_iff, or_false] at hd
        rcases hd with rfl | rfl | rfl | rfl | rfl | rfl
        · exact ⟨rfl, .inl ⟨z, rfl, nz, by omega⟩⟩
        · refine ⟨rfl, .inl ⟨_, rfl, ?_, ?_⟩⟩
          · have q : TL.tl (zrep 3 hs ++ zrep 3 ts ++ "o") = TL.tl (zrep 3 hs) ++ (TL.tl (zrep 3 ts) ++ TL.tl ("o" : Str)) := by rw [TL.tl_append, TL.tl_append, List.append_assoc]
            show nmB (TL.tl (zrep 3 hs ++ zrep 3 ts ++ "o")) = true
            rw [q]
            refine name_of (fun c hc => tks c (rep_sub hc)) (fun c hc => ?_) (fun y => ?_)
            · rcases List.mem_append.mp hc with hc | hc
              · exact tkt c (rep_sub hc)
              · exact (show ∀ c ∈ TL.tl ("o" : Str), loB c = true by decide +kernel) c hc
            · rw [List.append_eq_nil_iff, List.append_eq_nil_iff] at y
              exact absurd y.2.2 (by decide +kernel)
          · rw [len_add, len_add, len_rep, len_rep]
            show 3 * hs.length + 3 * ts.length + 1 ≤ 1000
            omega
        · exact ⟨rfl, .inr ⟨_, _, rfl, by decide +kernel⟩⟩
        · exact ⟨rfl, .inr ⟨_, _, rfl, by decide +kernel⟩⟩
        · exact ⟨rfl, .inr ⟨_, _, rfl, by decide +kernel⟩⟩
        · exact ⟨rfl, .inr ⟨_, _, rfl, pat⟩⟩
      clear hd
      refine next_read ?_
      refine ⟨_, rfl, _, rfl, p, c, rfl, e15.pot, fun zm hm tm H16 nm2 e16 => ⟨(by show 2 ≤ sizeLine; decide), fun l17 n17 => ⟨p, c, l17, _, rfl, e16.pot.same (same_upd n17), SqL.of upd_same, e16.pot.nep n17, (by show 0 < 2; decide), (by show 2 ≤ 1000; decide), fun v17 H17 hv17 e17 => ?_⟩⟩⟩
      have x17 : Ext p c H15 H17 := e16.trans (Ext.pre (same_upd n17) e17)
      have th17 := th_ext e15.pot x17 thd npd
      obtain ⟨m, rfl, nmm, lm⟩ : ∃ m, v17 = .str m ∧ NmE (TL.tl m) ∧ m.length ≤ 6 := by
        rcases List.mem_cons.mp hv17 with e | m
        · exact ⟨zm, e, nmE_iff.mp (.inr (nm_isName nm2)), nm2.len⟩
        · exact ⟨"", List.mem_singleton.mp m, nmE_iff.mp (.inl rfl), by decide +kernel⟩
      refine next_if (no_ifS (p := p) (c := c) (fun Q2 q => ?_) fun H18 e18 => ?_)
      · rcases src with ⟨x, rfl, nx, lx⟩ | ⟨b2, e2, rfl, pat2⟩
        · obtain rfl := th_strv th17
          exact ⟨_, rfl, _, rfl, .str x, m, rfl, by omega, nmE_iff.mpr nmm, .inl ⟨x, rfl, by omega, nx, _, rfl, _, rfl, .str x, m, rfl, by omega, .inl ⟨x, rfl, rfl, _, rfl, by rw [decide_eq_true rfl]; exact q H17 x17.pot.ref⟩⟩⟩
        · obtain ⟨q2, rfl, hq2⟩ := th_pair th17
          obtain ⟨_, _, l2, l3⟩ := pat_ends pat2
          exact ⟨_, rfl, _, rfl, .ref q2, m, rfl, by omega, nmE_iff.mpr nmm, .inr ⟨q2, b2, e2, rfl, hq2, pat2, _, rfl, _, rfl, .ref q2, m, rfl, by omega, .inr ⟨q2, b2, e2, rfl, hq2, by omega, by omega, rfl, _, rfl, by rw [decide_eq_true rfl]; exact q H17 x17.pot.ref⟩⟩⟩
      have th18 := th_ext x17.pot e18 th17 npd
      refine no_ifS (p := p) (c := c) (fun Q2 q => ?_) fun H19 e19 => ?_
      · rcases src with ⟨x, rfl, nx, lx⟩ | ⟨b2, e2, rfl, pat2⟩
        · obtain rfl := th_strv th18
          exact ⟨_, rfl, .str x, _, _, _, _, rfl, .ty _, th_ty th18, kit_str (.str x), _, rfl, iteF (q H18 e18.pot.ref)⟩
        · obtain ⟨q2, rfl, hq2⟩ := th_pair th18
          obtain ⟨cb2, ce2, l2, l3⟩ := pat_ends pat2
          have ne2 : ¬ (b2 = "" ∧ e2 = "") := by
            rintro ⟨rfl, rfl⟩
            exact absurd pat2 (by decide +kernel)
          have tm : TL.tl (b2 ++ m ++ e2) = TL.tl b2 ++ TL.tl m ++ TL.tl e2 := by rw [TL.tl_append, TL.tl_append]
          refine ⟨_, rfl, .ref q2, _, _, _, _, rfl, .ty _, th_ty th18, kit_str _, _, rfl, iteT ?_⟩
          refine ⟨_, rfl, _, rfl, _, rfl, .ref q2, m, rfl, by omega, nmE_iff.mpr nmm, .inr ⟨q2, b2, e2, rfl, hq2, pat2, q2, b2, e2, b2 ++ m ++ e2, rfl, hq2, pat2, by rw [len_add, len_add]; omega, (nmE_iff.mpr (nmE_put cb2 ce2 nmm)).resolve_left (put_ne ne2), fun m' hm' => ?_, fun no => absurd ⟨m, tm⟩ no⟩⟩
          have em : m' = m := TL.ext_tl (mid_uniq hm' tm)
          exact ⟨_, rfl, rfl, _, rfl, by rw [em, decide_eq_true rfl]; exact q H18 e18.pot.ref⟩
      -- a row
      refine set_read ?_
      refine ⟨_, rfl, p, c, 6, rfl, e19.pot, by decide, by decide, fun r H20 r0 r1 e20 => ⟨r, rfl, by omega, by omega, fun L nL => ?_⟩⟩
      refine grow (K := K) (p := p) (c := c) (te := tCall spName [] E0 (tCons (tVar 1) tNil)) (α := Str) (f := PyData.str) (Ok := fun x => ∃ h t, Nm x h t) (n := r.toNat) (iv := 12) (fun _ => ⟨rfl, rfl⟩) e20.pot nL (by omega) (fun _ => rfl) (fun x H' R hp q => ⟨_, rfl, p, c, rfl, hp, fun y h t H2 nm ex => q _ y H2 ⟨h, t, nm⟩ ex (.str y)⟩) fun vs as H21 hD ta oka lenA e21 => ?_
      obtain rfl := strs_eq ta
      refine ⟨_, rfl, (by show 1 ≤ sizeLine; decide), fun l22 n22 => ⟨L, l22, as.map V.str, [.str z], rfl, rfl, (same_upd n22) _ _ hD, upd_same, by rw [List.length_map, lenA]; exact Nat.le_of_lt (small1000 (by show r.toNat + 1 ≤ 1000; omega)), fun L2 n2 => ?_⟩⟩
      have s22 : Same H21 (upd (upd H21 l22 (.lst [.str z])) L2 (.lst (as.map V.str ++ [.str z]))) := (same_upd n22).trans (same_upd n2)
      have hL : upd (upd H21 l22 (.lst [.str z])) L2 (.lst (as.map V.str ++ [.str z])) L2 = some (.lst ((as ++ [z]).map V.str)) := by rw [upd_same, List.map_append]; rfl
      have P22 := e21.pot.same s22
      generalize upd (upd H21 l22 (.lst [.str z])) L2 (.lst (as.map V.str ++ [.str z])) = H22 at s22 hL P22 ⊢
      have each : ∀ y ∈ as ++ [z], ∃ h t, Nm y h t := fun y hy => by
        rcases List.mem_append.mp hy with hy | hy
        · exact oka y hy
        · rw [List.mem_singleton.mp hy]
          exact ⟨_, _, nm⟩
      have lss : (as ++ [z]).length ≤ 6 := by
        rw [List.length_append, lenA]
        show r.toNat + 1 ≤ 6
        omega
      generalize as ++ [z] = ss at hL each lss
      have sz : Sz 1000 1 (.list (ss.map PyData.str)) := Sz.list (n := 6) (k := 0) (fun d hd => by
        obtain ⟨y, hy, rfl⟩ := List.mem_map.mp hd
        obtain ⟨_, _, ny⟩ := each y hy
        exact .str ny.len ny.ok) (by rw [List.length_map]; omega)
      have okd := sz.okd (by decide) (by decide)
      refine next_read ?_
      refine ⟨_, rfl, .ref L2, .list (ss.map .str), rfl, .lst (SqL.of hL) (th_strs ss), okd.wf, ?_⟩
      refine next_if1 (no_if (p := p) (c := c) (no_or (fun Q2 q => ?_) fun H23 e23 Q2 q => ?_) fun H23 e23 => ?_)
      · refine ⟨_, rfl, L2, ss, rfl, SqL.of hL, Nat.lt_of_lt_of_le (show ss.length + 1 < 8 by omega) (by decide), Nat.le_trans sz.bk (by decide), fun y hy => ?_, fun cs p1 H23 s23 hp1 asc1 => ?_⟩
        · obtain ⟨_, _, ny⟩ := each y hy
          have := ny.len
          exact ⟨by omega, nm_isName ny⟩
        refine ⟨_, rfl, L2, ss, rfl, SqL.of (s23 _ _ hL), by omega, fun y hy => ?_, fun ds p2 H24 s24 hp2 asc2 => ?_⟩
        · obtain ⟨_, _, ny⟩ := each y hy
          have := ny.len
          exact big _ (by omega)
        obtain rfl := asc1.uniq asc2
        have sh : SeqAt.shaped (.tuple (cs.map PyData.str)) = true := shaped_tup fun x hx => by
          obtain ⟨_, _, ny⟩ := each x ((asc1.mem x).mp hx)
          exact ny.ok
        refine ⟨.tuple (cs.map .str), .tuple (cs.map .str), .tup (SqT.of (s24 _ _ hp1)) (dp_tup cs), .tup (SqT.of hp2) (dp_tup cs), sh, sh, _, rfl, ?_⟩
        rw [SeqAt.eqv_refl _ (SeqAt.canLay_of_shaped sh)]
        exact q _ (Ext.same P22.ref (s23.trans s24))
      · have hp : Th K H23 (.ref L2) (.list (ss.map .str)) := th_ext P22 e23 (.lst (SqL.of hL) (th_strs ss)) (by
          simp [noPot, potLike_strs, noPot_strs])
        refine ⟨_, rfl, .ref L2, .list (ss.map .str), rfl, hp, okd.wf, _, rfl, rfl, _, rfl, ?_⟩
        rw [decide_eq_true rfl]
        exact q H23 e23.pot.ref
      · exact ⟨_, _, _, _, _, _, _, _, _, _, _, _, _, rfl, e23.pot⟩
    · rintro σ H2 ⟨v2, v3, v4, v5, v6, v7, v8, v9, v10, v11, v12, v13, v14, rfl, hP2⟩
      have big : ∀ n : Nat, n ≤ 4000000 → n ≤ sizeLine := fun n h => Nat.le_trans h (by decide)
      have nmF : NmE (TL.tl midS) ∧ midS.length = 40 ∧ dName (.str farS) = true ∧ farS.length = 46 ∧ dPat (.tuple [.str "ABD", .str "xyz"]) = true ∧ "ABD" ++ midS ++ "xyz" = farS := ⟨by unfold NmE; decide +kernel, by decide +kernel, by decide +kernel, by decide +kernel, by decide +kernel, rfl⟩
      obtain ⟨nmM, lM, nF, lF, pF, eF⟩ := nmF
      refine ⟨(by show 2 ≤ sizeLine; decide), fun q nq => ?_⟩
      refine ⟨"A", 20, rfl, rfl, by decide, by decide, by decide, fun zA eA => ⟨"b", 20, rfl, rfl, by decide, by decide, by decide, fun zb eb => ?_⟩⟩
      obtain rfl : zA = zrep 20 "A" := TL.ext_tl eA
      obtain rfl : zb = zrep 20 "b" := TL.ext_tl eb
      refine ⟨zrep 20 "A", zrep 20 "b", rfl, rfl, by decide +kernel, .ref q, midS, rfl, by omega, nmE_iff.mpr nmM, .inr ⟨q, "ABD", "xyz", rfl, SqT.of upd_same, pF, ?_⟩⟩
      rw [eF]
      have P3 := hP2.same (same_upd nq (o := .tup [.str "ABD", .str "xyz"]))
      clear nq
      generalize upd H2 q (.tup [.str "ABD", .str "xyz"]) = H3 at P3
      refine nx_open (next_if (no_ifS (p := p) (c := c) (no_or (fun Q2 q => ?_) fun H4 e4 Q2 q => ?_) fun H4 e4 => ?_))
      · refine ⟨_, rfl, farS, rfl, by omega, nF, fun h t q2 H4 s4 hq2 eh et => ?_⟩
        refine ⟨"A", 20, rfl, rfl, by decide, by decide, by decide, fun zA eA => ⟨"ABD", zA, rfl, rfl, ?_, "b", 20, rfl, rfl, by decide, by decide, by decide, fun zb eb => ⟨zb, "xyz", rfl, rfl, ?_, (by show 2 ≤ sizeLine; decide), fun q3 n3 => ?_⟩⟩⟩
        · obtain rfl : zA = zrep 20 "A" := TL.ext_tl eA
          decide +kernel
        · obtain rfl : zb = zrep 20 "b" := TL.ext_tl eb
          decide +kernel
        obtain rfl : zA = zrep 20 "A" := TL.ext_tl eA
        obtain rfl : zb = zrep 20 "b" := TL.ext_tl eb
        obtain rfl : h = "ABD" ++ zrep 20 "A" := TL.ext_tl (eh.trans (by decide +kernel))
        obtain rfl : t = zrep 20 "b" ++ "xyz" := TL.ext_tl (et.trans (by decide +kernel))
        refine ⟨.tuple [.str ("ABD" ++ zrep 20 "A"), .str (zrep 20 "b" ++ "xyz")], .tuple [.str ("ABD" ++ zrep 20 "A"), .str (zrep 20 "b" ++ "xyz")], .tup (SqT.of ((same_upd n3) _ _ hq2)) (.cons (.str _) (.cons (.str _) .nil)), .tup (SqT.of upd_same) (.cons (.str _) (.cons (.str _) .nil)), by decide +kernel, by decide +kernel, _, rfl, ?_⟩
        rw [SeqAt.eqv_refl _ (SeqAt.canLay_of_shaped (by decide +kernel))]
        exact q _ ((Ext.same P3.ref s4).same (same_upd n3))
      · refine ⟨(by show 2 ≤ sizeLine; decide), fun q3 n3 => ⟨_, rfl, q3, "ABD", "xyz", farS, rfl, SqT.of upd_same, pF, by omega, nF, fun m hm => ?_, fun no => absurd ⟨midS, by decide +kernel⟩ no⟩⟩
        obtain rfl : m = midS := TL.ext_tl (mid_uniq hm (by decide +kernel))
        refine ⟨"A", 20, rfl, rfl, by decide, by decide, by decide, fun zA eA => ⟨"b", 20, rfl, rfl, by decide, by decide, by decide, fun zb eb => ?_⟩⟩
        obtain rfl : zA = zrep 20 "A" := TL.ext_tl eA
        obtain rfl : zb = zrep 20 "b" := TL.ext_tl eb
        refine ⟨zrep 20 "A", zrep 20 "b", rfl, rfl, by decide +kernel, rfl, _, rfl, ?_⟩
        rw [show V.str (zrep 20 "A" ++ zrep 20 "b") = V.str midS from rfl, decide_eq_true rfl]
        exact q _ (e4.pot.ref.same (same_upd n3))
      refine no_ifS (p := p) (c := c) (no_or (fun Q2 q => ?_) fun H5 e5 Q2 q => ?_) fun H5 e5 => ?_
      · refine ⟨_, rfl, _, rfl, (by show 3 ≤ sizeLine; decide), fun l nl => ?_⟩
        refine ⟨l, [farS, "A", farS], rfl, SqL.of upd_same, by decide, by decide +kernel, by decide +kernel, fun cs p1 H5 s5 hp asc => ?_⟩
        obtain rfl : cs = ([("A" : Str), farS] : List Str) := asc.uniq ⟨by decide +kernel, fun x => by simp only [List.mem_cons, List.mem_nil_iff, or_false]; exact ⟨fun y => y.elim (fun y => .inr (.inl y)) .inl, fun y => y.elim .inr (fun y => y.elim .inl .inr)⟩, by decide +kernel⟩
        refine ⟨_, rfl, (by show 2 ≤ sizeLine; decide), fun q3 n3 => ⟨.tuple [.str "A", .str farS], .tuple [.str "A", .str farS], .tup (SqT.of ((same_upd n3) _ _ hp)) (.cons (.str _) (.cons (.str _) .nil)), .tup (SqT.of upd_same) (.cons (.str _) (.cons (.str _) .nil)), by decide +kernel, by decide +kernel, _, rfl, ?_⟩⟩
        rw [SeqAt.eqv_refl _ (SeqAt.canLay_of_shaped (by decide +kernel))]
        exact q _ ((Ext.same (e4.pot.same (same_upd nl)).ref (s5.trans (same_upd n3))).pre (same_upd nl))
      · refine ⟨.str "LIBmain", "B", rfl, by decide +kernel, nmE_iff.mpr (by unfold NmE; decide +kernel), .inl ⟨"LIBmain", rfl, by decide +kernel, by decide +kernel, rfl, _, rfl, ?_⟩⟩
        rw [decide_eq_true rfl]
        exact q _ e5.pot.ref
      refine ⟨(by show 8 ≤ sizeLine; decide), fun l nl => ?_⟩
      refine ⟨(by show 0 ≤ sizeLine; decide), fun l2 n2 => ⟨l2, [], rfl, SqL.of upd_same, by decide, by decide, by decide, fun cs p1 H6 s6 hp asc => ?_⟩⟩
      obtain rfl : cs = [] := asc.uniq ⟨List.nodup_nil, fun x => Iff.rfl, .nil⟩
      refine ⟨(by show 0 ≤ sizeLine; decide), fun q3 n3 => ⟨.tuple [], .tuple [], .tup (SqT.of ((same_upd n3) _ _ hp)) .nil, .tup (SqT.of upd_same) .nil, by decide, by decide, _, rfl, ?_⟩⟩
      refine iteT' (by decide) ?_
      have hl : upd H6 q3 (.tup []) l = some (.lst ((["b", "B", "aa", "a", "A", "AA", "Aa", "B"] : List Str).map V.str)) := (same_upd n3) _ _ (s6 _ _ ((same_upd n2) _ _ upd_same))
      refine ⟨_, rfl, l, ["b", "B", "aa", "a", "A", "AA", "Aa", "B"], rfl, SqL.of hl, by decide, by decide +kernel, by decide +kernel, fun cs p2 H7 s7 hp2 asc => ?_⟩
      obtain rfl : cs = ([("A" : Str), "B", "a", "b", "AA", "Aa", "aa"] : List Str) := asc.uniq ⟨by decide +kernel, fun x => by simp only [List.mem_cons, List.mem_nil_iff, or_false]; exact ⟨fun y => by rcases y with rfl | rfl | rfl | rfl | rfl | rfl | rfl <;> simp, fun y => by rcases y with rfl | rfl | rfl | rfl | rfl | rfl | rfl | rfl <;> simp⟩, by decide +kernel⟩
      refine ⟨(by show 7 ≤ sizeLine; decide), fun q4 n4 => ⟨.tuple ((["A", "B", "a", "b", "AA", "Aa", "aa"] : List Str).map .str), .tuple ((["A", "B", "a", "b", "AA", "Aa", "aa"] : List Str).map .str), .tup (SqT.of ((same_upd n4) _ _ hp2)) (dp_tup _), .tup (SqT.of upd_same) (dp_tup [("A" : Str), "B", "a", "b", "AA", "Aa", "aa"]), by decide +kernel, by decide +kernel, ?_⟩⟩
      rw [SeqAt.eqv_refl _ (SeqAt.canLay_of_shaped (by decide +kernel))]
      exact k _
end
end Lk

/-! K03z -/
set_option Elab.async false
set_option linter.all false
set_option maxRecDepth 100000
set_option maxHeartbeats 4000000
namespace Lk
open PySem PySem.Spec PyProof.Rows L2
theorem all_mk {l : PySem.W.OpenLaw} {w : World} {K : PySem.W.Frag} {h : Heap} {mg : Str → Option Value} {fa : Addr} (X : K.In h) (G : h.Ns mainGlobals mg) (hfa : mg "law" = some (.ref fa))
    {f0 : Addr} {od0 an0 : Option Addr} {sl0 : Array (Option Value)} {oc0 kV0 dc0 pm0 cd0 ct0 : Value}
    (a0 : PySem.W.nsIn K mainGlobals "is_name" = some (some (.ref f0))) (l0 : K.lookup f0 = some ⟨oc0, od0, .func (PySem.W.fnOf "is_name" "is_name" (defArgs s_p_is_name) (defBody s_p_is_name) (defScope s_p_is_name) .none kV0 dc0 pm0 an0 cd0 ct0), sl0⟩) (c0 : PySem.W.codeIn K cd0 "is_name" = true) (k0 : PySem.W.keepIn K (.ref f0) = true)
    {f1 : Addr} {od1 an1 : Option Addr} {sl1 : Array (Option Value)} {oc1 kV1 dc1 pm1 cd1 ct1 : Value}
    (a1 : PySem.W.nsIn K mainGlobals "is_pattern" = some (some (.ref f1))) (l1 : K.lookup f1 = some ⟨oc1, od1, .func (PySem.W.fnOf "is_pattern" "is_pattern" (defArgs s_p_is_pattern) (defBody s_p_is_pattern) (defScope s_p_is_pattern) .none kV1 dc1 pm1 an1 cd1 ct1), sl1⟩) (c1 : PySem.W.codeIn K cd1 "is_pattern" = true) (k1 : PySem.W.keepIn K (.ref f1) = true)
    {f2 : Addr} {od2 an2 : Option Addr} {sl2 : Array (Option Value)} {oc2 kV2 dc2 pm2 cd2 ct2 : Value}
    (a2 : PySem.W.nsIn K mainGlobals "is_end" = some (some (.ref f2))) (l2 : K.lookup f2 = some ⟨oc2, od2, .func (PySem.W.fnOf "is_end" "is_end" (defArgs s_p_is_end) (defBody s_p_is_end) (defScope s_p_is_end) .none kV2 dc2 pm2 an2 cd2 ct2), sl2⟩) (c2 : PySem.W.codeIn K cd2 "is_end" = true) (k2 : PySem.W.keepIn K (.ref f2) = true)
    {f3 : Addr} {od3 an3 : Option Addr} {sl3 : Array (Option Value)} {oc3 kV3 dc3 pm3 cd3 ct3 : Value}
    (a3 : PySem.W.nsIn K mainGlobals "is_source" = some (some (.ref f3))) (l3 : K.lookup f3 = some ⟨oc3, od3, .func (PySem.W.fnOf "is_source" "is_source" (defArgs s_p_is_source) (defBody s_p_is_source) (defScope s_p_is_source) .none kV3 dc3 pm3 an3 cd3 ct3), sl3⟩) (c3 : PySem.W.codeIn K cd3 "is_source" = true) (k3 : PySem.W.keepIn K (.ref f3) = true)
    {f4 : Addr} {od4 an4 : Option Addr} {sl4 : Array (Option Value)} {oc4 kV4 dc4 pm4 cd4 ct4 : Value}
    (a4 : PySem.W.nsIn K mainGlobals "parts" = some (some (.ref f4))) (l4 : K.lookup f4 = some ⟨oc4, od4, .func (PySem.W.fnOf "parts" "parts" (defArgs s_p_parts) (defBody s_p_parts) (defScope s_p_parts) .none kV4 dc4 pm4 an4 cd4 ct4), sl4⟩) (c4 : PySem.W.codeIn K cd4 "parts" = true) (k4 : PySem.W.keepIn K (.ref f4) = true)
    {f5 : Addr} {od5 an5 : Option Addr} {sl5 : Array (Option Value)} {oc5 kV5 dc5 pm5 cd5 ct5 : Value}
    (a5 : PySem.W.nsIn K mainGlobals "stem" = some (some (.ref f5))) (l5 : K.lookup f5 = some ⟨oc5, od5, .func (PySem.W.fnOf "stem" "stem" (defArgs s_p_stem) (defBody s_p_stem) (defScope s_p_stem) .none kV5 dc5 pm5 an5 cd5 ct5), sl5⟩) (c5 : PySem.W.codeIn K cd5 "stem" = true) (k5 : PySem.W.keepIn K (.ref f5) = true)
    {f6 : Addr} {od6 an6 : Option Addr} {sl6 : Array (Option Value)} {oc6 kV6 dc6 pm6 cd6 ct6 : Value}
    (a6 : PySem.W.nsIn K mainGlobals "put_in" = some (some (.ref f6))) (l6 : K.lookup f6 = some ⟨oc6, od6, .func (PySem.W.fnOf "put_in" "put_in" (defArgs s_p_put_in) (defBody s_p_put_in) (defScope s_p_put_in) .none kV6 dc6 pm6 an6 cd6 ct6), sl6⟩) (c6 : PySem.W.codeIn K cd6 "put_in" = true) (k6 : PySem.W.keepIn K (.ref f6) = true)
    {f7 : Addr} {od7 an7 : Option Addr} {sl7 : Array (Option Value)} {oc7 kV7 dc7 pm7 cd7 ct7 : Value}
    (a7 : PySem.W.nsIn K mainGlobals "in_order" = some (some (.ref f7))) (l7 : K.lookup f7 = some ⟨oc7, od7, .func (PySem.W.fnOf "in_order" "in_order" (defArgs s_p_in_order) (defBody s_p_in_order) (defScope s_p_in_order) .none kV7 dc7 pm7 an7 cd7 ct7), sl7⟩) (c7 : PySem.W.codeIn K cd7 "in_order" = true) (k7 : PySem.W.keepIn K (.ref f7) = true)
    {f8 : Addr} {od8 an8 : Option Addr} {sl8 : Array (Option Value)} {oc8 kV8 dc8 pm8 cd8 ct8 : Value}
    (a8 : PySem.W.nsIn K mainGlobals "need_name" = some (some (.ref f8))) (l8 : K.lookup f8 = some ⟨oc8, od8, .func (PySem.W.fnOf "need_name" "need_name" (defArgs s_p_need_name) (defBody s_p_need_name) (defScope s_p_need_name) .none kV8 dc8 pm8 an8 cd8 ct8), sl8⟩) (c8 : PySem.W.codeIn K cd8 "need_name" = true) (k8 : PySem.W.keepIn K (.ref f8) = true)
    {f9 : Addr} {od9 an9 : Option Addr} {sl9 : Array (Option Value)} {oc9 kV9 dc9 pm9 cd9 ct9 : Value}
    (a9 : PySem.W.nsIn K mainGlobals "need_names" = some (some (.ref f9))) (l9 : K.lookup f9 = some ⟨oc9, od9, .func (PySem.W.fnOf "need_names" "need_names" (defArgs s_p_need_names) (defBody s_p_need_names) (defScope s_p_need_names) .none kV9 dc9 pm9 an9 cd9 ct9), sl9⟩) (c9 : PySem.W.codeIn K cd9 "need_names" = true) (k9 : PySem.W.keepIn K (.ref f9) = true)
    {f10 : Addr} {od10 an10 : Option Addr} {sl10 : Array (Option Value)} {oc10 kV10 dc10 pm10 cd10 ct10 : Value}
    (a10 : PySem.W.nsIn K mainGlobals "stem_within" = some (some (.ref f10))) (l10 : K.lookup f10 = some ⟨oc10, od10, .func (PySem.W.fnOf "stem_within" "stem_within" (defArgs s_p_stem_within) (defBody s_p_stem_within) (defScope s_p_stem_within) .none kV10 dc10 pm10 an10 cd10 ct10), sl10⟩) (c10 : PySem.W.codeIn K cd10 "stem_within" = true) (k10 : PySem.W.keepIn K (.ref f10) = true)
    {f11 : Addr} {od11 an11 : Option Addr} {sl11 : Array (Option Value)} {oc11 kV11 dc11 pm11 cd11 ct11 : Value}
    (a11 : PySem.W.nsIn K mainGlobals "filled" = some (some (.ref f11))) (l11 : K.lookup f11 = some ⟨oc11, od11, .func (PySem.W.fnOf "filled" "filled" (defArgs s_p_filled) (defBody s_p_filled) (defScope s_p_filled) .none kV11 dc11 pm11 an11 cd11 ct11), sl11⟩) (c11 : PySem.W.codeIn K cd11 "filled" = true) (k11 : PySem.W.keepIn K (.ref f11) = true)
    {f12 : Addr} {od12 an12 : Option Addr} {sl12 : Array (Option Value)} {oc12 kV12 dc12 pm12 cd12 ct12 : Value}
    (a12 : PySem.W.nsIn K mainGlobals "ascending" = some (some (.ref f12))) (l12 : K.lookup f12 = some ⟨oc12, od12, .func (PySem.W.fnOf "ascending" "ascending" (defArgs s_p_ascending) (defBody s_p_ascending) (defScope s_p_ascending) .none kV12 dc12 pm12 an12 cd12 ct12), sl12⟩) (c12 : PySem.W.codeIn K cd12 "ascending" = true) (k12 : PySem.W.keepIn K (.ref f12) = true)
    {f13 : Addr} {od13 an13 : Option Addr} {sl13 : Array (Option Value)} {oc13 kV13 dc13 pm13 cd13 ct13 : Value}
    (a13 : PySem.W.nsIn K mainGlobals "_law_kneaded" = some (some (.ref f13))) (l13 : K.lookup f13 = some ⟨oc13, od13, .func (PySem.W.fnOf "_law_kneaded" "_law_kneaded" (defArgs s_kneaded) (defBody s_kneaded) (defScope s_kneaded) .none kV13 dc13 pm13 an13 cd13 ct13), sl13⟩) (c13 : PySem.W.codeIn K cd13 "_law_kneaded" = true) (k13 : PySem.W.keepIn K (.ref f13) = true)
    {f14 : Addr} {od14 an14 : Option Addr} {sl14 : Array (Option Value)} {oc14 kV14 dc14 pm14 cd14 ct14 : Value}
    (a14 : PySem.W.nsIn K mainGlobals "_law_pot_of" = some (some (.ref f14))) (l14 : K.lookup f14 = some ⟨oc14, od14, .func (PySem.W.fnOf "_law_pot_of" "_law_pot_of" (defArgs s_pot_of) (defBody s_pot_of) (defScope s_pot_of) .none kV14 dc14 pm14 an14 cd14 ct14), sl14⟩) (c14 : PySem.W.codeIn K cd14 "_law_pot_of" = true) (k14 : PySem.W.keepIn K (.ref f14) = true)
    {f15 : Addr} {od15 an15 : Option Addr} {sl15 : Array (Option Value)} {oc15 kV15 dc15 pm15 cd15 ct15 : Value}
    (a15 : PySem.W.nsIn K mainGlobals "_law_below" = some (some (.ref f15))) (l15 : K.lookup f15 = some ⟨oc15, od15, .func (PySem.W.fnOf "_law_below" "_law_below" (defArgs s_below) (defBody s_below) (defScope s_below) .none kV15 dc15 pm15 an15 cd15 ct15), sl15⟩) (c15 : PySem.W.codeIn K cd15 "_law_below" = true) (k15 : PySem.W.keepIn K (.ref f15) = true)
    {f16 : Addr} {od16 an16 : Option Addr} {sl16 : Array (Option Value)} {oc16 kV16 dc16 pm16 cd16 ct16 : Value}
    (a16 : PySem.W.nsIn K mainGlobals "_law_pick" = some (some (.ref f16))) (l16 : K.lookup f16 = some ⟨oc16, od16, .func (PySem.W.fnOf "_law_pick" "_law_pick" (defArgs s_pick) (defBody s_pick) (defScope s_pick) .none kV16 dc16 pm16 an16 cd16 ct16), sl16⟩) (c16 : PySem.W.codeIn K cd16 "_law_pick" = true) (k16 : PySem.W.keepIn K (.ref f16) = true)
    {f17 : Addr} {od17 an17 : Option Addr} {sl17 : Array (Option Value)} {oc17 kV17 dc17 pm17 cd17 ct17 : Value}
    (a17 : PySem.W.nsIn K mainGlobals "_law_some_name" = some (some (.ref f17))) (l17 : K.lookup f17 = some ⟨oc17, od17, .func (PySem.W.fnOf "_law_some_name" "_law_some_name" (defArgs s_some_name) (defBody s_some_name) (defScope s_some_name) .none kV17 dc17 pm17 an17 cd17 ct17), sl17⟩) (c17 : PySem.W.codeIn K cd17 "_law_some_name" = true) (k17 : PySem.W.keepIn K (.ref f17) = true)
    {f18 : Addr} {od18 an18 : Option Addr} {sl18 : Array (Option Value)} {oc18 kV18 dc18 pm18 cd18 ct18 : Value}
    (a18 : PySem.W.nsIn K mainGlobals "_law_split" = some (some (.ref f18))) (l18 : K.lookup f18 = some ⟨oc18, od18, .func (PySem.W.fnOf "_law_split" "_law_split" (defArgs s_split) (defBody s_split) (defScope s_split) .none kV18 dc18 pm18 an18 cd18 ct18), sl18⟩) (c18 : PySem.W.codeIn K cd18 "_law_split" = true) (k18 : PySem.W.keepIn K (.ref f18) = true)
    {f19 : Addr} {od19 an19 : Option Addr} {sl19 : Array (Option Value)} {oc19 kV19 dc19 pm19 cd19 ct19 : Value}
    (a19 : PySem.W.nsIn K mainGlobals "_law_stem" = some (some (.ref f19))) (l19 : K.lookup f19 = some ⟨oc19, od19, .func (PySem.W.fnOf "_law_stem" "_law_stem" (defArgs s_stem) (defBody s_stem) (defScope s_stem) .none kV19 dc19 pm19 an19 cd19 ct19), sl19⟩) (c19 : PySem.W.codeIn K cd19 "_law_stem" = true) (k19 : PySem.W.keepIn K (.ref f19) = true)
    {f20 : Addr} {od20 an20 : Option Addr} {sl20 : Array (Option Value)} {oc20 kV20 dc20 pm20 cd20 ct20 : Value}
    (a20 : PySem.W.nsIn K mainGlobals "_law_put" = some (some (.ref f20))) (l20 : K.lookup f20 = some ⟨oc20, od20, .func (PySem.W.fnOf "_law_put" "_law_put" (defArgs s_put) (defBody s_put) (defScope s_put) .none kV20 dc20 pm20 an20 cd20 ct20), sl20⟩) (c20 : PySem.W.codeIn K cd20 "_law_put" = true) (k20 : PySem.W.keepIn K (.ref f20) = true)
    {f21 : Addr} {od21 an21 : Option Addr} {sl21 : Array (Option Value)} {oc21 kV21 dc21 pm21 cd21 ct21 : Value}
    (a21 : PySem.W.nsIn K mainGlobals "_law_ordered" = some (some (.ref f21))) (l21 : K.lookup f21 = some ⟨oc21, od21, .func (PySem.W.fnOf "_law_ordered" "_law_ordered" (defArgs s_ordered) (defBody s_ordered) (defScope s_ordered) .none kV21 dc21 pm21 an21 cd21 ct21), sl21⟩) (c21 : PySem.W.codeIn K cd21 "_law_ordered" = true) (k21 : PySem.W.keepIn K (.ref f21) = true)
    {f22 : Addr} {od22 an22 : Option Addr} {sl22 : Array (Option Value)} {oc22 kV22 dc22 pm22 cd22 ct22 : Value}
    (a22 : PySem.W.nsIn K mainGlobals "law" = some (some (.ref f22))) (l22 : K.lookup f22 = some ⟨oc22, od22, .func (PySem.W.fnOf "law" "law" (defArgs s_law) (defBody s_law) (defScope s_law) .none kV22 dc22 pm22 an22 cd22 ct22), sl22⟩) (c22 : PySem.W.codeIn K cd22 "law" = true) (k22 : PySem.W.keepIn K (.ref f22) = true)
    (z0 : PySem.W.nsIn K mainGlobals "int" = some none)
    (z1 : PySem.W.nsIn K mainGlobals "abs" = some none)
    (z2 : PySem.W.nsIn K mainGlobals "range" = some none)
    (z3 : PySem.W.nsIn K mainGlobals "enumerate" = some none)
    (z4 : PySem.W.nsIn K mainGlobals "len" = some none)
    (z5 : PySem.W.nsIn K mainGlobals "isinstance" = some none)
    (z6 : PySem.W.nsIn K mainGlobals "str" = some none)
    (z7 : PySem.W.nsIn K mainGlobals "tuple" = some none)
    (z8 : PySem.W.nsIn K mainGlobals "repr" = some none)
    (z9 : PySem.W.nsIn K mainGlobals "list" = some none)
    (z10 : PySem.W.nsIn K mainGlobals "sorted" = some none)
    (z11 : PySem.W.nsIn K mainGlobals "set" = some none)
    (z12 : PySem.W.nsIn K mainGlobals "max" = some none)
    {tk0 : Tok} (q0 : PySem.W.nsIn K mainGlobals "CAPITALS" = some (some (.str "ABCDEFGHIJKLMNOPQRSTUVWXYZ" tk0)))
    {tk1 : Tok} (q1 : PySem.W.nsIn K mainGlobals "SMALLS" = some (some (.str "abcdefghijklmnopqrstuvwxyz" tk1)))
    {tk2 : Tok} (q2 : PySem.W.nsIn K mainGlobals "MOST_END_LETTERS" = some (some (.int 3 tk2)))
    : ∃ fd : FuncData, (∀ (s : Shared) (v : Value), BindsTo s fd ⟨[v], []⟩ [("script", v)]) ∧ ∀ base : Heap, K.In base → base.Ns mainGlobals mg → FnG l.prog w K mg base CX0 6 fa fd ["script"] (spLaw K) := by
  have e := hfa.symm.trans (PySem.W.mg_of X G a22)
  cases e
  refine ⟨PySem.W.fnOf "law" "law" (defArgs s_law) (defBody s_law) (defScope s_law) .none kV22 dc22 pm22 an22 cd22 ct22, fun s v => .of_eq rfl, fun base _ _ => ?_⟩
  have d_p_is_name : Def1 K mg "is_name" s_p_is_name := ⟨_, _, fun_mk l0 c0 k0, PySem.W.mg_of X G a0⟩
  have d_p_is_pattern : Def1 K mg "is_pattern" s_p_is_pattern := ⟨_, _, fun_mk l1 c1 k1, PySem.W.mg_of X G a1⟩
  have d_p_is_end : Def1 K mg "is_end" s_p_is_end := ⟨_, _, fun_mk l2 c2 k2, PySem.W.mg_of X G a2⟩
  have d_p_is_source : Def1 K mg "is_source" s_p_is_source := ⟨_, _, fun_mk l3 c3 k3, PySem.W.mg_of X G a3⟩
  have d_p_parts : Def1 K mg "parts" s_p_parts := ⟨_, _, fun_mk l4 c4 k4, PySem.W.mg_of X G a4⟩
  have d_p_stem : Def1 K mg "stem" s_p_stem := ⟨_, _, fun_mk l5 c5 k5, PySem.W.mg_of X G a5⟩
  have d_p_put_in : Def1 K mg "put_in" s_p_put_in := ⟨_, _, fun_mk l6 c6 k6, PySem.W.mg_of X G a6⟩
  have d_p_in_order : Def1 K mg "in_order" s_p_in_order := ⟨_, _, fun_mk l7 c7 k7, PySem.W.mg_of X G a7⟩
  have d_p_need_name : Def1 K mg "need_name" s_p_need_name := ⟨_, _, fun_mk l8 c8 k8, PySem.W.mg_of X G a8⟩
  have d_p_need_names : Def1 K mg "need_names" s_p_need_names := ⟨_, _, fun_mk l9 c9 k9, PySem.W.mg_of X G a9⟩
  have d_p_stem_within : Def1 K mg "stem_within" s_p_stem_within := ⟨_, _, fun_mk l10 c10 k10, PySem.W.mg_of X G a10⟩
  have d_p_filled : Def1 K mg "filled" s_p_filled := ⟨_, _, fun_mk l11 c11 k11, PySem.W.mg_of X G a11⟩
  have d_p_ascending : Def1 K mg "ascending" s_p_ascending := ⟨_, _, fun_mk l12 c12 k12, PySem.W.mg_of X G a12⟩
  have d_kneaded : Def1 K mg "_law_kneaded" s_kneaded := ⟨_, _, fun_mk l13 c13 k13, PySem.W.mg_of X G a13⟩
  have d_pot_of : Def1 K mg "_law_pot_of" s_pot_of := ⟨_, _, fun_mk l14 c14 k14, PySem.W.mg_of X G a14⟩
  have d_below : Def1 K mg "_law_below" s_below := ⟨_, _, fun_mk l15 c15 k15, PySem.W.mg_of X G a15⟩
  have d_pick : Def1 K mg "_law_pick" s_pick := ⟨_, _, fun_mk l16 c16 k16, PySem.W.mg_of X G a16⟩
  have d_some_name : Def1 K mg "_law_some_name" s_some_name := ⟨_, _, fun_mk l17 c17 k17, PySem.W.mg_of X G a17⟩
  have d_split : Def1 K mg "_law_split" s_split := ⟨_, _, fun_mk l18 c18 k18, PySem.W.mg_of X G a18⟩
  have d_stem : Def1 K mg "_law_stem" s_stem := ⟨_, _, fun_mk l19 c19 k19, PySem.W.mg_of X G a19⟩
  have d_put : Def1 K mg "_law_put" s_put := ⟨_, _, fun_mk l20 c20 k20, PySem.W.mg_of X G a20⟩
  have d_ordered : Def1 K mg "_law_ordered" s_ordered := ⟨_, _, fun_mk l21 c21 k21, PySem.W.mg_of X G a21⟩
  have z_int : mg "int" = none := PySem.W.mg_none_of X G z0
  have z_abs : mg "abs" = none := PySem.W.mg_none_of X G z1
  have z_range : mg "range" = none := PySem.W.mg_none_of X G z2
  have z_enumerate : mg "enumerate" = none := PySem.W.mg_none_of X G z3
  have z_len : mg "len" = none := PySem.W.mg_none_of X G z4
  have z_isinstance : mg "isinstance" = none := PySem.W.mg_none_of X G z5
  have z_str : mg "str" = none := PySem.W.mg_none_of X G z6
  have z_tuple : mg "tuple" = none := PySem.W.mg_none_of X G z7
  have z_repr : mg "repr" = none := PySem.W.mg_none_of X G z8
  have z_list : mg "list" = none := PySem.W.mg_none_of X G z9
  have z_sorted : mg "sorted" = none := PySem.W.mg_none_of X G z10
  have z_set : mg "set" = none := PySem.W.mg_none_of X G z11
  have z_max : mg "max" = none := PySem.W.mg_none_of X G z12
  have k_CAPITALS : Con1 mg "CAPITALS" (.str capS) := ⟨_, PySem.W.mg_of X G q0, ⟨_, rfl⟩⟩
  have k_SMALLS : Con1 mg "SMALLS" (.str smaS) := ⟨_, PySem.W.mg_of X G q1, ⟨_, rfl⟩⟩
  have k_MOST_END_LETTERS : Con1 mg "MOST_END_LETTERS" (.int 3) := ⟨_, PySem.W.mg_of X G q2, ⟨_, rfl⟩⟩
  have GB : Glb mg := ⟨z_int, z_abs, z_range, z_enumerate, z_len⟩
  have GC : Glc mg := ⟨z_isinstance, z_str, z_tuple, k_CAPITALS, k_SMALLS, k_MOST_END_LETTERS⟩
  have GA : Gla mg := ⟨z_tuple, z_sorted, z_set, z_len⟩
  have c1 := cal_kneaded (P := l.prog) (w := w) (base := base) d_kneaded GB
  have c2 := cal_pot_of (P := l.prog) (w := w) (base := base) d_pot_of GB
  have c3 := cal_below d_below GB c1
  have c4 := cal_pick d_pick GB c3
  have c5 := cal_some_name d_some_name GB c3 c4
  have c6 := cal_split (P := l.prog) (w := w) (base := base) d_split GB
  have l1 := cal_stem (P := l.prog) (w := w) (base := base) d_stem GB
  have l2 := cal_put (P := l.prog) (w := w) (base := base) d_put GC
  have l3 := cal_ordered (P := l.prog) (w := w) (base := base) d_ordered z_tuple z_sorted z_set z_len
  have p1 := cal_p_is_name (P := l.prog) (w := w) (base := base) d_p_is_name GC
  have p2 := cal_p_is_end (P := l.prog) (w := w) (base := base) d_p_is_end GC GB
  have p3 := cal_p_is_pattern d_p_is_pattern GC GB p2
  have p4 := cal_p_is_source d_p_is_source p1 p3
  have s1 := cal_p_stem_within (P := l.prog) (w := w) (base := base) d_p_stem_within GB
  have s2 := cal_p_filled (P := l.prog) (w := w) (base := base) d_p_filled GC
  have n1 := cal_need d_p_need_name p1
  have s3 := cal_p_parts d_p_parts GC GB n1
  have s4 := cal_p_stem d_p_stem n1 p3 s1
  have s5 := cal_p_put d_p_put_in p1 p4 s2
  have a1 := cal_p_ascending (P := l.prog) (w := w) (base := base) d_p_ascending GA
  have n2 := cal_needn d_p_need_names GC z_list n1
  have s6 := cal_p_order d_p_in_order n2 a1
  exact fn_law (fun_mk l22 c22 k22) ⟨c2, c3, c4, c5, c6, l1, l2, l3, s4, s3, s5, s6⟩ GB GC ⟨z_repr, z_max⟩
end Lk
open PySem PySem.W PyProof.Rows in
set_option maxRecDepth 100000 in
set_option maxHeartbeats 0 in
theorem PySem.Challenge.cw_stemrules_k03_stems_holds : PySem.Challenge.rw_stemrules_k03_stems.Holds := by
  w_on; o_law; k_head; (case hw => w_witness2)
  k_fill
  refine Lk.walkG (l := PySem.Challenge.rw_stemrules_k03_stems) (k := 6) (x := "script") (CX := fun w => L2.CX0) (sp := fun w => Lk.spLaw _) rfl rfl ⟨rfl, by decide, by decide⟩ (fun w h Y => PySem.W.kIn_of Y) ?F (fun _ _ a ns hl _ hS => ⟨a, ns, rfl, hS, hl, fun _ => rfl⟩) (fun _ _ _ _ _ z => z)
  case F =>
    intro w mg fa h KX G hmg
    refine' Lk.all_mk KX G hmg ?a0 ?l0 ?c0 ?k0 ?a1 ?l1 ?c1 ?k1 ?a2 ?l2 ?c2 ?k2 ?a3 ?l3 ?c3 ?k3 ?a4 ?l4 ?c4 ?k4 ?a5 ?l5 ?c5 ?k5 ?a6 ?l6 ?c6 ?k6 ?a7 ?l7 ?c7 ?k7 ?a8 ?l8 ?c8 ?k8 ?a9 ?l9 ?c9 ?k9 ?a10 ?l10 ?c10 ?k10 ?a11 ?l11 ?c11 ?k11 ?a12 ?l12 ?c12 ?k12 ?a13 ?l13 ?c13 ?k13 ?a14 ?l14 ?c14 ?k14 ?a15 ?l15 ?c15 ?k15 ?a16 ?l16 ?c16 ?k16 ?a17 ?l17 ?c17 ?k17 ?a18 ?l18 ?c18 ?k18 ?a19 ?l19 ?c19 ?k19 ?a20 ?l20 ?c20 ?k20 ?a21 ?l21 ?c21 ?k21 ?a22 ?l22 ?c22 ?k22 ?z0 ?z1 ?z2 ?z3 ?z4 ?z5 ?z6 ?z7 ?z8 ?z9 ?z10 ?z11 ?z12 ?q0 ?q1 ?q2
    (case a0 => k_is)
    (case l0 => k_is)
    (case c0 => k_is)
    (case k0 => k_is)
    (case a1 => k_is)
    (case l1 => k_is)
    (case c1 => k_is)
    (case k1 => k_is)
    (case a2 => k_is)
    (case l2 => k_is)
    (case c2 => k_is)
    (case k2 => k_is)
    (case a3 => k_is)
    (case l3 => k_is)
    (case c3 => k_is)
    (case k3 => k_is)
    (case a4 => k_is)
    (case l4 => k_is)
    (case c4 => k_is)
    (case k4 => k_is)
    (case a5 => k_is)
    (case l5 => k_is)
    (case c5 => k_is)
    (case k5 => k_is)
    (case a6 => k_is)
    (case l6 => k_is)
    (case c6 => k_is)
    (case k6 => k_is)
    (case a7 => k_is)
    (case l7 => k_is)
    (case c7 => k_is)
    (case k7 => k_is)
    (case a8 => k_is)
    (case l8 => k_is)
    (case c8 => k_is)
    (case k8 => k_is)
    (case a9 => k_is)
    (case l9 => k_is)
    (case c9 => k_is)
    (case k9 => k_is)
    (case a10 => k_is)
    (case l10 => k_is)
    (case c10 => k_is)
    (case k10 => k_is)
    (case a11 => k_is)
    (case l11 => k_is)
    (case c11 => k_is)
    (case k11 => k_is)
    (case a12 => k_is)
    (case l12 => k_is)
    (case c12 => k_is)
    (case k12 => k_is)
    (case a13 => k_is)
    (case l13 => k_is)
    (case c13 => k_is)
    (case k13 => k_is)
    (case a14 => k_is)
    (case l14 => k_is)
    (case c14 => k_is)
    (case k14 => k_is)
    (case a15 => k_is)
    (case l15 => k_is)
    (case c15 => k_is)
    (case k15 => k_is)
    (case a16 => k_is)
    (case l16 => k_is)
    (case c16 => k_is)
    (case k16 => k_is)
    (case a17 => k_is)
    (case l17 => k_is)
    (case c17 => k_is)
    (case k17 => k_is)
    (case a18 => k_is)
    (case l18 => k_is)
    (case c18 => k_is)
    (case k18 => k_is)
    (case a19 => k_is)
    (case l19 => k_is)
    (case c19 => k_is)
    (case k19 => k_is)
    (case a20 => k_is)
    (case l20 => k_is)
    (case c20 => k_is)
    (case k20 => k_is)
    (case a21 => k_is)
    (case l21 => k_is)
    (case c21 => k_is)
    (case k21 => k_is)
    (case a22 => k_is)
    (case l22 => k_is)
    (case c22 => k_is)
    (case k22 => k_is)
    (case z0 => k_is)
    (case z1 => k_is)
    (case z2 => k_is)
    (case z3 => k_is)
    (case z4 => k_is)
    (case z5 => k_is)
    (case z6 => k_is)
    (case z7 => k_is)
    (case z8 => k_is)
    (case z9 => k_is)
    (case z10 => k_is)
    (case z11 => k_is)
    (case z12 => k_is)
    (case q0 => k_is)
    (case q1 => k_is)
    (case q2 => k_is)

