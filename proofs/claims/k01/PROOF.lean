import PyProof.Rows.All
import Wide.All
import OpenK.AllK
import Wide.FinOn
import HandS.Base
import HandS.Call
import HandS.List
import HandS.Comp
import HandS.Ends
import HandS.Dict
import HandS.Iter
import HandS.Text
import HandS.Words
import HandS.WordsList
import PyProof.ReprRoads
import PyProof.ReprBulk
import PyProof.Rows.StrBoot
import HandS.IsInst
import HandS.StrMore
import HandS.Style
import PyProof.StrOps2
import HandS.Exc
import HandS.ExcOwn
import HandS.WordsExc
import PyProof.NeKinds
import HandS.ExcInit
import HandS.ExcValue
import HandS.ExcIs
import HandS.ExcField
import KE.KExcIs
import HandS.Deep
import PySem.Challenge.RW_stemrules_k01_errors
/-! Pot0 -/
set_option Elab.async false
set_option maxRecDepth 100000
set_option maxHeartbeats 4000000
namespace Lk
open PySem PySem.Spec PyProof.Rows L2

/-- a def of the module, as it stands behind the top -/
structure Def1 (K : PySem.W.Frag) (mg : Str → Option Value) (x : String) (st : Stmt) : Prop where
  ex : ∃ (f : Addr) (fd : FuncData), L2.Fun K x x st f fd ∧ mg x = some (.ref f)
/-- a def that may be called by its name, with its promise -/
structure Cal (P : Program) (w : World) (K : PySem.W.Frag) (mg : Str → Option Value) (base : Heap) (k : Nat) (x : String) (sp : Sp) : Prop where
  ex : ∃ (f : Addr) (fd : FuncData) (ps : List Str), FnOk P w K mg base CX0 k f fd ps sp ∧ mg x = some (.ref f) ∧ PySem.W.keepIn K (.ref f) = true ∧ Binds K fd ps []
section
variable {P : Program} {w : World} {K : PySem.W.Frag} {mg : Str → Option Value} {base : Heap}
theorem mkCal {x : String} {st : Stmt} {N ps : List Str} {k : Nat} {sp : Sp} (D : Def1 K mg x st) (S : FnScope N ps (defScope st))
    (hb : ∀ (kV doc pm : Value) (an : Option Addr) (cdv ct : Value) (us : List Value), us.length = ps.length → bindArgs (PySem.W.fnOf x x (defArgs st) (defBody st) (defScope st) .none kV doc pm an cdv ct) ⟨us, []⟩ = pure (ps.zip us))
    (len : ∀ vs H Q E, sp vs H Q E → vs.length = ps.length)
    (hbody : ∀ (f : Addr) (cdv : Value) (A : Around) (outer : List Env) (s : Shared) (H : Hp) (vs : List V) (Q : VK) (E : XK), Room k (A.deeper (envOfC x (defScope st) s.heap.objs.size f cdv)) → sp vs H Q E →
      ∃ t, PSs (cxOf CX0 P w K mg base N x (defScope st) f cdv A outer s H E).nox (defBody st) t ∧ t { nx := fun _ H' => Q .non H', rt := Q } (start N vs) H) : Cal P w K mg base (k + 1) x sp := by
  obtain ⟨f, fd, F, m⟩ := D.ex
  exact ⟨f, fd, ps, F.ok S len fun cdv A outer s H vs Q E hr h => hbody f cdv A outer s H vs Q E hr h, m, F.kp, F.binds hb⟩
theorem Cal.imp {x : String} {k : Nat} {sp sp' : Sp} (c : Cal P w K mg base k x sp) (h : ∀ vs H Q E, sp' vs H Q E → sp vs H Q E) : Cal P w K mg base k x sp' := by
  obtain ⟨f, fd, ps, F, a, b, d⟩ := c.ex
  exact ⟨f, fd, ps, F.imp h, a, b, d⟩
end
section
variable {X : Cx} {k j : Nat} {x : String} {sp : Sp} {p pos : Pos} {e : Expr} {es : List Expr} {t : TA}
theorem pe_cal (c : Cal X.prog X.w X.K X.mg X.base k x sp) (hr : Room j X.A) (hk : k ≤ j) (ha : PA X (e :: es) t) (hg : Gl X x := by rfl)
    (hdb : ((x : Str) == ("__debug__" : Str)) = false := by decide) (he : starEach (e :: es) X.env = (false, eval e X.env) :: starEach es X.env := by rfl) (hpl : (backTo pos (starEach es X.env)).any (·.1) = false := by rfl) :
    PE X (.Call (.Name x p) (e :: es) [] pos) (tCall sp [] E0 t) := by
  obtain ⟨f, fd, ps, F, m, kp, b⟩ := c.ex
  exact pe_call F (hr.mono hk) hg m kp b .nil pass0 ha hdb he hpl
end

/-! ### heaps -/
theorem same_upd {H : Hp} {p : Addr} {o : HO} (h : H p = none) : Same H (upd H p o) := fun b x e => by
  rw [upd_ne (ne_of_none e h)]
  exact e
theorem same_mut {H0 H : Hp} {p : Addr} {o : HO} (s : Same H0 H) (h : H0 p = none) : Same H0 (upd H p o) := fun b x e => by
  rw [upd_ne (ne_of_none e h)]
  exact s b x e
theorem Same.seqT {K : PySem.W.Frag} {H H' : Hp} {a : Addr} {xs : List V} (e : Same H H') (h : SqT K H a xs) : SqT K H' a xs := by
  rcases h with (h | ⟨o, h⟩) | h
  · exact .inl (.inl (e _ _ h))
  · exact .inl (.inr ⟨o, e _ _ h⟩)
  · exact .inr h
/-- all but p stands as it was -/
def But (p : Addr) (H H' : Hp) : Prop := ∀ q o, H q = some o → q ≠ p → H' q = some o
/-- a pot: [cells, place, amount, room] -/
def PotAt (p c : Addr) (H : Hp) : Prop := p ≠ c ∧ (∃ i a b : Int, H p = some (.lst [.ref c, .int i, .int a, .int b])) ∧ ∃ ns : List Int, H c = some (.lst (ns.map V.int)) ∧ ns.length ≤ 17
structure Ext (p c : Addr) (H H' : Hp) : Prop where
  keep : But p H H'
  pot : PotAt p c H'
theorem PotAt.same {p c : Addr} {H H' : Hp} (h : PotAt p c H) (s : Same H H') : PotAt p c H' := by
  obtain ⟨n, ⟨i, a, b, e⟩, ns, e2, l⟩ := h
  exact ⟨n, ⟨i, a, b, s _ _ e⟩, ns, s _ _ e2, l⟩
theorem PotAt.ref {p c : Addr} {H : Hp} (h : PotAt p c H) : Ext p c H H := ⟨fun _ _ e _ => e, h⟩
theorem Ext.trans {p c : Addr} {H H1 H2 : Hp} (a : Ext p c H H1) (b : Ext p c H1 H2) : Ext p c H H2 := ⟨fun q o e n => b.keep q o (a.keep q o e n) n, b.pot⟩
theorem Ext.same {p c : Addr} {H H1 H2 : Hp} (a : Ext p c H H1) (b : Same H1 H2) : Ext p c H H2 := ⟨fun q o e n => b q o (a.keep q o e n), a.pot.same b⟩
theorem Ext.pre {p c : Addr} {H H1 H2 : Hp} (a : Same H H1) (b : Ext p c H1 H2) : Ext p c H H2 := ⟨fun q o e n => b.keep q o (a q o e) n, b.pot⟩
theorem PotAt.nep {p c q : Addr} {H : Hp} (h : PotAt p c H) (e : H q = none) : q ≠ p := by
  obtain ⟨n, ⟨i, a, b, e1⟩, _⟩ := h
  exact fun z => by
    rw [z, e1] at e
    cases e
theorem PotAt.nec {p c q : Addr} {H : Hp} (h : PotAt p c H) (e : H q = none) : q ≠ c := by
  obtain ⟨n, _, ns, e1, _⟩ := h
  exact fun z => by
    rw [z, e1] at e
    cases e
theorem Ext.new {p c q : Addr} {H H1 : Hp} {o : HO} (a : Ext p c H H1) (h : H1 q = none) : Ext p c H (upd H1 q o) := a.same (same_upd h)
/-- an object that H does not know may change -/
theorem Ext.mut {p c q : Addr} {H H1 : Hp} {o : HO} (h0 : PotAt p c H) (a : Ext p c H H1) (h : H q = none) : Ext p c H (upd H1 q o) := by
  have n1 := h0.nep h
  have n2 := h0.nec h
  obtain ⟨n, ⟨i, x, b, e⟩, ns, e2, l⟩ := a.pot
  exact ⟨fun r u er nr => by
    rw [upd_ne (ne_of_none er h)]
    exact a.keep r u er nr, n, ⟨i, x, b, by rw [upd_ne n1.symm]; exact e⟩, ns, by rw [upd_ne n2.symm]; exact e2, l⟩
theorem Ext.get {p c q : Addr} {H H1 : Hp} {o : HO} (a : Ext p c H H1) (h : H q = some o) (n : q ≠ p) : H1 q = some o := a.keep q o h n
theorem Ext.free {p c q : Addr} {H H1 : Hp} (a : Ext p c H H1) (h : H1 q = none) : H q = none := by
  cases e : H q with
  | none => rfl
  | some o =>
    by_cases n : q = p
    · obtain ⟨_, ⟨i, x, b, e1⟩, _⟩ := a.pot
      rw [n, e1] at h
      cases h
    · rw [a.keep q o e n] at h
      cases h
theorem Ext.seq {K : PySem.W.Frag} {p c l : Addr} {H H1 : Hp} {xs : List V} (a : Ext p c H H1) (n : l ≠ p) (h : SqL K H l xs) : SqL K H1 l xs := by
  rcases h with (h | ⟨o, h⟩) | h
  · exact .inl (.inl (a.keep _ _ h n))
  · exact .inl (.inr ⟨o, a.keep _ _ h n⟩)
  · exact .inr h
theorem Ext.seqT {K : PySem.W.Frag} {p c l : Addr} {H H1 : Hp} {xs : List V} (a : Ext p c H H1) (n : l ≠ p) (h : SqT K H l xs) : SqT K H1 l xs := by
  rcases h with (h | ⟨o, h⟩) | h
  · exact .inl (.inl (a.keep _ _ h n))
  · exact .inl (.inr ⟨o, a.keep _ _ h n⟩)
  · exact .inr h
/-- what of the built-ins' names the module leaves alone -/
structure Glb (mg : Str → Option Value) : Prop where
  int : mg "int" = none
  abs : mg "abs" = none
  range : mg "range" = none
  enumerate : mg "enumerate" = none
  len : mg "len" = none

/-! ### mathematics of the slices -/
theorem sIx_some {n d : Nat} {i : Int} (h : 0 ≤ i) : HT.sIx n d (some i) = min i.toNat n := by
  show (if i < 0 then (i + (n : Int)).toNat else min i.toNat n) = _
  rw [if_neg (by omega)]
theorem cut_to {xs : List V} {i : Int} (h : 0 ≤ i) : cutV xs none (some i) = xs.take i.toNat := by
  unfold cutV
  rw [HT.sIx_none, sIx_some h, List.drop_zero, Nat.sub_zero, Nat.min_comm]
  exact List.take_eq_take_iff.mpr (by omega)
theorem cut_from_to {xs : List V} {i j : Int} (h : 0 ≤ i) (h2 : i ≤ j) : cutV xs (some i) (some j) = (xs.drop i.toNat).take (j.toNat - i.toNat) := by
  unfold cutV
  rw [sIx_some h, sIx_some (by omega)]
  by_cases hi : i.toNat ≤ xs.length
  · rw [Nat.min_eq_left hi]
    refine List.take_eq_take_iff.mpr ?_
    rw [List.length_drop]
    omega
  · have e1 : xs.drop (min i.toNat xs.length) = [] := List.drop_eq_nil_of_le (by omega)
    have e2 : xs.drop i.toNat = [] := List.drop_eq_nil_of_le (by omega)
    rw [e1, e2, List.take_nil, List.take_nil]
/-! ### texts by their signs -/
theorem joinL_nil : ∀ l : List (List Nat), TL.joinL [] l = l.flatten
  | [] => rfl
  | [p] => by simp [TL.joinL]
  | p :: q :: r => by
    show p ++ ([] ++ TL.joinL [] (q :: r)) = _
    rw [joinL_nil (q :: r)]
    simp
theorem tl_join0 {x : Str} (hx : TL.tl x = []) (ys : List Str) : TL.tl (Txt.join x ys) = (ys.map TL.tl).flatten := by
  rw [TL.join_eq, TL.tl_join, hx, joinL_nil]
theorem sum_len_le {k : Nat} : ∀ {ys : List Str}, (∀ y ∈ ys, y.length ≤ k) → (ys.map (·.length)).sum ≤ ys.length * k
  | [], _ => Nat.zero_le _
  | y :: r, h => by
    rw [List.map_cons, List.sum_cons, List.length_cons, Nat.succ_mul]
    have h1 := h y List.mem_cons_self
    have h2 := sum_len_le (ys := r) fun z hz => h z (List.mem_cons_of_mem _ hz)
    omega
theorem flat_all {P : Nat → Prop} {ys : List Str} (h : ∀ y ∈ ys, ∀ c ∈ TL.tl y, P c) : ∀ c ∈ (ys.map TL.tl).flatten, P c := by
  intro c hc
  obtain ⟨l, hl, hc⟩ := List.mem_flatten.mp hc
  obtain ⟨y, hy, rfl⟩ := List.mem_map.mp hl
  exact h y hy c hc
theorem flat_len {k : Nat} {ys : List Str} (h : ∀ y ∈ ys, (TL.tl y).length ≤ k) : ((ys.map TL.tl).flatten).length ≤ ys.length * k := by
  induction ys with
  | nil => exact Nat.zero_le _
  | cons y r ih =>
    rw [List.map_cons, List.flatten_cons, List.length_append, List.length_cons, Nat.succ_mul]
    have h1 := h y List.mem_cons_self
    have h2 := ih fun z hz => h z (List.mem_cons_of_mem _ hz)
    omega
def Up (c : Nat) : Prop := 65 ≤ c ∧ c ≤ 90
def Lo (c : Nat) : Prop := 97 ≤ c ∧ c ≤ 122
instance (c : Nat) : Decidable (Up c) := by unfold Up; exact inferInstance
instance (c : Nat) : Decidable (Lo c) := by unfold Lo; exact inferInstance
/-- a drawn name: its head, its tail -/
structure Nm (z : Str) (h t : List Nat) : Prop where
  e : TL.tl z = h ++ t
  up : ∀ c ∈ h, Up c
  lo : ∀ c ∈ t, Lo c
  ne : h ++ t ≠ []
  lh : h.length ≤ 3
  lt : t.length ≤ 3

/-- the reading of a store, in one step -/
theorem set_read {te : TE} {g : TG} {t : TS} {D : Ends} {σ : L2.St} {H : Hp} (h : te σ H fun x H1 => g x σ H1 (t D)) : tSeq (tAsg te g) t D σ H := h

/-! ### places, loops over pairs -/
theorem ixN_lt {n : Nat} {k : Int} (h0 : 0 ≤ k) (h1 : k < n) : ixN n k = some k.toNat := by
  unfold ixN
  rw [if_pos h0, if_pos h1]
theorem atI_lt {α : Type} {xs : List α} {k : Int} (h0 : 0 ≤ k) (h1 : k < xs.length) : ∃ v, atI xs k = some v ∧ xs[k.toNat]? = some v := by
  have hk : k.toNat < xs.length := by omega
  refine ⟨xs[k.toNat], ?_, List.getElem?_eq_getElem hk⟩
  unfold atI
  rw [ixN_lt h0 h1]
  exact List.getElem?_eq_getElem hk
theorem atI_ints {ns : List Int} {k : Int} (h0 : 0 ≤ k) (h1 : k < ns.length) : ∃ z : Int, atI (ns.map V.int) k = some (.int z) := by
  obtain ⟨v, e, g⟩ := atI_lt (xs := ns.map V.int) h0 (by rw [List.length_map]; exact h1)
  rw [List.getElem?_map] at g
  cases q : ns[k.toNat]? with
  | none =>
    rw [q] at g
    cases g
  | some z =>
    rw [q] at g
    cases g
    exact ⟨z, e⟩
theorem map_item {ns : List Int} {i : Nat} {x : V} (h : (ns.map V.int)[i]? = some x) : ∃ z, x = .int z ∧ ns[i]? = some z := by
  rw [List.getElem?_map] at h
  cases q : ns[i]? with
  | none =>
    rw [q] at h
    cases h
  | some z =>
    rw [q] at h
    cases h
    exact ⟨z, rfl, rfl⟩
/-- for i, x in enumerate(xs), xs a list that the body leaves as it is -/
theorem for_enum {K : PySem.W.Frag} {a : Addr} {xs : List V} {g : TG} {tb : TS} {D : Ends} {σ : L2.St} {H : Hp} (Pv : Nat → L2.St → Hp → Prop) (h0 : Pv 0 σ H) (hl : ∀ i σ H, Pv i σ H → SqL K H a xs)
    (hs : ∀ (i : Nat) (x : V) (σ : L2.St) (H : Hp) (T : Addr), xs[i]? = some x → H T = none → Pv i σ H → g (.ref T) σ (upd H T (.tup [.int (i : Int), x])) fun σ2 H2 => tb { D with nx := Pv (i + 1), ct := Pv (i + 1), bk := D.nx } σ2 H2)
    (hd : ∀ σ H, Pv xs.length σ H → D.nx σ H) :
    ∃ W : Nat → Nat → L2.St → Hp → Prop, (∃ m, W 0 m σ H) ∧ ∀ i m σ H, W i m σ H →
      ((Ite K a).stop i H ∧ D.nx σ H) ∨ ((Ite K a).go i H ∧ ∃ N : L2.St → Hp → Prop, (∀ σ' H', N σ' H' → ∃ m', m' < m ∧ W (i + 1) m' σ' H') ∧ ∀ x H', (Ite K a).yld i H x H' → g x σ H' fun σ2 H2 => tb { D with nx := N, ct := N, bk := D.nx } σ2 H2) := by
  refine ⟨fun i m σ H => i + m = xs.length ∧ Pv i σ H, ⟨xs.length, Nat.zero_add _, h0⟩, ?_⟩
  rintro i m σ H ⟨em, p⟩
  have q := hl i σ H p
  cases m with
  | zero =>
    have e : i = xs.length := em
    subst e
    exact .inl ⟨⟨xs, q, Nat.le_refl _⟩, hd σ H p⟩
  | succ m =>
    have hi : i < xs.length := by omega
    refine .inr ⟨⟨xs, xs[i], q, List.getElem?_eq_getElem hi⟩, Pv (i + 1), fun σ' H' p' => ⟨m, Nat.lt_succ_self m, by omega, p'⟩, fun v H' y => ?_⟩
    obtain ⟨T, x, rfl, nT, rfl, f⟩ := y
    exact hs i x σ H T (f xs q) nT p

/-! ### the promises of the law's own helpers -/
def spKneaded : Sp := fun vs H Q _ => ∃ s l : Int, vs = [.int s, .int l] ∧ ∀ r : Int, Q (.int r) H
def spPotOf (K : PySem.W.Frag) : Sp := fun vs H Q _ => ∃ (a : Addr) (ns : List Int), vs = [.ref a] ∧ SqL K H a (ns.map V.int) ∧ ns.length ≤ 63 ∧ ∀ (p c : Addr) (H' : Hp), Same H H' → H p = none → PotAt p c H' → Q (.ref p) H'
def spBelow : Sp := fun vs H Q _ => ∃ (p c : Addr) (n : Int), vs = [.ref p, .int n] ∧ PotAt p c H ∧ 0 < n ∧ n < 1073741824 ∧ ∀ (r : Int) (H' : Hp), 0 ≤ r → r < n → Ext p c H H' → Q (.int r) H'
def spPick (K : PySem.W.Frag) : Sp := fun vs H Q _ => ∃ (p c l : Addr) (xs : List V), vs = [.ref p, .ref l] ∧ PotAt p c H ∧ SqL K H l xs ∧ l ≠ p ∧ 0 < xs.length ∧ xs.length ≤ 1000 ∧ ∀ (v : V) (H' : Hp), v ∈ xs → Ext p c H H' → Q v H'
def spName : Sp := fun vs H Q _ => ∃ (p c : Addr), vs = [.ref p] ∧ PotAt p c H ∧ ∀ (z : Str) (h t : List Nat) (H' : Hp), Nm z h t → Ext p c H H' → Q (.str z) H'
theorem pot_put {p c : Addr} {H H1 : Hp} {i a b : Int} (_h0 : PotAt p c H) (e : Ext p c H H1) : Ext p c H (upd H1 p (.lst [.ref c, .int i, .int a, .int b])) := by
  obtain ⟨n, _, ns, e2, l⟩ := e.pot
  exact ⟨fun q o eq nq => by
    rw [upd_ne nq]
    exact e.keep q o eq nq, n, ⟨i, a, b, upd_same⟩, ns, by rw [upd_ne n.symm]; exact e2, l⟩
theorem eqv_ints_nil (ns : List Int) : PyData.eqv (.list (ns.map PyData.int)) (.list []) = decide (ns = []) := by
  cases ns with
  | nil => rfl
  | cons x r =>
    rw [decide_eq_false (by simp)]
    rfl
theorem dp_ints {K : PySem.W.Frag} {H : Hp} : ∀ ns : List Int, DpAll K H (ns.map V.int) (ns.map PyData.int)
  | [] => .nil
  | x :: r => .cons (.int x) (dp_ints r)
theorem shaped_ints (ns : List Int) : SeqAt.shaped (.list (ns.map PyData.int)) = true := by
  have h1 : ∀ l : List Int, PyData.canLayAll0 (l.map PyData.int) = true := fun l => by
    induction l with
    | nil => rfl
    | cons x r ih => simpa [PyData.canLayAll0, PyData.canLay0] using ih
  have h2 : ∀ l : List Int, PyData.depthAll (l.map PyData.int) = 0 := fun l => by
    induction l with
    | nil => rfl
    | cons x r ih => simpa [PyData.depthAll, PyData.depth] using ih
  unfold SeqAt.shaped
  simp [PyData.canLay0, PyData.depth, h1, h2]

/-- ''.join([pick(pot, letters) for lap in range(below(pot, n))]) -/
theorem word_read {K : PySem.W.Frag} {p c : Addr} {σ : L2.St} {H : Hp} {n : Int} {iv : Nat} {letters : List Str} {tl : TA} {Q : VK} (hL : ∀ (σ : L2.St) (H : Hp) (Q : List V → Hp → Prop), Q (letters.map V.str) H → tl σ H Q) (hne : 0 < letters.length) (hle : letters.length ≤ 1000)
    (h1 : ∀ y ∈ letters, (TL.tl y).length ≤ 1) (hσ : σ[0]? = some (some (.ref p))) (hσ2 : ∀ v : Option V, ((wipe σ [iv]).set iv v)[0]? = some (some (.ref p))) (hw : ∀ v : Option V, wipe ((wipe σ [iv]).set iv v) [iv] = wipe σ [iv])
    (hP : PotAt p c H) (hn : 0 < n) (hn2 : n ≤ 1000) (k : ∀ (ys : List Str) (H' : Hp), (∀ y ∈ ys, y ∈ letters) → (ys.length : Int) < n → Ext p c H H' → Q (.str (Txt.join "" ys)) H') :
    tM1 (fun x xs H Q => ∃ a p, ∃ ys : List Str, x = .str a ∧ xs = [.ref p] ∧ (SqL K H p (ys.map V.str) ∨ SqT K H p (ys.map V.str)) ∧ (ys.map (·.length)).sum + ys.length * a.length ≤ 16777216 ∧ Q (.str (Txt.join a ys)) H)
      (tC (.str "")) (tLc (iRng1 (tCons (tCall spBelow [] E0 (tCons (tVar 0) (tCons (tC (.int n)) tNil))) tNil)) (gName iv) tYes (tCall (spPick K) [] E0 (tCons (tVar 0) (tCons (tLst tl) tNil))) [iv]) σ H Q := by
  refine ⟨⟨_, rfl⟩, _, hσ, p, c, n, rfl, hP, hn, by omega, fun r H1 r0 r1 e1 => ⟨r, rfl, by omega, by omega, fun D nD => ?_⟩⟩
  have nD0 := e1.free nD
  have nDp : D ≠ p := hP.nep nD0
  refine lc_range (lo := 0) (n := r.toNat) (fun i H' => Ext p c H H' ∧ ∃ ys : List Str, H' D = some (.lst (ys.map V.str)) ∧ ys.length = i ∧ ∀ y ∈ ys, y ∈ letters) ⟨e1.mut hP nD0, [], upd_same, rfl, fun y h => nomatch h⟩ ?_ ?_
  · rintro i H2 hi ⟨e2, ys, hD, hl, hy⟩
    refine ⟨hw _, _, hσ2 _, hL _ _ _ ⟨by rw [List.length_map]; exact Nat.le_of_lt (small1000 hle), fun l nl => ?_⟩⟩
    refine ⟨p, c, l, letters.map V.str, rfl, e2.pot.same (same_upd nl), SqL.of upd_same, e2.pot.nep nl, by rw [List.length_map]; exact hne, by rw [List.length_map]; exact hle, fun v H3 hv e3 => ?_⟩
    obtain ⟨y, my, rfl⟩ := List.mem_map.mp hv
    have e4 := e2.trans (Ext.pre (same_upd nl) e3)
    have hD3 : H3 D = some (.lst (ys.map V.str)) := e3.get (by rw [upd_ne (ne_of_none hD nl)]; exact hD) nDp
    refine ⟨_, hD3, by rw [List.length_map, hl]; exact small1000 (by omega), e4.mut hP nD0, ys ++ [y], by rw [upd_same, List.map_append]; rfl, by rw [List.length_append, hl]; rfl, fun z hz => ?_⟩
    rcases List.mem_append.mp hz with hz | hz
    · exact hy z hz
    · rw [List.mem_singleton.mp hz]
      exact my
  · rintro H2 ⟨e2, ys, hD, hl, hy⟩
    have hs : (ys.map (·.length)).sum ≤ ys.length * 1 := sum_len_le fun y h => by
      rw [TL.len_tl]
      exact h1 y (hy y h)
    exact ⟨"", D, ys, rfl, rfl, .inl (SqL.of hD), by
      show (ys.map (·.length)).sum + ys.length * 0 ≤ 16777216
      omega, k ys H2 hy (by omega) e2⟩
end Lk

/-! Repr0 -/
set_option Elab.async false
set_option maxRecDepth 100000
set_option maxHeartbeats 4000000
namespace Lk
open PySem PySem.Spec PyProof.Rows L2

/-! ### data of any form, dicts too -/
def keyD : Key → PyData
  | .inl i => .int i
  | .inr x => .str x
mutual
inductive Th (K : PySem.W.Frag) (H : Hp) : V → PyData → Prop
  | non : Th K H .non .none
  | bl (b : Bool) : Th K H (.bl b) (.bool b)
  | int (i : Int) : Th K H (.int i) (.int i)
  | str (x : Str) : Th K H (.str x) (.str x)
  | lst {a : Addr} {xs : List V} {ds : List PyData} : SqL K H a xs → ThAll K H xs ds → Th K H (.ref a) (.list ds)
  | tup {a : Addr} {xs : List V} {ds : List PyData} : SqT K H a xs → ThAll K H xs ds → Th K H (.ref a) (.tuple ds)
  | dct {a : Addr} {kvs : List (Key × V)} {ds : List (PyData × PyData)} : H a = some (.dK kvs) → ThAll K H (kvs.map (·.2)) (ds.map (·.2)) → ds.map (·.1) = kvs.map (fun p => keyD p.1) → Th K H (.ref a) (.dict ds)
inductive ThAll (K : PySem.W.Frag) (H : Hp) : List V → List PyData → Prop
  | nil : ThAll K H [] []
  | cons {v : V} {vs : List V} {d : PyData} {ds : List PyData} : Th K H v d → ThAll K H vs ds → ThAll K H (v :: vs) (d :: ds)
end
mutual
def noLst : PyData → Bool
  | .none | .bool _ | .int _ | .str _ => true
  | .list _ => false
  | .tuple xs => noLstAll xs
  | .dict kvs => noLstKv kvs
def noLstAll : List PyData → Bool
  | [] => true
  | x :: xs => noLst x && noLstAll xs
def noLstKv : List (PyData × PyData) → Bool
  | [] => true
  | (_, v) :: r => noLst v && noLstKv r
end
theorem noLstKv_map : ∀ ds : List (PyData × PyData), noLstAll (ds.map (·.2)) = noLstKv ds
  | [] => rfl
  | (k, v) :: r => by
    show (noLst v && noLstAll (r.map (·.2))) = (noLst v && noLstKv r)
    rw [noLstKv_map r]
/-- what may be shown -/
structure Wf (d : PyData) : Prop where
  sh : d.showable = true
  lv : d.leavesShort 13 = true
  bk : d.bulk ≤ 1000000
  dp : d.depth ≤ 60
  sy : d.hasDict = false ∨ noLst d = true
section
variable {X : Cx} {pins : List (Addr × Obj)} {σ : L2.St} {H : Hp} {s : Shared}
theorem keys_read {prog : Program} {w : World} {h : Heap} : ∀ {es : List DictEntry} {kvs : List (Key × V)} {vs : List (Key × Value)}, KV kvs vs → Pairs (mixKind prog w) es vs →
    ReadsAll h (es.map (·.key)) (kvs.map fun p => keyD p.1) [] ∧ Vals (kvs.map (·.2)) (es.map (·.val))
  | _, _, _, .nil, .nil => ⟨.nil, .nil⟩
  | _, _, _, .cons (a := a) q t, .cons (e := e) h1 h2 p => by
    obtain ⟨ih1, ih2⟩ := keys_read (h := h) t p
    obtain ⟨q1, q2⟩ := q
    rw [← q1] at h1
    refine ⟨?_, .cons (by show L2.RelV a.2 e.val; rw [h2]; exact q2) ih2⟩
    obtain ⟨k, v⟩ := a
    have h1' : keyIs k e.key = true := h1
    rcases keyIs_shape h1' with ⟨i, t, rfl, e1⟩ | ⟨x, t, rfl, e1⟩
    · have r : Reads h e.key (.int i) [] := by rw [e1]; exact Reads.int i t
      exact ReadsAll.cons r ih1
    · have r : Reads h e.key (.str x) [] := by rw [e1]; exact Reads.str x t
      exact ReadsAll.cons r ih1
theorem th_reads (I : Inv X pins σ H s) {v : V} {d : PyData} (h : Th X.K H v d) : ∀ u, RelV v u → ∃ as, Reads s.heap u d as ∧ (noLst d = true → sysModules ∉ as) := by
  refine Th.rec (motive_1 := fun v d _ => ∀ u, RelV v u → ∃ as, Reads s.heap u d as ∧ (noLst d = true → sysModules ∉ as)) (motive_2 := fun vs ds _ => ∀ us, Vals vs us → ∃ as, ReadsAll s.heap us ds as ∧ (noLstAll ds = true → sysModules ∉ as))
    ?_ ?_ ?_ ?_ ?_ ?_ ?_ ?_ ?_ h
  · intro u r
    cases r
    exact ⟨_, Reads.none, fun _ h => nomatch h⟩
  · intro b u r
    cases r
    exact ⟨_, Reads.bool b, fun _ h => nomatch h⟩
  · intro i u r
    obtain ⟨t, rfl⟩ := r
    exact ⟨_, Reads.int i t, fun _ h => nomatch h⟩
  · intro x u r
    obtain ⟨t, rfl⟩ := r
    exact ⟨_, Reads.str x t, fun _ h => nomatch h⟩
  · intro a xs ds hs _ ih u r
    cases r
    obtain ⟨its, rv, ⟨o, n, ho, hc, _, hd⟩, _⟩ := I.list hs
    obtain ⟨as, hr, _⟩ := ih its rv
    exact ⟨_, Reads.list ho hc hd hr, fun z => by simp [noLst] at z⟩
  · intro a xs ds hs _ ih u r
    cases r
    obtain ⟨its, rv, ⟨o, ho, hc, n, hd⟩, _⟩ := I.tuple hs
    obtain ⟨as, hr, hn⟩ := ih its rv
    exact ⟨_, Reads.tuple ho hc hd hr, fun z => hn (by simpa [noLst] using z)⟩
  · intro a kvs ds hs _ ek ih u r
    cases r
    obtain ⟨_, hsys, vs, kv, o, es, ep, ho, ex, hd, _, hp, _⟩ := (show ObjOk X.prog X.w H s.heap a (.dK kvs) from I.hok a _ hs)
    obtain ⟨rk, rv⟩ := keys_read (h := s.heap) kv hp
    obtain ⟨bs, hr, hn⟩ := ih _ rv
    refine ⟨_, Reads.dict ho ex.1 hd (by rw [ek]; exact rk) hr, fun z hm => ?_⟩
    rcases List.mem_append.mp hm with hm | hm
    · rw [List.mem_singleton.mp hm] at hsys
      exact absurd hsys (by simp)
    · refine hn ?_ hm
      rw [noLstKv_map]
      simpa [noLst] using z
  · intro us r
    cases r
    exact ⟨_, ReadsAll.nil, fun _ h => nomatch h⟩
  · intro v vs d ds _ _ ih1 ih2 us r
    cases r with
    | cons r1 r2 =>
      obtain ⟨as, q1, n1⟩ := ih1 _ r1
      obtain ⟨bs, q2, n2⟩ := ih2 _ r2
      refine ⟨_, ReadsAll.cons q1 q2, fun z hm => ?_⟩
      have z2 : noLst d = true ∧ noLstAll ds = true := by simpa [noLstAll] using z
      rcases List.mem_append.mp hm with hm | hm
      · exact n1 z2.1 hm
      · exact n2 z2.2 hm
theorem Wf.fits {d : PyData} (h : Wf d) : d.shown.length ≤ sizeLine := PyData.shown_fits_bulk (B := 13) (by decide) (by decide) h.lv (Nat.le_trans h.bk (by decide))
/-- repr(x), x data of any form -/
def rRepr (K : PySem.W.Frag) : List V → Hp → VK → Prop := fun xs H Q => ∃ v d, xs = [v] ∧ Th K H v d ∧ Wf d ∧ Q (.str d.shown) H
theorem call_repr (hg : X.A.guards = some []) (hu : X.A.units + 64 < cLine) : CallR X (.builtin "repr") (rRepr X.K) := by
  intro pins s σ H xs us Q I r h
  obtain ⟨v, d, rfl, ht, hw, q⟩ := h
  cases r with
  | cons r1 rr =>
    cases rr
    obtain ⟨as, hr, hn⟩ := th_reads I ht _ r1
    have hz := hw.fits
    have hsm : d.hasDict = true → sysModules ∉ as := fun z => by
      rcases hw.sy with e | e
      · rw [e] at z
        cases z
      · exact hn e
    have fin : ∀ (h' : Heap) (u tk : Nat), (∀ b o, s.heap.get? b = some o → h'.get? b = some o) → EP X pins σ Q (.str d.shown u) { s with heap := h', toks := tk } := fun h' u tk k => ⟨.str d.shown, H, I.kept (t' := tk) k, ⟨u, rfl⟩, q⟩
    have hd := hw.dp
    cases hr with
    | none => exact PySem.P.repr_of_none (fin s.heap _ _ fun _ _ e => e)
    | bool b => exact PySem.P.repr_of_bool (fin s.heap _ _ fun _ _ e => e)
    | int i t => exact PySem.P.repr_of_int (by simpa [PyData.showable] using hw.sh) (fin s.heap _ _ fun _ _ e => e)
    | str x t => exact PySem.P.repr_of_str (fin s.heap _ _ fun _ _ e => e) hz
    | list h1 h2 h3 h4 => exact repr_of_reads' (.list h1 h2 h3 h4) hw.sh hsm hg (by omega) (fun _ _ e => e) (fun h' u tk k => fin h' u tk k) hz
    | tuple h1 h2 h3 h4 => exact repr_of_reads' (.tuple h1 h2 h3 h4) hw.sh hsm hg (by omega) (fun _ _ e => e) (fun h' u tk k => fin h' u tk k) hz
    | dict h1 h2 h3 h4 h5 => exact repr_of_reads' (.dict h1 h2 h3 h4 h5) hw.sh hsm hg (by omega) (fun _ _ e => e) (fun h' u tk k => fin h' u tk k) hz
end
end Lk

/-! Grd0 -/
set_option Elab.async false
set_option maxRecDepth 100000
set_option maxHeartbeats 4000000
namespace Lk
open PySem PySem.Spec PyProof.Rows L2

/-! ### defs that are called where no guard is on the stack: they may show data -/
structure FnG (P : Program) (w : World) (K : PySem.W.Frag) (mg : Str → Option Value) (base : Heap) (CX : CXT) (k : Nat) (f : Addr) (fd : FuncData) (ps : List Str) (sp : Sp) : Prop where
  len : ∀ vs H Q E, sp vs H Q E → vs.length = ps.length
  go : ∀ (A : Around) (above : List Env) (s : Shared) (H : Hp) (args : Args) (us : List Value) (vs : List V) (Q : VK) (E : XK), Room k A → A.guards = some [] →
    Env0 P w K mg base A above s H → BindsTo s fd args (ps.zip us) → Vals vs us → sp vs H Q E → codeAny (model P w) A (.call (.ref f) args) (CR CX above P w H s Q E) s
section
variable {P : Program} {w : World} {K : PySem.W.Frag} {mg : Str → Option Value} {base : Heap} {CX : CXT}
theorem fnG_of {k : Nat} {f : Addr} {nm qn : Str} {pr : Arguments} {bd : List Stmt} {sc : Scope} {d1 d2 d3 d4 cv ct oc : Value} {an od : Option Addr} {sl : Array (Option Value)} {N ps : List Str} {sp : Sp}
    (at_ : K.lookup f = some ⟨oc, od, .func (PySem.W.fnOf nm qn pr bd sc d1 d2 d3 d4 an cv ct), sl⟩) (hc : PySem.W.codeIn K cv qn = true) (S : FnScope N ps sc) (len : ∀ vs H Q E, sp vs H Q E → vs.length = ps.length)
    (hb : ∀ (A : Around) (above : List Env) (s : Shared) (H : Hp) (vs : List V) (Q : VK) (E : XK), Room k (A.deeper (envOfC qn sc s.heap.objs.size f cv)) → (A.deeper (envOfC qn sc s.heap.objs.size f cv)).guards = some [] → sp vs H Q E →
      ∃ t, PSs (cxOf CX P w K mg base N qn sc f cv A above s H E) bd t ∧ t { nx := fun _ H' => Q .non H', rt := Q } (start N vs) H) :
    FnG P w K mg base CX (k + 1) f (PySem.W.fnOf nm qn pr bd sc d1 d2 d3 d4 an cv ct) ps sp := by
  constructor
  · exact len
  · intro A above s H args us vs Q E room gd env bind rel want
    have old : ∀ b o, base.get? b = some o → s.heap.get? b = some o := fun b o e => (env.bs b o e).1
    have kin := env.mod.kin.keeps old
    have mine : ∀ y ∈ ps.zip us, sc.names.lookup y.1 = some .local ∨ (sc.names.lookup y.1 = some .cell ∧ ((cellsFrom (s.heap.objs.size + 1) sc.names []).lookup y.1).isSome = true) := by
      rintro ⟨n, v⟩ hy
      have := S.par n (List.of_mem_zip hy).1
      exact this.imp id fun c => ⟨c, PySem.W.cellsFrom_some _ _ _ (.inl c)⟩
    apply codeAny_call_function room.depth (kin _ _ at_) rfl S.co S.gen rfl (PySem.W.codeRec_of kin hc)
    apply bind
    apply wpAny_newFunctionEnv_cells S.kind mine
    intro env1 he s1 inside
    subst he
    refine ⟨(env.mod.nolimit.keeps old).keeps inside.toInCall.keep, codeAny_func ?_⟩
    obtain ⟨t, walk, read⟩ := hb A above s H vs Q E (room.deeper _) gd want
    have I0 := inv_start (CX := CX) (P := P) (w := w) (E := E) S room.hd env (len _ _ _ _ want) rel inside
    apply wpAny_mono (walk.run [] s1 (start N vs) H _ I0 read)
    · intro fl s2 out
      match fl, out with
      | .ret u, ⟨v, σ', H', J, rv, q⟩ => exact ⟨v, H', J.os, J.bare, J.base, J.hok, rv, q⟩
      | .next, ⟨σ', H', J, q⟩ => exact ⟨V.non, H', J.os, J.bare, J.base, J.hok, rfl, q⟩
      | .brk, ⟨_, _, _, q⟩ => exact False.elim q
      | .cont, ⟨_, _, _, q⟩ => exact False.elim q
    · intro e s2 out
      exact out
structure CalG (P : Program) (w : World) (K : PySem.W.Frag) (mg : Str → Option Value) (base : Heap) (CX : CXT) (k : Nat) (x : String) (sp : Sp) : Prop where
  ex : ∃ (f : Addr) (fd : FuncData) (ps : List Str), FnG P w K mg base CX k f fd ps sp ∧ mg x = some (.ref f) ∧ PySem.W.keepIn K (.ref f) = true ∧ Binds K fd ps []
theorem mkCalG {x : String} {st : Stmt} {N ps : List Str} {k : Nat} {sp : Sp} (D : Def1 K mg x st) (S : FnScope N ps (defScope st))
    (hb : ∀ (kV doc pm : Value) (an : Option Addr) (cdv ct : Value) (us : List Value), us.length = ps.length → bindArgs (PySem.W.fnOf x x (defArgs st) (defBody st) (defScope st) .none kV doc pm an cdv ct) ⟨us, []⟩ = pure (ps.zip us))
    (len : ∀ vs H Q E, sp vs H Q E → vs.length = ps.length)
    (body : ∀ (f : Addr) (cdv : Value) (A : Around) (above : List Env) (s : Shared) (H : Hp) (vs : List V) (Q : VK) (E : XK), Room k (A.deeper (envOfC x (defScope st) s.heap.objs.size f cdv)) →
      (A.deeper (envOfC x (defScope st) s.heap.objs.size f cdv)).guards = some [] → sp vs H Q E →
      ∃ t, PSs (cxOf CX P w K mg base N x (defScope st) f cdv A above s H E) (defBody st) t ∧ t { nx := fun _ H' => Q .non H', rt := Q } (start N vs) H) : CalG P w K mg base CX (k + 1) x sp := by
  obtain ⟨f, fd, F, m⟩ := D.ex
  have b := F.binds hb
  have kp := F.kp
  obtain ⟨oc, od, kV, doc, pm, an, cdv, ct, sl, rfl, lk, hcd⟩ := F.ex
  exact ⟨f, _, ps, fnG_of lk hcd S len fun A above s H vs Q E hr hg h => body f cdv A above s H vs Q E hr hg h, m, kp, b⟩
/-- the whole law, from its promise -/
theorem lawG {mb : Str → Option Value} {k : Nat} {fa a : Addr} {fd : FuncData} {x : Str} {sp : Sp} {s : Shared} {vs : List Value} {ns : List Int}
    (KX : K.In s.heap) (gl : s.heap.Ns mainGlobals mg) (bl : s.heap.Ns builtinsNs mb) (bb : ∀ x : Str, x ≠ "__name__" → mb x = bootBuiltins x) (nl : s.heap.NoLimit) (gens : s.gens = #[])
    (ha : s.heap.get? a = some { cls := .type "list", data := .seq vs.toArray }) (hin : IntsAre vs ns) (short : ns.length ≤ sizeLine) (room : Room k callerA)
    (F : ∀ base : Heap, K.In base → base.Ns mainGlobals mg → FnG P w K mg base CX k fa fd [x] sp) (bind : ∀ (s : Shared) (u : Value), BindsTo s fd ⟨[u], []⟩ [(x, u)])
    (prom : ∀ H : Hp, Only H → SqL K H a (ns.map V.int) → sp [.ref a] H (fun v _ => v = .bl true) fun _ _ _ => False)
    (noX : ∀ H e s', CX [] H s (fun _ _ _ => False) e s' → False) :
    codeAny (model P w) callerA (.call (.ref fa) ⟨[.ref a], []⟩) (fun r s' => r = .ok (.ret (.bool true)) ∧ OldK s.heap s'.heap ∧ s'.os = s.os ∧ AllBare s'.gens) s := by
  have vals := vals_ints hin
  have run : ∀ H : Hp, Only H → SqL K H a (ns.map V.int) → HOk P w H s.heap → (∀ b, H b ≠ none → b = a ∧ K.lookup a = none) →
      codeAny (model P w) callerA (.call (.ref fa) ⟨[.ref a], []⟩) (fun r s' => r = .ok (.ret (.bool true)) ∧ OldK s.heap s'.heap ∧ s'.os = s.os ∧ AllBare s'.gens) s := by
    intro H only seq ok here
    have dicts : ∀ {b : Addr} {m : Str → Option Value}, s.heap.Ns b m → (hidT s.heap H).Ns b m := by
      rintro b m ⟨o, es, ep, e, d, r⟩
      refine ⟨o, es, ep, hidT_get e ?_, d, r⟩
      apply Classical.byContradiction
      intro z
      obtain ⟨rfl, _⟩ := here b z
      rw [ha] at e
      cases e
      cases d
    have kb : K.In (hidT s.heap H) := by
      intro b o e
      refine hidT_get (KX b o e) ?_
      apply Classical.byContradiction
      intro z
      obtain ⟨rfl, q⟩ := here b z
      rw [q] at e
      cases e
    have md : Mod K mg (hidT s.heap H) := ⟨kb, dicts gl, ⟨mb, dicts bl, bb⟩, by
      obtain ⟨mc, h1, h2⟩ := nl
      exact ⟨mc, dicts h1, h2⟩⟩
    have nof : ∀ b ∈ frs ([] : List Env), H b = none := by
      intro b i
      have i2 : b ∈ ([] : List Addr) := i
      cases i2
    have env : Env0 P w K mg (hidT s.heap H) callerA [] s H := ⟨rfl, md, fun b o e => of_hidT e, Nat.le_of_eq (hidT_size _ _), trivial, nof, ok, .of_eq gens⟩
    apply codeAny_mono ((F _ kb (dicts gl)).go callerA [] s H ⟨[.ref a], []⟩ [.ref a] [.ref a] _ _ room rfl env (bind s (.ref a)) (.cons rfl .nil) (prom H only seq))
    intro r s' out
    match r, out with
    | .error e, out => exact (noX H e s' out).elim
    | .ok .next, out => exact False.elim out
    | .ok .brk, out => exact False.elim out
    | .ok .cont, out => exact False.elim out
    | .ok (.ret u), ⟨v, H', os, bare, un, ok', rel, q⟩ =>
      have e1 : v = .bl true := q
      rw [e1] at rel
      have e2 : u = Value.bool true := rel
      rw [e2]
      refine ⟨rfl, OldK.of_keep ?_, os, bare⟩
      intro b o e
      rcases only b with z | ⟨ob, xs, z⟩
      · exact un.keep b o e z (by
          intro i
          have i2 : b ∈ ([] : List Addr) := i
          cases i2) (by
          intro i
          cases i)
      · have after := (ok' b _ (un.frzs b ob _ z)).1
        rw [(ok b _ z).1] at e
        cases e
        exact after
  match q : K.lookup a with
  | some o =>
    have same := KX a o q
    rw [ha] at same
    cases same
    exact run (fun _ => none) (fun _ => .inl rfl) (.inr ⟨_, vs.toArray, _, q, rfl, rfl, rfl, by rw [List.size_toArray, hin.length]; exact short, by simpa using vals⟩) (fun b u z => nomatch z) fun b z => absurd rfl z
  | none =>
    have mine : ∀ {b : Addr} {u : HO}, (fun b => if b = a then some (HO.frz { cls := .type "list", data := .seq vs.toArray } (.lst (ns.map V.int))) else none) b = some u → b = a ∧ u = HO.frz { cls := .type "list", data := .seq vs.toArray } (.lst (ns.map V.int)) := by
      intro b u z
      by_cases h : b = a
      · exact ⟨h, (Option.some.inj ((if_pos h).symm.trans z)).symm⟩
      · exact absurd ((if_neg h).symm.trans z) (by simp)
    refine run (fun b => if b = a then some (.frz { cls := .type "list", data := .seq vs.toArray } (.lst (ns.map V.int))) else none) (fun b => ?_) (.inl (.inr ⟨{ cls := .type "list", data := .seq vs.toArray }, if_pos rfl⟩)) (fun b u z => ?_) fun b z => ⟨?_, q⟩
    · by_cases h : b = a
      · exact .inr ⟨_, _, if_pos h⟩
      · exact .inl (if_neg h)
    · obtain ⟨rfl, rfl⟩ := mine z
      exact ⟨ha, by rw [List.length_map]; exact short, vs, _, vals, ha⟩
    · apply Classical.byContradiction
      intro h
      exact z (if_neg h)
end
/-- the goal that the law's head leaves, from the law's promise -/
theorem walkG {l : PySem.W.OpenLaw} {k : Nat} {q : Program} {loose : List Str} {XP : (Str → Option Value) → Heap → Prop} {YP : World → Heap → Prop} {d : DefRec} {K : Params → PySem.W.Frag} {CX : World → CXT} {sp : World → Sp} {x : Str}
    (most : l.most = some 63) (noD : d.params.defaults = []) (room : Room k callerA) (hY : ∀ (w : World) (h : Heap), YP w h → (K w.params).In h)
    (F : ∀ (w : World) (mg : Str → Option Value) (fa : Addr) (h : Heap), (K w.params).In h → h.Ns mainGlobals mg → mg d.name = some (.ref fa) →
      ∃ fd : FuncData, (∀ (s : Shared) (u : Value), BindsTo s fd ⟨[u], []⟩ [(x, u)]) ∧ ∀ base : Heap, (K w.params).In base → base.Ns mainGlobals mg → FnG l.prog w (K w.params) mg base (CX w) k fa fd [x] (sp w))
    (prom : ∀ (w : World) (H : Hp) (a : Addr) (ns : List Int), ns.length ≤ 63 → Only H → SqL (K w.params) H a (ns.map V.int) → sp w [.ref a] H (fun v _ => v = .bl true) fun _ _ _ => False)
    (noX : ∀ (w : World) (H : Hp) (s : Shared) (e : Value) (s' : Shared), CX w [] H s (fun _ _ _ => False) e s' → False) :
    PySem.W.WalkO q loose XP YP l.row.toRowW d [] (fun f vs => PySem.call f vs) := by
  apply Att.attach_call most noD
  intro w s0 s1 mg mb fa o pm cd doc a vs ns G Y ho hd hcd hmg hobj hints hlen hg
  obtain ⟨fd, hb, hF⟩ := F w mg fa _ (hY w _ Y) G.T.g hmg
  exact lawG (hY w _ Y) G.T.g G.T.b G.T.builtins G.T.nolimit hg hobj hints (Nat.le_trans hlen (by decide)) room hF hb (fun H only seq => prom w H a ns hlen only seq) fun H e s' => noX w H s1 e s'
end Lk

/-! Nam0 -/
set_option Elab.async false
set_option maxRecDepth 100000
set_option maxHeartbeats 4000000
namespace Lk
open PySem PySem.Spec PyProof.Rows L2

def upB (c : Nat) : Bool := decide (65 ≤ c) && decide (c ≤ 90)
def loB (c : Nat) : Bool := decide (97 ≤ c) && decide (c ≤ 122)
def capS : Str := "ABCDEFGHIJKLMNOPQRSTUVWXYZ"
def smaS : Str := "abcdefghijklmnopqrstuvwxyz"
theorem range_has {n k c : Nat} : (List.range' n k).contains c = (decide (n ≤ c) && decide (c < n + k)) := by
  rw [Bool.eq_iff_iff]
  simp [List.mem_range'_1]
theorem cap_has (c : Nat) : capS.cps.contains c = upB c := by
  have e : capS.cps.toList = List.range' 65 26 := by decide +kernel
  rw [← Array.contains_toList, e, range_has, Bool.eq_iff_iff]
  simp [upB]
  omega
theorem sma_has (c : Nat) : smaS.cps.contains c = loB c := by
  have e : smaS.cps.toList = List.range' 97 26 := by decide +kernel
  rw [← Array.contains_toList, e, range_has, Bool.eq_iff_iff]
  simp [loB]
  omega
/-! ### strip -/
theorem drop_tw (p : Nat → Bool) : ∀ l : List Nat, l.drop (l.takeWhile p).length = l.dropWhile p
  | [] => rfl
  | c :: r => by
    rw [List.takeWhile_cons, List.dropWhile_cons]
    by_cases h : p c = true
    · rw [if_pos h, if_pos h]
      exact drop_tw p r
    · rw [if_neg h, if_neg h]
      rfl
theorem tw_len (p : Nat → Bool) : ∀ l : List Nat, (l.takeWhile p).length ≤ l.length
  | [] => Nat.le_refl _
  | c :: r => by
    rw [List.takeWhile_cons]
    split
    · exact Nat.succ_le_succ (tw_len p r)
    · exact Nat.zero_le _
theorem tl_lstrip (p : Nat → Bool) (x : Str) : TL.tl (Txt.stripBy p true false x) = (TL.tl x).dropWhile p := by
  have hlo : stripLo p true x = ((TL.tl x).takeWhile p).length := if_pos rfl
  have hhi : stripHi p false x (stripLo p true x) = x.length := if_neg Bool.false_ne_true
  unfold Txt.stripBy
  by_cases h : stripSame p true false x = true
  · rw [if_pos h]
    have h0 : stripLo p true x = 0 := by
      unfold stripSame at h
      rw [Bool.and_eq_true] at h
      exact beq_iff_eq.mp h.1
    rw [← drop_tw, ← hlo, h0]
    rfl
  · rw [if_neg h]
    unfold stripped
    rw [hhi, TL.tl_strSub_end, hlo, drop_tw]
theorem dw_all {p : Nat → Bool} : ∀ l : List Nat, (l.dropWhile p = [] ↔ l.all p = true)
  | [] => by simp
  | c :: r => by
    rw [List.dropWhile_cons, List.all_cons]
    by_cases h : p c = true
    · rw [if_pos h, h, Bool.true_and]
      exact dw_all r
    · rw [if_neg h]
      simp [h]
theorem tl_strip (p : Nat → Bool) (x : Str) : TL.tl (Txt.stripBy p true true x) = [] ↔ (TL.tl x).all p = true := by
  have hl : x.length = (TL.tl x).length := TL.len_tl x
  have hlo : stripLo p true x = ((TL.tl x).takeWhile p).length := if_pos rfl
  have hhi : ∀ k, stripHi p true x k = x.length - (((TL.tl x).drop k).reverse.takeWhile p).length := fun k => if_pos rfl
  have key : TL.tl (Txt.stripBy p true true x) = ((TL.tl x).drop (stripLo p true x)).take (stripHi p true x (stripLo p true x) - stripLo p true x) := by
    unfold Txt.stripBy
    by_cases h : stripSame p true true x = true
    · rw [if_pos h]
      unfold stripSame at h
      rw [Bool.and_eq_true] at h
      have h0 := beq_iff_eq.mp h.1
      have h1 := beq_iff_eq.mp h.2
      rw [h1, h0, List.drop_zero, Nat.sub_zero, hl, List.take_length]
    · rw [if_neg h]
      unfold stripped
      rw [TL.tl_strSub]
  rw [key, hlo, drop_tw, hhi, drop_tw]
  cases e : (TL.tl x).dropWhile p with
  | nil =>
    rw [List.take_nil]
    exact ⟨fun _ => (dw_all _).mp e, fun _ => rfl⟩
  | cons c r =>
    have hc : p c = false := by
      have := List.head?_dropWhile_not p (TL.tl x)
      rw [e] at this
      simpa using this
    constructor
    · intro h
      exfalso
      have hlen : (c :: r).length + ((TL.tl x).takeWhile p).length = (TL.tl x).length := by
        rw [← e, ← drop_tw, List.length_drop]
        have := tw_len p (TL.tl x)
        omega
      have hrev : (((c :: r).reverse).takeWhile p).length ≤ r.length := by
        rw [List.reverse_cons]
        by_cases ha : r.reverse.all p = true
        · rw [List.takeWhile_append_of_pos (by simpa using ha), List.takeWhile_cons, if_neg (by rw [hc]; decide)]
          simp
        · have := tw_len p (r.reverse ++ [c])
          have h2 : ((r.reverse ++ [c]).takeWhile p).length ≠ (r.reverse ++ [c]).length := fun z => by
            have e2 : (r.reverse ++ [c]).takeWhile p = r.reverse ++ [c] := (List.takeWhile_sublist p).eq_of_length z
            have := List.all_takeWhile (p := p) (l := r.reverse ++ [c])
            rw [e2, List.all_append, Bool.and_eq_true] at this
            exact ha this.1
          rw [List.length_append, List.length_reverse, List.length_singleton] at this h2
          omega
      rw [List.length_cons] at hlen
      have : (List.take (x.length - (((c :: r).reverse).takeWhile p).length - ((TL.tl x).takeWhile p).length) (c :: r)).length = 0 := by rw [h]; rfl
      rw [List.length_take, List.length_cons] at this
      omega
    · intro h
      have := (dw_all _).mpr h
      rw [e] at this
      cases this

/-! ### what a name, an end, a pattern is -/
def nmB (l : List Nat) : Bool := !l.isEmpty && (l.dropWhile upB).all loB
def dName : PyData → Bool
  | .str x => nmB (TL.tl x)
  | _ => false
def dEnd (p : Nat → Bool) : PyData → Bool
  | .str x => decide (x.length ≤ 3) && (TL.tl x).all p
  | _ => false
def isE : PyData → Bool
  | .str x => decide (x = "")
  | _ => false
def dPat : PyData → Bool
  | .tuple [b, e] => dEnd upB b && (dEnd loB e && !(isE b && isE e))
  | _ => false
/-! ### types of data -/
def tyN : PyData → String
  | .none => "NoneType" | .bool _ => "bool" | .int _ => "int" | .str _ => "str" | .list _ => "list" | .tuple _ => "tuple" | .dict _ => "dict"
def isStr : PyData → Bool
  | .str _ => true
  | _ => false
def isTup : PyData → Bool
  | .tuple _ => true
  | _ => false
def isDct : PyData → Bool
  | .dict _ => true
  | _ => false
def isLst : PyData → Bool
  | .list _ => true
  | _ => false
theorem th_ty {K : PySem.W.Frag} {H : Hp} {v : V} {d : PyData} (h : Th K H v d) : TyX K H v (.type (tyN d)) := by
  cases h with
  | non => exact .base .non
  | bl b => exact .base (.bl b)
  | int i => exact .base (.int i)
  | str x => exact .base (.str x)
  | lst h _ =>
    rcases h with (h | ⟨o, h⟩) | ⟨o, its, n, h, hc, _⟩
    · exact .base (.lst h)
    · exact .base (.frz h)
    · exact .kList h hc
  | tup h _ =>
    rcases h with (h | ⟨o, h⟩) | ⟨o, its, n, h, hc, _⟩
    · exact .base (.tup h)
    · exact .fTuple h
    · exact .kTuple h hc
  | dct h _ _ => exact .base (.dK h)
theorem kit_str {K : PySem.W.Frag} : ∀ d : PyData, PySem.W.kitOne K (.type (tyN d)) (.type "str") = some (isStr d)
  | .none => kit_ty (show kitB "NoneType" "str" = some false by decide +kernel)
  | .bool _ => kit_ty (show kitB "bool" "str" = some false by decide +kernel)
  | .int _ => kit_ty (show kitB "int" "str" = some false by decide +kernel)
  | .str _ => kit_ty (show kitB "str" "str" = some true by decide +kernel)
  | .list _ => kit_ty (show kitB "list" "str" = some false by decide +kernel)
  | .tuple _ => kit_ty (show kitB "tuple" "str" = some false by decide +kernel)
  | .dict _ => kit_ty (show kitB "dict" "str" = some false by decide +kernel)
theorem kit_tup {K : PySem.W.Frag} : ∀ d : PyData, PySem.W.kitOne K (.type (tyN d)) (.type "tuple") = some (isTup d)
  | .none => kit_ty (show kitB "NoneType" "tuple" = some false by decide +kernel)
  | .bool _ => kit_ty (show kitB "bool" "tuple" = some false by decide +kernel)
  | .int _ => kit_ty (show kitB "int" "tuple" = some false by decide +kernel)
  | .str _ => kit_ty (show kitB "str" "tuple" = some false by decide +kernel)
  | .list _ => kit_ty (show kitB "list" "tuple" = some false by decide +kernel)
  | .tuple _ => kit_ty (show kitB "tuple" "tuple" = some true by decide +kernel)
  | .dict _ => kit_ty (show kitB "dict" "tuple" = some false by decide +kernel)
theorem kit_lst {K : PySem.W.Frag} : ∀ d : PyData, PySem.W.kitOne K (.type (tyN d)) (.type "list") = some (isLst d)
  | .none => kit_ty (show kitB "NoneType" "list" = some false by decide +kernel)
  | .bool _ => kit_ty (show kitB "bool" "list" = some false by decide +kernel)
  | .int _ => kit_ty (show kitB "int" "list" = some false by decide +kernel)
  | .str _ => kit_ty (show kitB "str" "list" = some false by decide +kernel)
  | .list _ => kit_ty (show kitB "list" "list" = some true by decide +kernel)
  | .tuple _ => kit_ty (show kitB "tuple" "list" = some false by decide +kernel)
  | .dict _ => kit_ty (show kitB "dict" "list" = some false by decide +kernel)
/-- a module's constant -/
def Con1 (mg : Str → Option Value) (x : String) (v : V) : Prop := ∃ u, mg x = some u ∧ RelV v u
section
variable {X : Cx} {x : String} {v : V} {pos : Pos}
theorem pe_con1 (h : Con1 X.mg x v) (hg : Gl X x := by rfl) (hd : ((x : Str) == ("__debug__" : Str)) = false := by decide) : PE X (.Name x pos) (tC v) := by
  obtain ⟨u, e, r⟩ := h
  exact pe_glob hg e r hd
/-- isinstance(e, T), T one built-in class -/
theorem pe_isi {T : String} {e : Expr} {te : TE} {p q pos : Pos} (he : PE X e te) (hm : X.mg "isinstance" = none) (hT : X.mg T = none) (hb : bootBuiltins T = some (.type T)) (hg : Gl X "isinstance" := by rfl) (hgT : Gl X T := by rfl)
    (hn : (T : Str) ≠ "__name__" := by decide) (hd : ((T : Str) == ("__debug__" : Str)) = false := by decide) (h1 : starEach [e, .Name T q] X.env = (false, eval e X.env) :: starEach [.Name T q] X.env := by rfl) (h2 : starEach [.Name T q] X.env = (false, eval (.Name T q) X.env) :: starEach [] X.env := by rfl)
    (h3 : (backTo pos (starEach [.Name T q] X.env)).any (·.1) = false := by rfl) :
    PE X (.Call (.Name "isinstance" p) [e, .Name T q] [] pos) (tCB (rIsi X.K) (tCons te (tCons (tC (.ty T)) tNil))) :=
  pe_callB call_isi hg hm (by decide +kernel) (pa_cons he (pa_cons (pe_bltn (v := .ty T) hgT hT hb rfl hn hd) pa_nil h2) h1) (he := h1) (hpl := h3)
end
/-! ### promises of the program's first functions -/
structure Glc (mg : Str → Option Value) : Prop where
  isinst : mg "isinstance" = none
  str : mg "str" = none
  tuple : mg "tuple" = none
  caps : Con1 mg "CAPITALS" (.str capS)
  smalls : Con1 mg "SMALLS" (.str smaS)
  ends : Con1 mg "MOST_END_LETTERS" (.int 3)
def spIsName (K : PySem.W.Frag) : Sp := fun vs H Q _ => ∃ v d, vs = [v] ∧ Th K H v d ∧ d.bulk ≤ 1000000 ∧ Q (.bl (dName d)) H
def spIsEnd (K : PySem.W.Frag) : Sp := fun vs H Q _ => ∃ v d L p, vs = [v, .str L] ∧ Th K H v d ∧ d.bulk ≤ 1000000 ∧ (∀ c, L.cps.contains c = p c) ∧ Q (.bl (dEnd p d)) H
def spIsPat (K : PySem.W.Frag) : Sp := fun vs H Q _ => ∃ v d, vs = [v] ∧ Th K H v d ∧ d.bulk ≤ 1000000 ∧ Q (.bl (dPat d)) H
def spIsSrc (K : PySem.W.Frag) : Sp := fun vs H Q _ => ∃ v d, vs = [v] ∧ Th K H v d ∧ d.bulk ≤ 1000000 ∧ Q (.bl (dPat d || dName d)) H
theorem not_str {d : PyData} (h : isStr d = false) : dName d = false ∧ (∀ p, dEnd p d = false) ∧ isE d = false := by
  cases d with
  | str x => cases h
  | _ => exact ⟨rfl, fun _ => rfl, rfl⟩
theorem th_str {K : PySem.W.Frag} {H : Hp} {v : V} {d : PyData} (h : Th K H v d) (e : isStr d = true) : ∃ x, v = .str x ∧ d = .str x := by
  cases h with
  | str x => exact ⟨x, rfl, rfl⟩
  | _ => cases e
theorem th_tup {K : PySem.W.Frag} {H : Hp} {v : V} {d : PyData} (h : Th K H v d) (e : isTup d = true) : ∃ a xs ds, v = .ref a ∧ d = .tuple ds ∧ SqT K H a xs ∧ ThAll K H xs ds := by
  cases h with
  | tup hs ha => exact ⟨_, _, _, rfl, rfl, hs, ha⟩
  | _ => cases e
theorem thAll_len {K : PySem.W.Frag} {H : Hp} : ∀ {xs : List V} {ds : List PyData}, ThAll K H xs ds → xs.length = ds.length
  | _, _, .nil => rfl
  | _, _, .cons _ t => congrArg (· + 1) (thAll_len t)
theorem tl_nil_iff {x : Str} : TL.tl x = [] ↔ x = "" := ⟨fun h => TL.ext_tl (by rw [h]; decide +kernel), fun h => by rw [h]; decide +kernel⟩
theorem not_pat {d : PyData} (h : isTup d = false) : dPat d = false := by
  cases d with
  | tuple xs => cases h
  | _ => rfl
theorem not_pat2 : ∀ {ds : List PyData}, ds.length ≠ 2 → dPat (.tuple ds) = false
  | [], _ => rfl
  | [_], _ => rfl
  | [_, _], h => absurd rfl h
  | _ :: _ :: _ :: _, _ => rfl
theorem th_two {K : PySem.W.Frag} {H : Hp} : ∀ {xs : List V} {ds : List PyData}, ThAll K H xs ds → xs.length = 2 → ∃ b c db dc, xs = [b, c] ∧ ds = [db, dc] ∧ Th K H b db ∧ Th K H c dc
  | _, _, .nil, h => nomatch h
  | _, _, .cons _ .nil, h => nomatch h
  | _, _, .cons h1 (.cons h2 .nil), _ => ⟨_, _, _, _, rfl, rfl, h1, h2⟩
  | _, _, .cons _ (.cons _ (.cons _ _)), h => by simp at h
theorem th_three {K : PySem.W.Frag} {H : Hp} : ∀ {xs : List V} {ds : List PyData}, ThAll K H xs ds → xs.length = 3 → ∃ a b c da db dc, xs = [a, b, c] ∧ ds = [da, db, dc] ∧ Th K H a da ∧ Th K H b db ∧ Th K H c dc
  | _, _, .nil, h => nomatch h
  | _, _, .cons _ .nil, h => nomatch h
  | _, _, .cons _ (.cons _ .nil), h => nomatch h
  | _, _, .cons h1 (.cons h2 (.cons h3 .nil)), _ => ⟨_, _, _, _, _, _, rfl, rfl, h1, h2, h3⟩
  | _, _, .cons _ (.cons _ (.cons _ (.cons _ _))), h => by simp at h
theorem end_str {p : Nat → Bool} {d : PyData} (h : dEnd p d = true) : isStr d = true := by
  cases d with
  | str x => rfl
  | _ => cases h
end Lk

/-! Nam1 -/
set_option Elab.async false
set_option maxRecDepth 100000
set_option maxHeartbeats 4000000
namespace Lk
open PySem PySem.Spec PyProof.Rows L2

theorem lt1 {c d : Nat} : decide (([c] : List Nat) < [d]) = decide (c < d) := by
  rw [Bool.eq_iff_iff, decide_eq_true_iff, decide_eq_true_iff, List.cons_lt_cons_iff]
  constructor
  · rintro (h | ⟨_, h⟩)
    · exact h
    · exact absurd h (List.lt_irrefl _)
  · exact fun h => .inl h
/-- a sign as a text -/
abbrev sg (c : Nat) : Str := ⟨#[c]⟩
theorem tl_sg (c : Nat) : TL.tl (sg c) = [c] := rfl
theorem le_sg {x : Str} {a c : Nat} (h : TL.tl x = [a]) : (!decide ((sg c).cps.toList < x.cps.toList)) = decide (a ≤ c) := by
  rw [show x.cps.toList = [a] from h]
  show (!decide (([c] : List Nat) < [a])) = _
  rw [lt1, Bool.eq_iff_iff]
  simp
theorem sg_le {x : Str} {a c : Nat} (h : TL.tl x = [a]) : (!decide (x.cps.toList < (sg c).cps.toList)) = decide (c ≤ a) := by
  rw [show x.cps.toList = [a] from h]
  show (!decide (([a] : List Nat) < [c])) = _
  rw [lt1, Bool.eq_iff_iff]
  simp
theorem tl_cut_to {z : Str} {k : Nat} (h : k ≤ z.length) : TL.tl (cutS z none (some (k : Int))) = (TL.tl z).take k := by
  show ((z.cps.toList.drop (HT.sIx z.length 0 none)).take (HT.sIx z.length z.length (some (k : Int)) - HT.sIx z.length 0 none)) = _
  rw [HT.sIx_none, HT.sIx_nat, Nat.min_eq_left h, List.drop_zero, Nat.sub_zero]
theorem tl_cut_from {z : Str} {k : Nat} (h : k ≤ z.length) : TL.tl (cutS z (some (k : Int)) none) = (TL.tl z).drop k := by
  show ((z.cps.toList.drop (HT.sIx z.length 0 (some (k : Int)))).take (HT.sIx z.length z.length none - HT.sIx z.length 0 (some (k : Int)))) = _
  rw [HT.sIx_none, HT.sIx_nat, Nat.min_eq_left h]
  refine List.take_of_length_le ?_
  have := TL.len_tl z
  rw [List.length_drop]
  show (TL.tl z).length - k ≤ _
  omega
/-- a comprehension over a text's signs: Pv by the signs taken -/
theorem lc_str {x : Str} {g : TG} {tt : TT} {te : TE} {vs : List Nat} {σ : L2.St} {H1 : Hp} {D : Addr} {Qd : Hp → Prop} (Pv : List Nat → Hp → Prop) (h0 : Pv [] (upd H1 D (.lst [])))
    (hs : ∀ pre c post H, TL.tl x = pre ++ c :: post → Pv pre H → g (.str (sg c)) (wipe σ vs) H fun σ2 H2 => wipe σ2 vs = wipe σ vs ∧ tt σ2 H2 fun b H3 =>
      if b = true then te σ2 H3 fun y H4 => ∃ acc, H4 D = some (.lst acc) ∧ acc.length < sizeLine ∧ Pv (pre ++ [c]) (upd H4 D (.lst (acc ++ [y]))) else Pv (pre ++ [c]) H3) (hd : ∀ H, Pv (TL.tl x) H → Qd H) :
    ∃ W : Nat → Nat → Hp → Prop, (∃ m, W 0 m (upd H1 D (.lst []))) ∧ ∀ i m H, W i m H →
      ((Its x).stop i H ∧ Qd H) ∨ ((Its x).go i H ∧ ∃ Nx : Hp → Prop, (∀ H', Nx H' → ∃ m', m' < m ∧ W (i + 1) m' H') ∧ ∀ y H', (Its x).yld i H y H' → g y (wipe σ vs) H' fun σ2 H2 => wipe σ2 vs = wipe σ vs ∧ tt σ2 H2 fun b H3 =>
        if b = true then te σ2 H3 fun y H4 => ∃ acc, H4 D = some (.lst acc) ∧ acc.length < sizeLine ∧ Nx (upd H4 D (.lst (acc ++ [y]))) else Nx H3) := by
  have hl : x.cps.size = (TL.tl x).length := TL.len_tl x
  refine ⟨fun i m H => i + m = (TL.tl x).length ∧ Pv ((TL.tl x).take i) H, ⟨_, Nat.zero_add _, h0⟩, ?_⟩
  rintro i m H ⟨em, p⟩
  cases m with
  | zero =>
    refine .inl ⟨by show x.cps.size ≤ i; omega, hd H ?_⟩
    rw [List.take_of_length_le (by omega)] at p
    exact p
  | succ m =>
    have hi : i < (TL.tl x).length := by omega
    have split : TL.tl x = (TL.tl x).take i ++ (TL.tl x)[i] :: (TL.tl x).drop (i + 1) := by
      rw [← List.drop_eq_getElem_cons hi, List.take_append_drop]
    have more : (TL.tl x).take (i + 1) = (TL.tl x).take i ++ [(TL.tl x)[i]] := List.take_succ_eq_append_getElem hi
    refine .inr ⟨by show i < x.cps.size; omega, Pv ((TL.tl x).take (i + 1)), fun H' p' => ⟨m, Nat.lt_succ_self m, by omega, p'⟩, ?_⟩
    rintro y H' ⟨rfl, c, hc, rfl⟩
    have ec : c = (TL.tl x)[i] := by
      have : (TL.tl x)[i]? = some c := by
        show x.cps.toList[i]? = some c
        rw [Array.getElem?_toList]
        exact hc
      rw [List.getElem?_eq_getElem hi] at this
      exact (Option.some.inj this).symm
    subst ec
    rw [more]
    exact hs _ _ _ _ split p
/-- for c in x, x a text -/
theorem for_str {x : Str} {g : TG} {tb : TS} {D : Ends} {σ : L2.St} {H : Hp} (Pv : List Nat → L2.St → Hp → Prop) (h0 : Pv [] σ H)
    (hs : ∀ pre c post σ H, TL.tl x = pre ++ c :: post → Pv pre σ H → g (.str (sg c)) σ H fun σ2 H2 => tb { D with nx := Pv (pre ++ [c]), ct := Pv (pre ++ [c]), bk := D.nx } σ2 H2)
    (hd : ∀ σ H, Pv (TL.tl x) σ H → D.nx σ H) :
    ∃ W : Nat → Nat → L2.St → Hp → Prop, (∃ m, W 0 m σ H) ∧ ∀ i m σ H, W i m σ H →
      ((Its x).stop i H ∧ D.nx σ H) ∨ ((Its x).go i H ∧ ∃ N : L2.St → Hp → Prop, (∀ σ' H', N σ' H' → ∃ m', m' < m ∧ W (i + 1) m' σ' H') ∧ ∀ y H', (Its x).yld i H y H' → g y σ H' fun σ2 H2 => tb { D with nx := N, ct := N, bk := D.nx } σ2 H2) := by
  have hl : x.cps.size = (TL.tl x).length := TL.len_tl x
  refine ⟨fun i m σ H => i + m = (TL.tl x).length ∧ Pv ((TL.tl x).take i) σ H, ⟨_, Nat.zero_add _, h0⟩, ?_⟩
  rintro i m σ H ⟨em, p⟩
  cases m with
  | zero =>
    refine .inl ⟨by show x.cps.size ≤ i; omega, hd σ H ?_⟩
    rw [List.take_of_length_le (by omega)] at p
    exact p
  | succ m =>
    have hi : i < (TL.tl x).length := by omega
    have split : TL.tl x = (TL.tl x).take i ++ (TL.tl x)[i] :: (TL.tl x).drop (i + 1) := by
      rw [← List.drop_eq_getElem_cons hi, List.take_append_drop]
    have more : (TL.tl x).take (i + 1) = (TL.tl x).take i ++ [(TL.tl x)[i]] := List.take_succ_eq_append_getElem hi
    refine .inr ⟨by show i < x.cps.size; omega, Pv ((TL.tl x).take (i + 1)), fun σ' H' p' => ⟨m, Nat.lt_succ_self m, by omega, p'⟩, ?_⟩
    rintro y H' ⟨rfl, c, hc, rfl⟩
    have ec : c = (TL.tl x)[i] := by
      have : (TL.tl x)[i]? = some c := by
        show x.cps.toList[i]? = some c
        rw [Array.getElem?_toList]
        exact hc
      rw [List.getElem?_eq_getElem hi] at this
      exact (Option.some.inj this).symm
    subst ec
    rw [more]
    exact hs _ _ _ _ _ split p
theorem take_tw {p : Nat → Bool} {l : List Nat} {k : Nat} (h : ∀ c ∈ l.take k, p c = true) (e : ∀ c, l[k]? = some c → p c = false) (hk : k ≤ l.length) : l.takeWhile p = l.take k ∧ l.dropWhile p = l.drop k := by
  induction l generalizing k with
  | nil => simp
  | cons a r ih =>
    cases k with
    | zero =>
      have := e a rfl
      simp [this]
    | succ k =>
      have ha := h a (by simp)
      obtain ⟨h1, h2⟩ := ih (k := k) (fun c hc => h c (by simp [hc])) (fun c hc => e c (by simpa using hc)) (by simpa using hk)
      simp [ha, h1, h2]
/-! ### lists of texts, compared with the empty one -/
theorem dp_strs {K : PySem.W.Frag} {H : Hp} : ∀ ys : List Str, DpAll K H (ys.map V.str) (ys.map PyData.str)
  | [] => .nil
  | x :: r => .cons (.str x) (dp_strs r)
theorem shaped_strs {ys : List Str} (h : ∀ y ∈ ys, PyData.strOk y = true) : SeqAt.shaped (.list (ys.map PyData.str)) = true := by
  have h1 : ∀ l : List Str, (∀ y ∈ l, PyData.strOk y = true) → PyData.canLayAll0 (l.map PyData.str) = true := fun l => by
    induction l with
    | nil => exact fun _ => rfl
    | cons x r ih =>
      intro h
      rw [List.map_cons, PyData.canLayAll0, PyData.canLay0, h x List.mem_cons_self, Bool.true_and]
      exact ih fun y hy => h y (List.mem_cons_of_mem _ hy)
  have h2 : ∀ l : List Str, PyData.depthAll (l.map PyData.str) = 0 := fun l => by
    induction l with
    | nil => rfl
    | cons x r ih => simpa [PyData.depthAll, PyData.depth] using ih
  unfold SeqAt.shaped
  simp [PyData.canLay0, PyData.depth, h1 ys h, h2]
/-- a text of code points, if it is a text -/
def okS : PyData → Bool
  | .str x => PyData.strOk x
  | _ => true
theorem ok_sg {x : Str} {c : Nat} (h : PyData.strOk x = true) (hc : c ∈ TL.tl x) : PyData.strOk (sg c) = true := by
  unfold PyData.strOk at h ⊢
  rw [Array.all_eq_true'] at h
  have := h c (by simpa using hc)
  simpa using this
theorem eqv_strs_nil (ys : List Str) : PyData.eqv (.list (ys.map PyData.str)) (.list []) = decide (ys = []) := by
  cases ys with
  | nil => rfl
  | cons x r =>
    rw [decide_eq_false (by simp)]
    rfl
/-- the law's own helpers' promises -/
def spSplit : Sp := fun vs H Q _ => ∃ x : Str, vs = [.str x] ∧ x.length ≤ 100000 ∧ ∀ (p : Addr) (hs ts : Str), H p = none → TL.tl hs = (TL.tl x).takeWhile upB → TL.tl ts = (TL.tl x).dropWhile upB → Q (.ref p) (upd H p (.tup [.str hs, .str ts]))
def spLName (K : PySem.W.Frag) : Sp := fun vs H Q _ => ∃ v d, vs = [v] ∧ Th K H v d ∧ d.bulk ≤ 100000 ∧ okS d = true ∧ ∀ H', Same H H' → Q (.bl (dName d)) H'
def spLEnd (K : PySem.W.Frag) : Sp := fun vs H Q _ => ∃ v d x y a b, vs = [v, .str x, .str y] ∧ TL.tl x = [a] ∧ TL.tl y = [b] ∧ Th K H v d ∧ d.bulk ≤ 100000 ∧ okS d = true ∧ ∀ H', Same H H' → Q (.bl (dEnd (fun c => decide (a ≤ c) && decide (c ≤ b)) d)) H'
def spLPat (K : PySem.W.Frag) : Sp := fun vs H Q _ => ∃ v d, vs = [v] ∧ Th K H v d ∧ d.bulk ≤ 100000 ∧ (isTup d = true → SeqAt.shaped d = true) ∧ ∀ H', Same H H' → Q (.bl (dPat d)) H'
theorem th_same {K : PySem.W.Frag} {H H' : Hp} (s : Same H H') {v : V} {d : PyData} (h : Th K H v d) : Th K H' v d := by
  refine Th.rec (motive_1 := fun v d _ => Th K H' v d) (motive_2 := fun vs ds _ => ThAll K H' vs ds) ?_ ?_ ?_ ?_ ?_ ?_ ?_ ?_ ?_ h
  · exact .non
  · exact .bl
  · exact .int
  · exact .str
  · exact fun hs _ ih => .lst (s.seq hs) ih
  · exact fun hs _ ih => .tup (Same.seqT s hs) ih
  · exact fun hs _ ek ih => .dct (s _ _ hs) ih ek
  · exact .nil
  · exact fun _ _ i1 i2 => .cons i1 i2
theorem th_dp {K : PySem.W.Frag} {H : Hp} {v : V} {d : PyData} (h : Th K H v d) : d.canLay0 = true → Dp K H v d := by
  refine Th.rec (motive_1 := fun v d _ => d.canLay0 = true → Dp K H v d) (motive_2 := fun vs ds _ => PyData.canLayAll0 ds = true → DpAll K H vs ds) ?_ ?_ ?_ ?_ ?_ ?_ ?_ ?_ ?_ h
  · exact fun _ => .non
  · exact fun b _ => .bl b
  · exact fun i _ => .int i
  · exact fun x _ => .str x
  · exact fun hs _ ih c => .lst hs (ih (by simpa only [PyData.canLay0] using c))
  · exact fun hs _ ih c => .tup hs (ih (by simpa only [PyData.canLay0] using c))
  · exact fun _ _ _ _ c => by simp [PyData.canLay0] at c
  · exact fun _ => .nil
  · intro v vs d ds _ _ i1 i2 c
    have c2 : d.canLay0 = true ∧ PyData.canLayAll0 ds = true := by simpa only [PyData.canLayAll0, Bool.and_eq_true] using c
    exact .cons (i1 c2.1) (i2 c2.2)
theorem ok_of_lay {d : PyData} (h : d.canLay0 = true) : okS d = true := by
  cases d with
  | str x => exact h
  | _ => rfl
theorem eqv_empty (d : PyData) : PyData.eqv d (.str "") = isE d := by
  cases d with
  | str x =>
    show (x == ("" : Str)) = decide (x = "")
    rw [Bool.eq_iff_iff, beq_iff_eq, decide_eq_true_iff]
  | _ => rfl
/-- ''.join([pick(pot, letters) for lap in range(below(pot, n))]), the letters a list that stands -/
theorem word_readT {K : PySem.W.Frag} {p c : Addr} {σ : L2.St} {H : Hp} {n : Int} {iv : Nat} {letters : List Str} {te : TE} {Q : VK}
    (hte : ∀ (H' : Hp) (v : Option V) (Q : VK), Ext p c H H' → (∀ (l : Addr), SqL K H' l (letters.map V.str) → l ≠ p → Q (.ref l) H') → te ((wipe σ [iv]).set iv v) H' Q) (hne : 0 < letters.length) (hle : letters.length ≤ 1000)
    (h1 : ∀ y ∈ letters, (TL.tl y).length ≤ 1) (hσ : σ[0]? = some (some (.ref p))) (hσ2 : ∀ v : Option V, ((wipe σ [iv]).set iv v)[0]? = some (some (.ref p))) (hw : ∀ v : Option V, wipe ((wipe σ [iv]).set iv v) [iv] = wipe σ [iv])
    (hP : PotAt p c H) (hn : 0 < n) (hn2 : n ≤ 1000) (k : ∀ (ys : List Str) (H' : Hp), (∀ y ∈ ys, y ∈ letters) → (ys.length : Int) < n → Ext p c H H' → Q (.str (Txt.join "" ys)) H') :
    tM1 (fun x xs H Q => ∃ a p, ∃ ys : List Str, x = .str a ∧ xs = [.ref p] ∧ (SqL K H p (ys.map V.str) ∨ SqT K H p (ys.map V.str)) ∧ (ys.map (·.length)).sum + ys.length * a.length ≤ 16777216 ∧ Q (.str (Txt.join a ys)) H)
      (tC (.str "")) (tLc (iRng1 (tCons (tCall spBelow [] E0 (tCons (tVar 0) (tCons (tC (.int n)) tNil))) tNil)) (gName iv) tYes (tCall (spPick K) [] E0 (tCons (tVar 0) (tCons te tNil))) [iv]) σ H Q := by
  refine ⟨⟨_, rfl⟩, _, hσ, p, c, n, rfl, hP, hn, by omega, fun r H1 r0 r1 e1 => ⟨r, rfl, by omega, by omega, fun D nD => ?_⟩⟩
  have nD0 := e1.free nD
  have nDp : D ≠ p := hP.nep nD0
  refine lc_range (lo := 0) (n := r.toNat) (fun i H' => Ext p c H H' ∧ ∃ ys : List Str, H' D = some (.lst (ys.map V.str)) ∧ ys.length = i ∧ ∀ y ∈ ys, y ∈ letters) ⟨e1.mut hP nD0, [], upd_same, rfl, fun y h => nomatch h⟩ ?_ ?_
  · rintro i H2 hi ⟨e2, ys, hD, hl, hy⟩
    refine ⟨hw _, _, hσ2 _, hte _ _ _ e2 fun l hS nl => ?_⟩
    refine ⟨p, c, l, letters.map V.str, rfl, e2.pot, hS, nl, by rw [List.length_map]; exact hne, by rw [List.length_map]; exact hle, fun v H3 hv e3 => ?_⟩
    obtain ⟨y, my, rfl⟩ := List.mem_map.mp hv
    have e4 := e2.trans e3
    have hD3 : H3 D = some (.lst (ys.map V.str)) := e3.get hD nDp
    refine ⟨_, hD3, by rw [List.length_map, hl]; exact small1000 (by omega), e4.mut hP nD0, ys ++ [y], by rw [upd_same, List.map_append]; rfl, by rw [List.length_append, hl]; rfl, fun z hz => ?_⟩
    rcases List.mem_append.mp hz with hz | hz
    · exact hy z hz
    · rw [List.mem_singleton.mp hz]
      exact my
  · rintro H2 ⟨e2, ys, hD, hl, hy⟩
    have hs : (ys.map (·.length)).sum ≤ ys.length * 1 := sum_len_le fun y h => by
      rw [TL.len_tl]
      exact h1 y (hy y h)
    exact ⟨"", D, ys, rfl, rfl, .inl (SqL.of hD), by
      show (ys.map (·.length)).sum + ys.length * 0 ≤ 16777216
      omega, k ys H2 hy (by omega) e2⟩
def spSome : Sp := fun vs H Q _ => ∃ (p c : Addr), vs = [.ref p] ∧ PotAt p c H ∧ ∀ (z : Str) (H' : Hp), z.length ≤ 6 → PyData.strOk z = true → Ext p c H H' → Q (.str z) H'
theorem ok_of_all {z : Str} (h : ∀ c ∈ TL.tl z, c < 1114112) : PyData.strOk z = true := by
  unfold PyData.strOk
  rw [Array.all_eq_true']
  intro c hc
  exact decide_eq_true (h c (by simpa using hc))
theorem Nm.ok {z : Str} {h t : List Nat} (n : Nm z h t) : PyData.strOk z = true := ok_of_all fun c hc => by
  rw [n.e] at hc
  rcases List.mem_append.mp hc with hc | hc
  · have := (n.up c hc).2
    omega
  · have := (n.lo c hc).2
    omega
theorem Nm.len {z : Str} {h t : List Nat} (n : Nm z h t) : z.length ≤ 6 := by
  rw [TL.len_tl, n.e, List.length_append]
  have := n.lh
  have := n.lt
  omega
end Lk

/-! Mak0 -/
set_option Elab.async false
set_option maxRecDepth 100000
set_option linter.all false
set_option maxHeartbeats 4000000
namespace Lk
open PySem PySem.Spec PyProof.Rows L2

/-! ### text * int -/
theorem rep_fold (a : Array Nat) : ∀ (k : Nat) (acc : Array Nat), ((List.replicate k a).foldl (· ++ ·) acc).toList = acc.toList ++ (List.replicate k a.toList).flatten
  | 0, acc => by simp
  | k + 1, acc => by
    rw [List.replicate_succ, List.foldl_cons, rep_fold a k, List.replicate_succ, List.flatten_cons, Array.toList_append, List.append_assoc]
def rStrRep : R2 := fun x y H Q => ∃ (a : Str) (k : Nat), x = .str a ∧ y = .int (k : Int) ∧ 2 ≤ k ∧ k ≤ 5000 ∧ a.length ≤ 1000 ∧ ∀ z : Str, TL.tl z = (List.replicate k (TL.tl a)).flatten → Q (.str z) H
theorem op_strRep {X : Cx} : OpR X (binaryOp .Mult) rStrRep := by
  intro pins s σ H x y v u Q I rx ry h
  obtain ⟨a, k, rfl, rfl, k1, k2, ha, q⟩ := h
  obtain ⟨t, rfl⟩ := rx
  obtain ⟨t', rfl⟩ := ry
  have hm : a.length * k ≤ 5000000 := by
    have := Nat.mul_le_mul ha k2
    omega
  have hl := TL.len_tl a
  have long : Builtin.Str.tooLong (a.length * k) = false := by
    unfold Builtin.Str.tooLong
    refine decide_eq_false (Nat.not_lt.mpr (Nat.le_trans hm ?_))
    decide
  refine PySem.P.mul_str (by rw [decide_eq_false (by omega), decide_eq_false (by omega)]; rfl) (fun _ _ => ?_) (fun _ _ => by rw [Int.toNat_natCast]; exact long) ?_
  · refine Int.not_lt.mpr (Int.le_ediv_of_mul_le (by omega) ?_)
    have : ((a.length * k : Nat) : Int) = (a.length : Int) * (k : Int) := Int.natCast_mul _ _
    omega
  · rw [if_neg (by omega), Int.toNat_natCast]
    have big : ((k : Int) == 1) = false := beq_eq_false_iff_ne.mpr (by omega)
    rw [big, Bool.false_or]
    by_cases h0 : a.length = 0
    · rw [if_pos (beq_iff_eq.mpr h0)]
      have e0 : TL.tl a = [] := List.length_eq_zero_iff.mp (by omega)
      exact ⟨.str a, H, I, ⟨_, rfl⟩, q a (by rw [e0]; simp)⟩
    · rw [if_neg (by rw [beq_iff_eq]; exact h0)]
      have e : TL.tl ⟨(List.replicate k a.cps).foldl (· ++ ·) #[]⟩ = (List.replicate k (TL.tl a)).flatten := by
        show ((List.replicate k a.cps).foldl (· ++ ·) #[]).toList = _
        rw [rep_fold, List.nil_append]
      refine ⟨?_, .str _, H, I.tok _, ⟨_, rfl⟩, q _ e⟩
      rw [TL.len_tl, e, List.length_flatten, List.map_replicate, List.sum_replicate_nat, ← hl, Nat.mul_comm]
      exact Nat.le_trans hm (by decide)

/-! ### made data: an expression's reading gives data, and only adds to the heap -/
def Mk1 (K : PySem.W.Frag) (te : TE) (σ : L2.St) (H0 : Hp) (d : PyData) : Prop := ∀ H, Same H0 H → ∀ Q : VK, (∀ v H', Same H H' → Th K H' v d → Q v H') → te σ H Q
def MkA (K : PySem.W.Frag) (ta : TA) (σ : L2.St) (H0 : Hp) (ds : List PyData) : Prop := ∀ H, Same H0 H → ∀ Q : List V → Hp → Prop, (∀ vs H', Same H H' → ThAll K H' vs ds → Q vs H') → ta σ H Q
/-- .. gives a list that stands by itself -/
def MkL (K : PySem.W.Frag) (te : TE) (σ : L2.St) (H0 : Hp) (ds : List PyData) : Prop := ∀ H, Same H0 H → ∀ Q : VK, (∀ p xs H', Same H H' → H' p = some (.lst xs) → ThAll K H' xs ds → Q (.ref p) H') → te σ H Q
section
variable {K : PySem.W.Frag} {σ : L2.St} {H0 : Hp} {te tf : TE} {ta : TA} {d e : PyData} {ds es : List PyData}
theorem thAll_same {H H' : Hp} (s : Same H H') : ∀ {vs : List V} {ds : List PyData}, ThAll K H vs ds → ThAll K H' vs ds
  | _, _, .nil => .nil
  | _, _, .cons h t => .cons (th_same s h) (thAll_same s t)
theorem thAll_app {H : Hp} : ∀ {vs ws : List V} {ds es : List PyData}, ThAll K H vs ds → ThAll K H ws es → ThAll K H (vs ++ ws) (ds ++ es)
  | _, _, _, _, .nil, h => h
  | _, _, _, _, .cons h t, g => .cons h (thAll_app t g)
theorem mk_var {i : Nat} {v : V} (h : σ[i]? = some (some v)) (t : Th K H0 v d) : Mk1 K (tVar i) σ H0 d := fun H s Q q => ⟨v, h, q v H (Same.refl H) (th_same s t)⟩
theorem mk_non : Mk1 K (tC .non) σ H0 .none := fun H _ Q q => q _ H (Same.refl H) .non
theorem mk_int {i : Int} : Mk1 K (tC (.int i)) σ H0 (.int i) := fun H _ Q q => q _ H (Same.refl H) (.int i)
theorem mk_bl {b : Bool} : Mk1 K (tC (.bl b)) σ H0 (.bool b) := fun H _ Q q => q _ H (Same.refl H) (.bl b)
theorem mk_str {x : Str} : Mk1 K (tC (.str x)) σ H0 (.str x) := fun H _ Q q => q _ H (Same.refl H) (.str x)
theorem mk_nil : MkA K tNil σ H0 [] := fun H _ Q q => q _ H (Same.refl H) .nil
theorem mk_cons (h : Mk1 K te σ H0 d) (t : MkA K ta σ H0 ds) : MkA K (tCons te ta) σ H0 (d :: ds) := fun H s Q q =>
  h H s _ fun v H1 s1 h1 => t H1 (s.trans s1) _ fun vs H2 s2 h2 => q _ H2 (s1.trans s2) (.cons (th_same s2 h1) h2)
theorem mk_tup (h : MkA K ta σ H0 ds) (hl : ds.length ≤ 1000) : Mk1 K (tTup ta) σ H0 (.tuple ds) := fun H s Q q =>
  h H s _ fun vs H1 s1 h1 => ⟨by rw [thAll_len h1]; exact Nat.le_of_lt (small1000 hl), fun p np => q _ _ (s1.trans (same_upd np)) (.tup (.inl (.inl upd_same)) (thAll_same (same_upd np) h1))⟩
theorem mk_lstL (h : MkA K ta σ H0 ds) (hl : ds.length ≤ 1000) : MkL K (tLst ta) σ H0 ds := fun H s Q q =>
  h H s _ fun vs H1 s1 h1 => ⟨by rw [thAll_len h1]; exact Nat.le_of_lt (small1000 hl), fun p np => q _ _ _ (s1.trans (same_upd np)) upd_same (thAll_same (same_upd np) h1)⟩
theorem MkL.mk (h : MkL K te σ H0 ds) : Mk1 K te σ H0 (.list ds) := fun H s Q q => h H s _ fun p xs H1 s1 e h1 => q _ H1 s1 (.lst (SqL.of e) h1)
theorem mk_lst (h : MkA K ta σ H0 ds) (hl : ds.length ≤ 1000) : Mk1 K (tLst ta) σ H0 (.list ds) := (mk_lstL h hl).mk
theorem mk_varL {i : Nat} {p : Addr} {xs : List V} (h : σ[i]? = some (some (.ref p))) (e : H0 p = some (.lst xs)) (t : ThAll K H0 xs ds) : MkL K (tVar i) σ H0 ds := fun H s Q q => ⟨_, h, q p xs H (Same.refl H) (s _ _ e) (thAll_same s t)⟩
theorem mk_cat (h : MkL K te σ H0 ds) (g : MkL K tf σ H0 es) (hl : ds.length + es.length ≤ 1000) : MkL K (tOp rCat te tf) σ H0 (ds ++ es) := fun H s Q q =>
  h H s _ fun p xs H1 s1 e1 h1 => g H1 (s.trans s1) _ fun r ys H2 s2 e2 h2 => ⟨p, r, xs, ys, rfl, rfl, s2 _ _ e1, e2, by rw [thAll_len h1, thAll_len h2]; exact Nat.le_of_lt (small1000 hl), fun l nl =>
    q l _ _ ((s1.trans s2).trans (same_upd nl)) upd_same (thAll_same (same_upd nl) (thAll_app (thAll_same s2 h1) h2))⟩
theorem mk_dict0 : Mk1 K tDNewK σ H0 (.dict []) := fun H _ Q q p np => q _ _ (same_upd np) (.dct upd_same .nil rfl)
theorem mk_dict1 {x y : Str} {i j : Nat} (hi : σ[i]? = some (some (.str x))) (hj : σ[j]? = some (some (.str y))) : Mk1 K (tDisp [(tVar i, tVar j)]) σ H0 (.dict [(.str x, .str y)]) := fun H _ Q q p np =>
  ⟨_, hi, _, hj, upd_same, [(Sum.inr x, .str y)], rfl, (by show 1 ≤ 15; decide), q _ _ (by rw [upd_upd]; exact same_upd np) (.dct upd_same (.cons (.str y) .nil) rfl)⟩
theorem mk_addstr {i j : Nat} {x y : Str} (hi : σ[i]? = some (some (.str x))) (hj : σ[j]? = some (some (.str y))) (hl : x.length + y.length ≤ 1000) :
    Mk1 K (tOp (fun x y H Q => ∃ i j, x = .str i ∧ y = .str j ∧ i.length + j.length ≤ sizeLine ∧ Q (.str (i ++ j)) H) (tVar i) (tVar j)) σ H0 (.str (x ++ y)) := fun H _ Q q =>
  ⟨_, hi, _, hj, x, y, rfl, rfl, Nat.le_of_lt (small1000 hl), q _ H (Same.refl H) (.str _)⟩
end
end Lk

/-! Siz0 -/
set_option Elab.async false
set_option maxRecDepth 100000
set_option linter.all false
set_option maxHeartbeats 4000000
namespace Lk
open PySem PySem.Spec PyProof.Rows L2
/-- data without dicts: how large, how deep -/
structure Sz (n k : Nat) (d : PyData) : Prop where
  sh : d.showable = true
  lv : d.leavesShort 13 = true
  bk : d.bulk ≤ n
  dp : d.depth ≤ k
  cl : d.canLay0 = true
theorem Sz.mono {n k m j : Nat} {d : PyData} (h : Sz n k d) (h1 : n ≤ m) (h2 : k ≤ j) : Sz m j d := ⟨h.sh, h.lv, Nat.le_trans h.bk h1, Nat.le_trans h.dp h2, h.cl⟩
theorem Sz.str {n : Nat} {x : Str} (hl : x.length ≤ n) (ho : PyData.strOk x = true) : Sz n 0 (.str x) := by
  refine ⟨rfl, ?_, hl, Nat.le_refl _, ho⟩
  unfold PyData.strOk at ho
  rw [Array.all_eq_true'] at ho
  show (x.cps.toList.all fun c => decide (c < 16 ^ 8)) = true
  rw [List.all_eq_true]
  intro c hc
  have := of_decide_eq_true (ho c (by simpa using hc))
  exact decide_eq_true (Nat.lt_trans this (by decide))
theorem Sz.none {n k : Nat} : Sz n k .none := ⟨rfl, rfl, Nat.zero_le _, Nat.zero_le _, rfl⟩
theorem Sz.bool {n k : Nat} (b : Bool) : Sz n k (.bool b) := ⟨rfl, rfl, Nat.zero_le _, Nat.zero_le _, rfl⟩
theorem Sz.zero {n k : Nat} : Sz n k (.int 0) := ⟨rfl, by decide +kernel, Nat.zero_le _, Nat.zero_le _, rfl⟩
theorem sz_all {n k : Nat} : ∀ {ds : List PyData}, (∀ d ∈ ds, Sz n k d) → PyData.showableAll ds = true ∧ PyData.leavesShortAll 13 ds = true ∧ PyData.bulkAll ds ≤ ds.length * (n + 1) ∧ PyData.depthAll ds ≤ k ∧ PyData.canLayAll0 ds = true
  | [], _ => ⟨rfl, rfl, Nat.zero_le _, Nat.zero_le _, rfl⟩
  | d :: r, h => by
    obtain ⟨h1, h2, h3, h4, h5⟩ := sz_all (ds := r) fun e he => h e (List.mem_cons_of_mem _ he)
    have hd := h d List.mem_cons_self
    refine ⟨?_, ?_, ?_, ?_, ?_⟩
    · rw [PyData.showableAll, hd.sh, h1]; rfl
    · rw [PyData.leavesShortAll, hd.lv, h2]; rfl
    · have := hd.bk
      rw [PyData.bulkAll, List.length_cons, Nat.succ_mul]
      omega
    · rw [PyData.depthAll]
      exact Nat.max_le.mpr ⟨hd.dp, h4⟩
    · rw [PyData.canLayAll0, hd.cl, h5]; rfl
theorem Sz.tuple {n k m : Nat} {ds : List PyData} (h : ∀ d ∈ ds, Sz n k d) (hm : ds.length * (n + 1) ≤ m) : Sz m (k + 1) (.tuple ds) := by
  obtain ⟨h1, h2, h3, h4, h5⟩ := sz_all h
  exact ⟨by simpa only [PyData.showable] using h1, by simpa only [PyData.leavesShort] using h2, by simpa only [PyData.bulk] using Nat.le_trans h3 hm, by simp only [PyData.depth]; omega, by simpa only [PyData.canLay0] using h5⟩
theorem Sz.list {n k m : Nat} {ds : List PyData} (h : ∀ d ∈ ds, Sz n k d) (hm : ds.length * (n + 1) ≤ m) : Sz m (k + 1) (.list ds) := by
  obtain ⟨h1, h2, h3, h4, h5⟩ := sz_all h
  exact ⟨by simpa only [PyData.showable] using h1, by simpa only [PyData.leavesShort] using h2, by simpa only [PyData.bulk] using Nat.le_trans h3 hm, by simp only [PyData.depth]; omega, by simpa only [PyData.canLay0] using h5⟩
/-- what the law's functions ask of a thing -/
structure Okd (d : PyData) : Prop where
  wf : Wf d
  bk : d.bulk ≤ 100000
  os : okS d = true
  sh : isTup d = true → SeqAt.shaped d = true
theorem Sz.okd {n k : Nat} {d : PyData} (h : Sz n k d) (hn : n ≤ 100000) (hk : k ≤ 60) : Okd d := by
  have hb : d.bulk ≤ 100000 := Nat.le_trans h.bk hn
  have hd : d.depth ≤ 60 := Nat.le_trans h.dp hk
  refine ⟨⟨h.sh, h.lv, by omega, hd, .inl (PyData.hasDict_of_canLay d h.cl)⟩, hb, ok_of_lay h.cl, fun _ => ?_⟩
  unfold SeqAt.shaped
  rw [h.cl, decide_eq_true (by omega)]
  rfl
theorem okd_dict0 : Okd (.dict []) := ⟨⟨by decide +kernel, by decide +kernel, by decide +kernel, by decide +kernel, .inr (by decide +kernel)⟩, by decide +kernel, rfl, fun h => nomatch h⟩
theorem okd_dict1 {x y : Str} (hx : Sz 1000 0 (.str x)) (hy : Sz 1000 0 (.str y)) : Okd (.dict [(.str x, .str y)]) := by
  have e1 := hx.lv
  have e2 := hy.lv
  have b1 := hx.bk
  have b2 := hy.bk
  refine ⟨⟨rfl, ?_, ?_, (by show 1 + max (max 0 0) 0 ≤ 60; decide), .inr rfl⟩, ?_, rfl, fun h => nomatch h⟩
  · simp [PyData.leavesShort, PyData.leavesShortKv] at e1 e2 ⊢
    exact ⟨e1, e2⟩
  · simp only [PyData.bulk, PyData.bulkKv] at b1 b2 ⊢
    omega
  · simp only [PyData.bulk, PyData.bulkKv] at b1 b2 ⊢
    omega
theorem wf_b3 (a b c : Bool) : Wf (.tuple [.bool a, .bool b, .bool c]) := by
  have h : Sz 1000 1 (.tuple [.bool a, .bool b, .bool c]) := Sz.tuple (n := 0) (k := 0) (fun d hd => by
    simp only [List.mem_cons, List.mem_nil_iff, or_false] at hd
    rcases hd with rfl | rfl | rfl <;> exact Sz.bool _) (by show 3 * 1 ≤ 1000; decide)
  exact (h.okd (by decide) (by decide)).wf
def spLaw (K : PySem.W.Frag) : Sp := fun vs H Q _ => ∃ (a : Addr) (ns : List Int), vs = [.ref a] ∧ SqL K H a (ns.map V.int) ∧ ns.length ≤ 63 ∧ ∀ H', Q (.bl true) H'
/-- a law's def, nothing raised -/
theorem mkCalG0 {P : Program} {w : World} {K : PySem.W.Frag} {mg : Str → Option Value} {base : Heap} {x : String} {st : Stmt} {N ps : List Str} {k : Nat} {sp : Sp} (D : Def1 K mg x st) (S : FnScope N ps (defScope st))
    (hb : ∀ (kV doc pm : Value) (an : Option Addr) (cdv ct : Value) (us : List Value), us.length = ps.length → bindArgs (PySem.W.fnOf x x (defArgs st) (defBody st) (defScope st) .none kV doc pm an cdv ct) ⟨us, []⟩ = pure (ps.zip us))
    (len : ∀ vs H Q E, sp vs H Q E → vs.length = ps.length)
    (body : ∀ (f : Addr) (cdv : Value) (A : Around) (above : List Env) (s : Shared) (H : Hp) (vs : List V) (Q : VK) (E : XK), Room k (A.deeper (envOfC x (defScope st) s.heap.objs.size f cdv)) →
      (A.deeper (envOfC x (defScope st) s.heap.objs.size f cdv)).guards = some [] → sp vs H Q E →
      ∃ t, PSs (cxOf CX0 P w K mg base N x (defScope st) f cdv A above s H E).nox (defBody st) t ∧ t { nx := fun _ H' => Q .non H', rt := Q } (start N vs) H) : CalG P w K mg base CX0 (k + 1) x sp :=
  mkCalG D S hb len fun f cdv A above s H vs Q E hr hg h => by
    obtain ⟨t, ht, q⟩ := body f cdv A above s H vs Q E hr hg h
    exact ⟨t, ht.nox, q⟩
theorem iteF' {b : Bool} {A B : Prop} (hb : b = false) (h : B) : if b = true then A else B := by
  rw [hb]
  exact iteF h
theorem iteT' {b : Bool} {A B : Prop} (hb : b = true) (h : A) : if b = true then A else B := by
  rw [hb]
  exact iteT h
/-! ### stores and loops over made data -/
section
variable {K : PySem.W.Frag} {σ : L2.St} {H : Hp} {te : TE} {g : TG} {t : TS} {D : Ends} {ds : List PyData}
theorem set_mkL (h : MkL K te σ H ds) (q : ∀ p xs H', Same H H' → H' p = some (.lst xs) → ThAll K H' xs ds → g (.ref p) σ H' (t D)) : tSeq (tAsg te g) t D σ H := h H (Same.refl H) _ q
theorem thAll_get : ∀ {xs : List V} {ds : List PyData} {i : Nat} {x : V}, ThAll K H xs ds → xs[i]? = some x → ∃ d, d ∈ ds ∧ Th K H x d
  | _, _, _, _, .nil, h => by simp at h
  | _, _, 0, _, .cons h _, e => by
    simp at e
    subst e
    exact ⟨_, List.mem_cons_self, h⟩
  | _, _, i + 1, x, .cons _ tl, e => by
    obtain ⟨d, m, h⟩ := thAll_get (i := i) (x := x) tl (by simpa using e)
    exact ⟨d, List.mem_cons_of_mem _ m, h⟩
def zrep (k : Nat) (x : Str) : Str := ⟨((List.replicate k (TL.tl x)).flatten).toArray⟩
theorem tl_zrep (k : Nat) (x : Str) : TL.tl (zrep k x) = (List.replicate k (TL.tl x)).flatten := rfl
theorem mk_rep {i k : Nat} {x : Str} (h : σ[i]? = some (some (.str x))) (k1 : 2 ≤ k) (k2 : k ≤ 5000) (hx : x.length ≤ 1000) : Mk1 K (tOp rStrRep (tVar i) (tC (.int (k : Int)))) σ H (.str (zrep k x)) := fun H1 _ Q q =>
  ⟨_, h, x, k, rfl, rfl, k1, k2, hx, fun z e => by
    have : z = zrep k x := TL.ext_tl e
    subst this
    exact q _ H1 (Same.refl H1) (.str _)⟩
theorem ok_cut {z : Str} {lo hi : Option Int} (h : PyData.strOk z = true) : PyData.strOk (cutS z lo hi) = true := by
  refine ok_of_all fun c hc => ?_
  have hc2 : c ∈ TL.tl z := (List.drop_sublist _ _).subset ((List.take_sublist _ _).subset hc)
  unfold PyData.strOk at h
  rw [Array.all_eq_true'] at h
  exact of_decide_eq_true (h c (by simpa using hc2))
theorem ok_sub {z y : Str} (h : PyData.strOk z = true) (hs : ∀ c ∈ TL.tl y, c ∈ TL.tl z) : PyData.strOk y = true := by
  refine ok_of_all fun c hc => ?_
  unfold PyData.strOk at h
  rw [Array.all_eq_true'] at h
  exact of_decide_eq_true (h c (by simpa using hs c hc))
theorem ok_rep {k : Nat} {x : Str} (h : PyData.strOk x = true) : PyData.strOk (zrep k x) = true := ok_sub h fun c hc => by
  rw [tl_zrep] at hc
  obtain ⟨l, hl, hc⟩ := List.mem_flatten.mp hc
  rw [(List.mem_replicate.mp hl).2] at hc
  exact hc
theorem ok_add {x y : Str} (h : PyData.strOk x = true) (g : PyData.strOk y = true) : PyData.strOk (x ++ y) = true := by
  refine ok_of_all fun c hc => ?_
  unfold PyData.strOk at h g
  rw [Array.all_eq_true'] at h g
  rw [TL.tl_append] at hc
  rcases List.mem_append.mp hc with hc | hc
  · exact of_decide_eq_true (h c (by simpa using hc))
  · exact of_decide_eq_true (g c (by simpa using hc))
theorem len_add (x y : Str) : (x ++ y).length = x.length + y.length := strLen_append x y
theorem len_rep (k : Nat) (x : Str) : (zrep k x).length = k * x.length := by
  rw [TL.len_tl, tl_zrep, List.length_flatten, List.map_replicate, List.sum_replicate_nat, TL.len_tl x]
end
theorem nmB_app {u l : List Nat} (hu : u.all upB = true) (hl : l.all loB = true) (ne : u ++ l ≠ []) : nmB (u ++ l) = true := by
  have e : (u ++ l).dropWhile upB = l := by
    have e1 : ∀ u : List Nat, u.all upB = true → (u ++ l).dropWhile upB = l.dropWhile upB := fun u => by
      induction u with
      | nil => exact fun _ => rfl
      | cons c r ih =>
        intro h
        rw [List.all_cons, Bool.and_eq_true] at h
        rw [List.cons_append, List.dropWhile_cons, if_pos h.1]
        exact ih h.2
    rw [e1 u hu]
    cases l with
    | nil => rfl
    | cons c r =>
      rw [List.all_cons, Bool.and_eq_true] at hl
      have : upB c = false := by
        have h1 := hl.1
        simp only [loB, Bool.and_eq_true, decide_eq_true_eq] at h1
        simp only [upB, Bool.and_eq_false_iff, decide_eq_false_iff_not]
        omega
      rw [List.dropWhile_cons, if_neg (by rw [this]; exact Bool.false_ne_true)]
  unfold nmB
  rw [e, hl, Bool.and_true]
  cases q : u ++ l with
  | nil => exact absurd q ne
  | cons c r => rfl
theorem nmB_bad {u : List Nat} {c : Nat} (hu : u.all upB = true) (h1 : upB c = false) (h2 : loB c = false) : nmB (u ++ [c]) = false := by
  have e : (u ++ [c]).dropWhile upB = [c] := by
    induction u with
    | nil => rw [List.nil_append, List.dropWhile_cons, if_neg (by rw [h1]; exact Bool.false_ne_true)]
    | cons d r ih =>
      rw [List.all_cons, Bool.and_eq_true] at hu
      rw [List.cons_append, List.dropWhile_cons, if_pos hu.1]
      exact ih hu.2
  unfold nmB
  rw [e, List.all_cons, h2, Bool.false_and, Bool.and_false]
theorem all_rep {k c : Nat} {x : Str} (p : Nat → Bool) (hx : TL.tl x = [c]) (hc : p c = true) : (TL.tl (zrep k x)).all p = true := by
  rw [tl_zrep, hx, List.all_eq_true]
  intro d hd
  obtain ⟨l, hl, hd⟩ := List.mem_flatten.mp hd
  rw [(List.mem_replicate.mp hl).2] at hd
  rw [List.mem_singleton.mp hd]
  exact hc
/-- for x in e, e a list of made data -/
theorem for_mkL {K K' : PySem.W.Frag} {σ : L2.St} {H : Hp} {te : TE} {g : TG} {tb : TS} {D : Ends} {ds : List PyData} (h : MkL K te σ H ds)
    (q : ∀ (L : Addr) (xs : List V) (H' : Hp), Same H H' → H' L = some (.lst xs) → ThAll K H' xs ds → ∃ Pv : Nat → L2.St → Hp → Prop, Pv 0 σ H' ∧ (∀ i σ H2, Pv i σ H2 → H2 L = some (.lst xs)) ∧
      (∀ (i : Nat) (x : V) (d : PyData) (σ : L2.St) (H2 : Hp), d ∈ ds → Th K H' x d → Pv i σ H2 → g x σ H2 fun σ2 H3 => tb { D with nx := Pv (i + 1), ct := Pv (i + 1), bk := D.nx } σ2 H3) ∧ ∀ σ H2, Pv xs.length σ H2 → D.nx σ H2) :
    tFor (iList K' te) g tb D σ H := h H (Same.refl H) _ fun L xs H' s e t => by
  obtain ⟨Pv, p0, pl, ps, pd⟩ := q L xs H' s e t
  exact ⟨L, rfl, ⟨_, SqL.of e⟩, for_list (K := K') (a := L) (xs := xs) Pv p0 (fun i σ H2 _ p => SqL.of (pl i σ H2 p)) (fun i x σ H2 hx p => by
    obtain ⟨d, hd, ht⟩ := thAll_get t hx
    exact ps i x d σ H2 hd ht p) pd⟩
theorem or_pat {K : PySem.W.Frag} {σ : L2.St} {H : Hp} {i : Nat} {v : V} {d : PyData} {Q : VK} (hv : σ[i]? = some (some v)) (th : Th K H v d) (ok : Okd d) (h : ∀ H', Same H H' → Q (.bl (dName d || dPat d)) H') :
    if dName d = true then Q (.bl true) H else tCall (spLPat K) [] E0 (tCons (tVar i) tNil) σ H Q := by
  cases e : dName d with
  | true =>
    rw [e, Bool.true_or] at h
    exact iteT (h H (Same.refl H))
  | false =>
    rw [e, Bool.false_or] at h
    exact iteF ⟨v, hv, v, d, rfl, th, ok.bk, ok.sh, h⟩
theorem mkFnG {P : Program} {w : World} {K : PySem.W.Frag} {mg : Str → Option Value} {base : Heap} {CX : CXT} {x : String} {st : Stmt} {f : Addr} {fd : FuncData} {N ps : List Str} {k : Nat} {sp : Sp} (F : L2.Fun K x x st f fd) (S : FnScope N ps (defScope st))
    (len : ∀ vs H Q E, sp vs H Q E → vs.length = ps.length)
    (body : ∀ (cdv : Value) (A : Around) (above : List Env) (s : Shared) (H : Hp) (vs : List V) (Q : VK) (E : XK), Room k (A.deeper (envOfC x (defScope st) s.heap.objs.size f cdv)) →
      (A.deeper (envOfC x (defScope st) s.heap.objs.size f cdv)).guards = some [] → sp vs H Q E →
      ∃ t, PSs (cxOf CX P w K mg base N x (defScope st) f cdv A above s H E) (defBody st) t ∧ t { nx := fun _ H' => Q .non H', rt := Q } (start N vs) H) : FnG P w K mg base CX (k + 1) f fd ps sp := by
  obtain ⟨oc, od, kV, doc, pm, an, cdv, ct, sl, rfl, lk, hcd⟩ := F.ex
  exact fnG_of lk hcd S len fun A above s H vs Q E hr hg h => body cdv A above s H vs Q E hr hg h
theorem mkFnG0 {P : Program} {w : World} {K : PySem.W.Frag} {mg : Str → Option Value} {base : Heap} {x : String} {st : Stmt} {f : Addr} {fd : FuncData} {N ps : List Str} {k : Nat} {sp : Sp} (F : L2.Fun K x x st f fd) (S : FnScope N ps (defScope st))
    (len : ∀ vs H Q E, sp vs H Q E → vs.length = ps.length)
    (body : ∀ (cdv : Value) (A : Around) (above : List Env) (s : Shared) (H : Hp) (vs : List V) (Q : VK) (E : XK), Room k (A.deeper (envOfC x (defScope st) s.heap.objs.size f cdv)) →
      (A.deeper (envOfC x (defScope st) s.heap.objs.size f cdv)).guards = some [] → sp vs H Q E →
      ∃ t, PSs (cxOf CX0 P w K mg base N x (defScope st) f cdv A above s H E).nox (defBody st) t ∧ t { nx := fun _ H' => Q .non H', rt := Q } (start N vs) H) : FnG P w K mg base CX0 (k + 1) f fd ps sp :=
  mkFnG F S len fun cdv A above s H vs Q E hr hg h => by
    obtain ⟨t, ht, q⟩ := body cdv A above s H vs Q E hr hg h
    exact ⟨t, ht.nox, q⟩
end Lk

/-! Try0 -/
set_option Elab.async false
set_option maxRecDepth 100000
set_option linter.all false
set_option maxHeartbeats 4000000
namespace Lk
open PySem PySem.Spec PyProof.Rows L2

abbrev Suite := Addr → Value → Option Addr → TS
/-- the ends of a suite «as n»: behind it n's slot is empty -/
def endsAs (i : Nat) (D : Ends) : Ends := { nx := fun σ H => D.nx (σ.set i none) H, rt := D.rt, bk := fun σ H => D.bk (σ.set i none) H, ct := fun σ H => D.ct (σ.set i none) H }
/-- several clauses «except C as n», the same n: one of them takes what the body raises -/
def wAsL (K : PySem.W.Frag) (i : Nat) (D : Ends) : List (Value × Suite) → WX
  | [] => fun _ _ _ _ => False
  | (c, ts) :: more => fun cls d σ H => ∃ b, PySem.W.exmOne K cls c = some b ∧ (b = true → ∀ a, H a = none → ts a cls d (endsAs i D) (σ.set i (some (.ref a))) H) ∧ (b = false → wAsL K i D more cls d σ H)
inductive HdAs (X : Cx) (n : Str) : List ExceptHandler → List (Value × Suite) → Prop
  | none : HdAs X n [] []
  | more {x : Str} {c : Value} {ts : Suite} {st : Stmt} {sts : List Stmt} {p1 p2 : Pos} {hds : List ExceptHandler} {l : List (Value × Suite)} (names : Names X x c)
      (run : ∀ (a : Addr) (oe : Obj) (cls : Value) (d : Option Addr) (pn : List (Addr × Obj)), Zc cls d oe → (∃ vs, oe.data = .fields vs) → PSs (X.suite a ((a, oe) :: pn)) (st :: sts) (ts a cls d)) (rest : HdAs X n hds l) :
      HdAs X n (.ExceptHandler (some (.Name x p1)) (some n) (st :: sts) p2 :: hds) ((c, ts) :: l)
section
variable {X : Cx} {n : Str} {i : Nat} {body : List Stmt} {hd : ExceptHandler} {hds : List ExceptHandler} {l : List (Value × Suite)} {pos : Pos} {tb : WX → TS}
theorem ps_try_asL (top : X.stack = X.env :: X.outer) (fr : X.env.frame = some X.env.locals) (nd : X.N.Nodup) (slot : X.N[i]? = some n) (loc : X.env.kindOf n = some .local)
    (bodyOk : ∀ (W : WX) (pn : List (Addr × Obj)) (xe : Value → Shared → Prop), Takes (X.tr pn xe) W → PassesOwn (model X.prog X.w) X.A X.env xe → PSs (X.tr pn xe) body (tb W)) (clauses : HdAs X n (hd :: hds) l) :
    PS X (.Try body (hd :: hds) [] [] pos) (fun D σ H => tb (wAsL X.K i D l) D σ H) := by
  constructor
  intro pins s σ H D I rd
  have xok := I.ok
  have frames : X.A.frames = some (X.env :: X.outer) := xok.frames.trans (congrArg some top)
  apply wpAny_Try_except
  let caught : Value → Shared → Prop := fun e s₁ => wpAny (model X.prog X.w) X.A (noteFrame e X.env) (fun _ s₂ => wpAny (model X.prog X.w) X.A (setFlight e none) (fun _ s₃ => wpAny (model X.prog X.w) X.A (handleBy e X.env (hd :: hds)) (SP X pins D) X.xe s₃) X.xe s₂) X.xe s₁
  have takes : Takes (X.tr (X.pn ++ pins) caught) (wAsL X.K i D l) := by
    rintro u s1 ⟨a, B, sI, pins1, σ1, H1, cls, d, rfl, J0, nb, up, sky, fresh, os, ag, want⟩
    have J : Inv X pins σ1 H1 sI := J0.ofTry xok
    rw [show (X.tr (X.pn ++ pins) caught).stack = X.stack from rfl, top] at sky
    show wpAny (model X.prog X.w) X.A (noteFrame (.ref a) X.env) _ _ _
    apply Sky.land Zc.steady frames fr sky
    intro h2 fly up2
    have J2 : Inv X pins σ1 H1 { s1 with heap := h2 } := J.landed nb fly.1 (up.trans up2) os ag
    obtain ⟨o2, vs2, at2, z2, dat2⟩ := fly.there
    have apart : a ∉ frs (X.env :: X.outer) := by
      intro hm
      obtain ⟨_, o', e', hnf⟩ := fly.2.2.1.mem hm
      rw [at2] at e'
      cases e'
      exact hnf _ dat2
    have nL : a ≠ X.env.locals := by
      rintro rfl
      exact apart (List.mem_filterMap.mpr ⟨X.env, List.mem_cons_self, fr⟩)
    have nF : a ∉ X.fs := by
      intro hm
      obtain ⟨e, he, q⟩ := List.mem_filterMap.mp hm
      exact apart (List.mem_filterMap.mpr ⟨e, List.mem_cons_of_mem _ he, q⟩)
    have S2 := J2.suite at2 dat2 fresh nL nF
    have each : ∀ {hs : List ExceptHandler} {ls : List (Value × Suite)}, HdAs X n hs ls → wAsL X.K i D ls cls d σ1 H1 → wpAny (model X.prog X.w) X.A (handleBy (.ref a) X.env hs) (SP X pins D) X.xe { s1 with heap := h2 } := by
      intro hs ls hk
      induction hk with
      | none => exact fun w => w.elim
      | @more x c ts st sts p1 p2 hds2 l2 names run rest ih =>
        rintro ⟨b, matches_, yes, no⟩
        apply wpAny_handleBy_cons (codeAny_handlers_test ?_) (by intro q; cases q)
        have looksT : PySem.W.Looks (model X.prog X.w) h2 (typeOf (.ref a)) cls := fun A Q E s k q => wpAny_typeOf_ref (k _ _ at2) (by rw [z2.1]; exact q)
        have looksM := PySem.W.exm_one (M := model X.prog X.w) J2.kIn looksT matches_
        have named : ∀ {Q : Value → Shared → Prop} {E : Value → Shared → Prop}, Q c { s1 with heap := h2 } → wpAny (model X.prog X.w) (X.A.mark (some (.ref a))) (eval (.Name x p1) X.env) Q E { s1 with heap := h2 } := by
          intro Q E q
          rcases names with ⟨hg, hdbg, hm | ⟨hm, hv, hnn⟩⟩
          · exact ld_glob (X := X.suite a ((a, o2) :: (X.pn ++ pins))) S2 hg hm q hdbg
          · exact ld_blt (X := X.suite a ((a, o2) :: (X.pn ++ pins))) S2 hg hm hv q hnn hdbg
        apply named
        apply looksM.here
        match b, yes, no with
        | false, _, no => exact ih (no rfl)
        | true, yes, _ =>
          apply codeAny_handlers_suite_as
          apply HandSPX.lands_againZ fly
          intro h3 fly3 up3
          have J3 : Inv X pins σ1 H1 { s1 with heap := h3 } := J.landed nb fly3.1 ((up.trans up2).trans up3) os ag
          obtain ⟨o3, vs3, at3, z3, dat3⟩ := fly3.there
          have S3 := J3.suite at3 dat3 fresh nL nF
          apply store_ok (X := X.suite a ((a, o3) :: (X.pn ++ pins))) (v := .ref a) S3 nd slot (.inl loc) rfl (fun s4 S4 => ?_) (.inr loc)
          apply wpAny_mono ((run a o3 cls d (X.pn ++ pins) z3 ⟨_, dat3⟩).run [] s4 _ H1 _ S4 (yes rfl a fresh)) ?_ (fun _ _ z => False.elim z)
          intro fl s5 out
          have close : ∀ {σ6 : L2.St} {H6 : Hp} {Q : Shared → Prop}, Inv (X.suite a ((a, o3) :: (X.pn ++ pins))) [] σ6 H6 s5 → (∀ s7, Inv X pins (σ6.set i Option.none) H6 s7 → Q s7) →
              wpAny (model X.prog X.w) X.A (do bindName X.env n .none; unbindBehindTheSuite X.env n p2) (fun _ s7 => Q s7) X.xe s5 := fun S6 hq => gone_ok (S6.unsuite xok) nd slot loc hq
          match fl, out with
          | .next, ⟨_, _, S6, q6⟩ => exact close S6 fun _ J7 => ⟨_, _, J7, q6⟩
          | .brk, ⟨_, _, S6, q6⟩ => exact close S6 fun _ J7 => ⟨_, _, J7, q6⟩
          | .cont, ⟨_, _, S6, q6⟩ => exact close S6 fun _ J7 => ⟨_, _, J7, q6⟩
          | .ret _, ⟨_, _, _, S6, r6, q6⟩ => exact close S6 fun _ J7 => ⟨_, _, _, J7, r6, q6⟩
    exact each clauses want
  apply wpAny_mono ((bodyOk _ _ caught takes PassesOwn.looking).run [] s σ H D (I.toTry _) rd) ?_ (fun _ _ he => he)
  intro fl s1 out
  match fl, out with
  | .next, ⟨_, _, J, q⟩ => exact wpAny_execs_nil ⟨_, _, J.ofTry xok, q⟩
  | .brk, ⟨_, _, J, q⟩ => exact ⟨_, _, J.ofTry xok, q⟩
  | .cont, ⟨_, _, J, q⟩ => exact ⟨_, _, J.ofTry xok, q⟩
  | .ret _, ⟨_, _, _, J, r, q⟩ => exact ⟨_, _, _, J.ofTry xok, r, q⟩
end
end Lk

/-! Ne0 -/
set_option Elab.async false
set_option maxRecDepth 100000
set_option linter.all false
set_option maxHeartbeats 4000000
namespace PySem
open PySem.SeqAt
section
variable {prog : Program} {w : World} {A : Around} {E : Value → Shared → Prop} {s : Shared}
theorem lk_dict_ne_str (l : Addr) (es : Array DictEntry) (n : Nat) (dd : Option Addr) (sl : Array (Option Value)) (b : Str) (u : Tok) :
    Meets (Builtin.«dict.__ne__» ⟨[.ref l, .str b u], []⟩) (fun _ R s => s.heap.get? l = some { cls := .type "dict", dict := dd, data := .dict es n, slots := sl } ∧ R (.ok (.ret .notImplemented)) s) := by
  refine .of_wp ?_
  rintro prog w A R ⟨hp, g, d, tk, os⟩ ⟨there, h⟩
  have noSub := F.sub_str_dict
  wp_walk using wpAny_loadPart' there, wpAny_load there
  exact ⟨_, rfl, h⟩
theorem lk_str_ne_dict (l : Addr) (es : Array DictEntry) (n : Nat) (dd : Option Addr) (sl : Array (Option Value)) (b : Str) (u : Tok) :
    Meets (Builtin.«str.__ne__» ⟨[.str b u, .ref l], []⟩) (fun _ R s => s.heap.get? l = some { cls := .type "dict", dict := dd, data := .dict es n, slots := sl } ∧ R (.ok (.ret .notImplemented)) s) := by
  refine .of_wp ?_
  rintro prog w A R ⟨hp, g, d, tk, os⟩ ⟨there, h⟩
  wp_walk using wpAny_loadPart' there, wpAny_load there
  exact ⟨_, rfl, h⟩
theorem lk_rc_dict_str {l : Addr} {o : Obj} {es : Array DictEntry} {n : Nat} (b : Str) (u : Tok) (ho : s.heap.get? l = some o) (hc : o.cls = .type "dict") (hd : o.data = .dict es n) (hu : A.units < cLine) {Q : Value → Shared → Prop} (h : Q (.bool true) s) :
    wpAny (model prog w) A (richCompare .NotEq (.ref l) (.str b u)) Q E s := by
  obtain ⟨cls, dd, data, sl⟩ := o
  simp only at hc hd
  subst hc hd
  refine rc_ne_decline_or (a := .ref l) (b := .str b u) (s := s) (k := false) (show s.TypeIs (.ref l) "dict" from ⟨_, ho, rfl⟩) (typeIs_str s b u) (by decide) F.sub_str_dict F.slot_dict_ne F.slot_str_ne_refl ?_ ?_ ?_ ?_ ?_
  · exact fun _ hq => call_meets F.slot_dict_ne ⟨_, ho, rfl⟩ F.entry_dict_ne (F.args_dict_ne_2 _ _) (lk_dict_ne_str l es n dd sl b u) ⟨ho, hq⟩
  · exact fun _ hq => call_meets F.slot_str_ne_refl (typeIs_str s b u) F.entry_str_ne (F.args_str_ne_2 _ _) (lk_str_ne_dict l es n dd sl b u) ⟨ho, hq⟩
  · exact fun _ hq => wpAny_of_eq (rfl : isSame (.ref l) (.str b u) = pure false) hq
  · exact .inr hu
  · exact h
end
end PySem
namespace Lk
open PySem PySem.Spec PyProof.Rows L2
/-- thing != '', thing of any form -/
def rNeE (K : PySem.W.Frag) : R2 := fun x y H Q => ∃ d, y = .str "" ∧ Th K H x d ∧ (d.hasDict = true → isDct d = true) ∧ (d.hasDict = false → SeqAt.shaped d = true) ∧ Q (.bl (!isE d)) H
theorem op_neE {X : Cx} (hu : X.A.units + 64 < cLine) : OpR X (compareOp .NotEq) (rNeE X.K) := by
  intro pins s σ H x y v u Q I rx ry h
  obtain ⟨d, rfl, ht, hd, hs, q⟩ := h
  cases e : d.hasDict with
  | false =>
    have sh := hs e
    refine op_neD hu pins s σ H x (.str "") v u Q I rx ry ⟨d, .str "", th_dp ht (SeqAt.canLay_of_shaped sh), .str _, sh, by decide +kernel, ?_⟩
    rw [eqv_empty]
    exact q
  | true =>
    have hh := hd e
    cases ht with
    | dct ha _ _ =>
      obtain ⟨t, rfl⟩ := ry
      cases rx
      obtain ⟨_, _, vs, kv, o, es, ep, ho, ex, hda, _⟩ := (show ObjOk X.prog X.w H s.heap _ (.dK _) from I.hok _ _ ha)
      exact PySem.lk_rc_dict_str _ _ ho ex.1 hda (by omega) ⟨.bl true, H, I, rfl, q⟩
    | _ => cases hh
end Lk

/-! Xr0 -/
set_option Elab.async false
set_option maxRecDepth 100000
set_option linter.all false
set_option maxHeartbeats 4000000
namespace Lk
open PySem PySem.Spec PyProof.Rows L2
/-- an own class of errors, under ValueError -/
structure Err (K : PySem.W.Frag) (mg : Str → Option Value) (x : String) (C : Addr) : Prop where
  gC : mg x = some (.ref C)
  xC : PySem.W.excIn K C [.type "ValueError", .type "Exception", .type "BaseException", .type "object"] "ValueError.__new__" = true
  kC : PySem.W.keepIn K (.ref C) = true
  bC : PySem.W.subIn K (.ref C) (.type "BaseException") = some true
  tC : PySem.W.typeIn K (.ref C) = some (.type "type")
/-- an error of the class at S, a clause that names the class at T -/
theorem exm_of {K : PySem.W.Frag} {S T : Addr} {b : Bool} (h1 : PySem.W.subIn K (.ref T) (.type "BaseException") = some true) (h2 : PySem.W.isClsIn K T = true) (h3 : PySem.W.typeIn K (.ref T) = some (.type "type")) (h4 : PySem.W.subIn K (.ref S) (.ref T) = some b) :
    PySem.W.exmOne K (.ref S) (.ref T) = some b := by
  have e1 : (PySem.W.subIn K (.ref T) (.type "BaseException") == some true) = true := by rw [h1] <;> rfl
  have e2 : ((PySem.W.clsIn K T).isSome && PySem.W.typeIn K (.ref T) == some (.type "type")) = true := by
    have h2' : (PySem.W.clsIn K T).isSome = true := h2
    rw [h2', h3] <;> rfl
  show (if (PySem.W.subIn K (.ref T) (.type "BaseException") == some true) = true then (if ((PySem.W.clsIn K T).isSome && PySem.W.typeIn K (.ref T) == some (.type "type")) = true then PySem.W.subIn K (.ref S) (.ref T) else none) else none) = some b
  rw [if_pos e1, if_pos e2]
  exact h4
section
variable {X : Cx} {C : Addr} {W : WX} {x : String}
/-- raise C('m') -/
theorem ps_err (R : Err X.K X.mg x C) (calm : X.calm = true) (tk : Takes X W) {m : Str} {j : Nat} {p p2 p3 pos : Pos} (hg : Gl X x := by rfl) (hdb : ((x : Str) == ("__debug__" : Str)) = false := by decide) :
    PS X (.Raise (some (.Call (.Name x p) [.Constant (.str m) j p2] [] p3)) none pos) (fun _ σ H => W (.ref C) none σ H) :=
  ps_raise calm tk (pmk_own PySem.F.excBase_ValueError R.xC R.gC R.kC (raises_own R.bC R.tC) hg hdb)
end
/-- a def that may raise, called by its name -/
structure CalX (P : Program) (w : World) (K : PySem.W.Frag) (mg : Str → Option Value) (base : Heap) (k : Nat) (x : String) (sp : Sp) : Prop where
  ex : ∃ (f : Addr) (fd : FuncData) (ps : List Str), FnOk P w K mg base (L2.CX P w) k f fd ps sp ∧ mg x = some (.ref f) ∧ PySem.W.keepIn K (.ref f) = true ∧ Binds K fd ps []
section
variable {P : Program} {w : World} {K : PySem.W.Frag} {mg : Str → Option Value} {base : Heap}
theorem mkCalX {x : String} {st : Stmt} {N ps : List Str} {k : Nat} {sp : Sp} (D : Def1 K mg x st) (S : FnScope N ps (defScope st))
    (hb : ∀ (kV doc pm : Value) (an : Option Addr) (cdv ct : Value) (us : List Value), us.length = ps.length → bindArgs (PySem.W.fnOf x x (defArgs st) (defBody st) (defScope st) .none kV doc pm an cdv ct) ⟨us, []⟩ = pure (ps.zip us))
    (len : ∀ vs H Q E, sp vs H Q E → vs.length = ps.length)
    (hbody : ∀ (f : Addr) (cdv : Value) (A : Around) (outer : List Env) (s : Shared) (H : Hp) (vs : List V) (Q : VK) (E : XK), Room k (A.deeper (envOfC x (defScope st) s.heap.objs.size f cdv)) → sp vs H Q E →
      ∃ t, PSs (cxOf (L2.CX P w) P w K mg base N x (defScope st) f cdv A outer s H E) (defBody st) t ∧ t { nx := fun _ H' => Q .non H', rt := Q } (start N vs) H) : CalX P w K mg base (k + 1) x sp := by
  obtain ⟨f, fd, F, m⟩ := D.ex
  exact ⟨f, fd, ps, F.okX S len fun cdv A outer s H vs Q E hr h => hbody f cdv A outer s H vs Q E hr h, m, F.kp, F.binds hb⟩
end
section
variable {X : Cx} {k j : Nat} {x : String} {sp : Sp} {p pos : Pos} {e : Expr} {es : List Expr} {t : TA}
/-- called in a def that lets its errors out -/
theorem pe_calX {E : XK} (c : CalX X.prog X.w X.K X.mg X.base k x sp) (hr : Room j X.A) (hk : k ≤ j) (tk : Takes X (fun cls d _ H => E cls d H)) (ha : PA X (e :: es) t) (hg : Gl X x := by rfl)
    (hdb : ((x : Str) == ("__debug__" : Str)) = false := by decide) (he : starEach (e :: es) X.env = (false, eval e X.env) :: starEach es X.env := by rfl) (hpl : (backTo pos (starEach es X.env)).any (·.1) = false := by rfl) :
    PE X (.Call (.Name x p) (e :: es) [] pos) (tCall sp [] E t) := by
  obtain ⟨f, fd, ps, F, m, kp, b⟩ := c.ex
  exact pe_call F (hr.mono hk) hg m kp b .nil (passes_call tk fun _ _ _ _ h => h) ha hdb he hpl
/-- called in a try's body -/
theorem pe_calT {W : WX} (c : CalX X.prog X.w X.K X.mg X.base k x sp) (hr : Room j X.A) (hk : k ≤ j) (tk : Takes X W) (ha : PA X (e :: es) t) (hg : Gl X x := by rfl)
    (hdb : ((x : Str) == ("__debug__" : Str)) = false := by decide) (he : starEach (e :: es) X.env = (false, eval e X.env) :: starEach es X.env := by rfl) (hpl : (backTo pos (starEach es X.env)).any (·.1) = false := by rfl) :
    PE X (.Call (.Name x p) (e :: es) [] pos) (tCallS sp (WE W) t) := by
  obtain ⟨f, fd, ps, F, m, kp, b⟩ := c.ex
  exact pe_callS F (hr.mono hk) hg m kp b (fun σ => passAt tk σ) ha hdb he hpl
/-- a def that asks for no guard on the stack -/
theorem pe_calG (c : CalG X.prog X.w X.K X.mg X.base CX0 k x sp) (hr : Room j X.A) (hk : k ≤ j) (gd : X.A.guards = some []) (ha : PA X (e :: es) t) (hg : Gl X x := by rfl)
    (hdb : ((x : Str) == ("__debug__" : Str)) = false := by decide) (he : starEach (e :: es) X.env = (false, eval e X.env) :: starEach es X.env := by rfl) (hpl : (backTo pos (starEach es X.env)).any (·.1) = false := by rfl) :
    PE X (.Call (.Name x p) (e :: es) [] pos) (tCall sp [] E0 t) := by
  obtain ⟨f, fd, ps, F, m, kp, b⟩ := c.ex
  refine ⟨fun pins s σ H Q I h => ?_⟩
  refine wpAny_Call_Name_kw (ld_glob I hg m ?_ hdb)
  refine PySem.W.callWith_K (h₀ := X.base) I.ok.mod.kin kp (thn (ha.run pos pins s σ H _ I h) fun us s1 ⟨vs, H1, I1, r, q⟩ => ⟨I1.kIn, ?_⟩) he hpl
  replace q : sp (vs ++ []) H1 Q E0 := q
  rw [List.append_nil] at q
  have hl : us.length = ps.length := by rw [← r.length]; exact F.len _ _ _ _ q
  have b2 := b s1 us I1.kIn (by rw [List.append_nil]; exact hl)
  rw [List.append_nil] at b2
  refine wpAny_call (codeAny_mono (F.go X.A X.stack s1 H1 ⟨us, []⟩ us vs Q E0 (hr.mono hk) gd I1.env0 b2 r q) fun r' s' hq => ?_)
  cases r' with
  | error e' => exact pass0 pins σ H1 s1 e' s' I1 hq
  | ok fl =>
    cases fl with
    | ret u => exact I1.after hq
    | next => exact False.elim hq
    | brk => exact False.elim hq
    | cont => exact False.elim hq
end
/-! ### data stands when the pot changes -/
def potLike : List PyData → Bool
  | [_, .int _, .int _, .int _] => true
  | _ => false
mutual
def noPot : PyData → Bool
  | .none | .bool _ | .int _ | .str _ => true
  | .list xs => !potLike xs && noPotAll xs
  | .tuple xs => noPotAll xs
  | .dict kvs => noPotKv kvs
def noPotAll : List PyData → Bool
  | [] => true
  | x :: xs => noPot x && noPotAll xs
def noPotKv : List (PyData × PyData) → Bool
  | [] => true
  | (_, v) :: r => noPot v && noPotKv r
end
theorem noPotKv_map : ∀ ds : List (PyData × PyData), noPotAll (ds.map (·.2)) = noPotKv ds
  | [] => rfl
  | (k, v) :: r => by
    show (noPot v && noPotAll (r.map (·.2))) = (noPot v && noPotKv r)
    rw [noPotKv_map r]
theorem potLike_of {K : PySem.W.Frag} {H : Hp} {x : V} {i a b : Int} : ∀ {ds : List PyData}, ThAll K H [x, .int i, .int a, .int b] ds → potLike ds = true
  | _, .cons _ (.cons (.int _) (.cons (.int _) (.cons (.int _) .nil))) => rfl
theorem th_ext {K : PySem.W.Frag} {p c : Addr} {H H' : Hp} (hP : PotAt p c H) (e : Ext p c H H') {v : V} {d : PyData} (h : Th K H v d) : noPot d = true → Th K H' v d := by
  obtain ⟨_, ⟨i, a, b, hp⟩, _⟩ := hP
  refine Th.rec (motive_1 := fun v d _ => noPot d = true → Th K H' v d) (motive_2 := fun vs ds _ => noPotAll ds = true → ThAll K H' vs ds) ?_ ?_ ?_ ?_ ?_ ?_ ?_ ?_ ?_ h
  · exact fun _ => .non
  · exact fun b _ => .bl b
  · exact fun i _ => .int i
  · exact fun x _ => .str x
  · intro q xs ds hs ha ih n
    have n2 : potLike ds = false ∧ noPotAll ds = true := by simpa only [noPot, Bool.and_eq_true, Bool.not_eq_true'] using n
    by_cases z : q = p
    · rcases hs with (hs | ⟨o, hs⟩) | hs
      · rw [z, hp] at hs
        cases hs
        rw [potLike_of ha] at n2
        cases n2.1
      · rw [z, hp] at hs
        cases hs
      · exact .lst (.inr hs) (ih n2.2)
    · exact .lst (e.seq z hs) (ih n2.2)
  · intro q xs ds hs ha ih n
    have n2 : noPotAll ds = true := by simpa only [noPot] using n
    by_cases z : q = p
    · rcases hs with (hs | ⟨o, hs⟩) | hs
      · rw [z, hp] at hs
        cases hs
      · rw [z, hp] at hs
        cases hs
      · exact .tup (.inr hs) (ih n2)
    · exact .tup (e.seqT z hs) (ih n2)
  · intro q kvs ds hs _ ek ih n
    have n2 : noPotAll (ds.map (·.2)) = true := by
      rw [noPotKv_map]
      simpa only [noPot] using n
    by_cases z : q = p
    · rw [z, hp] at hs
      cases hs
    · exact .dct (e.get hs z) (ih n2) ek
  · exact fun _ => .nil
  · intro v vs d ds _ _ i1 i2 n
    have n2 : noPot d = true ∧ noPotAll ds = true := by simpa only [noPotAll, Bool.and_eq_true] using n
    exact .cons (i1 n2.1) (i2 n2.2)
theorem thAll_ext {K : PySem.W.Frag} {p c : Addr} {H H' : Hp} (hP : PotAt p c H) (e : Ext p c H H') : ∀ {vs : List V} {ds : List PyData}, ThAll K H vs ds → noPotAll ds = true → ThAll K H' vs ds
  | _, _, .nil, _ => .nil
  | _ :: _, d :: ds, .cons h t, n => by
    have n2 : noPot d = true ∧ noPotAll ds = true := by simpa only [noPotAll, Bool.and_eq_true] using n
    exact .cons (th_ext hP e h n2.1) (thAll_ext hP e t n2.2)
end Lk

/-! Exv0 -/
set_option Elab.async false
set_option maxRecDepth 100000
set_option linter.all false
set_option maxHeartbeats 4000000
namespace Lk
open PySem PySem.Spec PyProof.Rows L2
/-- a held error of the class at C, not raised -/
def EvAt (H : Hp) (a C : Addr) : Prop := H a = some (ExO (.ref C) a) ∨ ∃ d fs, H a = some (exo a C (some d)) ∧ H d = some (exd d fs)
theorem EvAt.same {H H' : Hp} {a C : Addr} (h : EvAt H a C) (s : Same H H') : EvAt H' a C := by
  rcases h with h | ⟨d, fs, h, g⟩
  · exact .inl (s _ _ h)
  · exact .inr ⟨d, fs, s _ _ h, s _ _ g⟩
/-- what isinstance asks of an error's class -/
structure EvC (K : PySem.W.Frag) (C : Addr) : Prop where
  cl : PySem.W.isClsIn K C = true
  ga : PySem.W.findIn K (.ref C) "__getattribute__" = some (some (.builtin "BaseException.__getattribute__"))
  gt : PySem.W.findIn K (.ref C) "__getattr__" = some none
  sb : PySem.W.subIn K (.ref C) (.type "BaseException") = some true
  ca : PySem.W.findIn K (.ref C) "__class__" = some (some (.builtin "object.__class__"))
  gg : PySem.W.specialIn K (.builtin "object.__class__") "__get__" = some (some (.builtin "getset_descriptor.__get__"))
  tk : PySem.W.takesIn K (.builtin "object.__class__") = some true
  mo : PySem.W.mroIn K C (.type "object") = some true
section
variable {X : Cx} {pins : List (Addr × Obj)} {σ : L2.St} {H : Hp} {s : Shared} {a C : Addr}
theorem ev_inst (I : Inv X pins σ H s) (e : EvAt H a C) : ∃ oe od, PySem.W.InstAt s.heap a oe C od := by
  rcases e with e | ⟨d, fs, e, ed⟩
  · obtain ⟨⟨oe, vs, ho, hz, hd, _⟩, _, _⟩ := I.hok a _ e
    refine ⟨oe, none, ?_⟩
    obtain ⟨oc, od, oda, osl⟩ := oe
    obtain ⟨h1, h2⟩ := hz
    dsimp only at h1 h2 hd
    subst h1 h2 hd
    exact ⟨ho, rfl, rfl, trivial⟩
  · obtain ⟨t1, ho⟩ := exo_at I.hok e
    obtain ⟨mA, hns, _⟩ := exd_at I.hok ed
    obtain ⟨od, hod, _⟩ := lookIn_ns hns
    exact ⟨_, some od, ho, rfl, rfl, hod⟩
def rIsV (K : PySem.W.Frag) : List V → Hp → VK → Prop := fun xs H Q => ∃ (a C : Addr) (c : V) (cv : Value) (b : Bool), xs = [.ref a, c] ∧ EvAt H a C ∧ EvC K C ∧ (∀ u, RelV c u → u = cv) ∧ PySem.W.kitOne K (.ref C) cv = some b ∧ Q (.bl b) H
theorem call_isV : CallR X (.builtin "isinstance") (rIsV X.K) := by
  intro pins s σ H xs us Q I r h
  obtain ⟨a, C, c, cv, b, rfl, ev, T, hcv, e, q⟩ := h
  cases r with
  | cons rx rr =>
    cases rr with
    | cons rt rr =>
      cases rr
      cases rx
      have ec := hcv _ rt
      subst ec
      obtain ⟨oe, od, J⟩ := ev_inst I ev
      exact PySem.W.kia_one (PySem.W.kitx_exc (od := od) T.cl T.ga T.gt T.sb T.ca T.gg T.tk T.mo) I.kIn J e (fun z => nomatch z) fun tk => ⟨.bl b, H, I.kept (t' := tk) fun _ _ z => z, rfl, q⟩
def rIsVT (K : PySem.W.Frag) : List V → Hp → VK → Prop := fun xs H Q => ∃ (a C tp : Addr) (ts : List String) (b : Bool), xs = [.ref a, .ref tp] ∧ EvAt H a C ∧ EvC K C ∧ H tp = some (.tup (ts.map V.ty)) ∧ PySem.W.kitAny K (.ref C) (ts.map Value.type) = some b ∧ Q (.bl b) H
theorem vals_ty : ∀ {ts : List String} {us : List Value}, Vals (ts.map V.ty) us → us = ts.map Value.type
  | [], us, r => by
    cases r
    rfl
  | t :: r, us, h => by
    cases h with
    | cons h1 h2 =>
      cases h1
      rw [vals_ty h2]
      rfl
theorem call_isVT : CallR X (.builtin "isinstance") (rIsVT X.K) := by
  intro pins s σ H xs us Q I r h
  obtain ⟨a, C, tp, ts, b, rfl, ev, T, htp, e, q⟩ := h
  cases r with
  | cons rx rr =>
    cases rr with
    | cons rt rr =>
      cases rr
      cases rx
      cases rt
      obtain ⟨oe, od, J⟩ := ev_inst I ev
      obtain ⟨_, its, rv, o, ho, hc, n, hd⟩ := I.hok tp _ htp
      have ei := vals_ty rv
      subst ei
      obtain ⟨oc, odd, oda, osl⟩ := o
      dsimp only at hc hd
      subst hc hd
      exact PySem.W.kia_tup (PySem.W.kitx_exc (od := od) T.cl T.ga T.gt T.sb T.ca T.gg T.tk T.mo) I.kIn J ho e (fun z => nomatch z) fun tk => ⟨.bl b, H, I.kept (t' := tk) fun _ _ z => z, rfl, q⟩
/-- e.f, e a held error with fields -/
def tXv (K : PySem.W.Frag) (f : Str) (te : TE) : TE := fun σ H Q => te σ H fun x H1 => ∃ (a C d : Addr) (fs : List (Str × V)) (v : V), x = .ref a ∧ XfC K C ∧ PySem.W.findIn K (.ref C) f = some none ∧ H1 a = some (exo a C (some d)) ∧ H1 d = some (exd d fs) ∧ fs.lookup f = some v ∧ Q v H1
theorem pe_xv {e : Expr} {te : TE} {pos : Pos} {n : Str} (he : PE X e te) (hb : attributeBase e n X.env (eval e X.env) = eval e X.env := by rfl) : PE X (.Attribute e n pos) (tXv X.K n te) := by
  refine ⟨fun pins s σ H Q I h => ?_⟩
  refine attr_of hb (thn (he.run pins s σ H _ I h) fun u s1 hh => ?_)
  obtain ⟨x, H1, I1, rx, a, C, dd, fs, v, ex, T, hno, ea, ed, l, q⟩ := hh
  subst ex
  obtain rfl : u = Value.ref a := rx
  obtain ⟨t1, ho⟩ := exo_at I1.hok ea
  obtain ⟨mA, hns, hr⟩ := exd_at I1.hok ed
  obtain ⟨od, hod, hl⟩ := lookIn_ns hns
  obtain ⟨u, hu, ru⟩ := RelO.some_of (v := v) (o := mA n) (by rw [← l]; exact hr n)
  have J : PySem.W.InstAt s1.heap a _ C (some od) := ⟨ho, rfl, rfl, hod⟩
  exact HandSPX.exc_get I1.kIn J T.ga T.gg T.exC (PySem.W.findObj_own T.hdC hno rfl (by rw [hl, hu])) (handed_of ru) ⟨v, H1, I1.tok _, ru, q⟩
/-- C(e, ..) as a value, C's own __init__ keeping sp -/
def tMkV (C : Addr) (sp : Sp) (ta : TA) : TE := fun σ H Q => ta σ H fun vs H1 => vs.length ≤ 1000 ∧ ∀ a, H1 a = none → sp (.ref a :: vs) (upd H1 a (exo a C none)) (fun v H2 => v = .non ∧ Q (.ref a) H2) E0
theorem pe_mkV {CX : CXT} {x : Str} {C fI : Addr} {k : Nat} {fd : FuncData} {ps : List Str} {sp : Sp} {e : Expr} {es : List Expr} {ta : TA} {p pos : Pos} (T : OexC X.K C) (iC : PySem.W.findIn X.K (.ref C) "__init__" = some (some (.ref fI))) (tI : PySem.W.typeIn X.K (.ref fI) = some (.type "function"))
    (F1 : FnOk X.prog X.w X.K X.mg X.base CX k fI fd ps sp) (hr : Room (k + 1) X.A) (hb : Binds X.K fd ps []) (hx : Passes CX X E0) (hg : Gl X x) (hm : X.mg x = some (.ref C)) (ha : PA X (e :: es) ta)
    (hdb : (x == ("__debug__" : Str)) = false := by decide) (he : starEach (e :: es) X.env = (false, eval e X.env) :: starEach es X.env := by rfl) (hpl : (backTo pos (starEach es X.env)).any (·.1) = false := by rfl) :
    PE X (.Call (.Name x p) (e :: es) [] pos) (tMkV C sp ta) := by
  refine ⟨fun pins s σ H Q I h => ?_⟩
  obtain ⟨nm, q, N, bs, bm, sn, sub, ab, col, dd, k0, k1, k2, k3, k5, hC, hbm⟩ := T.cls
  refine wpAny_Call_Name_kw (ld_glob I hg hm ?_ hdb)
  refine PySem.W.callWith_K (h₀ := X.base) I.ok.mod.kin T.kC (thn (ha.run pos pins s σ H _ I h) fun us s1 ⟨vs, H1, I1, r1, hz, q1⟩ => ⟨I1.kIn, ?_⟩) he hpl
  show wpAny _ _ (call (.ref C) us) _ _ _
  obtain ⟨hp, g, dr, tk, os⟩ := s1
  have hsz : hp.objs.size ≤ hp.objs.size + 1 := Nat.le_succ _
  have hn : H1 (hp.objs.size + 1) = none := I1.hok.fresh hsz
  have hq := q1 (hp.objs.size + 1) hn
  have kk : ∀ b o, hp.get? b = some o → ((hp.push (PySem.W.kdv_tup us)).push (PySem.HandSPX.excO C hp.objs.size)).get? b = some o := fun b o e => Heap.get?_push_of_some _ (Heap.get?_push_of_some _ e)
  have hget : ((hp.push (PySem.W.kdv_tup us)).push (PySem.HandSPX.excO C hp.objs.size)).get? (hp.objs.size + 1) = some (PySem.HandSPX.excO C hp.objs.size) := by heap_get
  have I2 : Inv X pins σ (upd H1 (hp.objs.size + 1) (exo (hp.objs.size + 1) C none)) ⟨(hp.push (PySem.W.kdv_tup us)).push (PySem.HandSPX.excO C hp.objs.size), g, dr, tk, os⟩ :=
    I1.laid (t' := tk) (a := hp.objs.size + 1) (o := exo (hp.objs.size + 1) C none) (h' := (hp.push (PySem.W.kdv_tup us)).push (PySem.HandSPX.excO C hp.objs.size)) kk hsz (exo_ok hget)
  have r2 : Vals (V.ref (hp.objs.size + 1) :: vs) (Value.ref (hp.objs.size + 1) :: us) := .cons rfl r1
  have hl : (Value.ref (hp.objs.size + 1) :: us ++ []).length = ps.length := by
    have e := r2.length
    rw [F1.len _ _ _ _ hq] at e
    rw [List.append_nil]
    exact e.symm
  have b2 := hb ⟨(hp.push (PySem.W.kdv_tup us)).push (PySem.HandSPX.excO C hp.objs.size), g, dr, tk, os⟩ (Value.ref (hp.objs.size + 1) :: us) I2.kIn hl
  rw [List.append_nil] at b2
  have hus : us.length ≤ sizeLine := by
    rw [← Paired.length r1, sizeLine_eq]
    omega
  refine wpAny_call (PySem.HandSPX.call_own F.excBase_ValueError (fun Y => PySem.HandSPX.refsVE_contains Y bm hbm) (I1.kIn _ _ hC) (PySem.W.looks_findIn I1.kIn iC) (fun self => PySem.W.bind_fn I1.kIn self tI) hus
    (codeAny_mono (F1.run _ X.stack _ _ ⟨Value.ref (hp.objs.size + 1) :: us, []⟩ (Value.ref (hp.objs.size + 1) :: us) _ _ E0 (hr.make C us []) (I2.env0.make C us []) b2 r2 hq) fun r s' hq' => ?_))
  cases r with
  | error er => exact hx pins σ _ _ er s' I2 hq'
  | ok fl =>
    cases fl with
    | ret u =>
      obtain ⟨v, H2, os2, bare2, un, hok, rv, ev, q2⟩ := hq'
      subst ev
      refine ⟨rv, ?_⟩
      have nha : ∀ {b : Addr} {o : Obj}, hp.get? b = some o → b ≠ hp.objs.size + 1 := fun {b o} z => Nat.ne_of_lt (Nat.lt_of_lt_of_le (Heap.lt_size z) hsz)
      have up : ∀ {b : Addr}, b ≠ hp.objs.size + 1 → H1 b = none → upd H1 (hp.objs.size + 1) (exo (hp.objs.size + 1) C none) b = none := fun {b} hb n => by rw [upd_ne hb]; exact n
      have U : Un (frs X.stack) [] H1 H2 hp s'.heap := {
        keep := fun b o z n hf hx => un.keep b o (kk b o z) (up (nha z) n) hf hx
        slot := fun b o z n hf hx => un.slot b o (kk b o z) (up (nha z) n) hf hx
        free := fun b o z n hx => un.free b o (kk b o z) (up (nha z) n) hx
        there := fun b o z hx => un.there b o (kk b o z) hx
        tups := fun b xs z => un.tups b xs (by rw [upd_ne (ne_of_none z hn)]; exact z)
        frzs := fun b o v z => un.frzs b o v (by rw [upd_ne (ne_of_none z hn)]; exact z)
        tbls := fun b ps z => un.tbls b ps (by rw [upd_ne (ne_of_none z hn)]; exact z) }
      have J : Inv X pins σ H2 s' := I1.call' (ch := []) os2 U hok bare2 (fun b z => absurd z (by simp))
      exact ⟨.ref (hp.objs.size + 1), H2, J, rfl, q2⟩
    | next => exact False.elim hq'
    | brk => exact False.elim hq'
    | cont => exact False.elim hq'
/-- the name of a built-in class, as a value -/
theorem pe_bt {T : String} {pos : Pos} (hT : X.mg T = none) (hb : bootBuiltins T = some (.type T)) (hg : Gl X T := by rfl) (hn : (T : Str) ≠ "__name__" := by decide) (hd : ((T : Str) == ("__debug__" : Str)) = false := by decide) : PE X (.Name T pos) (tC (.ty T)) :=
  ⟨fun _ _ _ H Q I h => ld_blt I hg hT hb ⟨.ty T, H, I, rfl, h⟩ hn hd⟩
end
/-- one class as isinstance sees it -/
theorem kit_of {K : PySem.W.Frag} {C D : Addr} {b : Bool} (h2 : PySem.W.isClsIn K D = true) (h3 : PySem.W.typeIn K (.ref D) = some (.type "type")) (h4 : PySem.W.subIn K (.ref C) (.ref D) = some b) (h5 : PySem.W.subIn K (.ref D) (.ref D) = some true) : PySem.W.kitOne K (.ref C) (.ref D) = some b := by
  have e2 : ((PySem.W.clsIn K D).isSome && PySem.W.typeIn K (.ref D) == some (.type "type")) = true := by
    have h2' : (PySem.W.clsIn K D).isSome = true := h2
    rw [h2', h3] <;> rfl
  unfold PySem.W.kitOne
  split
  · rename_i z
    have e : C = D := Value.ref.inj (beq_iff_eq.mp z)
    subst e
    rw [← h4, h5]
  · show (if ((PySem.W.clsIn K D).isSome && PySem.W.typeIn K (.ref D) == some (.type "type")) = true then PySem.W.subIn K (.ref C) (.ref D) else none) = some b
    rw [if_pos e2]
    exact h4
theorem kit_ty1 {K : PySem.W.Frag} {C : Addr} {T : String} {b : Bool} (h : PySem.W.kitMeta T = true) (h4 : PySem.W.subIn K (.ref C) (.type T) = some b) : PySem.W.kitOne K (.ref C) (.type T) = some b := by
  unfold PySem.W.kitOne
  rw [if_neg (by exact fun z => by cases (beq_iff_eq.mp z))]
  show (if PySem.W.kitMeta T = true then PySem.W.subIn K (.ref C) (.type T) else none) = some b
  rw [if_pos h]
  exact h4
end Lk

/-! K01t -/
set_option Elab.async false
set_option linter.all false
set_option maxRecDepth 100000
set_option maxHeartbeats 4000000
namespace Lk
open PySem PySem.Spec PyProof.Rows L2
def top (i : Nat) : Stmt := PySem.Challenge.pw_stemrules_k01_errors.main.body.getD i (.Pass ⟨0, 0, 0, 0⟩)
abbrev s_kneaded : Stmt := top 12
abbrev s_pot_of : Stmt := top 13
abbrev s_below : Stmt := top 14
abbrev s_made : Stmt := top 15
abbrev s_classes : Stmt := top 16
abbrev s_law : Stmt := top 17
end Lk

/-! K01p -/
set_option Elab.async false
set_option linter.all false
set_option maxRecDepth 100000
set_option maxHeartbeats 4000000
namespace Lk
open PySem PySem.Spec PyProof.Rows L2
/-! ### the pot of numbers -/
section
variable {P : Program} {w : World} {K : PySem.W.Frag} {mg : Str → Option Value} {base : Heap}
theorem sc_kneaded : FnScope ["seed", "lap", "prime", "amount", "again"] ["seed", "lap"] (defScope s_kneaded) := ⟨rfl, rfl, rfl, by decide +kernel, rfl, by decide +kernel, by decide +kernel⟩
theorem cal_kneaded (D : Def1 K mg "_law_kneaded" s_kneaded) (T : Glb mg) : Cal P w K mg base 1 "_law_kneaded" spKneaded := by
  refine mkCal D sc_kneaded (fun _ _ _ _ _ _ us hl => match us, hl with | [_, _], _ => rfl) (fun vs H Q E h => ?_) (fun f cdv A outer s H vs Q E hr h => ?_)
  · obtain ⟨s, l, rfl, _⟩ := h
    rfl
  · obtain ⟨s, l, rfl, k⟩ := h
    refine ⟨_, pss_cons (ps_set (i := 2) sc_kneaded.nd rfl (.inl rfl) pe_int)
      (pss_cons (ps_set (i := 3) sc_kneaded.nd rfl (.inl rfl) (pe_op op_mod (pe_callTy call_int1 (by rfl) T.int (by decide +kernel)
        (pa_cons (pe_op op_add (pe_op op_add (pe_op op_mul (pv 0) pe_int) (pe_op op_mul (pv 1) pe_int)) pe_int) pa_nil)) (pv 2)))
      (pss_cons (ps_for PassesOwn.never rfl (pi_range1 (by rfl) T.range (pa_cons pe_int pa_nil)) (pg_name (i := 4) sc_kneaded.nd rfl (.inl rfl))
        (pss_one (ps_set (i := 3) sc_kneaded.nd rfl (.inl rfl) (pe_op op_mod (pe_callTy call_int1 (by rfl) T.int (by decide +kernel)
          (pa_cons (pe_op op_add (pe_op op_add (pe_op op_add (pe_op op_mul (pv 3) (pv 3)) (pe_op op_mul pe_int (pv 3))) (pe_op op_mul pe_int (pv 4))) (pv 1)) pa_nil)) (pv 2)))))
      (pss_one (ps_ret (pe_op op_add (pe_op op_mul (pv 3) (pv 2)) (pe_op op_mod (pe_callTy call_int1 (by rfl) T.int (by decide +kernel)
          (pa_cons (pe_op op_add (pe_op op_mul (pv 3) pe_int) (pv 1)) pa_nil)) (pv 2))))))), ?_⟩
    refine ⟨_, rfl, _, _, rfl, rfl, .inr (by decide), _, rfl, _, _, rfl, rfl, .inr (by decide), _, _, rfl, rfl, _, _, rfl, rfl, .inl ⟨_, rfl, _, rfl, _, _, rfl, rfl, (by show (0 : Int) < 2305843009213693907; decide), ?_⟩⟩
    refine ⟨4, rfl, by decide, by decide, for_range (n := 4) (fun i σ H' => ∃ (m : Int) (v : Option V), σ = [some (.int s), some (.int l), some (.int 2305843009213693907), some (.int m), v] ∧ 0 ≤ m ∧ m < 2305843009213693907 ∧ H' = H)
      ⟨_, none, rfl, Int.emod_nonneg _ (by decide), Int.emod_lt_of_pos _ (by decide), rfl⟩ ?_ ?_⟩
    · rintro i σ H' hi ⟨m, v, rfl, m0, m1, rfl⟩
      refine ⟨_, rfl, _, rfl, _, _, rfl, rfl, .inl ⟨by omega, by omega⟩, _, rfl, _, _, rfl, rfl, .inr ⟨by omega, by omega⟩, _, _, rfl, rfl, _, rfl, _, _, rfl, rfl, .inl ⟨by decide, by decide⟩, _, _, rfl, rfl, _, rfl, _, _, rfl, rfl,
        .inl ⟨_, rfl, _, rfl, _, _, rfl, rfl, (by show (0 : Int) < 2305843009213693907; decide), ?_⟩⟩
      exact ⟨_, _, rfl, Int.emod_nonneg _ (by decide), Int.emod_lt_of_pos _ (by decide), rfl⟩
    · rintro σ H' ⟨m, v, rfl, m0, m1, rfl⟩
      refine ⟨_, rfl, _, rfl, _, _, rfl, rfl, .inl ⟨by omega, by omega⟩, _, rfl, _, _, rfl, rfl, .inl ⟨by omega, by omega⟩, _, rfl, _, _, rfl, rfl, .inl ⟨_, rfl, _, rfl, _, _, rfl, rfl, (by show (0 : Int) < 2305843009213693907; decide), ?_⟩⟩
      exact ⟨_, _, rfl, rfl, k _⟩

theorem sc_pot_of : FnScope ["script", "cells", "place", "cell"] ["script"] (defScope s_pot_of) := ⟨rfl, rfl, rfl, by decide +kernel, rfl, by decide +kernel, by decide +kernel⟩
theorem cal_pot_of (D : Def1 K mg "_law_pot_of" s_pot_of) (T : Glb mg) : Cal P w K mg base 1 "_law_pot_of" (spPotOf K) := by
  refine mkCal D sc_pot_of (fun _ _ _ _ _ _ us hl => match us, hl with | [_], _ => rfl) (fun vs H Q E h => ?_) (fun f cdv A outer s H vs Q E hr h => ?_)
  · obtain ⟨a, ns, rfl, _⟩ := h
    rfl
  · obtain ⟨a, ns, rfl, hS, hlen, k⟩ := h
    refine ⟨_, pss_cons (ps_setLc (i := 1) (own := [("cell", 3)]) (g := gName 3) (tt := tYes) (by rfl) sc_pot_of.nd rfl rfl (sw_true rfl rfl rfl (by decide +kernel)) (pi_list (pe_slice sl_list (pv 0) po_none (po_some pe_int)))
        (blkOk_by (own := [("cell", 3)]) (N := ["script", "cells", "place", "cell"]) (sc := defScope s_pot_of) (by decide +kernel)) (fun _ _ _ _ _ => pg_name (i := 3) sc_pot_of.nd rfl (Or.inl rfl)) (fun _ _ _ _ _ => pts_nil)
        (fun _ _ _ _ _ => pe_callB call_abs (by rfl) T.abs (by decide +kernel) (pa_cons (pv 3) pa_nil)))
      (pss_cons (ps_for PassesOwn.never rfl (pi_enum (by rfl) T.enumerate (pa_cons (pe_slice sl_list (pv 0) (po_some pe_int) (po_some pe_int)) pa_nil)) (pg_tup rfl (pgs_cons (pg_name (i := 2) sc_pot_of.nd rfl (.inl rfl)) (pgs_cons (pg_name (i := 3) sc_pot_of.nd rfl (.inl rfl)) pgs_nil)))
        (pss_one (ps_asg (pe_op op_add (pe_ix ix_list (pv 1) (pe_op op_mod (pv 2) pe_int) (fun _ _ => rfl)) (pe_callB call_abs (by rfl) T.abs (by decide +kernel) (pa_cons (pv 3) pa_nil))) (pg_sub (pv 1) (pe_op op_mod (pv 2) pe_int) set_list))))
      (pss_one (ps_ret (pe_lst (pa_cons (pv 1) (pa_cons pe_int (pa_cons pe_int (pa_cons pe_int pa_nil)))))))), ?_⟩
    refine ⟨_, rfl, 17, rfl, a, _, rfl, hS, fun q nq => ⟨q, rfl, ⟨_, SqL.of upd_same⟩, fun D nD => ?_⟩⟩
    have e17 : cutV (ns.map V.int) none (some 17) = (ns.take 17).map V.int := by
      rw [cut_to (by decide), List.map_take]
      rfl
    have sq : Same H (upd H q (.lst (cutV (ns.map V.int) none (some 17)))) := same_upd nq
    have nDq : D ≠ q := fun z => by
      rw [z, upd_same] at nD
      cases nD
    have nD0 : H D = none := sq.free nD
    refine lc_list (K := K) (a := q) (xs := (ns.take 17).map V.int) (fun i H' => Same H H' ∧ H' q = some (.lst ((ns.take 17).map V.int)) ∧ ∃ ms : List Int, H' D = some (.lst (ms.map V.int)) ∧ ms.length = i)
      ⟨same_mut sq nD0, by rw [upd_ne nDq.symm, upd_same, e17], [], upd_same, rfl⟩ (fun i H' _ h => SqL.of h.2.1) ?_ ?_
    · rintro i x H' hx ⟨sH, hq, ms, hD, hm⟩
      obtain ⟨z, rfl, hz⟩ := map_item hx
      have hi : i < 17 := by
        have := (List.getElem?_eq_some_iff.mp hx).1
        rw [List.length_map, List.length_take] at this
        omega
      refine ⟨rfl, _, rfl, z, rfl, _, hD, ?_, same_mut sH nD0, ?_, ms ++ [if z < 0 then -z else z], ?_, ?_⟩
      · rw [List.length_map, hm]
        exact small1000 (by omega)
      · rw [upd_ne nDq.symm]
        exact hq
      · rw [upd_same, List.map_append]
        rfl
      · rw [List.length_append, List.length_singleton, hm]
    · rintro H1 ⟨sH, hq, ms, hD, hm⟩
      rw [List.length_map, List.length_take] at hm
      refine ⟨_, rfl, 17, rfl, 60, rfl, a, _, rfl, sH.seq hS, fun r nr => ⟨r, _, rfl, SqL.of upd_same, ?_⟩⟩
      have e60 : cutV (ns.map V.int) (some 17) (some 60) = ((ns.drop 17).take 43).map V.int := by
        rw [cut_from_to (by decide) (by decide), List.map_take, List.map_drop]
        rfl
      have sr : Same H1 (upd H1 r (.lst (cutV (ns.map V.int) (some 17) (some 60)))) := same_upd nr
      have nrD : D ≠ r := ne_of_none hD nr
      refine for_enum (K := K) (a := r) (xs := ((ns.drop 17).take 43).map V.int) (fun i σ H' => ∃ (v2 v3 : Option V) (ms : List Int), σ = [some (.ref a), some (.ref D), v2, v3] ∧ Same H H' ∧ H' r = some (.lst (((ns.drop 17).take 43).map V.int)) ∧ H' D = some (.lst (ms.map V.int)) ∧ ms.length = min 17 ns.length)
        ⟨none, none, ms, rfl, sH.trans sr, by rw [upd_same, e60], by rw [upd_ne nrD]; exact hD, hm⟩ (fun i σ H' ⟨_, _, _, _, _, h, _⟩ => SqL.of h) ?_ ?_
      · rintro i x σ H' t hx nt ⟨v2, v3, ms, rfl, sH', hr', hD', hm'⟩
        obtain ⟨z, rfl, hz⟩ := map_item hx
        have hl : 17 < ns.length := by
          have := (List.getElem?_eq_some_iff.mp hz).1
          rw [List.length_take, List.length_drop] at this
          omega
        have ml : ms.length = 17 := by omega
        have ntD : D ≠ t := ne_of_none hD' nt
        have ntr : r ≠ t := ne_of_none hr' nt
        obtain ⟨y, hy⟩ := atI_ints (ns := ms) (k := (i : Int) % 17) (Int.emod_nonneg _ (by decide)) (by rw [ml]; exact Int.emod_lt_of_pos _ (by decide))
        refine ⟨t, _, rfl, .inl (.inl upd_same), rfl, _, _, rfl, _, _, rfl, rfl, ?_⟩
        refine ⟨_, rfl, _, rfl, _, _, rfl, rfl, (by show (0 : Int) < 17; decide), D, ms.map V.int, _, .int y, rfl, rfl, SqL.of (by rw [upd_ne ntD]; exact hD'), hy, _, rfl, z, rfl, y, _, rfl, rfl, ?_⟩
        refine ⟨_, rfl, _, rfl, _, _, rfl, rfl, (by show (0 : Int) < 17; decide), D, ms.map V.int, _, _, rfl, rfl, (by rw [upd_ne ntD]; exact hD'), ixN_lt (Int.emod_nonneg _ (by decide)) (by rw [List.length_map, ml]; exact Int.emod_lt_of_pos _ (by decide)), ?_⟩
        refine ⟨_, _, ms.set ((i : Int) % 17).toNat (y + if z < 0 then -z else z), rfl, same_mut (sH'.trans (same_upd nt)) nD0, ?_, ?_, ?_⟩
        · rw [upd_ne nrD.symm, upd_ne ntr]
          exact hr'
        · rw [upd_same, List.map_set]
        · rw [List.length_set]
          exact hm'
      · rintro σ H' ⟨v2, v3, ms, rfl, sH', hr', hD', hm'⟩
        refine ⟨_, rfl, (by show 4 ≤ sizeLine; decide), fun l nl => ?_⟩
        exact k l D _ (sH'.trans (same_upd nl)) (sH'.free nl) ⟨(ne_of_none hD' nl).symm, ⟨0, 0, 0, upd_same⟩, ms, by rw [upd_ne (ne_of_none hD' nl)]; exact hD', by omega⟩

theorem sc_below : FnScope ["pot", "bound", "cells", "place", "amount", "found"] ["pot", "bound"] (defScope s_below) := ⟨rfl, rfl, rfl, by decide +kernel, rfl, by decide +kernel, by decide +kernel⟩
theorem cal_below (D : Def1 K mg "_law_below" s_below) (T : Glb mg) (CK : Cal P w K mg base 1 "_law_kneaded" spKneaded) : Cal P w K mg base 2 "_law_below" spBelow := by
  refine mkCal D sc_below (fun _ _ _ _ _ _ us hl => match us, hl with | [_, _], _ => rfl) (fun vs H Q E h => ?_) (fun f cdv A outer s H vs Q E hr h => ?_)
  · obtain ⟨p, c, n, rfl, _⟩ := h
    rfl
  · obtain ⟨p, c, n, rfl, hP, n0, n1, k⟩ := h
    have hu := hu_of hr
    refine ⟨_, pss_cons (ps_if (pt_cmpR op_lt (pe_ix ix_list (pv 0) pe_int (fun _ _ => rfl)) (pv 1) (nomark _))
        (pss_cons (ps_par (i := 2) (j := 3) (by rfl) sc_below.nd rfl rfl (by decide) rfl rfl (pa_cons (pe_ix ix_list (pv 0) pe_int (fun _ _ => rfl)) (pa_cons (pe_ix ix_list (pv 0) pe_int (fun _ _ => rfl)) pa_nil)) (by rfl))
        (pss_cons (ps_set (i := 4) sc_below.nd rfl (.inl rfl) (pe_ifExp (pt_cmpR (op_neD hr.units) (pv 2) (pe_lst pa_nil) (nomark _))
            (pe_ix ix_list (pv 2) (pe_op op_modN (pv 3) (pe_callB call_len_seq (by rfl) T.len PySem.boot_len (pa_cons (pv 2) pa_nil))) (fun _ _ => rfl)) pe_int))
        (pss_cons (ps_if (PW.pt (pw_or (pt_cmpR op_ge (pv 3) (pe_callB call_len_seq (by rfl) T.len PySem.boot_len (pa_cons (pv 2) pa_nil)) (nomark _)) (pw_or1 (pt_cmpR op_lt (pv 4) (pe_op op_pow pe_int pe_int) (nomark _)))))
            (pss_one (ps_set (i := 4) sc_below.nd rfl (.inl rfl) (pe_cal CK hr (by decide) (pa_cons (pe_op op_mod (pe_callTy call_int1 (by rfl) T.int (by decide +kernel) (pa_cons (pv 4) pa_nil)) pe_int) (pa_cons (pv 3) pa_nil))))) pss_nil)
        (pss_cons (ps_asg (pe_op op_add (pv 3) pe_int) (pg_sub (pv 0) pe_int set_list))
        (pss_cons (ps_asg (pv 4) (pg_sub (pv 0) pe_int set_list))
        (pss_one (ps_asg (pv 4) (pg_sub (pv 0) pe_int set_list)))))))) pss_nil)
      (pss_cons (ps_set (i := 5) sc_below.nd rfl (.inl rfl) (pe_op op_mod (pe_callTy call_int1 (by rfl) T.int (by decide +kernel) (pa_cons (pe_ix ix_list (pv 0) pe_int (fun _ _ => rfl)) pa_nil)) (pv 1)))
      (pss_cons (ps_asg (pe_op op_fdivN (pe_ix ix_list (pv 0) pe_int (fun _ _ => rfl)) (pv 1)) (pg_sub (pv 0) pe_int set_list))
      (pss_cons (ps_asg (pe_op op_fdivN (pe_ix ix_list (pv 0) pe_int (fun _ _ => rfl)) (pv 1)) (pg_sub (pv 0) pe_int set_list))
      (pss_one (ps_ret (pv 5)))))), ?_⟩
    -- the end, from any pot
    have tail : ∀ (v2 v3 v4 : Option V) (H1 : Hp), Ext p c H H1 → ∀ (t : TS), t = tSeq (tAsg (tOp (rI (fun _ j => 0 < j) fun i j => V.int (i % j)) (tCB (fun xs H Q => (∃ i, xs = [V.int i] ∧ Q (.int i) H) ∨ ∃ k, xs = [V.bl k] ∧ Q (.int (if k then 1 else 0)) H) (tCons (tOp (rIxL K) (tVar 0) (tC (.int 2))) tNil)) (tVar 1)) (gName 5))
        (tSeq (tAsg (tOp (rI CDivN fun i j => V.int (i.fdiv j)) (tOp (rIxL K) (tVar 0) (tC (.int 2))) (tVar 1)) (gSub (tVar 0) (tC (.int 2)) rSetL)) (tSeq (tAsg (tOp (rI CDivN fun i j => V.int (i.fdiv j)) (tOp (rIxL K) (tVar 0) (tC (.int 3))) (tVar 1)) (gSub (tVar 0) (tC (.int 3)) rSetL)) (tRet (tVar 5)))) →
        t { nx := fun _ H' => Q .non H', rt := Q } [some (.ref p), some (.int n), v2, v3, v4, none] H1 := by
      rintro v2 v3 v4 H1 e t rfl
      obtain ⟨npc, ⟨i, a, b, hp⟩, _⟩ := id e.pot
      refine ⟨_, rfl, p, _, 2, .int a, rfl, rfl, SqL.of hp, atI_nat (j := 2) rfl, .inl ⟨_, rfl, _, rfl, _, _, rfl, rfl, n0, ?_⟩⟩
      refine ⟨_, rfl, p, _, 2, .int a, rfl, rfl, SqL.of hp, atI_nat (j := 2) rfl, _, rfl, _, _, rfl, rfl, ⟨by omega, by omega⟩, ?_⟩
      refine ⟨_, rfl, p, _, 2, 2, rfl, rfl, hp, rfl, ?_⟩
      refine ⟨_, rfl, p, _, 3, .int b, rfl, rfl, SqL.of upd_same, atI_nat (j := 3) rfl, _, rfl, _, _, rfl, rfl, ⟨by omega, by omega⟩, ?_⟩
      refine ⟨_, rfl, p, _, 3, 3, rfl, rfl, upd_same, rfl, ?_⟩
      refine ⟨_, rfl, k _ _ (Int.emod_nonneg _ (by omega)) (Int.emod_lt_of_pos _ n0) ?_⟩
      exact pot_put hP (pot_put hP e)
    obtain ⟨npc, ⟨i, a, b, hp⟩, ns, hc, hl⟩ := id hP
    refine ⟨_, rfl, p, _, 3, .int b, rfl, rfl, SqL.of hp, atI_nat (j := 3) rfl, _, rfl, _, _, rfl, rfl, _, rfl, ?_⟩
    refine ite2 (fun _ => ?_) (fun _ => tail _ _ _ H hP.ref _ rfl)
    refine ⟨_, rfl, p, _, 0, .ref c, rfl, rfl, SqL.of hp, atI_nat (j := 0) rfl, _, rfl, p, _, 1, .int i, rfl, rfl, SqL.of hp, atI_nat (j := 1) rfl, _, _, rfl, ?_⟩
    refine ⟨_, rfl, Nat.zero_le _, fun q nq => ⟨_, _, .lst (SqL.of (by rw [upd_ne (ne_of_none hc nq)]; exact hc)) (dp_ints ns), .lst (SqL.of upd_same) .nil, shaped_ints ns, rfl, _, rfl, ?_⟩⟩
    rw [eqv_ints_nil]
    have e1 : Ext p c H (upd H q (.lst [])) := hP.ref.new nq
    have hc1 : (upd H q (.lst [])) c = some (.lst (ns.map V.int)) := by rw [upd_ne (ne_of_none hc nq)]; exact hc
    have hp1 : (upd H q (.lst [])) p = some (.lst [.ref c, .int i, .int a, .int b]) := by rw [upd_ne (ne_of_none hp nq)]; exact hp
    refine ite2 (fun hn => ?wayA) (fun hn => ?wayB)
    case' wayA =>
      have hn2 : 0 < ns.length := List.length_pos_iff.mpr fun z => by
        rw [z] at hn
        exact absurd hn (by decide)
      obtain ⟨z, hz⟩ := atI_ints (ns := ns) (k := Int.fmod i (((ns.map V.int).length : Nat) : Int)) (Int.fmod_nonneg_of_pos _ (by rw [List.length_map]; omega)) (by
        rw [List.length_map]
        exact Int.fmod_lt_of_pos _ (by omega))
      refine ⟨_, rfl, _, rfl, _, rfl, c, _, rfl, .inl (SqL.of hc1), _, _, rfl, rfl, (by rw [List.length_map]; show ((ns.length : Nat) : Int) ≠ 0; omega), c, _, _, .int z, rfl, rfl, SqL.of hc1, hz, ?_⟩
    all_goals
      refine ⟨_, rfl, _, rfl, c, _, rfl, .inl (SqL.of hc1), _, _, rfl, rfl, _, rfl, ?_⟩
      refine ite2 (fun _ => iteT ?_) (fun _ => ⟨_, rfl, _, _, rfl, rfl, ⟨by decide, by decide, by decide⟩, _, _, rfl, rfl, _, rfl, ite2 (fun _ => ?_) (fun _ => ?_)⟩)
      all_goals try refine ⟨_, rfl, .inl ⟨_, rfl, _, _, rfl, rfl, (by show (0 : Int) < 982451629; decide), _, rfl, _, _, rfl, fun r => ?_⟩⟩
      all_goals
        refine ⟨_, rfl, _, _, rfl, rfl, _, rfl, p, _, 1, 1, rfl, rfl, hp1, rfl, ?_⟩
        refine ⟨_, rfl, _, rfl, p, _, 2, 2, rfl, rfl, upd_same, rfl, ?_⟩
        refine ⟨_, rfl, _, rfl, p, _, 3, 3, rfl, rfl, upd_same, rfl, ?_⟩
        exact tail _ _ _ _ (pot_put hP (pot_put hP (pot_put hP e1))) _ rfl
end
end Lk

/-! K01q -/
set_option Elab.async false
set_option linter.all false
set_option maxRecDepth 100000
set_option maxHeartbeats 4000000
namespace Lk
open PySem PySem.Spec PyProof.Rows L2
section
variable {P : Program} {w : World} {K : PySem.W.Frag} {mg : Str → Option Value} {base : Heap}
abbrev s_init1 : Stmt := inClass (top 2) 0
abbrev s_init2 : Stmt := inClass (top 3) 0
/-- a class with its own __init__ -/
structure Ini (P : Program) (w : World) (K : PySem.W.Frag) (mg : Str → Option Value) (base : Heap) (x : String) (C : Addr) (sp : Sp) : Prop where
  ex : ∃ (fI : Addr) (fd : FuncData) (ps : List Str), FnOk P w K mg base CX0 1 fI fd ps sp ∧ PySem.W.findIn K (.ref C) "__init__" = some (some (.ref fI)) ∧ PySem.W.typeIn K (.ref fI) = some (.type "function") ∧ Binds K fd ps [] ∧ mg x = some (.ref C)
  ox : OexC K C
theorem pe_ini {X : Cx} {x : String} {C : Addr} {sp : Sp} {j : Nat} {e : Expr} {es : List Expr} {ta : TA} {p pos : Pos} (T : Ini X.prog X.w X.K X.mg X.base x C sp) (hr : Room j X.A) (hj : 2 ≤ j) (ha : PA X (e :: es) ta) (hg : Gl X x := by rfl)
    (hdb : ((x : Str) == ("__debug__" : Str)) = false := by decide) (he : starEach (e :: es) X.env = (false, eval e X.env) :: starEach es X.env := by rfl) (hpl : (backTo pos (starEach es X.env)).any (·.1) = false := by rfl) :
    PE X (.Call (.Name x p) (e :: es) [] pos) (tMkV C sp ta) := by
  obtain ⟨fI, fd, ps, F, iC, tI, b, m⟩ := T.ex
  exact pe_mkV T.ox iC tI F (hr.mono hj) b pass0 hg m ha hdb he hpl
def spI1 (C : Addr) : Sp := fun vs H Q _ => ∃ (a : Addr) (y : V), vs = [.ref a, y] ∧ H a = some (exo a C none) ∧ ∀ dx, H dx = none → dx ≠ a → Q .non (upd (upd H dx (exd dx [("limit", y)])) a (exo a C (some dx)))
def spI2 (C : Addr) : Sp := fun vs H Q _ => ∃ (a : Addr) (y z : V), vs = [.ref a, y, z] ∧ H a = some (exo a C none) ∧ ∀ dx, H dx = none → dx ≠ a → Q .non (upd (upd (upd H dx (exd dx [("line", y)])) a (exo a C (some dx))) dx (exd dx [("column", z), ("line", y)]))
theorem sc_init1 : FnScope ["self", "limit"] ["self", "limit"] (defScope s_init1) := ⟨rfl, rfl, rfl, by decide +kernel, rfl, by decide +kernel, by decide +kernel⟩
theorem sc_init2 : FnScope ["self", "line", "column"] ["self", "line", "column"] (defScope s_init2) := ⟨rfl, rfl, rfl, by decide +kernel, rfl, by decide +kernel, by decide +kernel⟩
theorem ini1 {fI C : Addr} {fd : FuncData} (F : L2.Fun K "__init__" "TooMany.__init__" s_init1 fI fd) (T : OexC K C) (iC : PySem.W.findIn K (.ref C) "__init__" = some (some (.ref fI))) (tI : PySem.W.typeIn K (.ref fI) = some (.type "function")) (no : PySem.W.findIn K (.ref C) "limit" = some none) (m : mg "TooMany" = some (.ref C)) :
    Ini P w K mg base "TooMany" C (spI1 C) := by
  refine ⟨⟨fI, fd, ["self", "limit"], F.ok sc_init1 (fun vs H Q E h => ?_) (fun cdv A outer s H vs Q E hr h => ?_), iC, tI, F.binds (ps := ["self", "limit"]) fun _ _ _ _ _ _ us hl => match us, hl with | [_, _], _ => rfl, m⟩, T⟩
  · obtain ⟨a, y, rfl, _⟩ := h
    rfl
  · obtain ⟨a, y, rfl, ha, k⟩ := h
    exact ⟨_, pss_one (ps_ost (pv 0) (pv 1) (by rfl)), ⟨_, rfl, _, rfl, a, C, rfl, T, no, .inl ⟨ha, fun dx n ne => k dx n ne⟩⟩⟩
theorem ini2 {fI C : Addr} {fd : FuncData} (F : L2.Fun K "__init__" "SyntaxProblem.__init__" s_init2 fI fd) (T : OexC K C) (iC : PySem.W.findIn K (.ref C) "__init__" = some (some (.ref fI))) (tI : PySem.W.typeIn K (.ref fI) = some (.type "function")) (no1 : PySem.W.findIn K (.ref C) "line" = some none) (no2 : PySem.W.findIn K (.ref C) "column" = some none) (m : mg "SyntaxProblem" = some (.ref C)) :
    Ini P w K mg base "SyntaxProblem" C (spI2 C) := by
  refine ⟨⟨fI, fd, ["self", "line", "column"], F.ok sc_init2 (fun vs H Q E h => ?_) (fun cdv A outer s H vs Q E hr h => ?_), iC, tI, F.binds (ps := ["self", "line", "column"]) fun _ _ _ _ _ _ us hl => match us, hl with | [_, _, _], _ => rfl, m⟩, T⟩
  · obtain ⟨a, y, z, rfl, _⟩ := h
    rfl
  · obtain ⟨a, y, z, rfl, ha, k⟩ := h
    exact ⟨_, pss_cons (ps_ost (pv 0) (pv 1) (by rfl)) (pss_one (ps_ost (pv 0) (pv 2) (by rfl))), ⟨_, rfl, _, rfl, a, C, rfl, T, no1, .inl ⟨ha, fun dx n ne =>
      ⟨_, rfl, _, rfl, a, C, rfl, T, no2, .inr ⟨dx, _, upd_same, by rw [upd_ne ne, upd_same], by show 1 ≤ 900; decide, k dx n ne⟩⟩⟩⟩⟩
/-- the classes of the law -/
structure C9 where
  c1 : Addr
  c2 : Addr
  c3 : Addr
  c4 : Addr
  c5 : Addr
  c6 : Addr
  c7 : Addr
  c8 : Addr
  c9 : Addr
structure Errs (P : Program) (w : World) (K : PySem.W.Frag) (mg : Str → Option Value) (base : Heap) (c : C9) : Prop where
  e1 : Ini P w K mg base "TooMany" c.c1 (spI1 c.c1)
  e2 : Ini P w K mg base "SyntaxProblem" c.c2 (spI2 c.c2)
  e3 : Err K mg "NoName" c.c3
  e4 : Err K mg "NoBook" c.c4
  e5 : Err K mg "NoFiles" c.c5
  e6 : Err K mg "NoRule" c.c6
  e7 : Err K mg "NoMark" c.c7
  e8 : Err K mg "Mismatch" c.c8
  e9 : Err K mg "InvalidCommand" c.c9
theorem mkv_same {H : Hp} {a d : Addr} {u v z : HO} (ha : H a = none) (hd : (upd H a u) d = none) : Same H (upd (upd (upd H a u) d v) a z) := fun b x e => by
  have n1 : b ≠ a := ne_of_none e ha
  have n2 : b ≠ d := fun q => by
    rw [← q, upd_ne n1, e] at hd
    cases hd
  rw [upd_ne n1, upd_ne n2, upd_ne n1]
  exact e
theorem mkv_same2 {H : Hp} {a d : Addr} {u v z t : HO} (ha : H a = none) (hd : (upd H a u) d = none) : Same H (upd (upd (upd (upd H a u) d v) a z) d t) := fun b x e => by
  have n1 : b ≠ a := ne_of_none e ha
  have n2 : b ≠ d := fun q => by
    rw [← q, upd_ne n1, e] at hd
    cases hd
  rw [upd_ne n2]
  exact mkv_same ha hd b x e
/-- one error of each class -/
structure Made (H : Hp) (p : Addr) (i j : Int) (c : C9) (as : List Addr) : Prop where
  at_ : H p = some (.lst (as.map V.ref))
  ex : ∃ a1 a2 a3 a4 a5 a6 a7 a8 a9 d1 d2, as = [a1, a2, a3, a4, a5, a6, a7, a8, a9] ∧ (H a1 = some (exo a1 c.c1 (some d1)) ∧ H d1 = some (exd d1 [("limit", .int i)])) ∧ (H a2 = some (exo a2 c.c2 (some d2)) ∧ H d2 = some (exd d2 [("column", .int i), ("line", .int j)])) ∧
    EvAt H a3 c.c3 ∧ EvAt H a4 c.c4 ∧ EvAt H a5 c.c5 ∧ EvAt H a6 c.c6 ∧ EvAt H a7 c.c7 ∧ EvAt H a8 c.c8 ∧ EvAt H a9 c.c9
def spMade (c : C9) : Sp := fun vs H Q _ => ∃ i j : Int, vs = [.int i, .int j] ∧ ∀ p as H', Same H H' → Made H' p i j c as → Q (.ref p) H'
theorem sc_made : FnScope ["limit", "line", "found"] ["limit", "line"] (defScope s_made) := ⟨rfl, rfl, rfl, by decide +kernel, rfl, by decide +kernel, by decide +kernel⟩
theorem cal_made {c : C9} (D : Def1 K mg "_law_made" s_made) (T : Errs P w K mg base c) : Cal P w K mg base 3 "_law_made" (spMade c) := by
  refine mkCal D sc_made (fun _ _ _ _ _ _ us hl => match us, hl with | [_, _], _ => rfl) (fun vs H Q E h => ?_) (fun f cdv A outer s H vs Q E hr h => ?_)
  · obtain ⟨i, j, rfl, _⟩ := h
    rfl
  · obtain ⟨i, j, rfl, k⟩ := h
    refine ⟨_, pss_cons (ps_set (i := 2) sc_made.nd rfl (.inl rfl) (pe_lst (pa_cons (pe_ini T.e1 hr (by decide) (pa_cons (pv 0) pa_nil)) (pa_cons (pe_ini T.e2 hr (by decide) (pa_cons (pv 1) (pa_cons (pv 0) pa_nil))) (pa_cons (pe_exc1 PySem.F.excBase_ValueError T.e3.xC T.e3.gC T.e3.kC rfl pe_str) (pa_cons (pe_exc1 PySem.F.excBase_ValueError T.e4.xC T.e4.gC T.e4.kC rfl pe_str)
        (pa_cons (pe_exc1 PySem.F.excBase_ValueError T.e5.xC T.e5.gC T.e5.kC rfl pe_str) (pa_cons (pe_exc1 PySem.F.excBase_ValueError T.e6.xC T.e6.gC T.e6.kC rfl pe_str) pa_nil))))))))
      (pss_one (ps_ret (pe_op op_cat (pv 2) (pe_lst (pa_cons (pe_exc1 PySem.F.excBase_ValueError T.e7.xC T.e7.gC T.e7.kC rfl pe_str) (pa_cons (pe_exc1 PySem.F.excBase_ValueError T.e8.xC T.e8.gC T.e8.kC rfl pe_str) (pa_cons (pe_exc1 PySem.F.excBase_ValueError T.e9.xC T.e9.gC T.e9.kC rfl pe_str) pa_nil))))))), ?_⟩
    refine set_read ?_
    refine ⟨_, rfl, (by show 1 ≤ 1000; decide), fun a1 n1 => ⟨a1, .int i, rfl, upd_same, fun d1 m1 ne1 => ⟨rfl, ?_⟩⟩⟩
    have s1 := mkv_same (v := exd d1 [("limit", V.int i)]) (z := exo a1 c.c1 (some d1)) n1 m1
    have f1 : (upd (upd (upd H a1 (exo a1 c.c1 none)) d1 (exd d1 [("limit", V.int i)])) a1 (exo a1 c.c1 (some d1))) a1 = some (exo a1 c.c1 (some d1)) := upd_same
    have g1 : (upd (upd (upd H a1 (exo a1 c.c1 none)) d1 (exd d1 [("limit", V.int i)])) a1 (exo a1 c.c1 (some d1))) d1 = some (exd d1 [("limit", V.int i)]) := by rw [upd_ne ne1, upd_same]
    generalize upd (upd (upd H a1 (exo a1 c.c1 none)) d1 (exd d1 [("limit", V.int i)])) a1 (exo a1 c.c1 (some d1)) = B1 at s1 f1 g1 ⊢
    refine ⟨_, rfl, _, rfl, (by show 2 ≤ 1000; decide), fun a2 n2 => ⟨a2, .int j, .int i, rfl, upd_same, fun d2 m2 ne2 => ⟨rfl, ?_⟩⟩⟩
    have s2 := mkv_same2 (v := exd d2 [("line", V.int j)]) (z := exo a2 c.c2 (some d2)) (t := exd d2 [("column", V.int i), ("line", V.int j)]) n2 m2
    have f2 : (upd (upd (upd (upd B1 a2 (exo a2 c.c2 none)) d2 (exd d2 [("line", V.int j)])) a2 (exo a2 c.c2 (some d2))) d2 (exd d2 [("column", V.int i), ("line", V.int j)])) a2 = some (exo a2 c.c2 (some d2)) := by rw [upd_ne ne2.symm, upd_same]
    have g2 : (upd (upd (upd (upd B1 a2 (exo a2 c.c2 none)) d2 (exd d2 [("line", V.int j)])) a2 (exo a2 c.c2 (some d2))) d2 (exd d2 [("column", V.int i), ("line", V.int j)])) d2 = some (exd d2 [("column", V.int i), ("line", V.int j)]) := upd_same
    generalize upd (upd (upd (upd B1 a2 (exo a2 c.c2 none)) d2 (exd d2 [("line", V.int j)])) a2 (exo a2 c.c2 (some d2))) d2 (exd d2 [("column", V.int i), ("line", V.int j)]) = B2 at s2 f2 g2 ⊢
    intro a3 n3 a4 n4 a5 n5 a6 n6
    have s3 : Same B2 (upd B2 a3 (ExO (.ref c.c3) a3)) := same_upd n3
    have h3 : EvAt (upd B2 a3 (ExO (.ref c.c3) a3)) a3 c.c3 := .inl upd_same
    generalize upd B2 a3 (ExO (.ref c.c3) a3) = B3 at s3 h3 n4 n5 n6 ⊢
    have s4 : Same B3 (upd B3 a4 (ExO (.ref c.c4) a4)) := same_upd n4
    have h4 : EvAt (upd B3 a4 (ExO (.ref c.c4) a4)) a4 c.c4 := .inl upd_same
    generalize upd B3 a4 (ExO (.ref c.c4) a4) = B4 at s4 h4 n5 n6 ⊢
    have s5 : Same B4 (upd B4 a5 (ExO (.ref c.c5) a5)) := same_upd n5
    have h5 : EvAt (upd B4 a5 (ExO (.ref c.c5) a5)) a5 c.c5 := .inl upd_same
    generalize upd B4 a5 (ExO (.ref c.c5) a5) = B5 at s5 h5 n6 ⊢
    have s6 : Same B5 (upd B5 a6 (ExO (.ref c.c6) a6)) := same_upd n6
    have h6 : EvAt (upd B5 a6 (ExO (.ref c.c6) a6)) a6 c.c6 := .inl upd_same
    generalize upd B5 a6 (ExO (.ref c.c6) a6) = B6 at s6 h6 ⊢
    refine ⟨(by show 6 ≤ sizeLine; decide), fun l nl => ?_⟩
    have sl : Same B6 (upd B6 l (.lst [.ref a1, .ref a2, .ref a3, .ref a4, .ref a5, .ref a6])) := same_upd nl
    have fl : (upd B6 l (.lst [.ref a1, .ref a2, .ref a3, .ref a4, .ref a5, .ref a6])) l = some (.lst [.ref a1, .ref a2, .ref a3, .ref a4, .ref a5, .ref a6]) := upd_same
    generalize upd B6 l (.lst [.ref a1, .ref a2, .ref a3, .ref a4, .ref a5, .ref a6]) = BL at sl fl ⊢
    refine ⟨_, rfl, ?_⟩
    intro a7 n7 a8 n8 a9 n9
    have s7 : Same BL (upd BL a7 (ExO (.ref c.c7) a7)) := same_upd n7
    have h7 : EvAt (upd BL a7 (ExO (.ref c.c7) a7)) a7 c.c7 := .inl upd_same
    generalize upd BL a7 (ExO (.ref c.c7) a7) = B7 at s7 h7 n8 n9 ⊢
    have s8 : Same B7 (upd B7 a8 (ExO (.ref c.c8) a8)) := same_upd n8
    have h8 : EvAt (upd B7 a8 (ExO (.ref c.c8) a8)) a8 c.c8 := .inl upd_same
    generalize upd B7 a8 (ExO (.ref c.c8) a8) = B8 at s8 h8 n9 ⊢
    have s9 : Same B8 (upd B8 a9 (ExO (.ref c.c9) a9)) := same_upd n9
    have h9 : EvAt (upd B8 a9 (ExO (.ref c.c9) a9)) a9 c.c9 := .inl upd_same
    generalize upd B8 a9 (ExO (.ref c.c9) a9) = B9 at s9 h9 ⊢
    refine ⟨(by show 3 ≤ sizeLine; decide), fun m nm => ?_⟩
    have sm : Same B9 (upd B9 m (.lst [.ref a7, .ref a8, .ref a9])) := same_upd nm
    refine ⟨l, m, _, _, rfl, rfl, sm _ _ (s9 _ _ (s8 _ _ (s7 _ _ fl))), upd_same, (by show 6 + 3 ≤ sizeLine; decide), fun p np => ?_⟩
    have sp := sm.trans (same_upd (o := .lst ([V.ref a1, .ref a2, .ref a3, .ref a4, .ref a5, .ref a6] ++ [.ref a7, .ref a8, .ref a9])) np)
    have s98 := s9.trans sp
    have s87 := s8.trans s98
    have s7L := s7.trans s87
    have sL6 := sl.trans s7L
    have s65 := s6.trans sL6
    have s54 := s5.trans s65
    have s43 := s4.trans s54
    have s32 := s3.trans s43
    have s21 := s2.trans s32
    exact k p [a1, a2, a3, a4, a5, a6, a7, a8, a9] _ (s1.trans s21) ⟨upd_same, a1, a2, a3, a4, a5, a6, a7, a8, a9, d1, d2, rfl, ⟨s21 _ _ f1, s21 _ _ g1⟩, ⟨s32 _ _ f2, s32 _ _ g2⟩, h3.same s43, h4.same s54, h5.same s65, h6.same sL6, h7.same s87, h8.same s98, h9.same sp⟩
end
end Lk

/-! K01r -/
set_option Elab.async false
set_option linter.all false
set_option maxRecDepth 100000
set_option maxHeartbeats 4000000
namespace Lk
open PySem PySem.Spec PyProof.Rows L2
section
variable {P : Program} {w : World} {K : PySem.W.Frag} {mg : Str → Option Value} {base : Heap}
structure Nm9 (mg : Str → Option Value) (c : C9) : Prop where
  n1 : Con1 mg "TooMany" (.ref c.c1)
  n2 : Con1 mg "SyntaxProblem" (.ref c.c2)
  n3 : Con1 mg "NoName" (.ref c.c3)
  n4 : Con1 mg "NoBook" (.ref c.c4)
  n5 : Con1 mg "NoFiles" (.ref c.c5)
  n6 : Con1 mg "NoRule" (.ref c.c6)
  n7 : Con1 mg "NoMark" (.ref c.c7)
  n8 : Con1 mg "Mismatch" (.ref c.c8)
  n9 : Con1 mg "InvalidCommand" (.ref c.c9)
/-- of which classes an error of the class at C is -/
structure Kit9 (K : PySem.W.Frag) (C : Addr) (c : C9) (b1 b2 b3 b4 b5 b6 b7 b8 b9 : Bool) : Prop where
  k1 : PySem.W.kitOne K (.ref C) (.ref c.c1) = some b1
  k2 : PySem.W.kitOne K (.ref C) (.ref c.c2) = some b2
  k3 : PySem.W.kitOne K (.ref C) (.ref c.c3) = some b3
  k4 : PySem.W.kitOne K (.ref C) (.ref c.c4) = some b4
  k5 : PySem.W.kitOne K (.ref C) (.ref c.c5) = some b5
  k6 : PySem.W.kitOne K (.ref C) (.ref c.c6) = some b6
  k7 : PySem.W.kitOne K (.ref C) (.ref c.c7) = some b7
  k8 : PySem.W.kitOne K (.ref C) (.ref c.c8) = some b8
  k9 : PySem.W.kitOne K (.ref C) (.ref c.c9) = some b9
def spClasses (K : PySem.W.Frag) (c : C9) : Sp := fun vs H Q _ => ∃ (a C : Addr) (b1 b2 b3 b4 b5 b6 b7 b8 b9 : Bool), vs = [.ref a] ∧ EvAt H a C ∧ EvC K C ∧ Kit9 K C c b1 b2 b3 b4 b5 b6 b7 b8 b9 ∧
  ∀ p H', Same H H' → H' p = some (.lst ([b1, b2, b3, b4, b5, b6, b7, b8, b9].map V.bl)) → Q (.ref p) H'
theorem is_v {X : Cx} {x : String} {D : Addr} {te : TE} {e : Expr} {p q pos : Pos} (hi : X.mg "isinstance" = none) (n : Con1 X.mg x (.ref D)) (he : PE X e te) (hg : Gl X "isinstance" := by rfl) (hg2 : Gl X x := by rfl)
    (hd : ((x : Str) == ("__debug__" : Str)) = false := by decide)
    (hs1 : starEach [e, .Name x q] X.env = (false, eval e X.env) :: starEach [.Name x q] X.env := by rfl) (hs2 : starEach [(.Name x q : Expr)] X.env = (false, eval (.Name x q) X.env) :: starEach [] X.env := by rfl)
    (hpl : (backTo pos (starEach [.Name x q] X.env)).any (·.1) = false := by rfl) :
    PE X (.Call (.Name "isinstance" p) [e, .Name x q] [] pos) (tCB (rIsV X.K) (tCons te (tCons (tC (.ref D)) tNil))) :=
  pe_callB call_isV hg hi PyProof.Rows.boot_isinstance (pa_cons he (pa_cons (pe_con1 n hg2 hd) pa_nil hs2) hs1) (by decide) (by decide) hs1 hpl
theorem sc_classes : FnScope ["error", "found"] ["error"] (defScope s_classes) := ⟨rfl, rfl, rfl, by decide +kernel, rfl, by decide +kernel, by decide +kernel⟩
theorem cal_classes {c : C9} (D : Def1 K mg "_law_classes" s_classes) (hi : mg "isinstance" = none) (N : Nm9 mg c) : Cal P w K mg base 1 "_law_classes" (spClasses K c) := by
  refine mkCal D sc_classes (fun _ _ _ _ _ _ us hl => match us, hl with | [_], _ => rfl) (fun vs H Q E h => ?_) (fun f cdv A outer s H vs Q E hr h => ?_)
  · obtain ⟨a, C, b1, b2, b3, b4, b5, b6, b7, b8, b9, rfl, _⟩ := h
    rfl
  · obtain ⟨a, C, b1, b2, b3, b4, b5, b6, b7, b8, b9, rfl, ev, T, k, q⟩ := h
    refine ⟨_, pss_cons (ps_set (i := 1) sc_classes.nd rfl (.inl rfl) (pe_lst (pa_cons (is_v hi N.n1 (pv 0)) (pa_cons (is_v hi N.n2 (pv 0)) (pa_cons (is_v hi N.n3 (pv 0)) pa_nil)))))
      (pss_cons (ps_set (i := 1) sc_classes.nd rfl (.inl rfl) (pe_op op_cat (pv 1) (pe_lst (pa_cons (is_v hi N.n4 (pv 0)) (pa_cons (is_v hi N.n5 (pv 0)) (pa_cons (is_v hi N.n6 (pv 0)) pa_nil))))))
      (pss_one (ps_ret (pe_op op_cat (pv 1) (pe_lst (pa_cons (is_v hi N.n7 (pv 0)) (pa_cons (is_v hi N.n8 (pv 0)) (pa_cons (is_v hi N.n9 (pv 0)) pa_nil)))))))), ?_⟩
    refine set_read ?_
    refine ⟨_, rfl, a, C, _, _, b1, rfl, ev, T, fun u r => r, k.k1, _, rfl, a, C, _, _, b2, rfl, ev, T, fun u r => r, k.k2, _, rfl, a, C, _, _, b3, rfl, ev, T, fun u r => r, k.k3, (by show 3 ≤ sizeLine; decide), fun p1 n1 => ?_⟩
    have s1 : Same H (upd H p1 (.lst [.bl b1, .bl b2, .bl b3])) := same_upd n1
    have f1 : (upd H p1 (.lst [.bl b1, .bl b2, .bl b3])) p1 = some (.lst [.bl b1, .bl b2, .bl b3]) := upd_same
    generalize upd H p1 (.lst [.bl b1, .bl b2, .bl b3]) = B1 at s1 f1 ⊢
    refine set_read ?_
    refine ⟨_, rfl, _, rfl, a, C, _, _, b4, rfl, ev.same s1, T, fun u r => r, k.k4, _, rfl, a, C, _, _, b5, rfl, ev.same s1, T, fun u r => r, k.k5, _, rfl, a, C, _, _, b6, rfl, ev.same s1, T, fun u r => r, k.k6, (by show 3 ≤ sizeLine; decide), fun p2 n2 => ?_⟩
    have s2 : Same B1 (upd B1 p2 (.lst [.bl b4, .bl b5, .bl b6])) := same_upd n2
    have f2 : (upd B1 p2 (.lst [.bl b4, .bl b5, .bl b6])) p2 = some (.lst [.bl b4, .bl b5, .bl b6]) := upd_same
    generalize upd B1 p2 (.lst [.bl b4, .bl b5, .bl b6]) = B2 at s2 f2 ⊢
    refine ⟨p1, p2, _, _, rfl, rfl, s2 _ _ f1, f2, (by show 3 + 3 ≤ sizeLine; decide), fun p3 n3 => ?_⟩
    have s3 : Same B2 (upd B2 p3 (.lst ([.bl b1, .bl b2, .bl b3] ++ [.bl b4, .bl b5, .bl b6]))) := same_upd n3
    have f3 : (upd B2 p3 (.lst ([.bl b1, .bl b2, .bl b3] ++ [.bl b4, .bl b5, .bl b6]))) p3 = some (.lst ([.bl b1, .bl b2, .bl b3] ++ [.bl b4, .bl b5, .bl b6])) := upd_same
    generalize upd B2 p3 (.lst ([.bl b1, .bl b2, .bl b3] ++ [.bl b4, .bl b5, .bl b6])) = B3 at s3 f3 ⊢
    have s13 := (s1.trans s2).trans s3
    refine ⟨_, rfl, _, rfl, a, C, _, _, b7, rfl, ev.same s13, T, fun u r => r, k.k7, _, rfl, a, C, _, _, b8, rfl, ev.same s13, T, fun u r => r, k.k8, _, rfl, a, C, _, _, b9, rfl, ev.same s13, T, fun u r => r, k.k9, (by show 3 ≤ sizeLine; decide), fun p4 n4 => ?_⟩
    have s4 : Same B3 (upd B3 p4 (.lst [.bl b7, .bl b8, .bl b9])) := same_upd n4
    refine ⟨p3, p4, _, _, rfl, rfl, s4 _ _ f3, upd_same, (by show 6 + 3 ≤ sizeLine; decide), fun p5 n5 => ?_⟩
    exact q p5 _ ((s13.trans s4).trans (same_upd n5)) upd_same
end
end Lk

/-! K01w -/
set_option Elab.async false
set_option linter.all false
set_option maxRecDepth 100000
set_option maxHeartbeats 4000000
namespace Lk
open PySem PySem.Spec PyProof.Rows L2
section
variable {P : Program} {w : World} {K : PySem.W.Frag} {mg : Str → Option Value} {base : Heap}
theorem sc_law : FnScope ["script", "pot", "limit", "line", "errors", "at", "error", "fields", "spot"] ["script"] (defScope s_law) := ⟨rfl, rfl, rfl, by decide +kernel, rfl, by decide +kernel, by decide +kernel⟩
structure Gl01 (mg : Str → Option Value) (rE : Addr) : Prop where
  isi : mg "isinstance" = none
  ve : mg "ValueError" = none
  ke : mg "KeyError" = none
  ie : mg "IndexError" = none
  te : mg "TypeError" = none
  re : Con1 mg "RuleError" (.ref rE)
structure Cs01 (P : Program) (w : World) (K : PySem.W.Frag) (mg : Str → Option Value) (base : Heap) (c : C9) : Prop where
  pot : Cal P w K mg base 1 "_law_pot_of" (spPotOf K)
  below : Cal P w K mg base 2 "_law_below" spBelow
  made : Cal P w K mg base 3 "_law_made" (spMade c)
  cls : Cal P w K mg base 1 "_law_classes" (spClasses K c)
/-- the answer's bits -/
def bits (i : Nat) : List Bool := (List.range 9).map fun j : Nat => decide (V.int (0 + (j : Int)) = V.int (i : Int))
/-- what each class says -/
structure Says (K : PySem.W.Frag) (rE C : Addr) : Prop where
  ev : EvC K C
  ru : PySem.W.kitOne K (.ref C) (.ref rE) = some true
  ve : PySem.W.kitOne K (.ref C) (.type "ValueError") = some true
  no : PySem.W.kitAny K (.ref C) [.type "KeyError", .type "IndexError", .type "TypeError"] = some false
structure Says9 (K : PySem.W.Frag) (rE : Addr) (c : C9) : Prop where
  y1 : Says K rE c.c1
  y2 : Says K rE c.c2
  y3 : Says K rE c.c3
  y4 : Says K rE c.c4
  y5 : Says K rE c.c5
  y6 : Says K rE c.c6
  y7 : Says K rE c.c7
  y8 : Says K rE c.c8
  y9 : Says K rE c.c9
  t1 : Kit9 K c.c1 c true false false false false false false false false
  t2 : Kit9 K c.c2 c false true false false false false false false false
  t3 : Kit9 K c.c3 c false false true false false false false false false
  t4 : Kit9 K c.c4 c false false false true false false false false false
  t5 : Kit9 K c.c5 c false false false false true false false false false
  t6 : Kit9 K c.c6 c false false false false false true false false false
  t7 : Kit9 K c.c7 c false false false false false false true false false
  t8 : Kit9 K c.c8 c false false false false false false false true false
  t9 : Kit9 K c.c9 c false false false false false false false false true
  r : EvC K rE
  tr : Kit9 K rE c false false false false false false false false false
theorem each {rE : Addr} {c : C9} {H : Hp} {p : Addr} {i j : Int} {as : List Addr} (Y : Says9 K rE c) (M : Made H p i j c as) : ∀ (n : Nat) (a : Addr), as[n]? = some a → ∃ C b1 b2 b3 b4 b5 b6 b7 b8 b9, EvAt H a C ∧ Says K rE C ∧ Kit9 K C c b1 b2 b3 b4 b5 b6 b7 b8 b9 ∧ bits n = [b1, b2, b3, b4, b5, b6, b7, b8, b9] := by
  obtain ⟨a1, a2, a3, a4, a5, a6, a7, a8, a9, d1, d2, rfl, ⟨h1, g1⟩, ⟨h2, g2⟩, h3, h4, h5, h6, h7, h8, h9⟩ := M.ex
  intro n a hn
  match n, hn with
  | 0, hn => cases hn; exact ⟨_, _, _, _, _, _, _, _, _, _, .inr ⟨_, _, h1, g1⟩, Y.y1, Y.t1, by decide +kernel⟩
  | 1, hn => cases hn; exact ⟨_, _, _, _, _, _, _, _, _, _, .inr ⟨_, _, h2, g2⟩, Y.y2, Y.t2, by decide +kernel⟩
  | 2, hn => cases hn; exact ⟨_, _, _, _, _, _, _, _, _, _, h3, Y.y3, Y.t3, by decide +kernel⟩
  | 3, hn => cases hn; exact ⟨_, _, _, _, _, _, _, _, _, _, h4, Y.y4, Y.t4, by decide +kernel⟩
  | 4, hn => cases hn; exact ⟨_, _, _, _, _, _, _, _, _, _, h5, Y.y5, Y.t5, by decide +kernel⟩
  | 5, hn => cases hn; exact ⟨_, _, _, _, _, _, _, _, _, _, h6, Y.y6, Y.t6, by decide +kernel⟩
  | 6, hn => cases hn; exact ⟨_, _, _, _, _, _, _, _, _, _, h7, Y.y7, Y.t7, by decide +kernel⟩
  | 7, hn => cases hn; exact ⟨_, _, _, _, _, _, _, _, _, _, h8, Y.y8, Y.t8, by decide +kernel⟩
  | 8, hn => cases hn; exact ⟨_, _, _, _, _, _, _, _, _, _, h9, Y.y9, Y.t9, by decide +kernel⟩
  | n + 9, hn => simp at hn
theorem Made.same {H H' : Hp} {p : Addr} {i j : Int} {c : C9} {as : List Addr} (M : Made H p i j c as) (s : Same H H') : Made H' p i j c as := by
  obtain ⟨a1, a2, a3, a4, a5, a6, a7, a8, a9, d1, d2, e, ⟨h1, g1⟩, ⟨h2, g2⟩, h3, h4, h5, h6, h7, h8, h9⟩ := M.ex
  exact ⟨s _ _ M.at_, a1, a2, a3, a4, a5, a6, a7, a8, a9, d1, d2, e, ⟨s _ _ h1, s _ _ g1⟩, ⟨s _ _ h2, s _ _ g2⟩, h3.same s, h4.same s, h5.same s, h6.same s, h7.same s, h8.same s, h9.same s⟩
theorem dp_bools {H : Hp} : ∀ bs : List Bool, DpAll K H (bs.map V.bl) (bs.map PyData.bool)
  | [] => .nil
  | x :: r => .cons (.bl x) (dp_bools r)
theorem shaped_bools (bs : List Bool) : SeqAt.shaped (.list (bs.map PyData.bool)) = true := by
  have h1 : ∀ l : List Bool, PyData.canLayAll0 (l.map PyData.bool) = true := fun l => by
    induction l with
    | nil => rfl
    | cons x r ih => exact ih
  have h2 : ∀ l : List Bool, PyData.depthAll (l.map PyData.bool) = 0 := fun l => by
    induction l with
    | nil => rfl
    | cons x r ih =>
      rw [List.map_cons, PyData.depthAll, ih]
      rfl
  unfold SeqAt.shaped
  rw [PyData.canLay0, h1, PyData.depth, h2]
  rfl
theorem fn_law {f : Addr} {fd : FuncData} {rE : Addr} {c : C9} (F : L2.Fun K "law" "law" s_law f fd) (C : Cs01 P w K mg base c) (G : Glb mg) (R : Gl01 mg rE) (Y : Says9 K rE c) (X1 : Ini P w K mg base "TooMany" c.c1 (spI1 c.c1)) (f1 : XfC K c.c1) (f2 : XfC K c.c2) (ER : Err K mg "RuleError" rE)
    (o1 : PySem.W.findIn K (.ref c.c1) "limit" = some none) (o2 : PySem.W.findIn K (.ref c.c2) "line" = some none) (o3 : PySem.W.findIn K (.ref c.c2) "column" = some none) : FnG P w K mg base CX0 4 f fd ["script"] (spLaw K) := by
  refine mkFnG0 F sc_law (fun vs H Q E h => ?_) (fun cdv A outer s H vs Q E hr hg h => ?_)
  · obtain ⟨a, ns, rfl, _⟩ := h
    rfl
  · obtain ⟨a, ns, rfl, hS, hlen, k⟩ := h
    have h65 : (A.deeper (envOfC "law" (defScope s_law) s.heap.objs.size f cdv)).units + 65 < cLine := by
      have := hr.un
      omega
    refine ⟨_, pss_cons (ps_set (i := 1) sc_law.nd rfl (.inl rfl) (pe_cal C.pot hr (by decide) (pa_cons (pv 0) pa_nil)))
      (pss_cons (ps_par (i := 2) (j := 3) (by rfl) sc_law.nd rfl rfl (by decide) rfl rfl (pa_cons (pe_op op_add pe_int (pe_cal C.below hr (by decide) (pa_cons (pv 1) (pa_cons (pe_op op_pow pe_int pe_int) pa_nil)))) (pa_cons (pe_op op_add pe_int (pe_cal C.below hr (by decide) (pa_cons (pv 1) (pa_cons pe_int pa_nil)))) pa_nil)) (by rfl))
      (pss_cons (ps_set (i := 4) sc_law.nd rfl (.inl rfl) (pe_cal C.made hr (by decide) (pa_cons (pv 2) (pa_cons (pv 3) pa_nil))))
      (pss_cons (ps_for PassesOwn.never rfl (pi_enum (by rfl) G.enumerate (pa_cons (pv 4) pa_nil)) (pg_tup rfl (pgs_cons (pg_name (i := 5) sc_law.nd rfl (.inr rfl)) (pgs_cons (pg_name (i := 6) sc_law.nd rfl (.inl rfl)) pgs_nil)))
        (pss_cons (ps_if (PW.pt (pw_or (pt_cmpR (op_neD hr.units) (pe_cal C.cls hr (by decide) (pa_cons (pv 6) pa_nil))
            (pe_lc (own := [("spot", 8)]) (g := gName 8) (tt := tYes) (by rfl) sc_law.nd (pi_range1 (by rfl) G.range (pa_cons (pe_callB call_len_seq (by rfl) G.len PySem.boot_len (pa_cons (pv 4) pa_nil)) pa_nil))
              (blkOk_by (own := [("spot", 8)]) (N := ["script", "pot", "limit", "line", "errors", "at", "error", "fields", "spot"]) (sc := defScope s_law) (by decide +kernel)) (fun _ _ _ _ _ => pg_name (i := 8) sc_law.nd rfl (Or.inl rfl)) (fun _ _ _ _ _ => pts_nil)
              (fun _ _ _ _ _ => pe_cmpR op_eq (pv 8) (pv 5) (nomark _))) (nomark _)) (pw_or1 (pt_not (pt_val (is_v R.isi R.re (pv 6))))))) (pss_one (ps_ret pe_bl)) pss_nil)
        (pss_one (ps_if (PW.pt (pw_or (pt_not (pt_val (pe_callB call_isV (by rfl) R.isi PyProof.Rows.boot_isinstance (pa_cons (pv 6) (pa_cons (pe_bt (T := "ValueError") R.ve (by decide +kernel)) pa_nil)))))
            (pw_or1 (pt_val (pe_callB call_isVT (by rfl) R.isi PyProof.Rows.boot_isinstance (pa_cons (pv 6) (pa_cons (pe_tup (pa_cons (pe_bt (T := "KeyError") R.ke (by decide +kernel)) (pa_cons (pe_bt (T := "IndexError") R.ie (by decide +kernel)) (pa_cons (pe_bt (T := "TypeError") R.te (by decide +kernel)) pa_nil)))) pa_nil))))))) (pss_one (ps_ret pe_bl)) pss_nil))))
      (pss_cons (ps_set (i := 7) sc_law.nd rfl (.inl rfl) (pe_lst (pa_cons (pe_xv (pe_ix ix_list (pv 4) pe_int (fun _ _ => rfl))) (pa_cons (pe_xv (pe_ix ix_list (pv 4) pe_int (fun _ _ => rfl))) (pa_cons (pe_xv (pe_ix ix_list (pv 4) pe_int (fun _ _ => rfl))) pa_nil)))))
      (pss_one (ps_ret (pe_and (pe_cmpR (op_eqD hr.units) (pv 7) (pe_lst (pa_cons (pv 2) (pa_cons (pv 3) (pa_cons (pv 2) pa_nil)))) (nomark _)) (pe_one (pe_cmpR (op_notInD h65) pe_bl (pe_cal C.cls hr (by decide) (pa_cons (pe_exc1 PySem.F.excBase_ValueError ER.xC ER.gC ER.kC rfl pe_str) pa_nil)) (by rfl)))))))))), ?_⟩
    refine ⟨_, rfl, a, ns, rfl, hS, hlen, fun p c1 H1 s1 np hP => ?_⟩
    refine ⟨_, rfl, _, _, rfl, rfl, ⟨by decide, by decide, by decide⟩, p, c1, _, rfl, hP, by decide, by decide, fun r1 H2 r10 r11 e1 => ⟨_, _, rfl, rfl, ?_⟩⟩
    refine ⟨_, rfl, p, c1, 50, rfl, e1.pot, by decide, by decide, fun r2 H3 r20 r21 e2 => ⟨_, _, rfl, rfl, ?_⟩⟩
    refine ⟨_, _, rfl, ?_⟩
    refine ⟨_, rfl, _, rfl, 1 + r1, 1 + r2, rfl, fun q as H4 s4 M => ?_⟩
    have len9 : as.length = 9 := by
      obtain ⟨a1, a2, a3, a4, a5, a6, a7, a8, a9, d1, d2, e, _⟩ := M.ex
      rw [e]
      rfl
    refine ⟨_, rfl, q, _, rfl, SqL.of M.at_, for_enum (K := K) (a := q) (xs := as.map V.ref) (fun i σ H' => ∃ v5 v6 v8 : Option V, σ = [some (.ref a), some (.ref p), some (.int (1 + r1)), some (.int (1 + r2)), some (.ref q), v5, v6, none, v8] ∧ Same H4 H')
      ⟨none, none, none, rfl, Same.refl _⟩ (fun i σ H' ⟨_, _, _, _, s⟩ => SqL.of (s _ _ M.at_)) ?_ ?_⟩
    · rintro n x σ H5 T hx nT ⟨v5, v6, v8, rfl, s5⟩
      have M5 := M.same s5
      obtain ⟨b, hb, rfl⟩ : ∃ b, as[n]? = some b ∧ x = .ref b := by
        rw [List.getElem?_map] at hx
        cases e : as[n]? with
        | none =>
          rw [e] at hx
          cases hx
        | some b =>
          rw [e] at hx
          exact ⟨b, rfl, (Option.some.inj hx).symm⟩
      have s6 : Same H5 (upd H5 T (.tup [.int (n : Int), .ref b])) := same_upd nT
      refine ⟨T, _, rfl, .inl (.inl upd_same), rfl, _, _, rfl, _, _, rfl, rfl, ?_⟩
      generalize upd H5 T (.tup [.int (n : Int), .ref b]) = H6 at s6 ⊢
      have M6 := M5.same s6
      obtain ⟨D, b1, b2, b3, b4, b5, b6, b7, b8, b9, ev, Ys, kt, bt⟩ := each Y M6 n b hb
      refine ⟨_, rfl, b, D, b1, b2, b3, b4, b5, b6, b7, b8, b9, rfl, ev, Ys.ev, kt, fun l H7 s7 fl => ?_⟩
      rw [← bt] at fl
      have M7 := M6.same s7
      refine ⟨_, rfl, q, _, rfl, .inl (SqL.of M7.at_), 9, by rw [List.length_map, len9]; rfl, by decide, by decide, fun L nL => ?_⟩
      refine lc_range (n := 9) (fun i H' => H' L = some (.lst (((List.range i).map fun j : Nat => decide (V.int (0 + (j : Int)) = V.int (n : Int))).map V.bl)) ∧ Same H7 H') ⟨upd_same, same_upd nL⟩ ?_ ?_
      · rintro i H' hi ⟨hL, s⟩
        refine ⟨rfl, _, rfl, _, rfl, rfl, _, hL, ?_, ?_, same_mut s nL⟩
        · rw [List.length_map, List.length_map, List.length_range]
          exact small1000 (by omega)
        · rw [upd_same, List.range_succ, List.map_append, List.map_append]
          rfl
      · rintro H8 ⟨hL, s8⟩
        have ev8 := ((ev.same s7).same s8)
        refine ⟨.list ((bits n).map .bool), .list ((bits n).map .bool), .lst (SqL.of (s8 _ _ fl)) (dp_bools _), .lst (SqL.of hL) (dp_bools _), shaped_bools _, shaped_bools _, _, rfl, ?_⟩
        refine iteF' (by rw [SeqAt.eqv_refl _ (SeqAt.canLay_of_shaped (shaped_bools _))]; rfl) ?_
        refine ⟨_, rfl, b, D, _, _, true, rfl, ev8, Ys.ev, fun u r => r, Ys.ru, _, rfl, ?_⟩
        refine iteF ?_
        refine ⟨_, rfl, b, D, _, _, true, rfl, ev8, Ys.ev, fun u r => r, Ys.ve, _, rfl, ?_⟩
        refine iteF ⟨_, rfl, (by show 3 ≤ sizeLine; decide), fun T2 nT2 => ⟨b, D, T2, ["KeyError", "IndexError", "TypeError"], false, rfl, ev8.same (same_upd nT2), Ys.ev, upd_same, Ys.no, _, rfl, ?_⟩⟩
        exact iteF ⟨_, _, _, rfl, (((s5.trans s6).trans s7).trans s8).trans (same_upd nT2)⟩
    · rintro σ H5 ⟨v5, v6, v8, rfl, s5⟩
      have M5 := M.same s5
      have at5 := M5.at_
      obtain ⟨a1, a2, a3, a4, a5, a6, a7, a8, a9, d1, d2, rfl, ⟨h1, g1⟩, ⟨h2, g2⟩, _⟩ := M5.ex
      have l1 : List.lookup ("limit" : Str) [(("limit" : Str), V.int (1 + r1))] = some (.int (1 + r1)) := by rw [lookup_put, if_pos rfl]
      have l2 : List.lookup ("line" : Str) [(("column" : Str), V.int (1 + r1)), ("line", .int (1 + r2))] = some (.int (1 + r2)) := by rw [lookup_put, if_neg (by decide), lookup_put, if_pos rfl]
      have l3 : List.lookup ("column" : Str) [(("column" : Str), V.int (1 + r1)), ("line", .int (1 + r2))] = some (.int (1 + r1)) := by rw [lookup_put, if_pos rfl]
      refine ⟨_, rfl, q, _, 0, .ref a1, rfl, rfl, SqL.of at5, atI_nat (j := 0) rfl, a1, c.c1, d1, _, .int (1 + r1), rfl, f1, o1, h1, g1, l1, ?_⟩
      refine ⟨_, rfl, q, _, 1, .ref a2, rfl, rfl, SqL.of at5, atI_nat (j := 1) rfl, a2, c.c2, d2, _, .int (1 + r2), rfl, f2, o2, h2, g2, l2, ?_⟩
      refine ⟨_, rfl, q, _, 1, .ref a2, rfl, rfl, SqL.of at5, atI_nat (j := 1) rfl, a2, c.c2, d2, _, .int (1 + r1), rfl, f2, o3, h2, g2, l3, (by show 3 ≤ sizeLine; decide), fun r nr => ?_⟩
      have e1 : (upd H5 r (.lst [.int (1 + r1), .int (1 + r2), .int (1 + r1)])) r = some (.lst [.int (1 + r1), .int (1 + r2), .int (1 + r1)]) := upd_same
      generalize upd H5 r (.lst [.int (1 + r1), .int (1 + r2), .int (1 + r1)]) = H6 at e1 ⊢
      refine ⟨_, rfl, _, rfl, _, rfl, _, rfl, (by show 3 ≤ sizeLine; decide), fun t nt => ⟨.list ([1 + r1, 1 + r2, 1 + r1].map .int), .list ([1 + r1, 1 + r2, 1 + r1].map .int), .lst (SqL.of (same_upd nt _ _ e1)) (dp_ints [1 + r1, 1 + r2, 1 + r1]), .lst (SqL.of upd_same) (dp_ints [1 + r1, 1 + r2, 1 + r1]), shaped_ints _, shaped_ints _, _, rfl, ?_⟩⟩
      refine iteT' (SeqAt.eqv_refl _ (SeqAt.canLay_of_shaped (shaped_ints _))) ?_
      intro x nx
      refine ⟨x, rE, _, _, _, _, _, _, _, _, _, rfl, .inl upd_same, Y.r, Y.tr, fun y H9 s9 f9 => ⟨.bool true, [false, false, false, false, false, false, false, false, false].map .bool, .bl true, .lst (SqL.of f9) (dp_bools _), rfl, shaped_bools _, ?_⟩⟩
      have z : (!(([false, false, false, false, false, false, false, false, false].map PyData.bool).any fun z => PyData.eqv z (.bool true))) = true := by decide +kernel
      rw [z]
      exact k _
end
end Lk

/-! K01z -/
set_option Elab.async false
set_option linter.all false
set_option maxRecDepth 100000
set_option maxHeartbeats 4000000
namespace Lk
open PySem PySem.Spec PyProof.Rows L2
theorem kit_any3 {K : PySem.W.Frag} {t a b c : Value} (h1 : PySem.W.kitOne K t a = some false) (h2 : PySem.W.kitOne K t b = some false) (h3 : PySem.W.kitOne K t c = some false) : PySem.W.kitAny K t [a, b, c] = some false := by
  simp [PySem.W.kitAny, h1, h2, h3]
theorem all_mk {l : PySem.W.OpenLaw} {w : World} {K : PySem.W.Frag} {h : Heap} {mg : Str → Option Value} {fa : Addr} (X : K.In h) (G : h.Ns mainGlobals mg) (hfa : mg "law" = some (.ref fa))
    {f0 : Addr} {od0 an0 : Option Addr} {sl0 : Array (Option Value)} {oc0 kV0 dc0 pm0 cd0 ct0 : Value}
    (a0 : PySem.W.nsIn K mainGlobals "_law_kneaded" = some (some (.ref f0)))
    (l0 : K.lookup f0 = some ⟨oc0, od0, .func (PySem.W.fnOf "_law_kneaded" "_law_kneaded" (defArgs s_kneaded) (defBody s_kneaded) (defScope s_kneaded) .none kV0 dc0 pm0 an0 cd0 ct0), sl0⟩)
    (c0 : PySem.W.codeIn K cd0 "_law_kneaded" = true)
    (k0 : PySem.W.keepIn K (.ref f0) = true)
    {f1 : Addr} {od1 an1 : Option Addr} {sl1 : Array (Option Value)} {oc1 kV1 dc1 pm1 cd1 ct1 : Value}
    (a1 : PySem.W.nsIn K mainGlobals "_law_pot_of" = some (some (.ref f1)))
    (l1 : K.lookup f1 = some ⟨oc1, od1, .func (PySem.W.fnOf "_law_pot_of" "_law_pot_of" (defArgs s_pot_of) (defBody s_pot_of) (defScope s_pot_of) .none kV1 dc1 pm1 an1 cd1 ct1), sl1⟩)
    (c1 : PySem.W.codeIn K cd1 "_law_pot_of" = true)
    (k1 : PySem.W.keepIn K (.ref f1) = true)
    {f2 : Addr} {od2 an2 : Option Addr} {sl2 : Array (Option Value)} {oc2 kV2 dc2 pm2 cd2 ct2 : Value}
    (a2 : PySem.W.nsIn K mainGlobals "_law_below" = some (some (.ref f2)))
    (l2 : K.lookup f2 = some ⟨oc2, od2, .func (PySem.W.fnOf "_law_below" "_law_below" (defArgs s_below) (defBody s_below) (defScope s_below) .none kV2 dc2 pm2 an2 cd2 ct2), sl2⟩)
    (c2 : PySem.W.codeIn K cd2 "_law_below" = true)
    (k2 : PySem.W.keepIn K (.ref f2) = true)
    {f3 : Addr} {od3 an3 : Option Addr} {sl3 : Array (Option Value)} {oc3 kV3 dc3 pm3 cd3 ct3 : Value}
    (a3 : PySem.W.nsIn K mainGlobals "_law_made" = some (some (.ref f3)))
    (l3 : K.lookup f3 = some ⟨oc3, od3, .func (PySem.W.fnOf "_law_made" "_law_made" (defArgs s_made) (defBody s_made) (defScope s_made) .none kV3 dc3 pm3 an3 cd3 ct3), sl3⟩)
    (c3 : PySem.W.codeIn K cd3 "_law_made" = true)
    (k3 : PySem.W.keepIn K (.ref f3) = true)
    {f4 : Addr} {od4 an4 : Option Addr} {sl4 : Array (Option Value)} {oc4 kV4 dc4 pm4 cd4 ct4 : Value}
    (a4 : PySem.W.nsIn K mainGlobals "_law_classes" = some (some (.ref f4)))
    (l4 : K.lookup f4 = some ⟨oc4, od4, .func (PySem.W.fnOf "_law_classes" "_law_classes" (defArgs s_classes) (defBody s_classes) (defScope s_classes) .none kV4 dc4 pm4 an4 cd4 ct4), sl4⟩)
    (c4 : PySem.W.codeIn K cd4 "_law_classes" = true)
    (k4 : PySem.W.keepIn K (.ref f4) = true)
    {f5 : Addr} {od5 an5 : Option Addr} {sl5 : Array (Option Value)} {oc5 kV5 dc5 pm5 cd5 ct5 : Value}
    (a5 : PySem.W.nsIn K mainGlobals "law" = some (some (.ref f5)))
    (l5 : K.lookup f5 = some ⟨oc5, od5, .func (PySem.W.fnOf "law" "law" (defArgs s_law) (defBody s_law) (defScope s_law) .none kV5 dc5 pm5 an5 cd5 ct5), sl5⟩)
    (c5 : PySem.W.codeIn K cd5 "law" = true)
    (k5 : PySem.W.keepIn K (.ref f5) = true)
    (z0 : PySem.W.nsIn K mainGlobals "int" = some none)
    (z1 : PySem.W.nsIn K mainGlobals "abs" = some none)
    (z2 : PySem.W.nsIn K mainGlobals "range" = some none)
    (z3 : PySem.W.nsIn K mainGlobals "enumerate" = some none)
    (z4 : PySem.W.nsIn K mainGlobals "len" = some none)
    (z5 : PySem.W.nsIn K mainGlobals "isinstance" = some none)
    (z6 : PySem.W.nsIn K mainGlobals "ValueError" = some none)
    (z7 : PySem.W.nsIn K mainGlobals "KeyError" = some none)
    (z8 : PySem.W.nsIn K mainGlobals "IndexError" = some none)
    (z9 : PySem.W.nsIn K mainGlobals "TypeError" = some none)
    (gS : PySem.W.specialIn K (.builtin "object.__class__") "__get__" = some (some (.builtin "getset_descriptor.__get__")))
    (gT : PySem.W.takesIn K (.builtin "object.__class__") = some true)
    {C0 : Addr}
    (ca0 : PySem.W.nsIn K mainGlobals "RuleError" = some (some (.ref C0)))
    (ck0 : PySem.W.keepIn K (.ref C0) = true)
    (cb0 : PySem.W.subIn K (.ref C0) (.type "BaseException") = some true)
    (cy0 : PySem.W.typeIn K (.ref C0) = some (.type "type"))
    (ci0 : PySem.W.isClsIn K C0 = true)
    (eg0 : PySem.W.findIn K (.ref C0) "__getattribute__" = some (some (.builtin "BaseException.__getattribute__")))
    (ea0 : PySem.W.findIn K (.ref C0) "__getattr__" = some none)
    (ec0 : PySem.W.findIn K (.ref C0) "__class__" = some (some (.builtin "object.__class__")))
    (em0 : PySem.W.mroIn K C0 (.type "object") = some true)
    (cx0 : PySem.W.excIn K C0 [.type "ValueError", .type "Exception", .type "BaseException", .type "object"] "ValueError.__new__" = true)
    {C1 : Addr}
    (ca1 : PySem.W.nsIn K mainGlobals "TooMany" = some (some (.ref C1)))
    (ck1 : PySem.W.keepIn K (.ref C1) = true)
    (cb1 : PySem.W.subIn K (.ref C1) (.type "BaseException") = some true)
    (cy1 : PySem.W.typeIn K (.ref C1) = some (.type "type"))
    (ci1 : PySem.W.isClsIn K C1 = true)
    (eg1 : PySem.W.findIn K (.ref C1) "__getattribute__" = some (some (.builtin "BaseException.__getattribute__")))
    (ea1 : PySem.W.findIn K (.ref C1) "__getattr__" = some none)
    (ec1 : PySem.W.findIn K (.ref C1) "__class__" = some (some (.builtin "object.__class__")))
    (em1 : PySem.W.mroIn K C1 (.type "object") = some true)
    {nm1 q1 : Str} {N1 : Addr} {bs1 bm1 : List Value} {sn1 : List Str} {sub1 : List Value} {ab1 : Bool} {col1 : Option Bool} {dd1 : Option Addr} {ka1 kb1 kc1 kd1 ke1 : Option Value}
    (lk1 : K.lookup C1 = some (excClassObj nm1 q1 C1 N1 bs1 bm1 true sn1 sub1 ab1 col1 dd1 ka1 kb1 kc1 kd1 ke1 "ValueError.__new__"))
    (rv1 : PySem.HandSPX.refsVE bm1 = true)
    (sa1 : PySem.W.findIn K (.ref C1) "__setattr__" = some (some (.builtin "object.__setattr__")))
    {g1 : Addr} {godd1 gan1 : Option Addr} {gsl1 : Array (Option Value)} {goc1 gkV1 gdc1 gpm1 gcd1 gct1 : Value}
    (iC1 : PySem.W.findIn K (.ref C1) "__init__" = some (some (.ref g1)))
    (tI1 : PySem.W.typeIn K (.ref g1) = some (.type "function"))
    (gl1 : K.lookup g1 = some ⟨goc1, godd1, .func (PySem.W.fnOf "__init__" "TooMany.__init__" (defArgs s_init1) (defBody s_init1) (defScope s_init1) .none gkV1 gdc1 gpm1 gan1 gcd1 gct1), gsl1⟩)
    (gc1 : PySem.W.codeIn K gcd1 "TooMany.__init__" = true)
    (gk1 : PySem.W.keepIn K (.ref g1) = true)
    (hd1 : PySem.W.hasDictIn K C1 = true)
    (no_limit : PySem.W.findIn K (.ref C1) "limit" = some none)
    {C2 : Addr}
    (ca2 : PySem.W.nsIn K mainGlobals "SyntaxProblem" = some (some (.ref C2)))
    (ck2 : PySem.W.keepIn K (.ref C2) = true)
    (cb2 : PySem.W.subIn K (.ref C2) (.type "BaseException") = some true)
    (cy2 : PySem.W.typeIn K (.ref C2) = some (.type "type"))
    (ci2 : PySem.W.isClsIn K C2 = true)
    (eg2 : PySem.W.findIn K (.ref C2) "__getattribute__" = some (some (.builtin "BaseException.__getattribute__")))
    (ea2 : PySem.W.findIn K (.ref C2) "__getattr__" = some none)
    (ec2 : PySem.W.findIn K (.ref C2) "__class__" = some (some (.builtin "object.__class__")))
    (em2 : PySem.W.mroIn K C2 (.type "object") = some true)
    {nm2 q2 : Str} {N2 : Addr} {bs2 bm2 : List Value} {sn2 : List Str} {sub2 : List Value} {ab2 : Bool} {col2 : Option Bool} {dd2 : Option Addr} {ka2 kb2 kc2 kd2 ke2 : Option Value}
    (lk2 : K.lookup C2 = some (excClassObj nm2 q2 C2 N2 bs2 bm2 true sn2 sub2 ab2 col2 dd2 ka2 kb2 kc2 kd2 ke2 "ValueError.__new__"))
    (rv2 : PySem.HandSPX.refsVE bm2 = true)
    (sa2 : PySem.W.findIn K (.ref C2) "__setattr__" = some (some (.builtin "object.__setattr__")))
    {g2 : Addr} {godd2 gan2 : Option Addr} {gsl2 : Array (Option Value)} {goc2 gkV2 gdc2 gpm2 gcd2 gct2 : Value}
    (iC2 : PySem.W.findIn K (.ref C2) "__init__" = some (some (.ref g2)))
    (tI2 : PySem.W.typeIn K (.ref g2) = some (.type "function"))
    (gl2 : K.lookup g2 = some ⟨goc2, godd2, .func (PySem.W.fnOf "__init__" "SyntaxProblem.__init__" (defArgs s_init2) (defBody s_init2) (defScope s_init2) .none gkV2 gdc2 gpm2 gan2 gcd2 gct2), gsl2⟩)
    (gc2 : PySem.W.codeIn K gcd2 "SyntaxProblem.__init__" = true)
    (gk2 : PySem.W.keepIn K (.ref g2) = true)
    (hd2 : PySem.W.hasDictIn K C2 = true)
    (no_line : PySem.W.findIn K (.ref C2) "line" = some none)
    (no_column : PySem.W.findIn K (.ref C2) "column" = some none)
    {C3 : Addr}
    (ca3 : PySem.W.nsIn K mainGlobals "NoName" = some (some (.ref C3)))
    (ck3 : PySem.W.keepIn K (.ref C3) = true)
    (cb3 : PySem.W.subIn K (.ref C3) (.type "BaseException") = some true)
    (cy3 : PySem.W.typeIn K (.ref C3) = some (.type "type"))
    (ci3 : PySem.W.isClsIn K C3 = true)
    (eg3 : PySem.W.findIn K (.ref C3) "__getattribute__" = some (some (.builtin "BaseException.__getattribute__")))
    (ea3 : PySem.W.findIn K (.ref C3) "__getattr__" = some none)
    (ec3 : PySem.W.findIn K (.ref C3) "__class__" = some (some (.builtin "object.__class__")))
    (em3 : PySem.W.mroIn K C3 (.type "object") = some true)
    (cx3 : PySem.W.excIn K C3 [.type "ValueError", .type "Exception", .type "BaseException", .type "object"] "ValueError.__new__" = true)
    {C4 : Addr}
    (ca4 : PySem.W.nsIn K mainGlobals "NoBook" = some (some (.ref C4)))
    (ck4 : PySem.W.keepIn K (.ref C4) = true)
    (cb4 : PySem.W.subIn K (.ref C4) (.type "BaseException") = some true)
    (cy4 : PySem.W.typeIn K (.ref C4) = some (.type "type"))
    (ci4 : PySem.W.isClsIn K C4 = true)
    (eg4 : PySem.W.findIn K (.ref C4) "__getattribute__" = some (some (.builtin "BaseException.__getattribute__")))
    (ea4 : PySem.W.findIn K (.ref C4) "__getattr__" = some none)
    (ec4 : PySem.W.findIn K (.ref C4) "__class__" = some (some (.builtin "object.__class__")))
    (em4 : PySem.W.mroIn K C4 (.type "object") = some true)
    (cx4 : PySem.W.excIn K C4 [.type "ValueError", .type "Exception", .type "BaseException", .type "object"] "ValueError.__new__" = true)
    {C5 : Addr}
    (ca5 : PySem.W.nsIn K mainGlobals "NoFiles" = some (some (.ref C5)))
    (ck5 : PySem.W.keepIn K (.ref C5) = true)
    (cb5 : PySem.W.subIn K (.ref C5) (.type "BaseException") = some true)
    (cy5 : PySem.W.typeIn K (.ref C5) = some (.type "type"))
    (ci5 : PySem.W.isClsIn K C5 = true)
    (eg5 : PySem.W.findIn K (.ref C5) "__getattribute__" = some (some (.builtin "BaseException.__getattribute__")))
    (ea5 : PySem.W.findIn K (.ref C5) "__getattr__" = some none)
    (ec5 : PySem.W.findIn K (.ref C5) "__class__" = some (some (.builtin "object.__class__")))
    (em5 : PySem.W.mroIn K C5 (.type "object") = some true)
    (cx5 : PySem.W.excIn K C5 [.type "ValueError", .type "Exception", .type "BaseException", .type "object"] "ValueError.__new__" = true)
    {C6 : Addr}
    (ca6 : PySem.W.nsIn K mainGlobals "NoRule" = some (some (.ref C6)))
    (ck6 : PySem.W.keepIn K (.ref C6) = true)
    (cb6 : PySem.W.subIn K (.ref C6) (.type "BaseException") = some true)
    (cy6 : PySem.W.typeIn K (.ref C6) = some (.type "type"))
    (ci6 : PySem.W.isClsIn K C6 = true)
    (eg6 : PySem.W.findIn K (.ref C6) "__getattribute__" = some (some (.builtin "BaseException.__getattribute__")))
    (ea6 : PySem.W.findIn K (.ref C6) "__getattr__" = some none)
    (ec6 : PySem.W.findIn K (.ref C6) "__class__" = some (some (.builtin "object.__class__")))
    (em6 : PySem.W.mroIn K C6 (.type "object") = some true)
    (cx6 : PySem.W.excIn K C6 [.type "ValueError", .type "Exception", .type "BaseException", .type "object"] "ValueError.__new__" = true)
    {C7 : Addr}
    (ca7 : PySem.W.nsIn K mainGlobals "NoMark" = some (some (.ref C7)))
    (ck7 : PySem.W.keepIn K (.ref C7) = true)
    (cb7 : PySem.W.subIn K (.ref C7) (.type "BaseException") = some true)
    (cy7 : PySem.W.typeIn K (.ref C7) = some (.type "type"))
    (ci7 : PySem.W.isClsIn K C7 = true)
    (eg7 : PySem.W.findIn K (.ref C7) "__getattribute__" = some (some (.builtin "BaseException.__getattribute__")))
    (ea7 : PySem.W.findIn K (.ref C7) "__getattr__" = some none)
    (ec7 : PySem.W.findIn K (.ref C7) "__class__" = some (some (.builtin "object.__class__")))
    (em7 : PySem.W.mroIn K C7 (.type "object") = some true)
    (cx7 : PySem.W.excIn K C7 [.type "ValueError", .type "Exception", .type "BaseException", .type "object"] "ValueError.__new__" = true)
    {C8 : Addr}
    (ca8 : PySem.W.nsIn K mainGlobals "Mismatch" = some (some (.ref C8)))
    (ck8 : PySem.W.keepIn K (.ref C8) = true)
    (cb8 : PySem.W.subIn K (.ref C8) (.type "BaseException") = some true)
    (cy8 : PySem.W.typeIn K (.ref C8) = some (.type "type"))
    (ci8 : PySem.W.isClsIn K C8 = true)
    (eg8 : PySem.W.findIn K (.ref C8) "__getattribute__" = some (some (.builtin "BaseException.__getattribute__")))
    (ea8 : PySem.W.findIn K (.ref C8) "__getattr__" = some none)
    (ec8 : PySem.W.findIn K (.ref C8) "__class__" = some (some (.builtin "object.__class__")))
    (em8 : PySem.W.mroIn K C8 (.type "object") = some true)
    (cx8 : PySem.W.excIn K C8 [.type "ValueError", .type "Exception", .type "BaseException", .type "object"] "ValueError.__new__" = true)
    {C9 : Addr}
    (ca9 : PySem.W.nsIn K mainGlobals "InvalidCommand" = some (some (.ref C9)))
    (ck9 : PySem.W.keepIn K (.ref C9) = true)
    (cb9 : PySem.W.subIn K (.ref C9) (.type "BaseException") = some true)
    (cy9 : PySem.W.typeIn K (.ref C9) = some (.type "type"))
    (ci9 : PySem.W.isClsIn K C9 = true)
    (eg9 : PySem.W.findIn K (.ref C9) "__getattribute__" = some (some (.builtin "BaseException.__getattribute__")))
    (ea9 : PySem.W.findIn K (.ref C9) "__getattr__" = some none)
    (ec9 : PySem.W.findIn K (.ref C9) "__class__" = some (some (.builtin "object.__class__")))
    (em9 : PySem.W.mroIn K C9 (.type "object") = some true)
    (cx9 : PySem.W.excIn K C9 [.type "ValueError", .type "Exception", .type "BaseException", .type "object"] "ValueError.__new__" = true)
    (s0_0 : PySem.W.subIn K (.ref C0) (.ref C0) = some true)
    (s0_1 : PySem.W.subIn K (.ref C0) (.ref C1) = some false)
    (s0_2 : PySem.W.subIn K (.ref C0) (.ref C2) = some false)
    (s0_3 : PySem.W.subIn K (.ref C0) (.ref C3) = some false)
    (s0_4 : PySem.W.subIn K (.ref C0) (.ref C4) = some false)
    (s0_5 : PySem.W.subIn K (.ref C0) (.ref C5) = some false)
    (s0_6 : PySem.W.subIn K (.ref C0) (.ref C6) = some false)
    (s0_7 : PySem.W.subIn K (.ref C0) (.ref C7) = some false)
    (s0_8 : PySem.W.subIn K (.ref C0) (.ref C8) = some false)
    (s0_9 : PySem.W.subIn K (.ref C0) (.ref C9) = some false)
    (t0_ValueError : PySem.W.subIn K (.ref C0) (.type "ValueError") = some true)
    (t0_KeyError : PySem.W.subIn K (.ref C0) (.type "KeyError") = some false)
    (t0_IndexError : PySem.W.subIn K (.ref C0) (.type "IndexError") = some false)
    (t0_TypeError : PySem.W.subIn K (.ref C0) (.type "TypeError") = some false)
    (s1_0 : PySem.W.subIn K (.ref C1) (.ref C0) = some true)
    (s1_1 : PySem.W.subIn K (.ref C1) (.ref C1) = some true)
    (s1_2 : PySem.W.subIn K (.ref C1) (.ref C2) = some false)
    (s1_3 : PySem.W.subIn K (.ref C1) (.ref C3) = some false)
    (s1_4 : PySem.W.subIn K (.ref C1) (.ref C4) = some false)
    (s1_5 : PySem.W.subIn K (.ref C1) (.ref C5) = some false)
    (s1_6 : PySem.W.subIn K (.ref C1) (.ref C6) = some false)
    (s1_7 : PySem.W.subIn K (.ref C1) (.ref C7) = some false)
    (s1_8 : PySem.W.subIn K (.ref C1) (.ref C8) = some false)
    (s1_9 : PySem.W.subIn K (.ref C1) (.ref C9) = some false)
    (t1_ValueError : PySem.W.subIn K (.ref C1) (.type "ValueError") = some true)
    (t1_KeyError : PySem.W.subIn K (.ref C1) (.type "KeyError") = some false)
    (t1_IndexError : PySem.W.subIn K (.ref C1) (.type "IndexError") = some false)
    (t1_TypeError : PySem.W.subIn K (.ref C1) (.type "TypeError") = some false)
    (s2_0 : PySem.W.subIn K (.ref C2) (.ref C0) = some true)
    (s2_1 : PySem.W.subIn K (.ref C2) (.ref C1) = some false)
    (s2_2 : PySem.W.subIn K (.ref C2) (.ref C2) = some true)
    (s2_3 : PySem.W.subIn K (.ref C2) (.ref C3) = some false)
    (s2_4 : PySem.W.subIn K (.ref C2) (.ref C4) = some false)
    (s2_5 : PySem.W.subIn K (.ref C2) (.ref C5) = some false)
    (s2_6 : PySem.W.subIn K (.ref C2) (.ref C6) = some false)
    (s2_7 : PySem.W.subIn K (.ref C2) (.ref C7) = some false)
    (s2_8 : PySem.W.subIn K (.ref C2) (.ref C8) = some false)
    (s2_9 : PySem.W.subIn K (.ref C2) (.ref C9) = some false)
    (t2_ValueError : PySem.W.subIn K (.ref C2) (.type "ValueError") = some true)
    (t2_KeyError : PySem.W.subIn K (.ref C2) (.type "KeyError") = some false)
    (t2_IndexError : PySem.W.subIn K (.ref C2) (.type "IndexError") = some false)
    (t2_TypeError : PySem.W.subIn K (.ref C2) (.type "TypeError") = some false)
    (s3_0 : PySem.W.subIn K (.ref C3) (.ref C0) = some true)
    (s3_1 : PySem.W.subIn K (.ref C3) (.ref C1) = some false)
    (s3_2 : PySem.W.subIn K (.ref C3) (.ref C2) = some false)
    (s3_3 : PySem.W.subIn K (.ref C3) (.ref C3) = some true)
    (s3_4 : PySem.W.subIn K (.ref C3) (.ref C4) = some false)
    (s3_5 : PySem.W.subIn K (.ref C3) (.ref C5) = some false)
    (s3_6 : PySem.W.subIn K (.ref C3) (.ref C6) = some false)
    (s3_7 : PySem.W.subIn K (.ref C3) (.ref C7) = some false)
    (s3_8 : PySem.W.subIn K (.ref C3) (.ref C8) = some false)
    (s3_9 : PySem.W.subIn K (.ref C3) (.ref C9) = some false)
    (t3_ValueError : PySem.W.subIn K (.ref C3) (.type "ValueError") = some true)
    (t3_KeyError : PySem.W.subIn K (.ref C3) (.type "KeyError") = some false)
    (t3_IndexError : PySem.W.subIn K (.ref C3) (.type "IndexError") = some false)
    (t3_TypeError : PySem.W.subIn K (.ref C3) (.type "TypeError") = some false)
    (s4_0 : PySem.W.subIn K (.ref C4) (.ref C0) = some true)
    (s4_1 : PySem.W.subIn K (.ref C4) (.ref C1) = some false)
    (s4_2 : PySem.W.subIn K (.ref C4) (.ref C2) = some false)
    (s4_3 : PySem.W.subIn K (.ref C4) (.ref C3) = some false)
    (s4_4 : PySem.W.subIn K (.ref C4) (.ref C4) = some true)
    (s4_5 : PySem.W.subIn K (.ref C4) (.ref C5) = some false)
    (s4_6 : PySem.W.subIn K (.ref C4) (.ref C6) = some false)
    (s4_7 : PySem.W.subIn K (.ref C4) (.ref C7) = some false)
    (s4_8 : PySem.W.subIn K (.ref C4) (.ref C8) = some false)
    (s4_9 : PySem.W.subIn K (.ref C4) (.ref C9) = some false)
    (t4_ValueError : PySem.W.subIn K (.ref C4) (.type "ValueError") = some true)
    (t4_KeyError : PySem.W.subIn K (.ref C4) (.type "KeyError") = some false)
    (t4_IndexError : PySem.W.subIn K (.ref C4) (.type "IndexError") = some false)
    (t4_TypeError : PySem.W.subIn K (.ref C4) (.type "TypeError") = some false)
    (s5_0 : PySem.W.subIn K (.ref C5) (.ref C0) = some true)
    (s5_1 : PySem.W.subIn K (.ref C5) (.ref C1) = some false)
    (s5_2 : PySem.W.subIn K (.ref C5) (.ref C2) = some false)
    (s5_3 : PySem.W.subIn K (.ref C5) (.ref C3) = some false)
    (s5_4 : PySem.W.subIn K (.ref C5) (.ref C4) = some false)
    (s5_5 : PySem.W.subIn K (.ref C5) (.ref C5) = some true)
    (s5_6 : PySem.W.subIn K (.ref C5) (.ref C6) = some false)
    (s5_7 : PySem.W.subIn K (.ref C5) (.ref C7) = some false)
    (s5_8 : PySem.W.subIn K (.ref C5) (.ref C8) = some false)
    (s5_9 : PySem.W.subIn K (.ref C5) (.ref C9) = some false)
    (t5_ValueError : PySem.W.subIn K (.ref C5) (.type "ValueError") = some true)
    (t5_KeyError : PySem.W.subIn K (.ref C5) (.type "KeyError") = some false)
    (t5_IndexError : PySem.W.subIn K (.ref C5) (.type "IndexError") = some false)
    (t5_TypeError : PySem.W.subIn K (.ref C5) (.type "TypeError") = some false)
    (s6_0 : PySem.W.subIn K (.ref C6) (.ref C0) = some true)
    (s6_1 : PySem.W.subIn K (.ref C6) (.ref C1) = some false)
    (s6_2 : PySem.W.subIn K (.ref C6) (.ref C2) = some false)
    (s6_3 : PySem.W.subIn K (.ref C6) (.ref C3) = some false)
    (s6_4 : PySem.W.subIn K (.ref C6) (.ref C4) = some false)
    (s6_5 : PySem.W.subIn K (.ref C6) (.ref C5) = some false)
    (s6_6 : PySem.W.subIn K (.ref C6) (.ref C6) = some true)
    (s6_7 : PySem.W.subIn K (.ref C6) (.ref C7) = some false)
    (s6_8 : PySem.W.subIn K (.ref C6) (.ref C8) = some false)
    (s6_9 : PySem.W.subIn K (.ref C6) (.ref C9) = some false)
    (t6_ValueError : PySem.W.subIn K (.ref C6) (.type "ValueError") = some true)
    (t6_KeyError : PySem.W.subIn K (.ref C6) (.type "KeyError") = some false)
    (t6_IndexError : PySem.W.subIn K (.ref C6) (.type "IndexError") = some false)
    (t6_TypeError : PySem.W.subIn K (.ref C6) (.type "TypeError") = some false)
    (s7_0 : PySem.W.subIn K (.ref C7) (.ref C0) = some true)
    (s7_1 : PySem.W.subIn K (.ref C7) (.ref C1) = some false)
    (s7_2 : PySem.W.subIn K (.ref C7) (.ref C2) = some false)
    (s7_3 : PySem.W.subIn K (.ref C7) (.ref C3) = some false)
    (s7_4 : PySem.W.subIn K (.ref C7) (.ref C4) = some false)
    (s7_5 : PySem.W.subIn K (.ref C7) (.ref C5) = some false)
    (s7_6 : PySem.W.subIn K (.ref C7) (.ref C6) = some false)
    (s7_7 : PySem.W.subIn K (.ref C7) (.ref C7) = some true)
    (s7_8 : PySem.W.subIn K (.ref C7) (.ref C8) = some false)
    (s7_9 : PySem.W.subIn K (.ref C7) (.ref C9) = some false)
    (t7_ValueError : PySem.W.subIn K (.ref C7) (.type "ValueError") = some true)
    (t7_KeyError : PySem.W.subIn K (.ref C7) (.type "KeyError") = some false)
    (t7_IndexError : PySem.W.subIn K (.ref C7) (.type "IndexError") = some false)
    (t7_TypeError : PySem.W.subIn K (.ref C7) (.type "TypeError") = some false)
    (s8_0 : PySem.W.subIn K (.ref C8) (.ref C0) = some true)
    (s8_1 : PySem.W.subIn K (.ref C8) (.ref C1) = some false)
    (s8_2 : PySem.W.subIn K (.ref C8) (.ref C2) = some false)
    (s8_3 : PySem.W.subIn K (.ref C8) (.ref C3) = some false)
    (s8_4 : PySem.W.subIn K (.ref C8) (.ref C4) = some false)
    (s8_5 : PySem.W.subIn K (.ref C8) (.ref C5) = some false)
    (s8_6 : PySem.W.subIn K (.ref C8) (.ref C6) = some false)
    (s8_7 : PySem.W.subIn K (.ref C8) (.ref C7) = some false)
    (s8_8 : PySem.W.subIn K (.ref C8) (.ref C8) = some true)
    (s8_9 : PySem.W.subIn K (.ref C8) (.ref C9) = some false)
    (t8_ValueError : PySem.W.subIn K (.ref C8) (.type "ValueError") = some true)
    (t8_KeyError : PySem.W.subIn K (.ref C8) (.type "KeyError") = some false)
    (t8_IndexError : PySem.W.subIn K (.ref C8) (.type "IndexError") = some false)
    (t8_TypeError : PySem.W.subIn K (.ref C8) (.type "TypeError") = some false)
    (s9_0 : PySem.W.subIn K (.ref C9) (.ref C0) = some true)
    (s9_1 : PySem.W.subIn K (.ref C9) (.ref C1) = some false)
    (s9_2 : PySem.W.subIn K (.ref C9) (.ref C2) = some false)
    (s9_3 : PySem.W.subIn K (.ref C9) (.ref C3) = some false)
    (s9_4 : PySem.W.subIn K (.ref C9) (.ref C4) = some false)
    (s9_5 : PySem.W.subIn K (.ref C9) (.ref C5) = some false)
    (s9_6 : PySem.W.subIn K (.ref C9) (.ref C6) = some false)
    (s9_7 : PySem.W.subIn K (.ref C9) (.ref C7) = some false)
    (s9_8 : PySem.W.subIn K (.ref C9) (.ref C8) = some false)
    (s9_9 : PySem.W.subIn K (.ref C9) (.ref C9) = some true)
    (t9_ValueError : PySem.W.subIn K (.ref C9) (.type "ValueError") = some true)
    (t9_KeyError : PySem.W.subIn K (.ref C9) (.type "KeyError") = some false)
    (t9_IndexError : PySem.W.subIn K (.ref C9) (.type "IndexError") = some false)
    (t9_TypeError : PySem.W.subIn K (.ref C9) (.type "TypeError") = some false)
    : ∃ fd : FuncData, (∀ (s : Shared) (v : Value), BindsTo s fd ⟨[v], []⟩ [("script", v)]) ∧ ∀ base : Heap, K.In base → base.Ns mainGlobals mg → FnG l.prog w K mg base CX0 4 fa fd ["script"] (spLaw K) := by
  have e := hfa.symm.trans (PySem.W.mg_of X G a5)
  cases e
  refine ⟨PySem.W.fnOf "law" "law" (defArgs s_law) (defBody s_law) (defScope s_law) .none kV5 dc5 pm5 an5 cd5 ct5, fun s v => .of_eq rfl, fun base _ _ => ?_⟩
  have d_kneaded : Def1 K mg "_law_kneaded" s_kneaded := ⟨_, _, fun_mk l0 c0 k0, PySem.W.mg_of X G a0⟩
  have d_pot_of : Def1 K mg "_law_pot_of" s_pot_of := ⟨_, _, fun_mk l1 c1 k1, PySem.W.mg_of X G a1⟩
  have d_below : Def1 K mg "_law_below" s_below := ⟨_, _, fun_mk l2 c2 k2, PySem.W.mg_of X G a2⟩
  have d_made : Def1 K mg "_law_made" s_made := ⟨_, _, fun_mk l3 c3 k3, PySem.W.mg_of X G a3⟩
  have d_classes : Def1 K mg "_law_classes" s_classes := ⟨_, _, fun_mk l4 c4 k4, PySem.W.mg_of X G a4⟩
  have z_int : mg "int" = none := PySem.W.mg_none_of X G z0
  have z_abs : mg "abs" = none := PySem.W.mg_none_of X G z1
  have z_range : mg "range" = none := PySem.W.mg_none_of X G z2
  have z_enumerate : mg "enumerate" = none := PySem.W.mg_none_of X G z3
  have z_len : mg "len" = none := PySem.W.mg_none_of X G z4
  have z_isinstance : mg "isinstance" = none := PySem.W.mg_none_of X G z5
  have z_ValueError : mg "ValueError" = none := PySem.W.mg_none_of X G z6
  have z_KeyError : mg "KeyError" = none := PySem.W.mg_none_of X G z7
  have z_IndexError : mg "IndexError" = none := PySem.W.mg_none_of X G z8
  have z_TypeError : mg "TypeError" = none := PySem.W.mg_none_of X G z9
  have v0 : EvC K C0 := ⟨ci0, eg0, ea0, cb0, ec0, gS, gT, em0⟩
  have m0 := PySem.W.mg_of X G ca0
  have e0 : Err K mg "RuleError" C0 := ⟨m0, cx0, ck0, cb0, cy0⟩
  have v1 : EvC K C1 := ⟨ci1, eg1, ea1, cb1, ec1, gS, gT, em1⟩
  have m1 := PySem.W.mg_of X G ca1
  have v2 : EvC K C2 := ⟨ci2, eg2, ea2, cb2, ec2, gS, gT, em2⟩
  have m2 := PySem.W.mg_of X G ca2
  have v3 : EvC K C3 := ⟨ci3, eg3, ea3, cb3, ec3, gS, gT, em3⟩
  have m3 := PySem.W.mg_of X G ca3
  have e3 : Err K mg "NoName" C3 := ⟨m3, cx3, ck3, cb3, cy3⟩
  have v4 : EvC K C4 := ⟨ci4, eg4, ea4, cb4, ec4, gS, gT, em4⟩
  have m4 := PySem.W.mg_of X G ca4
  have e4 : Err K mg "NoBook" C4 := ⟨m4, cx4, ck4, cb4, cy4⟩
  have v5 : EvC K C5 := ⟨ci5, eg5, ea5, cb5, ec5, gS, gT, em5⟩
  have m5 := PySem.W.mg_of X G ca5
  have e5 : Err K mg "NoFiles" C5 := ⟨m5, cx5, ck5, cb5, cy5⟩
  have v6 : EvC K C6 := ⟨ci6, eg6, ea6, cb6, ec6, gS, gT, em6⟩
  have m6 := PySem.W.mg_of X G ca6
  have e6 : Err K mg "NoRule" C6 := ⟨m6, cx6, ck6, cb6, cy6⟩
  have v7 : EvC K C7 := ⟨ci7, eg7, ea7, cb7, ec7, gS, gT, em7⟩
  have m7 := PySem.W.mg_of X G ca7
  have e7 : Err K mg "NoMark" C7 := ⟨m7, cx7, ck7, cb7, cy7⟩
  have v8 : EvC K C8 := ⟨ci8, eg8, ea8, cb8, ec8, gS, gT, em8⟩
  have m8 := PySem.W.mg_of X G ca8
  have e8 : Err K mg "Mismatch" C8 := ⟨m8, cx8, ck8, cb8, cy8⟩
  have v9 : EvC K C9 := ⟨ci9, eg9, ea9, cb9, ec9, gS, gT, em9⟩
  have m9 := PySem.W.mg_of X G ca9
  have e9 : Err K mg "InvalidCommand" C9 := ⟨m9, cx9, ck9, cb9, cy9⟩
  have x1 : OexC K C1 := ⟨⟨_, _, _, _, _, _, _, _, _, _, _, _, _, _, _, lk1, rv1⟩, sa1, cb1, cy1, ck1⟩
  have F1 := fun_mk (st := s_init1) gl1 gc1 gk1
  have x2 : OexC K C2 := ⟨⟨_, _, _, _, _, _, _, _, _, _, _, _, _, _, _, lk2, rv2⟩, sa2, cb2, cy2, ck2⟩
  have F2 := fun_mk (st := s_init2) gl2 gc2 gk2
  have i1 := ini1 (P := l.prog) (w := w) (mg := mg) (base := base) F1 x1 iC1 tI1 no_limit m1
  have i2 := ini2 (P := l.prog) (w := w) (mg := mg) (base := base) F2 x2 iC2 tI2 no_line no_column m2
  have y0 : Says K C0 C0 := ⟨v0, kit_of ci0 cy0 s0_0 s0_0, kit_ty1 (by decide +kernel) t0_ValueError, kit_any3 (kit_ty1 (by decide +kernel) t0_KeyError) (kit_ty1 (by decide +kernel) t0_IndexError) (kit_ty1 (by decide +kernel) t0_TypeError)⟩
  have k9_0 : Kit9 K C0 ⟨C1, C2, C3, C4, C5, C6, C7, C8, C9⟩ false false false false false false false false false := ⟨kit_of ci1 cy1 s0_1 s1_1, kit_of ci2 cy2 s0_2 s2_2, kit_of ci3 cy3 s0_3 s3_3, kit_of ci4 cy4 s0_4 s4_4, kit_of ci5 cy5 s0_5 s5_5, kit_of ci6 cy6 s0_6 s6_6, kit_of ci7 cy7 s0_7 s7_7, kit_of ci8 cy8 s0_8 s8_8, kit_of ci9 cy9 s0_9 s9_9⟩
  have y1 : Says K C0 C1 := ⟨v1, kit_of ci0 cy0 s1_0 s0_0, kit_ty1 (by decide +kernel) t1_ValueError, kit_any3 (kit_ty1 (by decide +kernel) t1_KeyError) (kit_ty1 (by decide +kernel) t1_IndexError) (kit_ty1 (by decide +kernel) t1_TypeError)⟩
  have k9_1 : Kit9 K C1 ⟨C1, C2, C3, C4, C5, C6, C7, C8, C9⟩ true false false false false false false false false := ⟨kit_of ci1 cy1 s1_1 s1_1, kit_of ci2 cy2 s1_2 s2_2, kit_of ci3 cy3 s1_3 s3_3, kit_of ci4 cy4 s1_4 s4_4, kit_of ci5 cy5 s1_5 s5_5, kit_of ci6 cy6 s1_6 s6_6, kit_of ci7 cy7 s1_7 s7_7, kit_of ci8 cy8 s1_8 s8_8, kit_of ci9 cy9 s1_9 s9_9⟩
  have y2 : Says K C0 C2 := ⟨v2, kit_of ci0 cy0 s2_0 s0_0, kit_ty1 (by decide +kernel) t2_ValueError, kit_any3 (kit_ty1 (by decide +kernel) t2_KeyError) (kit_ty1 (by decide +kernel) t2_IndexError) (kit_ty1 (by decide +kernel) t2_TypeError)⟩
  have k9_2 : Kit9 K C2 ⟨C1, C2, C3, C4, C5, C6, C7, C8, C9⟩ false true false false false false false false false := ⟨kit_of ci1 cy1 s2_1 s1_1, kit_of ci2 cy2 s2_2 s2_2, kit_of ci3 cy3 s2_3 s3_3, kit_of ci4 cy4 s2_4 s4_4, kit_of ci5 cy5 s2_5 s5_5, kit_of ci6 cy6 s2_6 s6_6, kit_of ci7 cy7 s2_7 s7_7, kit_of ci8 cy8 s2_8 s8_8, kit_of ci9 cy9 s2_9 s9_9⟩
  have y3 : Says K C0 C3 := ⟨v3, kit_of ci0 cy0 s3_0 s0_0, kit_ty1 (by decide +kernel) t3_ValueError, kit_any3 (kit_ty1 (by decide +kernel) t3_KeyError) (kit_ty1 (by decide +kernel) t3_IndexError) (kit_ty1 (by decide +kernel) t3_TypeError)⟩
  have k9_3 : Kit9 K C3 ⟨C1, C2, C3, C4, C5, C6, C7, C8, C9⟩ false false true false false false false false false := ⟨kit_of ci1 cy1 s3_1 s1_1, kit_of ci2 cy2 s3_2 s2_2, kit_of ci3 cy3 s3_3 s3_3, kit_of ci4 cy4 s3_4 s4_4, kit_of ci5 cy5 s3_5 s5_5, kit_of ci6 cy6 s3_6 s6_6, kit_of ci7 cy7 s3_7 s7_7, kit_of ci8 cy8 s3_8 s8_8, kit_of ci9 cy9 s3_9 s9_9⟩
  have y4 : Says K C0 C4 := ⟨v4, kit_of ci0 cy0 s4_0 s0_0, kit_ty1 (by decide +kernel) t4_ValueError, kit_any3 (kit_ty1 (by decide +kernel) t4_KeyError) (kit_ty1 (by decide +kernel) t4_IndexError) (kit_ty1 (by decide +kernel) t4_TypeError)⟩
  have k9_4 : Kit9 K C4 ⟨C1, C2, C3, C4, C5, C6, C7, C8, C9⟩ false false false true false false false false false := ⟨kit_of ci1 cy1 s4_1 s1_1, kit_of ci2 cy2 s4_2 s2_2, kit_of ci3 cy3 s4_3 s3_3, kit_of ci4 cy4 s4_4 s4_4, kit_of ci5 cy5 s4_5 s5_5, kit_of ci6 cy6 s4_6 s6_6, kit_of ci7 cy7 s4_7 s7_7, kit_of ci8 cy8 s4_8 s8_8, kit_of ci9 cy9 s4_9 s9_9⟩
  have y5 : Says K C0 C5 := ⟨v5, kit_of ci0 cy0 s5_0 s0_0, kit_ty1 (by decide +kernel) t5_ValueError, kit_any3 (kit_ty1 (by decide +kernel) t5_KeyError) (kit_ty1 (by decide +kernel) t5_IndexError) (kit_ty1 (by decide +kernel) t5_TypeError)⟩
  have k9_5 : Kit9 K C5 ⟨C1, C2, C3, C4, C5, C6, C7, C8, C9⟩ false false false false true false false false false := ⟨kit_of ci1 cy1 s5_1 s1_1, kit_of ci2 cy2 s5_2 s2_2, kit_of ci3 cy3 s5_3 s3_3, kit_of ci4 cy4 s5_4 s4_4, kit_of ci5 cy5 s5_5 s5_5, kit_of ci6 cy6 s5_6 s6_6, kit_of ci7 cy7 s5_7 s7_7, kit_of ci8 cy8 s5_8 s8_8, kit_of ci9 cy9 s5_9 s9_9⟩
  have y6 : Says K C0 C6 := ⟨v6, kit_of ci0 cy0 s6_0 s0_0, kit_ty1 (by decide +kernel) t6_ValueError, kit_any3 (kit_ty1 (by decide +kernel) t6_KeyError) (kit_ty1 (by decide +kernel) t6_IndexError) (kit_ty1 (by decide +kernel) t6_TypeError)⟩
  have k9_6 : Kit9 K C6 ⟨C1, C2, C3, C4, C5, C6, C7, C8, C9⟩ false false false false false true false false false := ⟨kit_of ci1 cy1 s6_1 s1_1, kit_of ci2 cy2 s6_2 s2_2, kit_of ci3 cy3 s6_3 s3_3, kit_of ci4 cy4 s6_4 s4_4, kit_of ci5 cy5 s6_5 s5_5, kit_of ci6 cy6 s6_6 s6_6, kit_of ci7 cy7 s6_7 s7_7, kit_of ci8 cy8 s6_8 s8_8, kit_of ci9 cy9 s6_9 s9_9⟩
  have y7 : Says K C0 C7 := ⟨v7, kit_of ci0 cy0 s7_0 s0_0, kit_ty1 (by decide +kernel) t7_ValueError, kit_any3 (kit_ty1 (by decide +kernel) t7_KeyError) (kit_ty1 (by decide +kernel) t7_IndexError) (kit_ty1 (by decide +kernel) t7_TypeError)⟩
  have k9_7 : Kit9 K C7 ⟨C1, C2, C3, C4, C5, C6, C7, C8, C9⟩ false false false false false false true false false := ⟨kit_of ci1 cy1 s7_1 s1_1, kit_of ci2 cy2 s7_2 s2_2, kit_of ci3 cy3 s7_3 s3_3, kit_of ci4 cy4 s7_4 s4_4, kit_of ci5 cy5 s7_5 s5_5, kit_of ci6 cy6 s7_6 s6_6, kit_of ci7 cy7 s7_7 s7_7, kit_of ci8 cy8 s7_8 s8_8, kit_of ci9 cy9 s7_9 s9_9⟩
  have y8 : Says K C0 C8 := ⟨v8, kit_of ci0 cy0 s8_0 s0_0, kit_ty1 (by decide +kernel) t8_ValueError, kit_any3 (kit_ty1 (by decide +kernel) t8_KeyError) (kit_ty1 (by decide +kernel) t8_IndexError) (kit_ty1 (by decide +kernel) t8_TypeError)⟩
  have k9_8 : Kit9 K C8 ⟨C1, C2, C3, C4, C5, C6, C7, C8, C9⟩ false false false false false false false true false := ⟨kit_of ci1 cy1 s8_1 s1_1, kit_of ci2 cy2 s8_2 s2_2, kit_of ci3 cy3 s8_3 s3_3, kit_of ci4 cy4 s8_4 s4_4, kit_of ci5 cy5 s8_5 s5_5, kit_of ci6 cy6 s8_6 s6_6, kit_of ci7 cy7 s8_7 s7_7, kit_of ci8 cy8 s8_8 s8_8, kit_of ci9 cy9 s8_9 s9_9⟩
  have y9 : Says K C0 C9 := ⟨v9, kit_of ci0 cy0 s9_0 s0_0, kit_ty1 (by decide +kernel) t9_ValueError, kit_any3 (kit_ty1 (by decide +kernel) t9_KeyError) (kit_ty1 (by decide +kernel) t9_IndexError) (kit_ty1 (by decide +kernel) t9_TypeError)⟩
  have k9_9 : Kit9 K C9 ⟨C1, C2, C3, C4, C5, C6, C7, C8, C9⟩ false false false false false false false false true := ⟨kit_of ci1 cy1 s9_1 s1_1, kit_of ci2 cy2 s9_2 s2_2, kit_of ci3 cy3 s9_3 s3_3, kit_of ci4 cy4 s9_4 s4_4, kit_of ci5 cy5 s9_5 s5_5, kit_of ci6 cy6 s9_6 s6_6, kit_of ci7 cy7 s9_7 s7_7, kit_of ci8 cy8 s9_8 s8_8, kit_of ci9 cy9 s9_9 s9_9⟩
  have GB : Glb mg := ⟨z_int, z_abs, z_range, z_enumerate, z_len⟩
  have u1 := cal_kneaded (P := l.prog) (w := w) (base := base) d_kneaded GB
  have u2 := cal_pot_of (P := l.prog) (w := w) (base := base) d_pot_of GB
  have u3 := cal_below d_below GB u1
  have E9 : Errs l.prog w K mg base ⟨C1, C2, C3, C4, C5, C6, C7, C8, C9⟩ := ⟨i1, i2, e3, e4, e5, e6, e7, e8, e9⟩
  have u4 := cal_made d_made E9
  have u5 := cal_classes (P := l.prog) (w := w) (base := base) (c := ⟨C1, C2, C3, C4, C5, C6, C7, C8, C9⟩) d_classes z_isinstance ⟨⟨_, m1, rfl⟩, ⟨_, m2, rfl⟩, ⟨_, m3, rfl⟩, ⟨_, m4, rfl⟩, ⟨_, m5, rfl⟩, ⟨_, m6, rfl⟩, ⟨_, m7, rfl⟩, ⟨_, m8, rfl⟩, ⟨_, m9, rfl⟩⟩
  exact fn_law (fun_mk l5 c5 k5) ⟨u2, u3, u4, u5⟩ GB ⟨z_isinstance, z_ValueError, z_KeyError, z_IndexError, z_TypeError, ⟨_, m0, rfl⟩⟩ ⟨y1, y2, y3, y4, y5, y6, y7, y8, y9, k9_1, k9_2, k9_3, k9_4, k9_5, k9_6, k9_7, k9_8, k9_9, v0, k9_0⟩ i1 ⟨eg1, ea1, cb1, hd1⟩ ⟨eg2, ea2, cb2, hd2⟩ e0 no_limit no_line no_column
end Lk
open PySem PySem.W PyProof.Rows in
set_option maxRecDepth 100000 in
set_option maxHeartbeats 0 in
theorem PySem.Challenge.cw_stemrules_k01_errors_holds : PySem.Challenge.rw_stemrules_k01_errors.Holds := by
  w_on; o_law; k_head; (case hw => w_witness2)
  k_fill
  refine Lk.walkG (l := PySem.Challenge.rw_stemrules_k01_errors) (k := 4) (x := "script") (CX := fun w => L2.CX0) (sp := fun w => Lk.spLaw _) rfl rfl ⟨rfl, by decide, by decide⟩ (fun w h Y => PySem.W.kIn_of Y) ?F (fun _ _ a ns hl _ hS => ⟨a, ns, rfl, hS, hl, fun _ => rfl⟩) (fun _ _ _ _ _ z => z)
  case F =>
    intro w mg fa h KX G hmg
    refine' Lk.all_mk KX G hmg ?a0 ?l0 ?c0 ?k0 ?a1 ?l1 ?c1 ?k1 ?a2 ?l2 ?c2 ?k2 ?a3 ?l3 ?c3 ?k3 ?a4 ?l4 ?c4 ?k4 ?a5 ?l5 ?c5 ?k5 ?z0 ?z1 ?z2 ?z3 ?z4 ?z5 ?z6 ?z7 ?z8 ?z9 ?gS ?gT ?ca0 ?ck0 ?cb0 ?cy0 ?ci0 ?eg0 ?ea0 ?ec0 ?em0 ?cx0 ?ca1 ?ck1 ?cb1 ?cy1 ?ci1 ?eg1 ?ea1 ?ec1 ?em1 ?lk1 ?rv1 ?sa1 ?iC1 ?tI1 ?gl1 ?gc1 ?gk1 ?hd1 ?no_limit ?ca2 ?ck2 ?cb2 ?cy2 ?ci2 ?eg2 ?ea2 ?ec2 ?em2 ?lk2 ?rv2 ?sa2 ?iC2 ?tI2 ?gl2 ?gc2 ?gk2 ?hd2 ?no_line ?no_column ?ca3 ?ck3 ?cb3 ?cy3 ?ci3 ?eg3 ?ea3 ?ec3 ?em3 ?cx3 ?ca4 ?ck4 ?cb4 ?cy4 ?ci4 ?eg4 ?ea4 ?ec4 ?em4 ?cx4 ?ca5 ?ck5 ?cb5 ?cy5 ?ci5 ?eg5 ?ea5 ?ec5 ?em5 ?cx5 ?ca6 ?ck6 ?cb6 ?cy6 ?ci6 ?eg6 ?ea6 ?ec6 ?em6 ?cx6 ?ca7 ?ck7 ?cb7 ?cy7 ?ci7 ?eg7 ?ea7 ?ec7 ?em7 ?cx7 ?ca8 ?ck8 ?cb8 ?cy8 ?ci8 ?eg8 ?ea8 ?ec8 ?em8 ?cx8 ?ca9 ?ck9 ?cb9 ?cy9 ?ci9 ?eg9 ?ea9 ?ec9 ?em9 ?cx9 ?s0_0 ?s0_1 ?s0_2 ?s0_3 ?s0_4 ?s0_5 ?s0_6 ?s0_7 ?s0_8 ?s0_9 ?t0_ValueError ?t0_KeyError ?t0_IndexError ?t0_TypeError ?s1_0 ?s1_1 ?s1_2 ?s1_3 ?s1_4 ?s1_5 ?s1_6 ?s1_7 ?s1_8 ?s1_9 ?t1_ValueError ?t1_KeyError ?t1_IndexError ?t1_TypeError ?s2_0 ?s2_1 ?s2_2 ?s2_3 ?s2_4 ?s2_5 ?s2_6 ?s2_7 ?s2_8 ?s2_9 ?t2_ValueError ?t2_KeyError ?t2_IndexError ?t2_TypeError ?s3_0 ?s3_1 ?s3_2 ?s3_3 ?s3_4 ?s3_5 ?s3_6 ?s3_7 ?s3_8 ?s3_9 ?t3_ValueError ?t3_KeyError ?t3_IndexError ?t3_TypeError ?s4_0 ?s4_1 ?s4_2 ?s4_3 ?s4_4 ?s4_5 ?s4_6 ?s4_7 ?s4_8 ?s4_9 ?t4_ValueError ?t4_KeyError ?t4_IndexError ?t4_TypeError ?s5_0 ?s5_1 ?s5_2 ?s5_3 ?s5_4 ?s5_5 ?s5_6 ?s5_7 ?s5_8 ?s5_9 ?t5_ValueError ?t5_KeyError ?t5_IndexError ?t5_TypeError ?s6_0 ?s6_1 ?s6_2 ?s6_3 ?s6_4 ?s6_5 ?s6_6 ?s6_7 ?s6_8 ?s6_9 ?t6_ValueError ?t6_KeyError ?t6_IndexError ?t6_TypeError ?s7_0 ?s7_1 ?s7_2 ?s7_3 ?s7_4 ?s7_5 ?s7_6 ?s7_7 ?s7_8 ?s7_9 ?t7_ValueError ?t7_KeyError ?t7_IndexError ?t7_TypeError ?s8_0 ?s8_1 ?s8_2 ?s8_3 ?s8_4 ?s8_5 ?s8_6 ?s8_7 ?s8_8 ?s8_9 ?t8_ValueError ?t8_KeyError ?t8_IndexError ?t8_TypeError ?s9_0 ?s9_1 ?s9_2 ?s9_3 ?s9_4 ?s9_5 ?s9_6 ?s9_7 ?s9_8 ?s9_9 ?t9_ValueError ?t9_KeyError ?t9_IndexError ?t9_TypeError
    (case a0 => k_is)
    (case l0 => k_is)
    (case c0 => k_is)
    (case k0 => k_is)
    (case a1 => k_is)
    (case l1 => k_is)
    (case c1 => k_is)
    (case k1 => k_is)
    (case a2 => k_is)
    (case l2 => k_is)
    (case c2 => k_is)
    (case k2 => k_is)
    (case a3 => k_is)
    (case l3 => k_is)
    (case c3 => k_is)
    (case k3 => k_is)
    (case a4 => k_is)
    (case l4 => k_is)
    (case c4 => k_is)
    (case k4 => k_is)
    (case a5 => k_is)
    (case l5 => k_is)
    (case c5 => k_is)
    (case k5 => k_is)
    (case z0 => k_is)
    (case z1 => k_is)
    (case z2 => k_is)
    (case z3 => k_is)
    (case z4 => k_is)
    (case z5 => k_is)
    (case z6 => k_is)
    (case z7 => k_is)
    (case z8 => k_is)
    (case z9 => k_is)
    (case gS => k_is)
    (case gT => k_is)
    (case ca0 => k_is)
    (case ck0 => k_is)
    (case cb0 => k_is)
    (case cy0 => k_is)
    (case ci0 => k_is)
    (case eg0 => k_is)
    (case ea0 => k_is)
    (case ec0 => k_is)
    (case em0 => k_is)
    (case cx0 => k_exc)
    (case ca1 => k_is)
    (case ck1 => k_is)
    (case cb1 => k_is)
    (case cy1 => k_is)
    (case ci1 => k_is)
    (case eg1 => k_is)
    (case ea1 => k_is)
    (case ec1 => k_is)
    (case em1 => k_is)
    (case lk1 => k_is)
    (case rv1 => first | rfl | decide)
    (case sa1 => k_is)
    (case iC1 => k_is)
    (case tI1 => k_is)
    (case gl1 => k_is)
    (case gc1 => k_is)
    (case gk1 => k_is)
    (case hd1 => k_is)
    (case no_limit => k_is)
    (case ca2 => k_is)
    (case ck2 => k_is)
    (case cb2 => k_is)
    (case cy2 => k_is)
    (case ci2 => k_is)
    (case eg2 => k_is)
    (case ea2 => k_is)
    (case ec2 => k_is)
    (case em2 => k_is)
    (case lk2 => k_is)
    (case rv2 => first | rfl | decide)
    (case sa2 => k_is)
    (case iC2 => k_is)
    (case tI2 => k_is)
    (case gl2 => k_is)
    (case gc2 => k_is)
    (case gk2 => k_is)
    (case hd2 => k_is)
    (case no_line => k_is)
    (case no_column => k_is)
    (case ca3 => k_is)
    (case ck3 => k_is)
    (case cb3 => k_is)
    (case cy3 => k_is)
    (case ci3 => k_is)
    (case eg3 => k_is)
    (case ea3 => k_is)
    (case ec3 => k_is)
    (case em3 => k_is)
    (case cx3 => k_exc)
    (case ca4 => k_is)
    (case ck4 => k_is)
    (case cb4 => k_is)
    (case cy4 => k_is)
    (case ci4 => k_is)
    (case eg4 => k_is)
    (case ea4 => k_is)
    (case ec4 => k_is)
    (case em4 => k_is)
    (case cx4 => k_exc)
    (case ca5 => k_is)
    (case ck5 => k_is)
    (case cb5 => k_is)
    (case cy5 => k_is)
    (case ci5 => k_is)
    (case eg5 => k_is)
    (case ea5 => k_is)
    (case ec5 => k_is)
    (case em5 => k_is)
    (case cx5 => k_exc)
    (case ca6 => k_is)
    (case ck6 => k_is)
    (case cb6 => k_is)
    (case cy6 => k_is)
    (case ci6 => k_is)
    (case eg6 => k_is)
    (case ea6 => k_is)
    (case ec6 => k_is)
    (case em6 => k_is)
    (case cx6 => k_exc)
    (case ca7 => k_is)
    (case ck7 => k_is)
    (case cb7 => k_is)
    (case cy7 => k_is)
    (case ci7 => k_is)
    (case eg7 => k_is)
    (case ea7 => k_is)
    (case ec7 => k_is)
    (case em7 => k_is)
    (case cx7 => k_exc)
    (case ca8 => k_is)
    (case ck8 => k_is)
    (case cb8 => k_is)
    (case cy8 => k_is)
    (case ci8 => k_is)
    (case eg8 => k_is)
    (case ea8 => k_is)
    (case ec8 => k_is)
    (case em8 => k_is)
    (case cx8 => k_exc)
    (case ca9 => k_is)
    (case ck9 => k_is)
    (case cb9 => k_is)
    (case cy9 => k_is)
    (case ci9 => k_is)
    (case eg9 => k_is)
    (case ea9 => k_is)
    (case ec9 => k_is)
    (case em9 => k_is)
    (case cx9 => k_exc)
    (case s0_0 => first | rfl | k_is)
    (case s0_1 => first | rfl | k_is)
    (case s0_2 => first | rfl | k_is)
    (case s0_3 => first | rfl | k_is)
    (case s0_4 => first | rfl | k_is)
    (case s0_5 => first | rfl | k_is)
    (case s0_6 => first | rfl | k_is)
    (case s0_7 => first | rfl | k_is)
    (case s0_8 => first | rfl | k_is)
    (case s0_9 => first | rfl | k_is)
    (case t0_ValueError => k_is)
    (case t0_KeyError => k_is)
    (case t0_IndexError => k_is)
    (case t0_TypeError => k_is)
    (case s1_0 => first | rfl | k_is)
    (case s1_1 => first | rfl | k_is)
    (case s1_2 => first | rfl | k_is)
    (case s1_3 => first | rfl | k_is)
    (case s1_4 => first | rfl | k_is)
    (case s1_5 => first | rfl | k_is)
    (case s1_6 => first | rfl | k_is)
    (case s1_7 => first | rfl | k_is)
    (case s1_8 => first | rfl | k_is)
    (case s1_9 => first | rfl | k_is)
    (case t1_ValueError => k_is)
    (case t1_KeyError => k_is)
    (case t1_IndexError => k_is)
    (case t1_TypeError => k_is)
    (case s2_0 => first | rfl | k_is)
    (case s2_1 => first | rfl | k_is)
    (case s2_2 => first | rfl | k_is)
    (case s2_3 => first | rfl | k_is)
    (case s2_4 => first | rfl | k_is)
    (case s2_5 => first | rfl | k_is)
    (case s2_6 => first | rfl | k_is)
    (case s2_7 => first | rfl | k_is)
    (case s2_8 => first | rfl | k_is)
    (case s2_9 => first | rfl | k_is)
    (case t2_ValueError => k_is)
    (case t2_KeyError => k_is)
    (case t2_IndexError => k_is)
    (case t2_TypeError => k_is)
    (case s3_0 => first | rfl | k_is)
    (case s3_1 => first | rfl | k_is)
    (case s3_2 => first | rfl | k_is)
    (case s3_3 => first | rfl | k_is)
    (case s3_4 => first | rfl | k_is)
    (case s3_5 => first | rfl | k_is)
    (case s3_6 => first | rfl | k_is)
    (case s3_7 => first | rfl | k_is)
    (case s3_8 => first | rfl | k_is)
    (case s3_9 => first | rfl | k_is)
    (case t3_ValueError => k_is)
    (case t3_KeyError => k_is)
    (case t3_IndexError => k_is)
    (case t3_TypeError => k_is)
    (case s4_0 => first | rfl | k_is)
    (case s4_1 => first | rfl | k_is)
    (case s4_2 => first | rfl | k_is)
    (case s4_3 => first | rfl | k_is)
    (case s4_4 => first | rfl | k_is)
    (case s4_5 => first | rfl | k_is)
    (case s4_6 => first | rfl | k_is)
    (case s4_7 => first | rfl | k_is)
    (case s4_8 => first | rfl | k_is)
    (case s4_9 => first | rfl | k_is)
    (case t4_ValueError => k_is)
    (case t4_KeyError => k_is)
    (case t4_IndexError => k_is)
    (case t4_TypeError => k_is)
    (case s5_0 => first | rfl | k_is)
    (case s5_1 => first | rfl | k_is)
    (case s5_2 => first | rfl | k_is)
    (case s5_3 => first | rfl | k_is)
    (case s5_4 => first | rfl | k_is)
    (case s5_5 => first | rfl | k_is)
    (case s5_6 => first | rfl | k_is)
    (case s5_7 => first | rfl | k_is)
    (case s5_8 => first | rfl | k_is)
    (case s5_9 => first | rfl | k_is)
    (case t5_ValueError => k_is)
    (case t5_KeyError => k_is)
    (case t5_IndexError => k_is)
    (case t5_TypeError => k_is)
    (case s6_0 => first | rfl | k_is)
    (case s6_1 => first | rfl | k_is)
    (case s6_2 => first | rfl | k_is)
    (case s6_3 => first | rfl | k_is)
    (case s6_4 => first | rfl | k_is)
    (case s6_5 => first | rfl | k_is)
    (case s6_6 => first | rfl | k_is)
    (case s6_7 => first | rfl | k_is)
    (case s6_8 => first | rfl | k_is)
    (case s6_9 => first | rfl | k_is)
    (case t6_ValueError => k_is)
    (case t6_KeyError => k_is)
    (case t6_IndexError => k_is)
    (case t6_TypeError => k_is)
    (case s7_0 => first | rfl | k_is)
    (case s7_1 => first | rfl | k_is)
    (case s7_2 => first | rfl | k_is)
    (case s7_3 => first | rfl | k_is)
    (case s7_4 => first | rfl | k_is)
    (case s7_5 => first | rfl | k_is)
    (case s7_6 => first | rfl | k_is)
    (case s7_7 => first | rfl | k_is)
    (case s7_8 => first | rfl | k_is)
    (case s7_9 => first | rfl | k_is)
    (case t7_ValueError => k_is)
    (case t7_KeyError => k_is)
    (case t7_IndexError => k_is)
    (case t7_TypeError => k_is)
    (case s8_0 => first | rfl | k_is)
    (case s8_1 => first | rfl | k_is)
    (case s8_2 => first | rfl | k_is)
    (case s8_3 => first | rfl | k_is)
    (case s8_4 => first | rfl | k_is)
    (case s8_5 => first | rfl | k_is)
    (case s8_6 => first | rfl | k_is)
    (case s8_7 => first | rfl | k_is)
    (case s8_8 => first | rfl | k_is)
    (case s8_9 => first | rfl | k_is)
    (case t8_ValueError => k_is)
    (case t8_KeyError => k_is)
    (case t8_IndexError => k_is)
    (case t8_TypeError => k_is)
    (case s9_0 => first | rfl | k_is)
    (case s9_1 => first | rfl | k_is)
    (case s9_2 => first | rfl | k_is)
    (case s9_3 => first | rfl | k_is)
    (case s9_4 => first | rfl | k_is)
    (case s9_5 => first | rfl | k_is)
    (case s9_6 => first | rfl | k_is)
    (case s9_7 => first | rfl | k_is)
    (case s9_8 => first | rfl | k_is)
    (case s9_9 => first | rfl | k_is)
    (case t9_ValueError => k_is)
    (case t9_KeyError => k_is)
    (case t9_IndexError => k_is)
    (case t9_TypeError => k_is)

