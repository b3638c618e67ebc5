import PyProof.Rows.All
import Wide.All
import OpenK.AllK
import Wide.FinOn
import HandS.Base
import HandS.Call
import HandS.List
import HandS.Comp
import HandS.Ends
import HandS.Dict
import HandS.Iter
import HandS.Text
import HandS.Words
import HandS.WordsList
import PyProof.ReprRoads
import PyProof.ReprBulk
import PyProof.Rows.StrBoot
import HandS.IsInst
import HandS.StrMore
import HandS.Style
import PyProof.StrOps2
import HandS.Exc
import HandS.ExcOwn
import HandS.WordsExc
import PyProof.NeKinds
import HandS.TupAny
import HandS.TupMul
import HandS.Flow
import HandS.ExcInit
import HandS.ExcValue
import HandS.ExcIs
import HandS.ExcField
import KE.KExcIs
import PyProof.StrLaws
import KE.KeyNested
import KE.KDictKeyed
import PyProof.Rows.TupTab
import HandS.CallRecv
import HandS.Star
import HandS.DictComp
import HandS.ListEq
import PyProof.ListStr
import HandS.Steps
import PySem.Challenge.RW_stemrules_k91_texts_refused
/-! Pot0 -/
set_option Elab.async false
set_option maxRecDepth 100000
set_option maxHeartbeats 4000000
namespace Lk
open PySem PySem.Spec PyProof.Rows L2

/-- a def of the module, as it stands behind the top -/
structure Def1 (K : PySem.W.Frag) (mg : Str → Option Value) (x : String) (st : Stmt) : Prop where
  ex : ∃ (f : Addr) (fd : FuncData), L2.Fun K x x st f fd ∧ mg x = some (.ref f)
/-- a def that may be called by its name, with its promise -/
structure Cal (P : Program) (w : World) (K : PySem.W.Frag) (mg : Str → Option Value) (base : Heap) (k : Nat) (x : String) (sp : Sp) : Prop where
  ex : ∃ (f : Addr) (fd : FuncData) (ps : List Str), FnOk P w K mg base CX0 k f fd ps sp ∧ mg x = some (.ref f) ∧ PySem.W.keepIn K (.ref f) = true ∧ Binds K fd ps []
section
variable {P : Program} {w : World} {K : PySem.W.Frag} {mg : Str → Option Value} {base : Heap}
theorem mkCal {x : String} {st : Stmt} {N ps : List Str} {k : Nat} {sp : Sp} (D : Def1 K mg x st) (S : FnScope N ps (defScope st))
    (hb : ∀ (kV doc pm : Value) (an : Option Addr) (cdv ct : Value) (us : List Value), us.length = ps.length → bindArgs (PySem.W.fnOf x x (defArgs st) (defBody st) (defScope st) .none kV doc pm an cdv ct) ⟨us, []⟩ = pure (ps.zip us))
    (len : ∀ vs H Q E, sp vs H Q E → vs.length = ps.length)
    (hbody : ∀ (f : Addr) (cdv : Value) (A : Around) (outer : List Env) (s : Shared) (H : Hp) (vs : List V) (Q : VK) (E : XK), Room k (A.deeper (envOfC x (defScope st) s.heap.objs.size f cdv)) → sp vs H Q E →
      ∃ t, PSs (cxOf CX0 P w K mg base N x (defScope st) f cdv A outer s H E).nox (defBody st) t ∧ t { nx := fun _ H' => Q .non H', rt := Q } (start N vs) H) : Cal P w K mg base (k + 1) x sp := by
  obtain ⟨f, fd, F, m⟩ := D.ex
  exact ⟨f, fd, ps, F.ok S len fun cdv A outer s H vs Q E hr h => hbody f cdv A outer s H vs Q E hr h, m, F.kp, F.binds hb⟩
theorem Cal.imp {x : String} {k : Nat} {sp sp' : Sp} (c : Cal P w K mg base k x sp) (h : ∀ vs H Q E, sp' vs H Q E → sp vs H Q E) : Cal P w K mg base k x sp' := by
  obtain ⟨f, fd, ps, F, a, b, d⟩ := c.ex
  exact ⟨f, fd, ps, F.imp h, a, b, d⟩
end
section
variable {X : Cx} {k j : Nat} {x : String} {sp : Sp} {p pos : Pos} {e : Expr} {es : List Expr} {t : TA}
theorem pe_cal (c : Cal X.prog X.w X.K X.mg X.base k x sp) (hr : Room j X.A) (hk : k ≤ j) (ha : PA X (e :: es) t) (hg : Gl X x := by rfl)
    (hdb : ((x : Str) == ("__debug__" : Str)) = false := by decide) (he : starEach (e :: es) X.env = (false, eval e X.env) :: starEach es X.env := by rfl) (hpl : (backTo pos (starEach es X.env)).any (·.1) = false := by rfl) :
    PE X (.Call (.Name x p) (e :: es) [] pos) (tCall sp [] E0 t) := by
  obtain ⟨f, fd, ps, F, m, kp, b⟩ := c.ex
  exact pe_call F (hr.mono hk) hg m kp b .nil pass0 ha hdb he hpl
end

/-! ### heaps -/
theorem same_upd {H : Hp} {p : Addr} {o : HO} (h : H p = none) : Same H (upd H p o) := fun b x e => by
  rw [upd_ne (ne_of_none e h)]
  exact e
theorem same_mut {H0 H : Hp} {p : Addr} {o : HO} (s : Same H0 H) (h : H0 p = none) : Same H0 (upd H p o) := fun b x e => by
  rw [upd_ne (ne_of_none e h)]
  exact s b x e
theorem Same.seqT {K : PySem.W.Frag} {H H' : Hp} {a : Addr} {xs : List V} (e : Same H H') (h : SqT K H a xs) : SqT K H' a xs := by
  rcases h with (h | ⟨o, h⟩) | h
  · exact .inl (.inl (e _ _ h))
  · exact .inl (.inr ⟨o, e _ _ h⟩)
  · exact .inr h
/-- all but p stands as it was -/
def But (p : Addr) (H H' : Hp) : Prop := ∀ q o, H q = some o → q ≠ p → H' q = some o
/-- a pot: [cells, place, amount, room] -/
def PotAt (p c : Addr) (H : Hp) : Prop := p ≠ c ∧ (∃ i a b : Int, H p = some (.lst [.ref c, .int i, .int a, .int b])) ∧ ∃ ns : List Int, H c = some (.lst (ns.map V.int)) ∧ ns.length ≤ 17
structure Ext (p c : Addr) (H H' : Hp) : Prop where
  keep : But p H H'
  pot : PotAt p c H'
theorem PotAt.same {p c : Addr} {H H' : Hp} (h : PotAt p c H) (s : Same H H') : PotAt p c H' := by
  obtain ⟨n, ⟨i, a, b, e⟩, ns, e2, l⟩ := h
  exact ⟨n, ⟨i, a, b, s _ _ e⟩, ns, s _ _ e2, l⟩
theorem PotAt.ref {p c : Addr} {H : Hp} (h : PotAt p c H) : Ext p c H H := ⟨fun _ _ e _ => e, h⟩
theorem Ext.trans {p c : Addr} {H H1 H2 : Hp} (a : Ext p c H H1) (b : Ext p c H1 H2) : Ext p c H H2 := ⟨fun q o e n => b.keep q o (a.keep q o e n) n, b.pot⟩
theorem Ext.same {p c : Addr} {H H1 H2 : Hp} (a : Ext p c H H1) (b : Same H1 H2) : Ext p c H H2 := ⟨fun q o e n => b q o (a.keep q o e n), a.pot.same b⟩
theorem Ext.pre {p c : Addr} {H H1 H2 : Hp} (a : Same H H1) (b : Ext p c H1 H2) : Ext p c H H2 := ⟨fun q o e n => b.keep q o (a q o e) n, b.pot⟩
theorem PotAt.nep {p c q : Addr} {H : Hp} (h : PotAt p c H) (e : H q = none) : q ≠ p := by
  obtain ⟨n, ⟨i, a, b, e1⟩, _⟩ := h
  exact fun z => by
    rw [z, e1] at e
    cases e
theorem PotAt.nec {p c q : Addr} {H : Hp} (h : PotAt p c H) (e : H q = none) : q ≠ c := by
  obtain ⟨n, _, ns, e1, _⟩ := h
  exact fun z => by
    rw [z, e1] at e
    cases e
theorem Ext.new {p c q : Addr} {H H1 : Hp} {o : HO} (a : Ext p c H H1) (h : H1 q = none) : Ext p c H (upd H1 q o) := a.same (same_upd h)
/-- an object that H does not know may change -/
theorem Ext.mut {p c q : Addr} {H H1 : Hp} {o : HO} (h0 : PotAt p c H) (a : Ext p c H H1) (h : H q = none) : Ext p c H (upd H1 q o) := by
  have n1 := h0.nep h
  have n2 := h0.nec h
  obtain ⟨n, ⟨i, x, b, e⟩, ns, e2, l⟩ := a.pot
  exact ⟨fun r u er nr => by
    rw [upd_ne (ne_of_none er h)]
    exact a.keep r u er nr, n, ⟨i, x, b, by rw [upd_ne n1.symm]; exact e⟩, ns, by rw [upd_ne n2.symm]; exact e2, l⟩
theorem Ext.get {p c q : Addr} {H H1 : Hp} {o : HO} (a : Ext p c H H1) (h : H q = some o) (n : q ≠ p) : H1 q = some o := a.keep q o h n
theorem Ext.free {p c q : Addr} {H H1 : Hp} (a : Ext p c H H1) (h : H1 q = none) : H q = none := by
  cases e : H q with
  | none => rfl
  | some o =>
    by_cases n : q = p
    · obtain ⟨_, ⟨i, x, b, e1⟩, _⟩ := a.pot
      rw [n, e1] at h
      cases h
    · rw [a.keep q o e n] at h
      cases h
theorem Ext.seq {K : PySem.W.Frag} {p c l : Addr} {H H1 : Hp} {xs : List V} (a : Ext p c H H1) (n : l ≠ p) (h : SqL K H l xs) : SqL K H1 l xs := by
  rcases h with (h | ⟨o, h⟩) | h
  · exact .inl (.inl (a.keep _ _ h n))
  · exact .inl (.inr ⟨o, a.keep _ _ h n⟩)
  · exact .inr h
theorem Ext.seqT {K : PySem.W.Frag} {p c l : Addr} {H H1 : Hp} {xs : List V} (a : Ext p c H H1) (n : l ≠ p) (h : SqT K H l xs) : SqT K H1 l xs := by
  rcases h with (h | ⟨o, h⟩) | h
  · exact .inl (.inl (a.keep _ _ h n))
  · exact .inl (.inr ⟨o, a.keep _ _ h n⟩)
  · exact .inr h
/-- what of the built-ins' names the module leaves alone -/
structure Glb (mg : Str → Option Value) : Prop where
  int : mg "int" = none
  abs : mg "abs" = none
  range : mg "range" = none
  enumerate : mg "enumerate" = none
  len : mg "len" = none

/-! ### mathematics of the slices -/
theorem sIx_some {n d : Nat} {i : Int} (h : 0 ≤ i) : HT.sIx n d (some i) = min i.toNat n := by
  show (if i < 0 then (i + (n : Int)).toNat else min i.toNat n) = _
  rw [if_neg (by omega)]
theorem cut_to {xs : List V} {i : Int} (h : 0 ≤ i) : cutV xs none (some i) = xs.take i.toNat := by
  unfold cutV
  rw [HT.sIx_none, sIx_some h, List.drop_zero, Nat.sub_zero, Nat.min_comm]
  exact List.take_eq_take_iff.mpr (by omega)
theorem cut_from_to {xs : List V} {i j : Int} (h : 0 ≤ i) (h2 : i ≤ j) : cutV xs (some i) (some j) = (xs.drop i.toNat).take (j.toNat - i.toNat) := by
  unfold cutV
  rw [sIx_some h, sIx_some (by omega)]
  by_cases hi : i.toNat ≤ xs.length
  · rw [Nat.min_eq_left hi]
    refine List.take_eq_take_iff.mpr ?_
    rw [List.length_drop]
    omega
  · have e1 : xs.drop (min i.toNat xs.length) = [] := List.drop_eq_nil_of_le (by omega)
    have e2 : xs.drop i.toNat = [] := List.drop_eq_nil_of_le (by omega)
    rw [e1, e2, List.take_nil, List.take_nil]
/-! ### texts by their signs -/
theorem joinL_nil : ∀ l : List (List Nat), TL.joinL [] l = l.flatten
  | [] => rfl
  | [p] => by simp [TL.joinL]
  | p :: q :: r => by
    show p ++ ([] ++ TL.joinL [] (q :: r)) = _
    rw [joinL_nil (q :: r)]
    simp
theorem tl_join0 {x : Str} (hx : TL.tl x = []) (ys : List Str) : TL.tl (Txt.join x ys) = (ys.map TL.tl).flatten := by
  rw [TL.join_eq, TL.tl_join, hx, joinL_nil]
theorem sum_len_le {k : Nat} : ∀ {ys : List Str}, (∀ y ∈ ys, y.length ≤ k) → (ys.map (·.length)).sum ≤ ys.length * k
  | [], _ => Nat.zero_le _
  | y :: r, h => by
    rw [List.map_cons, List.sum_cons, List.length_cons, Nat.succ_mul]
    have h1 := h y List.mem_cons_self
    have h2 := sum_len_le (ys := r) fun z hz => h z (List.mem_cons_of_mem _ hz)
    omega
theorem flat_all {P : Nat → Prop} {ys : List Str} (h : ∀ y ∈ ys, ∀ c ∈ TL.tl y, P c) : ∀ c ∈ (ys.map TL.tl).flatten, P c := by
  intro c hc
  obtain ⟨l, hl, hc⟩ := List.mem_flatten.mp hc
  obtain ⟨y, hy, rfl⟩ := List.mem_map.mp hl
  exact h y hy c hc
theorem flat_len {k : Nat} {ys : List Str} (h : ∀ y ∈ ys, (TL.tl y).length ≤ k) : ((ys.map TL.tl).flatten).length ≤ ys.length * k := by
  induction ys with
  | nil => exact Nat.zero_le _
  | cons y r ih =>
    rw [List.map_cons, List.flatten_cons, List.length_append, List.length_cons, Nat.succ_mul]
    have h1 := h y List.mem_cons_self
    have h2 := ih fun z hz => h z (List.mem_cons_of_mem _ hz)
    omega
def Up (c : Nat) : Prop := 65 ≤ c ∧ c ≤ 90
def Lo (c : Nat) : Prop := 97 ≤ c ∧ c ≤ 122
instance (c : Nat) : Decidable (Up c) := by unfold Up; exact inferInstance
instance (c : Nat) : Decidable (Lo c) := by unfold Lo; exact inferInstance
/-- a drawn name: its head, its tail -/
structure Nm (z : Str) (h t : List Nat) : Prop where
  e : TL.tl z = h ++ t
  up : ∀ c ∈ h, Up c
  lo : ∀ c ∈ t, Lo c
  ne : h ++ t ≠ []
  lh : h.length ≤ 3
  lt : t.length ≤ 3

/-- the reading of a store, in one step -/
theorem set_read {te : TE} {g : TG} {t : TS} {D : Ends} {σ : L2.St} {H : Hp} (h : te σ H fun x H1 => g x σ H1 (t D)) : tSeq (tAsg te g) t D σ H := h

/-! ### places, loops over pairs -/
theorem ixN_lt {n : Nat} {k : Int} (h0 : 0 ≤ k) (h1 : k < n) : ixN n k = some k.toNat := by
  unfold ixN
  rw [if_pos h0, if_pos h1]
theorem atI_lt {α : Type} {xs : List α} {k : Int} (h0 : 0 ≤ k) (h1 : k < xs.length) : ∃ v, atI xs k = some v ∧ xs[k.toNat]? = some v := by
  have hk : k.toNat < xs.length := by omega
  refine ⟨xs[k.toNat], ?_, List.getElem?_eq_getElem hk⟩
  unfold atI
  rw [ixN_lt h0 h1]
  exact List.getElem?_eq_getElem hk
theorem atI_ints {ns : List Int} {k : Int} (h0 : 0 ≤ k) (h1 : k < ns.length) : ∃ z : Int, atI (ns.map V.int) k = some (.int z) := by
  obtain ⟨v, e, g⟩ := atI_lt (xs := ns.map V.int) h0 (by rw [List.length_map]; exact h1)
  rw [List.getElem?_map] at g
  cases q : ns[k.toNat]? with
  | none =>
    rw [q] at g
    cases g
  | some z =>
    rw [q] at g
    cases g
    exact ⟨z, e⟩
theorem map_item {ns : List Int} {i : Nat} {x : V} (h : (ns.map V.int)[i]? = some x) : ∃ z, x = .int z ∧ ns[i]? = some z := by
  rw [List.getElem?_map] at h
  cases q : ns[i]? with
  | none =>
    rw [q] at h
    cases h
  | some z =>
    rw [q] at h
    cases h
    exact ⟨z, rfl, rfl⟩
/-- for i, x in enumerate(xs), xs a list that the body leaves as it is -/
theorem for_enum {K : PySem.W.Frag} {a : Addr} {xs : List V} {g : TG} {tb : TS} {D : Ends} {σ : L2.St} {H : Hp} (Pv : Nat → L2.St → Hp → Prop) (h0 : Pv 0 σ H) (hl : ∀ i σ H, Pv i σ H → SqL K H a xs)
    (hs : ∀ (i : Nat) (x : V) (σ : L2.St) (H : Hp) (T : Addr), xs[i]? = some x → H T = none → Pv i σ H → g (.ref T) σ (upd H T (.tup [.int (i : Int), x])) fun σ2 H2 => tb { D with nx := Pv (i + 1), ct := Pv (i + 1), bk := D.nx } σ2 H2)
    (hd : ∀ σ H, Pv xs.length σ H → D.nx σ H) :
    ∃ W : Nat → Nat → L2.St → Hp → Prop, (∃ m, W 0 m σ H) ∧ ∀ i m σ H, W i m σ H →
      ((Ite K a).stop i H ∧ D.nx σ H) ∨ ((Ite K a).go i H ∧ ∃ N : L2.St → Hp → Prop, (∀ σ' H', N σ' H' → ∃ m', m' < m ∧ W (i + 1) m' σ' H') ∧ ∀ x H', (Ite K a).yld i H x H' → g x σ H' fun σ2 H2 => tb { D with nx := N, ct := N, bk := D.nx } σ2 H2) := by
  refine ⟨fun i m σ H => i + m = xs.length ∧ Pv i σ H, ⟨xs.length, Nat.zero_add _, h0⟩, ?_⟩
  rintro i m σ H ⟨em, p⟩
  have q := hl i σ H p
  cases m with
  | zero =>
    have e : i = xs.length := em
    subst e
    exact .inl ⟨⟨xs, q, Nat.le_refl _⟩, hd σ H p⟩
  | succ m =>
    have hi : i < xs.length := by omega
    refine .inr ⟨⟨xs, xs[i], q, List.getElem?_eq_getElem hi⟩, Pv (i + 1), fun σ' H' p' => ⟨m, Nat.lt_succ_self m, by omega, p'⟩, fun v H' y => ?_⟩
    obtain ⟨T, x, rfl, nT, rfl, f⟩ := y
    exact hs i x σ H T (f xs q) nT p

/-! ### the promises of the law's own helpers -/
def spKneaded : Sp := fun vs H Q _ => ∃ s l : Int, vs = [.int s, .int l] ∧ ∀ r : Int, Q (.int r) H
def spPotOf (K : PySem.W.Frag) : Sp := fun vs H Q _ => ∃ (a : Addr) (ns : List Int), vs = [.ref a] ∧ SqL K H a (ns.map V.int) ∧ ns.length ≤ 63 ∧ ∀ (p c : Addr) (H' : Hp), Same H H' → H p = none → PotAt p c H' → Q (.ref p) H'
def spBelow : Sp := fun vs H Q _ => ∃ (p c : Addr) (n : Int), vs = [.ref p, .int n] ∧ PotAt p c H ∧ 0 < n ∧ n < 1073741824 ∧ ∀ (r : Int) (H' : Hp), 0 ≤ r → r < n → Ext p c H H' → Q (.int r) H'
def spPick (K : PySem.W.Frag) : Sp := fun vs H Q _ => ∃ (p c l : Addr) (xs : List V), vs = [.ref p, .ref l] ∧ PotAt p c H ∧ SqL K H l xs ∧ l ≠ p ∧ 0 < xs.length ∧ xs.length ≤ 1000 ∧ ∀ (v : V) (H' : Hp), v ∈ xs → Ext p c H H' → Q v H'
def spName : Sp := fun vs H Q _ => ∃ (p c : Addr), vs = [.ref p] ∧ PotAt p c H ∧ ∀ (z : Str) (h t : List Nat) (H' : Hp), Nm z h t → Ext p c H H' → Q (.str z) H'
theorem pot_put {p c : Addr} {H H1 : Hp} {i a b : Int} (_h0 : PotAt p c H) (e : Ext p c H H1) : Ext p c H (upd H1 p (.lst [.ref c, .int i, .int a, .int b])) := by
  obtain ⟨n, _, ns, e2, l⟩ := e.pot
  exact ⟨fun q o eq nq => by
    rw [upd_ne nq]
    exact e.keep q o eq nq, n, ⟨i, a, b, upd_same⟩, ns, by rw [upd_ne n.symm]; exact e2, l⟩
theorem eqv_ints_nil (ns : List Int) : PyData.eqv (.list (ns.map PyData.int)) (.list []) = decide (ns = []) := by
  cases ns with
  | nil => rfl
  | cons x r =>
    rw [decide_eq_false (by simp)]
    rfl
theorem dp_ints {K : PySem.W.Frag} {H : Hp} : ∀ ns : List Int, DpAll K H (ns.map V.int) (ns.map PyData.int)
  | [] => .nil
  | x :: r => .cons (.int x) (dp_ints r)
theorem shaped_ints (ns : List Int) : SeqAt.shaped (.list (ns.map PyData.int)) = true := by
  have h1 : ∀ l : List Int, PyData.canLayAll0 (l.map PyData.int) = true := fun l => by
    induction l with
    | nil => rfl
    | cons x r ih => simpa [PyData.canLayAll0, PyData.canLay0] using ih
  have h2 : ∀ l : List Int, PyData.depthAll (l.map PyData.int) = 0 := fun l => by
    induction l with
    | nil => rfl
    | cons x r ih => simpa [PyData.depthAll, PyData.depth] using ih
  unfold SeqAt.shaped
  simp [PyData.canLay0, PyData.depth, h1, h2]

/-- ''.join([pick(pot, letters) for lap in range(below(pot, n))]) -/
theorem word_read {K : PySem.W.Frag} {p c : Addr} {σ : L2.St} {H : Hp} {n : Int} {iv : Nat} {letters : List Str} {tl : TA} {Q : VK} (hL : ∀ (σ : L2.St) (H : Hp) (Q : List V → Hp → Prop), Q (letters.map V.str) H → tl σ H Q) (hne : 0 < letters.length) (hle : letters.length ≤ 1000)
    (h1 : ∀ y ∈ letters, (TL.tl y).length ≤ 1) (hσ : σ[0]? = some (some (.ref p))) (hσ2 : ∀ v : Option V, ((wipe σ [iv]).set iv v)[0]? = some (some (.ref p))) (hw : ∀ v : Option V, wipe ((wipe σ [iv]).set iv v) [iv] = wipe σ [iv])
    (hP : PotAt p c H) (hn : 0 < n) (hn2 : n ≤ 1000) (k : ∀ (ys : List Str) (H' : Hp), (∀ y ∈ ys, y ∈ letters) → (ys.length : Int) < n → Ext p c H H' → Q (.str (Txt.join "" ys)) H') :
    tM1 (fun x xs H Q => ∃ a p, ∃ ys : List Str, x = .str a ∧ xs = [.ref p] ∧ (SqL K H p (ys.map V.str) ∨ SqT K H p (ys.map V.str)) ∧ (ys.map (·.length)).sum + ys.length * a.length ≤ 16777216 ∧ Q (.str (Txt.join a ys)) H)
      (tC (.str "")) (tLc (iRng1 (tCons (tCall spBelow [] E0 (tCons (tVar 0) (tCons (tC (.int n)) tNil))) tNil)) (gName iv) tYes (tCall (spPick K) [] E0 (tCons (tVar 0) (tCons (tLst tl) tNil))) [iv]) σ H Q := by
  refine ⟨⟨_, rfl⟩, _, hσ, p, c, n, rfl, hP, hn, by omega, fun r H1 r0 r1 e1 => ⟨r, rfl, by omega, by omega, fun D nD => ?_⟩⟩
  have nD0 := e1.free nD
  have nDp : D ≠ p := hP.nep nD0
  refine lc_range (lo := 0) (n := r.toNat) (fun i H' => Ext p c H H' ∧ ∃ ys : List Str, H' D = some (.lst (ys.map V.str)) ∧ ys.length = i ∧ ∀ y ∈ ys, y ∈ letters) ⟨e1.mut hP nD0, [], upd_same, rfl, fun y h => nomatch h⟩ ?_ ?_
  · rintro i H2 hi ⟨e2, ys, hD, hl, hy⟩
    refine ⟨hw _, _, hσ2 _, hL _ _ _ ⟨by rw [List.length_map]; exact Nat.le_of_lt (small1000 hle), fun l nl => ?_⟩⟩
    refine ⟨p, c, l, letters.map V.str, rfl, e2.pot.same (same_upd nl), SqL.of upd_same, e2.pot.nep nl, by rw [List.length_map]; exact hne, by rw [List.length_map]; exact hle, fun v H3 hv e3 => ?_⟩
    obtain ⟨y, my, rfl⟩ := List.mem_map.mp hv
    have e4 := e2.trans (Ext.pre (same_upd nl) e3)
    have hD3 : H3 D = some (.lst (ys.map V.str)) := e3.get (by rw [upd_ne (ne_of_none hD nl)]; exact hD) nDp
    refine ⟨_, hD3, by rw [List.length_map, hl]; exact small1000 (by omega), e4.mut hP nD0, ys ++ [y], by rw [upd_same, List.map_append]; rfl, by rw [List.length_append, hl]; rfl, fun z hz => ?_⟩
    rcases List.mem_append.mp hz with hz | hz
    · exact hy z hz
    · rw [List.mem_singleton.mp hz]
      exact my
  · rintro H2 ⟨e2, ys, hD, hl, hy⟩
    have hs : (ys.map (·.length)).sum ≤ ys.length * 1 := sum_len_le fun y h => by
      rw [TL.len_tl]
      exact h1 y (hy y h)
    exact ⟨"", D, ys, rfl, rfl, .inl (SqL.of hD), by
      show (ys.map (·.length)).sum + ys.length * 0 ≤ 16777216
      omega, k ys H2 hy (by omega) e2⟩
end Lk

/-! Repr0 -/
set_option Elab.async false
set_option maxRecDepth 100000
set_option maxHeartbeats 4000000
namespace Lk
open PySem PySem.Spec PyProof.Rows L2

/-! ### data of any form, dicts too -/
def keyD : Key → PyData
  | .inl i => .int i
  | .inr x => .str x
mutual
inductive Th (K : PySem.W.Frag) (H : Hp) : V → PyData → Prop
  | non : Th K H .non .none
  | bl (b : Bool) : Th K H (.bl b) (.bool b)
  | int (i : Int) : Th K H (.int i) (.int i)
  | str (x : Str) : Th K H (.str x) (.str x)
  | lst {a : Addr} {xs : List V} {ds : List PyData} : SqL K H a xs → ThAll K H xs ds → Th K H (.ref a) (.list ds)
  | tup {a : Addr} {xs : List V} {ds : List PyData} : SqT K H a xs → ThAll K H xs ds → Th K H (.ref a) (.tuple ds)
  | dct {a : Addr} {kvs : List (Key × V)} {ds : List (PyData × PyData)} : H a = some (.dK kvs) → ThAll K H (kvs.map (·.2)) (ds.map (·.2)) → ds.map (·.1) = kvs.map (fun p => keyD p.1) → Th K H (.ref a) (.dict ds)
inductive ThAll (K : PySem.W.Frag) (H : Hp) : List V → List PyData → Prop
  | nil : ThAll K H [] []
  | cons {v : V} {vs : List V} {d : PyData} {ds : List PyData} : Th K H v d → ThAll K H vs ds → ThAll K H (v :: vs) (d :: ds)
end
mutual
def noLst : PyData → Bool
  | .none | .bool _ | .int _ | .str _ => true
  | .list _ => false
  | .tuple xs => noLstAll xs
  | .dict kvs => noLstKv kvs
def noLstAll : List PyData → Bool
  | [] => true
  | x :: xs => noLst x && noLstAll xs
def noLstKv : List (PyData × PyData) → Bool
  | [] => true
  | (_, v) :: r => noLst v && noLstKv r
end
theorem noLstKv_map : ∀ ds : List (PyData × PyData), noLstAll (ds.map (·.2)) = noLstKv ds
  | [] => rfl
  | (k, v) :: r => by
    show (noLst v && noLstAll (r.map (·.2))) = (noLst v && noLstKv r)
    rw [noLstKv_map r]
/-- what may be shown -/
structure Wf (d : PyData) : Prop where
  sh : d.showable = true
  lv : d.leavesShort 13 = true
  bk : d.bulk ≤ 1000000
  dp : d.depth ≤ 60
  sy : d.hasDict = false ∨ noLst d = true
section
variable {X : Cx} {pins : List (Addr × Obj)} {σ : L2.St} {H : Hp} {s : Shared}
theorem keys_read {prog : Program} {w : World} {h : Heap} : ∀ {es : List DictEntry} {kvs : List (Key × V)} {vs : List (Key × Value)}, KV kvs vs → Pairs (mixKind prog w) es vs →
    ReadsAll h (es.map (·.key)) (kvs.map fun p => keyD p.1) [] ∧ Vals (kvs.map (·.2)) (es.map (·.val))
  | _, _, _, .nil, .nil => ⟨.nil, .nil⟩
  | _, _, _, .cons (a := a) q t, .cons (e := e) h1 h2 p => by
    obtain ⟨ih1, ih2⟩ := keys_read (h := h) t p
    obtain ⟨q1, q2⟩ := q
    rw [← q1] at h1
    refine ⟨?_, .cons (by show L2.RelV a.2 e.val; rw [h2]; exact q2) ih2⟩
    obtain ⟨k, v⟩ := a
    have h1' : keyIs k e.key = true := h1
    rcases keyIs_shape h1' with ⟨i, t, rfl, e1⟩ | ⟨x, t, rfl, e1⟩
    · have r : Reads h e.key (.int i) [] := by rw [e1]; exact Reads.int i t
      exact ReadsAll.cons r ih1
    · have r : Reads h e.key (.str x) [] := by rw [e1]; exact Reads.str x t
      exact ReadsAll.cons r ih1
theorem th_reads (I : Inv X pins σ H s) {v : V} {d : PyData} (h : Th X.K H v d) : ∀ u, RelV v u → ∃ as, Reads s.heap u d as ∧ (noLst d = true → sysModules ∉ as) := by
  refine Th.rec (motive_1 := fun v d _ => ∀ u, RelV v u → ∃ as, Reads s.heap u d as ∧ (noLst d = true → sysModules ∉ as)) (motive_2 := fun vs ds _ => ∀ us, Vals vs us → ∃ as, ReadsAll s.heap us ds as ∧ (noLstAll ds = true → sysModules ∉ as))
    ?_ ?_ ?_ ?_ ?_ ?_ ?_ ?_ ?_ h
  · intro u r
    cases r
    exact ⟨_, Reads.none, fun _ h => nomatch h⟩
  · intro b u r
    cases r
    exact ⟨_, Reads.bool b, fun _ h => nomatch h⟩
  · intro i u r
    obtain ⟨t, rfl⟩ := r
    exact ⟨_, Reads.int i t, fun _ h => nomatch h⟩
  · intro x u r
    obtain ⟨t, rfl⟩ := r
    exact ⟨_, Reads.str x t, fun _ h => nomatch h⟩
  · intro a xs ds hs _ ih u r
    cases r
    obtain ⟨its, rv, ⟨o, n, ho, hc, _, hd⟩, _⟩ := I.list hs
    obtain ⟨as, hr, _⟩ := ih its rv
    exact ⟨_, Reads.list ho hc hd hr, fun z => by simp [noLst] at z⟩
  · intro a xs ds hs _ ih u r
    cases r
    obtain ⟨its, rv, ⟨o, ho, hc, n, hd⟩, _⟩ := I.tuple hs
    obtain ⟨as, hr, hn⟩ := ih its rv
    exact ⟨_, Reads.tuple ho hc hd hr, fun z => hn (by simpa [noLst] using z)⟩
  · intro a kvs ds hs _ ek ih u r
    cases r
    obtain ⟨_, hsys, vs, kv, o, es, ep, ho, ex, hd, _, hp, _⟩ := (show ObjOk X.prog X.w H s.heap a (.dK kvs) from I.hok a _ hs)
    obtain ⟨rk, rv⟩ := keys_read (h := s.heap) kv hp
    obtain ⟨bs, hr, hn⟩ := ih _ rv
    refine ⟨_, Reads.dict ho ex.1 hd (by rw [ek]; exact rk) hr, fun z hm => ?_⟩
    rcases List.mem_append.mp hm with hm | hm
    · rw [List.mem_singleton.mp hm] at hsys
      exact absurd hsys (by simp)
    · refine hn ?_ hm
      rw [noLstKv_map]
      simpa [noLst] using z
  · intro us r
    cases r
    exact ⟨_, ReadsAll.nil, fun _ h => nomatch h⟩
  · intro v vs d ds _ _ ih1 ih2 us r
    cases r with
    | cons r1 r2 =>
      obtain ⟨as, q1, n1⟩ := ih1 _ r1
      obtain ⟨bs, q2, n2⟩ := ih2 _ r2
      refine ⟨_, ReadsAll.cons q1 q2, fun z hm => ?_⟩
      have z2 : noLst d = true ∧ noLstAll ds = true := by simpa [noLstAll] using z
      rcases List.mem_append.mp hm with hm | hm
      · exact n1 z2.1 hm
      · exact n2 z2.2 hm
theorem Wf.fits {d : PyData} (h : Wf d) : d.shown.length ≤ sizeLine := PyData.shown_fits_bulk (B := 13) (by decide) (by decide) h.lv (Nat.le_trans h.bk (by decide))
/-- repr(x), x data of any form -/
def rRepr (K : PySem.W.Frag) : List V → Hp → VK → Prop := fun xs H Q => ∃ v d, xs = [v] ∧ Th K H v d ∧ Wf d ∧ Q (.str d.shown) H
theorem call_repr (hg : X.A.guards = some []) (hu : X.A.units + 64 < cLine) : CallR X (.builtin "repr") (rRepr X.K) := by
  intro pins s σ H xs us Q I r h
  obtain ⟨v, d, rfl, ht, hw, q⟩ := h
  cases r with
  | cons r1 rr =>
    cases rr
    obtain ⟨as, hr, hn⟩ := th_reads I ht _ r1
    have hz := hw.fits
    have hsm : d.hasDict = true → sysModules ∉ as := fun z => by
      rcases hw.sy with e | e
      · rw [e] at z
        cases z
      · exact hn e
    have fin : ∀ (h' : Heap) (u tk : Nat), (∀ b o, s.heap.get? b = some o → h'.get? b = some o) → EP X pins σ Q (.str d.shown u) { s with heap := h', toks := tk } := fun h' u tk k => ⟨.str d.shown, H, I.kept (t' := tk) k, ⟨u, rfl⟩, q⟩
    have hd := hw.dp
    cases hr with
    | none => exact PySem.P.repr_of_none (fin s.heap _ _ fun _ _ e => e)
    | bool b => exact PySem.P.repr_of_bool (fin s.heap _ _ fun _ _ e => e)
    | int i t => exact PySem.P.repr_of_int (by simpa [PyData.showable] using hw.sh) (fin s.heap _ _ fun _ _ e => e)
    | str x t => exact PySem.P.repr_of_str (fin s.heap _ _ fun _ _ e => e) hz
    | list h1 h2 h3 h4 => exact repr_of_reads' (.list h1 h2 h3 h4) hw.sh hsm hg (by omega) (fun _ _ e => e) (fun h' u tk k => fin h' u tk k) hz
    | tuple h1 h2 h3 h4 => exact repr_of_reads' (.tuple h1 h2 h3 h4) hw.sh hsm hg (by omega) (fun _ _ e => e) (fun h' u tk k => fin h' u tk k) hz
    | dict h1 h2 h3 h4 h5 => exact repr_of_reads' (.dict h1 h2 h3 h4 h5) hw.sh hsm hg (by omega) (fun _ _ e => e) (fun h' u tk k => fin h' u tk k) hz
end
end Lk

/-! Grd0 -/
set_option Elab.async false
set_option maxRecDepth 100000
set_option maxHeartbeats 4000000
namespace Lk
open PySem PySem.Spec PyProof.Rows L2

/-! ### defs that are called where no guard is on the stack: they may show data -/
structure FnG (P : Program) (w : World) (K : PySem.W.Frag) (mg : Str → Option Value) (base : Heap) (CX : CXT) (k : Nat) (f : Addr) (fd : FuncData) (ps : List Str) (sp : Sp) : Prop where
  len : ∀ vs H Q E, sp vs H Q E → vs.length = ps.length
  go : ∀ (A : Around) (above : List Env) (s : Shared) (H : Hp) (args : Args) (us : List Value) (vs : List V) (Q : VK) (E : XK), Room k A → A.guards = some [] →
    Env0 P w K mg base A above s H → BindsTo s fd args (ps.zip us) → Vals vs us → sp vs H Q E → codeAny (model P w) A (.call (.ref f) args) (CR CX above P w H s Q E) s
section
variable {P : Program} {w : World} {K : PySem.W.Frag} {mg : Str → Option Value} {base : Heap} {CX : CXT}
theorem fnG_of {k : Nat} {f : Addr} {nm qn : Str} {pr : Arguments} {bd : List Stmt} {sc : Scope} {d1 d2 d3 d4 cv ct oc : Value} {an od : Option Addr} {sl : Array (Option Value)} {N ps : List Str} {sp : Sp}
    (at_ : K.lookup f = some ⟨oc, od, .func (PySem.W.fnOf nm qn pr bd sc d1 d2 d3 d4 an cv ct), sl⟩) (hc : PySem.W.codeIn K cv qn = true) (S : FnScope N ps sc) (len : ∀ vs H Q E, sp vs H Q E → vs.length = ps.length)
    (hb : ∀ (A : Around) (above : List Env) (s : Shared) (H : Hp) (vs : List V) (Q : VK) (E : XK), Room k (A.deeper (envOfC qn sc s.heap.objs.size f cv)) → (A.deeper (envOfC qn sc s.heap.objs.size f cv)).guards = some [] → sp vs H Q E →
      ∃ t, PSs (cxOf CX P w K mg base N qn sc f cv A above s H E) bd t ∧ t { nx := fun _ H' => Q .non H', rt := Q } (start N vs) H) :
    FnG P w K mg base CX (k + 1) f (PySem.W.fnOf nm qn pr bd sc d1 d2 d3 d4 an cv ct) ps sp := by
  constructor
  · exact len
  · intro A above s H args us vs Q E room gd env bind rel want
    have old : ∀ b o, base.get? b = some o → s.heap.get? b = some o := fun b o e => (env.bs b o e).1
    have kin := env.mod.kin.keeps old
    have mine : ∀ y ∈ ps.zip us, sc.names.lookup y.1 = some .local ∨ (sc.names.lookup y.1 = some .cell ∧ ((cellsFrom (s.heap.objs.size + 1) sc.names []).lookup y.1).isSome = true) := by
      rintro ⟨n, v⟩ hy
      have := S.par n (List.of_mem_zip hy).1
      exact this.imp id fun c => ⟨c, PySem.W.cellsFrom_some _ _ _ (.inl c)⟩
    apply codeAny_call_function room.depth (kin _ _ at_) rfl S.co S.gen rfl (PySem.W.codeRec_of kin hc)
    apply bind
    apply wpAny_newFunctionEnv_cells S.kind mine
    intro env1 he s1 inside
    subst he
    refine ⟨(env.mod.nolimit.keeps old).keeps inside.toInCall.keep, codeAny_func ?_⟩
    obtain ⟨t, walk, read⟩ := hb A above s H vs Q E (room.deeper _) gd want
    have I0 := inv_start (CX := CX) (P := P) (w := w) (E := E) S room.hd env (len _ _ _ _ want) rel inside
    apply wpAny_mono (walk.run [] s1 (start N vs) H _ I0 read)
    · intro fl s2 out
      match fl, out with
      | .ret u, ⟨v, σ', H', J, rv, q⟩ => exact ⟨v, H', J.os, J.bare, J.base, J.hok, rv, q⟩
      | .next, ⟨σ', H', J, q⟩ => exact ⟨V.non, H', J.os, J.bare, J.base, J.hok, rfl, q⟩
      | .brk, ⟨_, _, _, q⟩ => exact False.elim q
      | .cont, ⟨_, _, _, q⟩ => exact False.elim q
    · intro e s2 out
      exact out
structure CalG (P : Program) (w : World) (K : PySem.W.Frag) (mg : Str → Option Value) (base : Heap) (CX : CXT) (k : Nat) (x : String) (sp : Sp) : Prop where
  ex : ∃ (f : Addr) (fd : FuncData) (ps : List Str), FnG P w K mg base CX k f fd ps sp ∧ mg x = some (.ref f) ∧ PySem.W.keepIn K (.ref f) = true ∧ Binds K fd ps []
theorem mkCalG {x : String} {st : Stmt} {N ps : List Str} {k : Nat} {sp : Sp} (D : Def1 K mg x st) (S : FnScope N ps (defScope st))
    (hb : ∀ (kV doc pm : Value) (an : Option Addr) (cdv ct : Value) (us : List Value), us.length = ps.length → bindArgs (PySem.W.fnOf x x (defArgs st) (defBody st) (defScope st) .none kV doc pm an cdv ct) ⟨us, []⟩ = pure (ps.zip us))
    (len : ∀ vs H Q E, sp vs H Q E → vs.length = ps.length)
    (body : ∀ (f : Addr) (cdv : Value) (A : Around) (above : List Env) (s : Shared) (H : Hp) (vs : List V) (Q : VK) (E : XK), Room k (A.deeper (envOfC x (defScope st) s.heap.objs.size f cdv)) →
      (A.deeper (envOfC x (defScope st) s.heap.objs.size f cdv)).guards = some [] → sp vs H Q E →
      ∃ t, PSs (cxOf CX P w K mg base N x (defScope st) f cdv A above s H E) (defBody st) t ∧ t { nx := fun _ H' => Q .non H', rt := Q } (start N vs) H) : CalG P w K mg base CX (k + 1) x sp := by
  obtain ⟨f, fd, F, m⟩ := D.ex
  have b := F.binds hb
  have kp := F.kp
  obtain ⟨oc, od, kV, doc, pm, an, cdv, ct, sl, rfl, lk, hcd⟩ := F.ex
  exact ⟨f, _, ps, fnG_of lk hcd S len fun A above s H vs Q E hr hg h => body f cdv A above s H vs Q E hr hg h, m, kp, b⟩
/-- the whole law, from its promise -/
theorem lawG {mb : Str → Option Value} {k : Nat} {fa a : Addr} {fd : FuncData} {x : Str} {sp : Sp} {s : Shared} {vs : List Value} {ns : List Int}
    (KX : K.In s.heap) (gl : s.heap.Ns mainGlobals mg) (bl : s.heap.Ns builtinsNs mb) (bb : ∀ x : Str, x ≠ "__name__" → mb x = bootBuiltins x) (nl : s.heap.NoLimit) (gens : s.gens = #[])
    (ha : s.heap.get? a = some { cls := .type "list", data := .seq vs.toArray }) (hin : IntsAre vs ns) (short : ns.length ≤ sizeLine) (room : Room k callerA)
    (F : ∀ base : Heap, K.In base → base.Ns mainGlobals mg → FnG P w K mg base CX k fa fd [x] sp) (bind : ∀ (s : Shared) (u : Value), BindsTo s fd ⟨[u], []⟩ [(x, u)])
    (prom : ∀ H : Hp, Only H → SqL K H a (ns.map V.int) → sp [.ref a] H (fun v _ => v = .bl true) fun _ _ _ => False)
    (noX : ∀ H e s', CX [] H s (fun _ _ _ => False) e s' → False) :
    codeAny (model P w) callerA (.call (.ref fa) ⟨[.ref a], []⟩) (fun r s' => r = .ok (.ret (.bool true)) ∧ OldK s.heap s'.heap ∧ s'.os = s.os ∧ AllBare s'.gens) s := by
  have vals := vals_ints hin
  have run : ∀ H : Hp, Only H → SqL K H a (ns.map V.int) → HOk P w H s.heap → (∀ b, H b ≠ none → b = a ∧ K.lookup a = none) →
      codeAny (model P w) callerA (.call (.ref fa) ⟨[.ref a], []⟩) (fun r s' => r = .ok (.ret (.bool true)) ∧ OldK s.heap s'.heap ∧ s'.os = s.os ∧ AllBare s'.gens) s := by
    intro H only seq ok here
    have dicts : ∀ {b : Addr} {m : Str → Option Value}, s.heap.Ns b m → (hidT s.heap H).Ns b m := by
      rintro b m ⟨o, es, ep, e, d, r⟩
      refine ⟨o, es, ep, hidT_get e ?_, d, r⟩
      apply Classical.byContradiction
      intro z
      obtain ⟨rfl, _⟩ := here b z
      rw [ha] at e
      cases e
      cases d
    have kb : K.In (hidT s.heap H) := by
      intro b o e
      refine hidT_get (KX b o e) ?_
      apply Classical.byContradiction
      intro z
      obtain ⟨rfl, q⟩ := here b z
      rw [q] at e
      cases e
    have md : Mod K mg (hidT s.heap H) := ⟨kb, dicts gl, ⟨mb, dicts bl, bb⟩, by
      obtain ⟨mc, h1, h2⟩ := nl
      exact ⟨mc, dicts h1, h2⟩⟩
    have nof : ∀ b ∈ frs ([] : List Env), H b = none := by
      intro b i
      have i2 : b ∈ ([] : List Addr) := i
      cases i2
    have env : Env0 P w K mg (hidT s.heap H) callerA [] s H := ⟨rfl, md, fun b o e => of_hidT e, Nat.le_of_eq (hidT_size _ _), trivial, nof, ok, .of_eq gens⟩
    apply codeAny_mono ((F _ kb (dicts gl)).go callerA [] s H ⟨[.ref a], []⟩ [.ref a] [.ref a] _ _ room rfl env (bind s (.ref a)) (.cons rfl .nil) (prom H only seq))
    intro r s' out
    match r, out with
    | .error e, out => exact (noX H e s' out).elim
    | .ok .next, out => exact False.elim out
    | .ok .brk, out => exact False.elim out
    | .ok .cont, out => exact False.elim out
    | .ok (.ret u), ⟨v, H', os, bare, un, ok', rel, q⟩ =>
      have e1 : v = .bl true := q
      rw [e1] at rel
      have e2 : u = Value.bool true := rel
      rw [e2]
      refine ⟨rfl, OldK.of_keep ?_, os, bare⟩
      intro b o e
      rcases only b with z | ⟨ob, xs, z⟩
      · exact un.keep b o e z (by
          intro i
          have i2 : b ∈ ([] : List Addr) := i
          cases i2) (by
          intro i
          cases i)
      · have after := (ok' b _ (un.frzs b ob _ z)).1
        rw [(ok b _ z).1] at e
        cases e
        exact after
  match q : K.lookup a with
  | some o =>
    have same := KX a o q
    rw [ha] at same
    cases same
    exact run (fun _ => none) (fun _ => .inl rfl) (.inr ⟨_, vs.toArray, _, q, rfl, rfl, rfl, by rw [List.size_toArray, hin.length]; exact short, by simpa using vals⟩) (fun b u z => nomatch z) fun b z => absurd rfl z
  | none =>
    have mine : ∀ {b : Addr} {u : HO}, (fun b => if b = a then some (HO.frz { cls := .type "list", data := .seq vs.toArray } (.lst (ns.map V.int))) else none) b = some u → b = a ∧ u = HO.frz { cls := .type "list", data := .seq vs.toArray } (.lst (ns.map V.int)) := by
      intro b u z
      by_cases h : b = a
      · exact ⟨h, (Option.some.inj ((if_pos h).symm.trans z)).symm⟩
      · exact absurd ((if_neg h).symm.trans z) (by simp)
    refine run (fun b => if b = a then some (.frz { cls := .type "list", data := .seq vs.toArray } (.lst (ns.map V.int))) else none) (fun b => ?_) (.inl (.inr ⟨{ cls := .type "list", data := .seq vs.toArray }, if_pos rfl⟩)) (fun b u z => ?_) fun b z => ⟨?_, q⟩
    · by_cases h : b = a
      · exact .inr ⟨_, _, if_pos h⟩
      · exact .inl (if_neg h)
    · obtain ⟨rfl, rfl⟩ := mine z
      exact ⟨ha, by rw [List.length_map]; exact short, vs, _, vals, ha⟩
    · apply Classical.byContradiction
      intro h
      exact z (if_neg h)
end
/-- the goal that the law's head leaves, from the law's promise -/
theorem walkG {l : PySem.W.OpenLaw} {k : Nat} {q : Program} {loose : List Str} {XP : (Str → Option Value) → Heap → Prop} {YP : World → Heap → Prop} {d : DefRec} {K : Params → PySem.W.Frag} {CX : World → CXT} {sp : World → Sp} {x : Str}
    (most : l.most = some 63) (noD : d.params.defaults = []) (room : Room k callerA) (hY : ∀ (w : World) (h : Heap), YP w h → (K w.params).In h)
    (F : ∀ (w : World) (mg : Str → Option Value) (fa : Addr) (h : Heap), (K w.params).In h → h.Ns mainGlobals mg → mg d.name = some (.ref fa) →
      ∃ fd : FuncData, (∀ (s : Shared) (u : Value), BindsTo s fd ⟨[u], []⟩ [(x, u)]) ∧ ∀ base : Heap, (K w.params).In base → base.Ns mainGlobals mg → FnG l.prog w (K w.params) mg base (CX w) k fa fd [x] (sp w))
    (prom : ∀ (w : World) (H : Hp) (a : Addr) (ns : List Int), ns.length ≤ 63 → Only H → SqL (K w.params) H a (ns.map V.int) → sp w [.ref a] H (fun v _ => v = .bl true) fun _ _ _ => False)
    (noX : ∀ (w : World) (H : Hp) (s : Shared) (e : Value) (s' : Shared), CX w [] H s (fun _ _ _ => False) e s' → False) :
    PySem.W.WalkO q loose XP YP l.row.toRowW d [] (fun f vs => PySem.call f vs) := by
  apply Att.attach_call most noD
  intro w s0 s1 mg mb fa o pm cd doc a vs ns G Y ho hd hcd hmg hobj hints hlen hg
  obtain ⟨fd, hb, hF⟩ := F w mg fa _ (hY w _ Y) G.T.g hmg
  exact lawG (hY w _ Y) G.T.g G.T.b G.T.builtins G.T.nolimit hg hobj hints (Nat.le_trans hlen (by decide)) room hF hb (fun H only seq => prom w H a ns hlen only seq) fun H e s' => noX w H s1 e s'
end Lk

/-! Nam0 -/
set_option Elab.async false
set_option maxRecDepth 100000
set_option maxHeartbeats 4000000
namespace Lk
open PySem PySem.Spec PyProof.Rows L2

def upB (c : Nat) : Bool := decide (65 ≤ c) && decide (c ≤ 90)
def loB (c : Nat) : Bool := decide (97 ≤ c) && decide (c ≤ 122)
def capS : Str := "ABCDEFGHIJKLMNOPQRSTUVWXYZ"
def smaS : Str := "abcdefghijklmnopqrstuvwxyz"
theorem range_has {n k c : Nat} : (List.range' n k).contains c = (decide (n ≤ c) && decide (c < n + k)) := by
  rw [Bool.eq_iff_iff]
  simp [List.mem_range'_1]
theorem cap_has (c : Nat) : capS.cps.contains c = upB c := by
  have e : capS.cps.toList = List.range' 65 26 := by decide +kernel
  rw [← Array.contains_toList, e, range_has, Bool.eq_iff_iff]
  simp [upB]
  omega
theorem sma_has (c : Nat) : smaS.cps.contains c = loB c := by
  have e : smaS.cps.toList = List.range' 97 26 := by decide +kernel
  rw [← Array.contains_toList, e, range_has, Bool.eq_iff_iff]
  simp [loB]
  omega
/-! ### strip -/
theorem drop_tw (p : Nat → Bool) : ∀ l : List Nat, l.drop (l.takeWhile p).length = l.dropWhile p
  | [] => rfl
  | c :: r => by
    rw [List.takeWhile_cons, List.dropWhile_cons]
    by_cases h : p c = true
    · rw [if_pos h, if_pos h]
      exact drop_tw p r
    · rw [if_neg h, if_neg h]
      rfl
theorem tw_len (p : Nat → Bool) : ∀ l : List Nat, (l.takeWhile p).length ≤ l.length
  | [] => Nat.le_refl _
  | c :: r => by
    rw [List.takeWhile_cons]
    split
    · exact Nat.succ_le_succ (tw_len p r)
    · exact Nat.zero_le _
theorem tl_lstrip (p : Nat → Bool) (x : Str) : TL.tl (Txt.stripBy p true false x) = (TL.tl x).dropWhile p := by
  have hlo : stripLo p true x = ((TL.tl x).takeWhile p).length := if_pos rfl
  have hhi : stripHi p false x (stripLo p true x) = x.length := if_neg Bool.false_ne_true
  unfold Txt.stripBy
  by_cases h : stripSame p true false x = true
  · rw [if_pos h]
    have h0 : stripLo p true x = 0 := by
      unfold stripSame at h
      rw [Bool.and_eq_true] at h
      exact beq_iff_eq.mp h.1
    rw [← drop_tw, ← hlo, h0]
    rfl
  · rw [if_neg h]
    unfold stripped
    rw [hhi, TL.tl_strSub_end, hlo, drop_tw]
theorem dw_all {p : Nat → Bool} : ∀ l : List Nat, (l.dropWhile p = [] ↔ l.all p = true)
  | [] => by simp
  | c :: r => by
    rw [List.dropWhile_cons, List.all_cons]
    by_cases h : p c = true
    · rw [if_pos h, h, Bool.true_and]
      exact dw_all r
    · rw [if_neg h]
      simp [h]
theorem tl_strip (p : Nat → Bool) (x : Str) : TL.tl (Txt.stripBy p true true x) = [] ↔ (TL.tl x).all p = true := by
  have hl : x.length = (TL.tl x).length := TL.len_tl x
  have hlo : stripLo p true x = ((TL.tl x).takeWhile p).length := if_pos rfl
  have hhi : ∀ k, stripHi p true x k = x.length - (((TL.tl x).drop k).reverse.takeWhile p).length := fun k => if_pos rfl
  have key : TL.tl (Txt.stripBy p true true x) = ((TL.tl x).drop (stripLo p true x)).take (stripHi p true x (stripLo p true x) - stripLo p true x) := by
    unfold Txt.stripBy
    by_cases h : stripSame p true true x = true
    · rw [if_pos h]
      unfold stripSame at h
      rw [Bool.and_eq_true] at h
      have h0 := beq_iff_eq.mp h.1
      have h1 := beq_iff_eq.mp h.2
      rw [h1, h0, List.drop_zero, Nat.sub_zero, hl, List.take_length]
    · rw [if_neg h]
      unfold stripped
      rw [TL.tl_strSub]
  rw [key, hlo, drop_tw, hhi, drop_tw]
  cases e : (TL.tl x).dropWhile p with
  | nil =>
    rw [List.take_nil]
    exact ⟨fun _ => (dw_all _).mp e, fun _ => rfl⟩
  | cons c r =>
    have hc : p c = false := by
      have := List.head?_dropWhile_not p (TL.tl x)
      rw [e] at this
      simpa using this
    constructor
    · intro h
      exfalso
      have hlen : (c :: r).length + ((TL.tl x).takeWhile p).length = (TL.tl x).length := by
        rw [← e, ← drop_tw, List.length_drop]
        have := tw_len p (TL.tl x)
        omega
      have hrev : (((c :: r).reverse).takeWhile p).length ≤ r.length := by
        rw [List.reverse_cons]
        by_cases ha : r.reverse.all p = true
        · rw [List.takeWhile_append_of_pos (by simpa using ha), List.takeWhile_cons, if_neg (by rw [hc]; decide)]
          simp
        · have := tw_len p (r.reverse ++ [c])
          have h2 : ((r.reverse ++ [c]).takeWhile p).length ≠ (r.reverse ++ [c]).length := fun z => by
            have e2 : (r.reverse ++ [c]).takeWhile p = r.reverse ++ [c] := (List.takeWhile_sublist p).eq_of_length z
            have := List.all_takeWhile (p := p) (l := r.reverse ++ [c])
            rw [e2, List.all_append, Bool.and_eq_true] at this
            exact ha this.1
          rw [List.length_append, List.length_reverse, List.length_singleton] at this h2
          omega
      rw [List.length_cons] at hlen
      have : (List.take (x.length - (((c :: r).reverse).takeWhile p).length - ((TL.tl x).takeWhile p).length) (c :: r)).length = 0 := by rw [h]; rfl
      rw [List.length_take, List.length_cons] at this
      omega
    · intro h
      have := (dw_all _).mpr h
      rw [e] at this
      cases this

/-! ### what a name, an end, a pattern is -/
def nmB (l : List Nat) : Bool := !l.isEmpty && (l.dropWhile upB).all loB
def dName : PyData → Bool
  | .str x => nmB (TL.tl x)
  | _ => false
def dEnd (p : Nat → Bool) : PyData → Bool
  | .str x => decide (x.length ≤ 3) && (TL.tl x).all p
  | _ => false
def isE : PyData → Bool
  | .str x => decide (x = "")
  | _ => false
def dPat : PyData → Bool
  | .tuple [b, e] => dEnd upB b && (dEnd loB e && !(isE b && isE e))
  | _ => false
/-! ### types of data -/
def tyN : PyData → String
  | .none => "NoneType" | .bool _ => "bool" | .int _ => "int" | .str _ => "str" | .list _ => "list" | .tuple _ => "tuple" | .dict _ => "dict"
def isStr : PyData → Bool
  | .str _ => true
  | _ => false
def isTup : PyData → Bool
  | .tuple _ => true
  | _ => false
def isDct : PyData → Bool
  | .dict _ => true
  | _ => false
def isLst : PyData → Bool
  | .list _ => true
  | _ => false
theorem th_ty {K : PySem.W.Frag} {H : Hp} {v : V} {d : PyData} (h : Th K H v d) : TyX K H v (.type (tyN d)) := by
  cases h with
  | non => exact .base .non
  | bl b => exact .base (.bl b)
  | int i => exact .base (.int i)
  | str x => exact .base (.str x)
  | lst h _ =>
    rcases h with (h | ⟨o, h⟩) | ⟨o, its, n, h, hc, _⟩
    · exact .base (.lst h)
    · exact .base (.frz h)
    · exact .kList h hc
  | tup h _ =>
    rcases h with (h | ⟨o, h⟩) | ⟨o, its, n, h, hc, _⟩
    · exact .base (.tup h)
    · exact .fTuple h
    · exact .kTuple h hc
  | dct h _ _ => exact .base (.dK h)
theorem kit_str {K : PySem.W.Frag} : ∀ d : PyData, PySem.W.kitOne K (.type (tyN d)) (.type "str") = some (isStr d)
  | .none => kit_ty (show kitB "NoneType" "str" = some false by decide +kernel)
  | .bool _ => kit_ty (show kitB "bool" "str" = some false by decide +kernel)
  | .int _ => kit_ty (show kitB "int" "str" = some false by decide +kernel)
  | .str _ => kit_ty (show kitB "str" "str" = some true by decide +kernel)
  | .list _ => kit_ty (show kitB "list" "str" = some false by decide +kernel)
  | .tuple _ => kit_ty (show kitB "tuple" "str" = some false by decide +kernel)
  | .dict _ => kit_ty (show kitB "dict" "str" = some false by decide +kernel)
theorem kit_tup {K : PySem.W.Frag} : ∀ d : PyData, PySem.W.kitOne K (.type (tyN d)) (.type "tuple") = some (isTup d)
  | .none => kit_ty (show kitB "NoneType" "tuple" = some false by decide +kernel)
  | .bool _ => kit_ty (show kitB "bool" "tuple" = some false by decide +kernel)
  | .int _ => kit_ty (show kitB "int" "tuple" = some false by decide +kernel)
  | .str _ => kit_ty (show kitB "str" "tuple" = some false by decide +kernel)
  | .list _ => kit_ty (show kitB "list" "tuple" = some false by decide +kernel)
  | .tuple _ => kit_ty (show kitB "tuple" "tuple" = some true by decide +kernel)
  | .dict _ => kit_ty (show kitB "dict" "tuple" = some false by decide +kernel)
theorem kit_lst {K : PySem.W.Frag} : ∀ d : PyData, PySem.W.kitOne K (.type (tyN d)) (.type "list") = some (isLst d)
  | .none => kit_ty (show kitB "NoneType" "list" = some false by decide +kernel)
  | .bool _ => kit_ty (show kitB "bool" "list" = some false by decide +kernel)
  | .int _ => kit_ty (show kitB "int" "list" = some false by decide +kernel)
  | .str _ => kit_ty (show kitB "str" "list" = some false by decide +kernel)
  | .list _ => kit_ty (show kitB "list" "list" = some true by decide +kernel)
  | .tuple _ => kit_ty (show kitB "tuple" "list" = some false by decide +kernel)
  | .dict _ => kit_ty (show kitB "dict" "list" = some false by decide +kernel)
/-- a module's constant -/
def Con1 (mg : Str → Option Value) (x : String) (v : V) : Prop := ∃ u, mg x = some u ∧ RelV v u
section
variable {X : Cx} {x : String} {v : V} {pos : Pos}
theorem pe_con1 (h : Con1 X.mg x v) (hg : Gl X x := by rfl) (hd : ((x : Str) == ("__debug__" : Str)) = false := by decide) : PE X (.Name x pos) (tC v) := by
  obtain ⟨u, e, r⟩ := h
  exact pe_glob hg e r hd
/-- isinstance(e, T), T one built-in class -/
theorem pe_isi {T : String} {e : Expr} {te : TE} {p q pos : Pos} (he : PE X e te) (hm : X.mg "isinstance" = none) (hT : X.mg T = none) (hb : bootBuiltins T = some (.type T)) (hg : Gl X "isinstance" := by rfl) (hgT : Gl X T := by rfl)
    (hn : (T : Str) ≠ "__name__" := by decide) (hd : ((T : Str) == ("__debug__" : Str)) = false := by decide) (h1 : starEach [e, .Name T q] X.env = (false, eval e X.env) :: starEach [.Name T q] X.env := by rfl) (h2 : starEach [.Name T q] X.env = (false, eval (.Name T q) X.env) :: starEach [] X.env := by rfl)
    (h3 : (backTo pos (starEach [.Name T q] X.env)).any (·.1) = false := by rfl) :
    PE X (.Call (.Name "isinstance" p) [e, .Name T q] [] pos) (tCB (rIsi X.K) (tCons te (tCons (tC (.ty T)) tNil))) :=
  pe_callB call_isi hg hm (by decide +kernel) (pa_cons he (pa_cons (pe_bltn (v := .ty T) hgT hT hb rfl hn hd) pa_nil h2) h1) (he := h1) (hpl := h3)
end
/-! ### promises of the program's first functions -/
structure Glc (mg : Str → Option Value) : Prop where
  isinst : mg "isinstance" = none
  str : mg "str" = none
  tuple : mg "tuple" = none
  caps : Con1 mg "CAPITALS" (.str capS)
  smalls : Con1 mg "SMALLS" (.str smaS)
  ends : Con1 mg "MOST_END_LETTERS" (.int 3)
def spIsName (K : PySem.W.Frag) : Sp := fun vs H Q _ => ∃ v d, vs = [v] ∧ Th K H v d ∧ d.bulk ≤ 1000000 ∧ Q (.bl (dName d)) H
def spIsEnd (K : PySem.W.Frag) : Sp := fun vs H Q _ => ∃ v d L p, vs = [v, .str L] ∧ Th K H v d ∧ d.bulk ≤ 1000000 ∧ (∀ c, L.cps.contains c = p c) ∧ Q (.bl (dEnd p d)) H
def spIsPat (K : PySem.W.Frag) : Sp := fun vs H Q _ => ∃ v d, vs = [v] ∧ Th K H v d ∧ d.bulk ≤ 1000000 ∧ Q (.bl (dPat d)) H
def spIsSrc (K : PySem.W.Frag) : Sp := fun vs H Q _ => ∃ v d, vs = [v] ∧ Th K H v d ∧ d.bulk ≤ 1000000 ∧ Q (.bl (dPat d || dName d)) H
theorem not_str {d : PyData} (h : isStr d = false) : dName d = false ∧ (∀ p, dEnd p d = false) ∧ isE d = false := by
  cases d with
  | str x => cases h
  | _ => exact ⟨rfl, fun _ => rfl, rfl⟩
theorem th_str {K : PySem.W.Frag} {H : Hp} {v : V} {d : PyData} (h : Th K H v d) (e : isStr d = true) : ∃ x, v = .str x ∧ d = .str x := by
  cases h with
  | str x => exact ⟨x, rfl, rfl⟩
  | _ => cases e
theorem th_tup {K : PySem.W.Frag} {H : Hp} {v : V} {d : PyData} (h : Th K H v d) (e : isTup d = true) : ∃ a xs ds, v = .ref a ∧ d = .tuple ds ∧ SqT K H a xs ∧ ThAll K H xs ds := by
  cases h with
  | tup hs ha => exact ⟨_, _, _, rfl, rfl, hs, ha⟩
  | _ => cases e
theorem thAll_len {K : PySem.W.Frag} {H : Hp} : ∀ {xs : List V} {ds : List PyData}, ThAll K H xs ds → xs.length = ds.length
  | _, _, .nil => rfl
  | _, _, .cons _ t => congrArg (· + 1) (thAll_len t)
theorem tl_nil_iff {x : Str} : TL.tl x = [] ↔ x = "" := ⟨fun h => TL.ext_tl (by rw [h]; decide +kernel), fun h => by rw [h]; decide +kernel⟩
theorem not_pat {d : PyData} (h : isTup d = false) : dPat d = false := by
  cases d with
  | tuple xs => cases h
  | _ => rfl
theorem not_pat2 : ∀ {ds : List PyData}, ds.length ≠ 2 → dPat (.tuple ds) = false
  | [], _ => rfl
  | [_], _ => rfl
  | [_, _], h => absurd rfl h
  | _ :: _ :: _ :: _, _ => rfl
theorem th_two {K : PySem.W.Frag} {H : Hp} : ∀ {xs : List V} {ds : List PyData}, ThAll K H xs ds → xs.length = 2 → ∃ b c db dc, xs = [b, c] ∧ ds = [db, dc] ∧ Th K H b db ∧ Th K H c dc
  | _, _, .nil, h => nomatch h
  | _, _, .cons _ .nil, h => nomatch h
  | _, _, .cons h1 (.cons h2 .nil), _ => ⟨_, _, _, _, rfl, rfl, h1, h2⟩
  | _, _, .cons _ (.cons _ (.cons _ _)), h => by simp at h
theorem th_three {K : PySem.W.Frag} {H : Hp} : ∀ {xs : List V} {ds : List PyData}, ThAll K H xs ds → xs.length = 3 → ∃ a b c da db dc, xs = [a, b, c] ∧ ds = [da, db, dc] ∧ Th K H a da ∧ Th K H b db ∧ Th K H c dc
  | _, _, .nil, h => nomatch h
  | _, _, .cons _ .nil, h => nomatch h
  | _, _, .cons _ (.cons _ .nil), h => nomatch h
  | _, _, .cons h1 (.cons h2 (.cons h3 .nil)), _ => ⟨_, _, _, _, _, _, rfl, rfl, h1, h2, h3⟩
  | _, _, .cons _ (.cons _ (.cons _ (.cons _ _))), h => by simp at h
theorem end_str {p : Nat → Bool} {d : PyData} (h : dEnd p d = true) : isStr d = true := by
  cases d with
  | str x => rfl
  | _ => cases h
end Lk

/-! Nam1 -/
set_option Elab.async false
set_option maxRecDepth 100000
set_option maxHeartbeats 4000000
namespace Lk
open PySem PySem.Spec PyProof.Rows L2

theorem lt1 {c d : Nat} : decide (([c] : List Nat) < [d]) = decide (c < d) := by
  rw [Bool.eq_iff_iff, decide_eq_true_iff, decide_eq_true_iff, List.cons_lt_cons_iff]
  constructor
  · rintro (h | ⟨_, h⟩)
    · exact h
    · exact absurd h (List.lt_irrefl _)
  · exact fun h => .inl h
/-- a sign as a text -/
abbrev sg (c : Nat) : Str := ⟨#[c]⟩
theorem tl_sg (c : Nat) : TL.tl (sg c) = [c] := rfl
theorem le_sg {x : Str} {a c : Nat} (h : TL.tl x = [a]) : (!decide ((sg c).cps.toList < x.cps.toList)) = decide (a ≤ c) := by
  rw [show x.cps.toList = [a] from h]
  show (!decide (([c] : List Nat) < [a])) = _
  rw [lt1, Bool.eq_iff_iff]
  simp
theorem sg_le {x : Str} {a c : Nat} (h : TL.tl x = [a]) : (!decide (x.cps.toList < (sg c).cps.toList)) = decide (c ≤ a) := by
  rw [show x.cps.toList = [a] from h]
  show (!decide (([a] : List Nat) < [c])) = _
  rw [lt1, Bool.eq_iff_iff]
  simp
theorem tl_cut_to {z : Str} {k : Nat} (h : k ≤ z.length) : TL.tl (cutS z none (some (k : Int))) = (TL.tl z).take k := by
  show ((z.cps.toList.drop (HT.sIx z.length 0 none)).take (HT.sIx z.length z.length (some (k : Int)) - HT.sIx z.length 0 none)) = _
  rw [HT.sIx_none, HT.sIx_nat, Nat.min_eq_left h, List.drop_zero, Nat.sub_zero]
theorem tl_cut_from {z : Str} {k : Nat} (h : k ≤ z.length) : TL.tl (cutS z (some (k : Int)) none) = (TL.tl z).drop k := by
  show ((z.cps.toList.drop (HT.sIx z.length 0 (some (k : Int)))).take (HT.sIx z.length z.length none - HT.sIx z.length 0 (some (k : Int)))) = _
  rw [HT.sIx_none, HT.sIx_nat, Nat.min_eq_left h]
  refine List.take_of_length_le ?_
  have := TL.len_tl z
  rw [List.length_drop]
  show (TL.tl z).length - k ≤ _
  omega
/-- a comprehension over a text's signs: Pv by the signs taken -/
theorem lc_str {x : Str} {g : TG} {tt : TT} {te : TE} {vs : List Nat} {σ : L2.St} {H1 : Hp} {D : Addr} {Qd : Hp → Prop} (Pv : List Nat → Hp → Prop) (h0 : Pv [] (upd H1 D (.lst [])))
    (hs : ∀ pre c post H, TL.tl x = pre ++ c :: post → Pv pre H → g (.str (sg c)) (wipe σ vs) H fun σ2 H2 => wipe σ2 vs = wipe σ vs ∧ tt σ2 H2 fun b H3 =>
      if b = true then te σ2 H3 fun y H4 => ∃ acc, H4 D = some (.lst acc) ∧ acc.length < sizeLine ∧ Pv (pre ++ [c]) (upd H4 D (.lst (acc ++ [y]))) else Pv (pre ++ [c]) H3) (hd : ∀ H, Pv (TL.tl x) H → Qd H) :
    ∃ W : Nat → Nat → Hp → Prop, (∃ m, W 0 m (upd H1 D (.lst []))) ∧ ∀ i m H, W i m H →
      ((Its x).stop i H ∧ Qd H) ∨ ((Its x).go i H ∧ ∃ Nx : Hp → Prop, (∀ H', Nx H' → ∃ m', m' < m ∧ W (i + 1) m' H') ∧ ∀ y H', (Its x).yld i H y H' → g y (wipe σ vs) H' fun σ2 H2 => wipe σ2 vs = wipe σ vs ∧ tt σ2 H2 fun b H3 =>
        if b = true then te σ2 H3 fun y H4 => ∃ acc, H4 D = some (.lst acc) ∧ acc.length < sizeLine ∧ Nx (upd H4 D (.lst (acc ++ [y]))) else Nx H3) := by
  have hl : x.cps.size = (TL.tl x).length := TL.len_tl x
  refine ⟨fun i m H => i + m = (TL.tl x).length ∧ Pv ((TL.tl x).take i) H, ⟨_, Nat.zero_add _, h0⟩, ?_⟩
  rintro i m H ⟨em, p⟩
  cases m with
  | zero =>
    refine .inl ⟨by show x.cps.size ≤ i; omega, hd H ?_⟩
    rw [List.take_of_length_le (by omega)] at p
    exact p
  | succ m =>
    have hi : i < (TL.tl x).length := by omega
    have split : TL.tl x = (TL.tl x).take i ++ (TL.tl x)[i] :: (TL.tl x).drop (i + 1) := by
      rw [← List.drop_eq_getElem_cons hi, List.take_append_drop]
    have more : (TL.tl x).take (i + 1) = (TL.tl x).take i ++ [(TL.tl x)[i]] := List.take_succ_eq_append_getElem hi
    refine .inr ⟨by show i < x.cps.size; omega, Pv ((TL.tl x).take (i + 1)), fun H' p' => ⟨m, Nat.lt_succ_self m, by omega, p'⟩, ?_⟩
    rintro y H' ⟨rfl, c, hc, rfl⟩
    have ec : c = (TL.tl x)[i] := by
      have : (TL.tl x)[i]? = some c := by
        show x.cps.toList[i]? = some c
        rw [Array.getElem?_toList]
        exact hc
      rw [List.getElem?_eq_getElem hi] at this
      exact (Option.some.inj this).symm
    subst ec
    rw [more]
    exact hs _ _ _ _ split p
/-- for c in x, x a text -/
theorem for_str {x : Str} {g : TG} {tb : TS} {D : Ends} {σ : L2.St} {H : Hp} (Pv : List Nat → L2.St → Hp → Prop) (h0 : Pv [] σ H)
    (hs : ∀ pre c post σ H, TL.tl x = pre ++ c :: post → Pv pre σ H → g (.str (sg c)) σ H fun σ2 H2 => tb { D with nx := Pv (pre ++ [c]), ct := Pv (pre ++ [c]), bk := D.nx } σ2 H2)
    (hd : ∀ σ H, Pv (TL.tl x) σ H → D.nx σ H) :
    ∃ W : Nat → Nat → L2.St → Hp → Prop, (∃ m, W 0 m σ H) ∧ ∀ i m σ H, W i m σ H →
      ((Its x).stop i H ∧ D.nx σ H) ∨ ((Its x).go i H ∧ ∃ N : L2.St → Hp → Prop, (∀ σ' H', N σ' H' → ∃ m', m' < m ∧ W (i + 1) m' σ' H') ∧ ∀ y H', (Its x).yld i H y H' → g y σ H' fun σ2 H2 => tb { D with nx := N, ct := N, bk := D.nx } σ2 H2) := by
  have hl : x.cps.size = (TL.tl x).length := TL.len_tl x
  refine ⟨fun i m σ H => i + m = (TL.tl x).length ∧ Pv ((TL.tl x).take i) σ H, ⟨_, Nat.zero_add _, h0⟩, ?_⟩
  rintro i m σ H ⟨em, p⟩
  cases m with
  | zero =>
    refine .inl ⟨by show x.cps.size ≤ i; omega, hd σ H ?_⟩
    rw [List.take_of_length_le (by omega)] at p
    exact p
  | succ m =>
    have hi : i < (TL.tl x).length := by omega
    have split : TL.tl x = (TL.tl x).take i ++ (TL.tl x)[i] :: (TL.tl x).drop (i + 1) := by
      rw [← List.drop_eq_getElem_cons hi, List.take_append_drop]
    have more : (TL.tl x).take (i + 1) = (TL.tl x).take i ++ [(TL.tl x)[i]] := List.take_succ_eq_append_getElem hi
    refine .inr ⟨by show i < x.cps.size; omega, Pv ((TL.tl x).take (i + 1)), fun σ' H' p' => ⟨m, Nat.lt_succ_self m, by omega, p'⟩, ?_⟩
    rintro y H' ⟨rfl, c, hc, rfl⟩
    have ec : c = (TL.tl x)[i] := by
      have : (TL.tl x)[i]? = some c := by
        show x.cps.toList[i]? = some c
        rw [Array.getElem?_toList]
        exact hc
      rw [List.getElem?_eq_getElem hi] at this
      exact (Option.some.inj this).symm
    subst ec
    rw [more]
    exact hs _ _ _ _ _ split p
theorem take_tw {p : Nat → Bool} {l : List Nat} {k : Nat} (h : ∀ c ∈ l.take k, p c = true) (e : ∀ c, l[k]? = some c → p c = false) (hk : k ≤ l.length) : l.takeWhile p = l.take k ∧ l.dropWhile p = l.drop k := by
  induction l generalizing k with
  | nil => simp
  | cons a r ih =>
    cases k with
    | zero =>
      have := e a rfl
      simp [this]
    | succ k =>
      have ha := h a (by simp)
      obtain ⟨h1, h2⟩ := ih (k := k) (fun c hc => h c (by simp [hc])) (fun c hc => e c (by simpa using hc)) (by simpa using hk)
      simp [ha, h1, h2]
/-! ### lists of texts, compared with the empty one -/
theorem dp_strs {K : PySem.W.Frag} {H : Hp} : ∀ ys : List Str, DpAll K H (ys.map V.str) (ys.map PyData.str)
  | [] => .nil
  | x :: r => .cons (.str x) (dp_strs r)
theorem shaped_strs {ys : List Str} (h : ∀ y ∈ ys, PyData.strOk y = true) : SeqAt.shaped (.list (ys.map PyData.str)) = true := by
  have h1 : ∀ l : List Str, (∀ y ∈ l, PyData.strOk y = true) → PyData.canLayAll0 (l.map PyData.str) = true := fun l => by
    induction l with
    | nil => exact fun _ => rfl
    | cons x r ih =>
      intro h
      rw [List.map_cons, PyData.canLayAll0, PyData.canLay0, h x List.mem_cons_self, Bool.true_and]
      exact ih fun y hy => h y (List.mem_cons_of_mem _ hy)
  have h2 : ∀ l : List Str, PyData.depthAll (l.map PyData.str) = 0 := fun l => by
    induction l with
    | nil => rfl
    | cons x r ih => simpa [PyData.depthAll, PyData.depth] using ih
  unfold SeqAt.shaped
  simp [PyData.canLay0, PyData.depth, h1 ys h, h2]
/-- a text of code points, if it is a text -/
def okS : PyData → Bool
  | .str x => PyData.strOk x
  | _ => true
theorem ok_sg {x : Str} {c : Nat} (h : PyData.strOk x = true) (hc : c ∈ TL.tl x) : PyData.strOk (sg c) = true := by
  unfold PyData.strOk at h ⊢
  rw [Array.all_eq_true'] at h
  have := h c (by simpa using hc)
  simpa using this
theorem eqv_strs_nil (ys : List Str) : PyData.eqv (.list (ys.map PyData.str)) (.list []) = decide (ys = []) := by
  cases ys with
  | nil => rfl
  | cons x r =>
    rw [decide_eq_false (by simp)]
    rfl
/-- the law's own helpers' promises -/
def spSplit : Sp := fun vs H Q _ => ∃ x : Str, vs = [.str x] ∧ x.length ≤ 100000 ∧ ∀ (p : Addr) (hs ts : Str), H p = none → TL.tl hs = (TL.tl x).takeWhile upB → TL.tl ts = (TL.tl x).dropWhile upB → Q (.ref p) (upd H p (.tup [.str hs, .str ts]))
def spLName (K : PySem.W.Frag) : Sp := fun vs H Q _ => ∃ v d, vs = [v] ∧ Th K H v d ∧ d.bulk ≤ 100000 ∧ okS d = true ∧ ∀ H', Same H H' → Q (.bl (dName d)) H'
def spLEnd (K : PySem.W.Frag) : Sp := fun vs H Q _ => ∃ v d x y a b, vs = [v, .str x, .str y] ∧ TL.tl x = [a] ∧ TL.tl y = [b] ∧ Th K H v d ∧ d.bulk ≤ 100000 ∧ okS d = true ∧ ∀ H', Same H H' → Q (.bl (dEnd (fun c => decide (a ≤ c) && decide (c ≤ b)) d)) H'
def spLPat (K : PySem.W.Frag) : Sp := fun vs H Q _ => ∃ v d, vs = [v] ∧ Th K H v d ∧ d.bulk ≤ 100000 ∧ (isTup d = true → SeqAt.shaped d = true) ∧ ∀ H', Same H H' → Q (.bl (dPat d)) H'
theorem th_same {K : PySem.W.Frag} {H H' : Hp} (s : Same H H') {v : V} {d : PyData} (h : Th K H v d) : Th K H' v d := by
  refine Th.rec (motive_1 := fun v d _ => Th K H' v d) (motive_2 := fun vs ds _ => ThAll K H' vs ds) ?_ ?_ ?_ ?_ ?_ ?_ ?_ ?_ ?_ h
  · exact .non
  · exact .bl
  · exact .int
  · exact .str
  · exact fun hs _ ih => .lst (s.seq hs) ih
  · exact fun hs _ ih => .tup (Same.seqT s hs) ih
  · exact fun hs _ ek ih => .dct (s _ _ hs) ih ek
  · exact .nil
  · exact fun _ _ i1 i2 => .cons i1 i2
theorem th_dp {K : PySem.W.Frag} {H : Hp} {v : V} {d : PyData} (h : Th K H v d) : d.canLay0 = true → Dp K H v d := by
  refine Th.rec (motive_1 := fun v d _ => d.canLay0 = true → Dp K H v d) (motive_2 := fun vs ds _ => PyData.canLayAll0 ds = true → DpAll K H vs ds) ?_ ?_ ?_ ?_ ?_ ?_ ?_ ?_ ?_ h
  · exact fun _ => .non
  · exact fun b _ => .bl b
  · exact fun i _ => .int i
  · exact fun x _ => .str x
  · exact fun hs _ ih c => .lst hs (ih (by simpa only [PyData.canLay0] using c))
  · exact fun hs _ ih c => .tup hs (ih (by simpa only [PyData.canLay0] using c))
  · exact fun _ _ _ _ c => by simp [PyData.canLay0] at c
  · exact fun _ => .nil
  · intro v vs d ds _ _ i1 i2 c
    have c2 : d.canLay0 = true ∧ PyData.canLayAll0 ds = true := by simpa only [PyData.canLayAll0, Bool.and_eq_true] using c
    exact .cons (i1 c2.1) (i2 c2.2)
theorem ok_of_lay {d : PyData} (h : d.canLay0 = true) : okS d = true := by
  cases d with
  | str x => exact h
  | _ => rfl
theorem eqv_empty (d : PyData) : PyData.eqv d (.str "") = isE d := by
  cases d with
  | str x =>
    show (x == ("" : Str)) = decide (x = "")
    rw [Bool.eq_iff_iff, beq_iff_eq, decide_eq_true_iff]
  | _ => rfl
/-- ''.join([pick(pot, letters) for lap in range(below(pot, n))]), the letters a list that stands -/
theorem word_readT {K : PySem.W.Frag} {p c : Addr} {σ : L2.St} {H : Hp} {n : Int} {iv : Nat} {letters : List Str} {te : TE} {Q : VK}
    (hte : ∀ (H' : Hp) (v : Option V) (Q : VK), Ext p c H H' → (∀ (l : Addr), SqL K H' l (letters.map V.str) → l ≠ p → Q (.ref l) H') → te ((wipe σ [iv]).set iv v) H' Q) (hne : 0 < letters.length) (hle : letters.length ≤ 1000)
    (h1 : ∀ y ∈ letters, (TL.tl y).length ≤ 1) (hσ : σ[0]? = some (some (.ref p))) (hσ2 : ∀ v : Option V, ((wipe σ [iv]).set iv v)[0]? = some (some (.ref p))) (hw : ∀ v : Option V, wipe ((wipe σ [iv]).set iv v) [iv] = wipe σ [iv])
    (hP : PotAt p c H) (hn : 0 < n) (hn2 : n ≤ 1000) (k : ∀ (ys : List Str) (H' : Hp), (∀ y ∈ ys, y ∈ letters) → (ys.length : Int) < n → Ext p c H H' → Q (.str (Txt.join "" ys)) H') :
    tM1 (fun x xs H Q => ∃ a p, ∃ ys : List Str, x = .str a ∧ xs = [.ref p] ∧ (SqL K H p (ys.map V.str) ∨ SqT K H p (ys.map V.str)) ∧ (ys.map (·.length)).sum + ys.length * a.length ≤ 16777216 ∧ Q (.str (Txt.join a ys)) H)
      (tC (.str "")) (tLc (iRng1 (tCons (tCall spBelow [] E0 (tCons (tVar 0) (tCons (tC (.int n)) tNil))) tNil)) (gName iv) tYes (tCall (spPick K) [] E0 (tCons (tVar 0) (tCons te tNil))) [iv]) σ H Q := by
  refine ⟨⟨_, rfl⟩, _, hσ, p, c, n, rfl, hP, hn, by omega, fun r H1 r0 r1 e1 => ⟨r, rfl, by omega, by omega, fun D nD => ?_⟩⟩
  have nD0 := e1.free nD
  have nDp : D ≠ p := hP.nep nD0
  refine lc_range (lo := 0) (n := r.toNat) (fun i H' => Ext p c H H' ∧ ∃ ys : List Str, H' D = some (.lst (ys.map V.str)) ∧ ys.length = i ∧ ∀ y ∈ ys, y ∈ letters) ⟨e1.mut hP nD0, [], upd_same, rfl, fun y h => nomatch h⟩ ?_ ?_
  · rintro i H2 hi ⟨e2, ys, hD, hl, hy⟩
    refine ⟨hw _, _, hσ2 _, hte _ _ _ e2 fun l hS nl => ?_⟩
    refine ⟨p, c, l, letters.map V.str, rfl, e2.pot, hS, nl, by rw [List.length_map]; exact hne, by rw [List.length_map]; exact hle, fun v H3 hv e3 => ?_⟩
    obtain ⟨y, my, rfl⟩ := List.mem_map.mp hv
    have e4 := e2.trans e3
    have hD3 : H3 D = some (.lst (ys.map V.str)) := e3.get hD nDp
    refine ⟨_, hD3, by rw [List.length_map, hl]; exact small1000 (by omega), e4.mut hP nD0, ys ++ [y], by rw [upd_same, List.map_append]; rfl, by rw [List.length_append, hl]; rfl, fun z hz => ?_⟩
    rcases List.mem_append.mp hz with hz | hz
    · exact hy z hz
    · rw [List.mem_singleton.mp hz]
      exact my
  · rintro H2 ⟨e2, ys, hD, hl, hy⟩
    have hs : (ys.map (·.length)).sum ≤ ys.length * 1 := sum_len_le fun y h => by
      rw [TL.len_tl]
      exact h1 y (hy y h)
    exact ⟨"", D, ys, rfl, rfl, .inl (SqL.of hD), by
      show (ys.map (·.length)).sum + ys.length * 0 ≤ 16777216
      omega, k ys H2 hy (by omega) e2⟩
def spSome : Sp := fun vs H Q _ => ∃ (p c : Addr), vs = [.ref p] ∧ PotAt p c H ∧ ∀ (z : Str) (H' : Hp), z.length ≤ 6 → PyData.strOk z = true → Ext p c H H' → Q (.str z) H'
theorem ok_of_all {z : Str} (h : ∀ c ∈ TL.tl z, c < 1114112) : PyData.strOk z = true := by
  unfold PyData.strOk
  rw [Array.all_eq_true']
  intro c hc
  exact decide_eq_true (h c (by simpa using hc))
theorem Nm.ok {z : Str} {h t : List Nat} (n : Nm z h t) : PyData.strOk z = true := ok_of_all fun c hc => by
  rw [n.e] at hc
  rcases List.mem_append.mp hc with hc | hc
  · have := (n.up c hc).2
    omega
  · have := (n.lo c hc).2
    omega
theorem Nm.len {z : Str} {h t : List Nat} (n : Nm z h t) : z.length ≤ 6 := by
  rw [TL.len_tl, n.e, List.length_append]
  have := n.lh
  have := n.lt
  omega
end Lk

/-! Mak0 -/
set_option Elab.async false
set_option maxRecDepth 100000
set_option linter.all false
set_option maxHeartbeats 4000000
namespace Lk
open PySem PySem.Spec PyProof.Rows L2

/-! ### text * int -/
theorem rep_fold (a : Array Nat) : ∀ (k : Nat) (acc : Array Nat), ((List.replicate k a).foldl (· ++ ·) acc).toList = acc.toList ++ (List.replicate k a.toList).flatten
  | 0, acc => by simp
  | k + 1, acc => by
    rw [List.replicate_succ, List.foldl_cons, rep_fold a k, List.replicate_succ, List.flatten_cons, Array.toList_append, List.append_assoc]
def rStrRep : R2 := fun x y H Q => ∃ (a : Str) (k : Nat), x = .str a ∧ y = .int (k : Int) ∧ 2 ≤ k ∧ k ≤ 5000 ∧ a.length ≤ 1000 ∧ ∀ z : Str, TL.tl z = (List.replicate k (TL.tl a)).flatten → Q (.str z) H
theorem op_strRep {X : Cx} : OpR X (binaryOp .Mult) rStrRep := by
  intro pins s σ H x y v u Q I rx ry h
  obtain ⟨a, k, rfl, rfl, k1, k2, ha, q⟩ := h
  obtain ⟨t, rfl⟩ := rx
  obtain ⟨t', rfl⟩ := ry
  have hm : a.length * k ≤ 5000000 := by
    have := Nat.mul_le_mul ha k2
    omega
  have hl := TL.len_tl a
  have long : Builtin.Str.tooLong (a.length * k) = false := by
    unfold Builtin.Str.tooLong
    refine decide_eq_false (Nat.not_lt.mpr (Nat.le_trans hm ?_))
    decide
  refine PySem.P.mul_str (by rw [decide_eq_false (by omega), decide_eq_false (by omega)]; rfl) (fun _ _ => ?_) (fun _ _ => by rw [Int.toNat_natCast]; exact long) ?_
  · refine Int.not_lt.mpr (Int.le_ediv_of_mul_le (by omega) ?_)
    have : ((a.length * k : Nat) : Int) = (a.length : Int) * (k : Int) := Int.natCast_mul _ _
    omega
  · rw [if_neg (by omega), Int.toNat_natCast]
    have big : ((k : Int) == 1) = false := beq_eq_false_iff_ne.mpr (by omega)
    rw [big, Bool.false_or]
    by_cases h0 : a.length = 0
    · rw [if_pos (beq_iff_eq.mpr h0)]
      have e0 : TL.tl a = [] := List.length_eq_zero_iff.mp (by omega)
      exact ⟨.str a, H, I, ⟨_, rfl⟩, q a (by rw [e0]; simp)⟩
    · rw [if_neg (by rw [beq_iff_eq]; exact h0)]
      have e : TL.tl ⟨(List.replicate k a.cps).foldl (· ++ ·) #[]⟩ = (List.replicate k (TL.tl a)).flatten := by
        show ((List.replicate k a.cps).foldl (· ++ ·) #[]).toList = _
        rw [rep_fold, List.nil_append]
      refine ⟨?_, .str _, H, I.tok _, ⟨_, rfl⟩, q _ e⟩
      rw [TL.len_tl, e, List.length_flatten, List.map_replicate, List.sum_replicate_nat, ← hl, Nat.mul_comm]
      exact Nat.le_trans hm (by decide)

/-! ### made data: an expression's reading gives data, and only adds to the heap -/
def Mk1 (K : PySem.W.Frag) (te : TE) (σ : L2.St) (H0 : Hp) (d : PyData) : Prop := ∀ H, Same H0 H → ∀ Q : VK, (∀ v H', Same H H' → Th K H' v d → Q v H') → te σ H Q
def MkA (K : PySem.W.Frag) (ta : TA) (σ : L2.St) (H0 : Hp) (ds : List PyData) : Prop := ∀ H, Same H0 H → ∀ Q : List V → Hp → Prop, (∀ vs H', Same H H' → ThAll K H' vs ds → Q vs H') → ta σ H Q
/-- .. gives a list that stands by itself -/
def MkL (K : PySem.W.Frag) (te : TE) (σ : L2.St) (H0 : Hp) (ds : List PyData) : Prop := ∀ H, Same H0 H → ∀ Q : VK, (∀ p xs H', Same H H' → H' p = some (.lst xs) → ThAll K H' xs ds → Q (.ref p) H') → te σ H Q
section
variable {K : PySem.W.Frag} {σ : L2.St} {H0 : Hp} {te tf : TE} {ta : TA} {d e : PyData} {ds es : List PyData}
theorem thAll_same {H H' : Hp} (s : Same H H') : ∀ {vs : List V} {ds : List PyData}, ThAll K H vs ds → ThAll K H' vs ds
  | _, _, .nil => .nil
  | _, _, .cons h t => .cons (th_same s h) (thAll_same s t)
theorem thAll_app {H : Hp} : ∀ {vs ws : List V} {ds es : List PyData}, ThAll K H vs ds → ThAll K H ws es → ThAll K H (vs ++ ws) (ds ++ es)
  | _, _, _, _, .nil, h => h
  | _, _, _, _, .cons h t, g => .cons h (thAll_app t g)
theorem mk_var {i : Nat} {v : V} (h : σ[i]? = some (some v)) (t : Th K H0 v d) : Mk1 K (tVar i) σ H0 d := fun H s Q q => ⟨v, h, q v H (Same.refl H) (th_same s t)⟩
theorem mk_non : Mk1 K (tC .non) σ H0 .none := fun H _ Q q => q _ H (Same.refl H) .non
theorem mk_int {i : Int} : Mk1 K (tC (.int i)) σ H0 (.int i) := fun H _ Q q => q _ H (Same.refl H) (.int i)
theorem mk_bl {b : Bool} : Mk1 K (tC (.bl b)) σ H0 (.bool b) := fun H _ Q q => q _ H (Same.refl H) (.bl b)
theorem mk_str {x : Str} : Mk1 K (tC (.str x)) σ H0 (.str x) := fun H _ Q q => q _ H (Same.refl H) (.str x)
theorem mk_nil : MkA K tNil σ H0 [] := fun H _ Q q => q _ H (Same.refl H) .nil
theorem mk_cons (h : Mk1 K te σ H0 d) (t : MkA K ta σ H0 ds) : MkA K (tCons te ta) σ H0 (d :: ds) := fun H s Q q =>
  h H s _ fun v H1 s1 h1 => t H1 (s.trans s1) _ fun vs H2 s2 h2 => q _ H2 (s1.trans s2) (.cons (th_same s2 h1) h2)
theorem mk_tup (h : MkA K ta σ H0 ds) (hl : ds.length ≤ 1000) : Mk1 K (tTup ta) σ H0 (.tuple ds) := fun H s Q q =>
  h H s _ fun vs H1 s1 h1 => ⟨by rw [thAll_len h1]; exact Nat.le_of_lt (small1000 hl), fun p np => q _ _ (s1.trans (same_upd np)) (.tup (.inl (.inl upd_same)) (thAll_same (same_upd np) h1))⟩
theorem mk_lstL (h : MkA K ta σ H0 ds) (hl : ds.length ≤ 1000) : MkL K (tLst ta) σ H0 ds := fun H s Q q =>
  h H s _ fun vs H1 s1 h1 => ⟨by rw [thAll_len h1]; exact Nat.le_of_lt (small1000 hl), fun p np => q _ _ _ (s1.trans (same_upd np)) upd_same (thAll_same (same_upd np) h1)⟩
theorem MkL.mk (h : MkL K te σ H0 ds) : Mk1 K te σ H0 (.list ds) := fun H s Q q => h H s _ fun p xs H1 s1 e h1 => q _ H1 s1 (.lst (SqL.of e) h1)
theorem mk_lst (h : MkA K ta σ H0 ds) (hl : ds.length ≤ 1000) : Mk1 K (tLst ta) σ H0 (.list ds) := (mk_lstL h hl).mk
theorem mk_varL {i : Nat} {p : Addr} {xs : List V} (h : σ[i]? = some (some (.ref p))) (e : H0 p = some (.lst xs)) (t : ThAll K H0 xs ds) : MkL K (tVar i) σ H0 ds := fun H s Q q => ⟨_, h, q p xs H (Same.refl H) (s _ _ e) (thAll_same s t)⟩
theorem mk_cat (h : MkL K te σ H0 ds) (g : MkL K tf σ H0 es) (hl : ds.length + es.length ≤ 1000) : MkL K (tOp rCat te tf) σ H0 (ds ++ es) := fun H s Q q =>
  h H s _ fun p xs H1 s1 e1 h1 => g H1 (s.trans s1) _ fun r ys H2 s2 e2 h2 => ⟨p, r, xs, ys, rfl, rfl, s2 _ _ e1, e2, by rw [thAll_len h1, thAll_len h2]; exact Nat.le_of_lt (small1000 hl), fun l nl =>
    q l _ _ ((s1.trans s2).trans (same_upd nl)) upd_same (thAll_same (same_upd nl) (thAll_app (thAll_same s2 h1) h2))⟩
theorem mk_dict0 : Mk1 K tDNewK σ H0 (.dict []) := fun H _ Q q p np => q _ _ (same_upd np) (.dct upd_same .nil rfl)
theorem mk_dict1 {x y : Str} {i j : Nat} (hi : σ[i]? = some (some (.str x))) (hj : σ[j]? = some (some (.str y))) : Mk1 K (tDisp [(tVar i, tVar j)]) σ H0 (.dict [(.str x, .str y)]) := fun H _ Q q p np =>
  ⟨_, hi, _, hj, upd_same, [(Sum.inr x, .str y)], rfl, (by show 1 ≤ 15; decide), q _ _ (by rw [upd_upd]; exact same_upd np) (.dct upd_same (.cons (.str y) .nil) rfl)⟩
theorem mk_addstr {i j : Nat} {x y : Str} (hi : σ[i]? = some (some (.str x))) (hj : σ[j]? = some (some (.str y))) (hl : x.length + y.length ≤ 1000) :
    Mk1 K (tOp (fun x y H Q => ∃ i j, x = .str i ∧ y = .str j ∧ i.length + j.length ≤ sizeLine ∧ Q (.str (i ++ j)) H) (tVar i) (tVar j)) σ H0 (.str (x ++ y)) := fun H _ Q q =>
  ⟨_, hi, _, hj, x, y, rfl, rfl, Nat.le_of_lt (small1000 hl), q _ H (Same.refl H) (.str _)⟩
end
end Lk

/-! Siz0 -/
set_option Elab.async false
set_option maxRecDepth 100000
set_option linter.all false
set_option maxHeartbeats 4000000
namespace Lk
open PySem PySem.Spec PyProof.Rows L2
/-- data without dicts: how large, how deep -/
structure Sz (n k : Nat) (d : PyData) : Prop where
  sh : d.showable = true
  lv : d.leavesShort 13 = true
  bk : d.bulk ≤ n
  dp : d.depth ≤ k
  cl : d.canLay0 = true
theorem Sz.mono {n k m j : Nat} {d : PyData} (h : Sz n k d) (h1 : n ≤ m) (h2 : k ≤ j) : Sz m j d := ⟨h.sh, h.lv, Nat.le_trans h.bk h1, Nat.le_trans h.dp h2, h.cl⟩
theorem Sz.str {n : Nat} {x : Str} (hl : x.length ≤ n) (ho : PyData.strOk x = true) : Sz n 0 (.str x) := by
  refine ⟨rfl, ?_, hl, Nat.le_refl _, ho⟩
  unfold PyData.strOk at ho
  rw [Array.all_eq_true'] at ho
  show (x.cps.toList.all fun c => decide (c < 16 ^ 8)) = true
  rw [List.all_eq_true]
  intro c hc
  have := of_decide_eq_true (ho c (by simpa using hc))
  exact decide_eq_true (Nat.lt_trans this (by decide))
theorem Sz.none {n k : Nat} : Sz n k .none := ⟨rfl, rfl, Nat.zero_le _, Nat.zero_le _, rfl⟩
theorem Sz.bool {n k : Nat} (b : Bool) : Sz n k (.bool b) := ⟨rfl, rfl, Nat.zero_le _, Nat.zero_le _, rfl⟩
theorem Sz.zero {n k : Nat} : Sz n k (.int 0) := ⟨rfl, by decide +kernel, Nat.zero_le _, Nat.zero_le _, rfl⟩
theorem sz_all {n k : Nat} : ∀ {ds : List PyData}, (∀ d ∈ ds, Sz n k d) → PyData.showableAll ds = true ∧ PyData.leavesShortAll 13 ds = true ∧ PyData.bulkAll ds ≤ ds.length * (n + 1) ∧ PyData.depthAll ds ≤ k ∧ PyData.canLayAll0 ds = true
  | [], _ => ⟨rfl, rfl, Nat.zero_le _, Nat.zero_le _, rfl⟩
  | d :: r, h => by
    obtain ⟨h1, h2, h3, h4, h5⟩ := sz_all (ds := r) fun e he => h e (List.mem_cons_of_mem _ he)
    have hd := h d List.mem_cons_self
    refine ⟨?_, ?_, ?_, ?_, ?_⟩
    · rw [PyData.showableAll, hd.sh, h1]; rfl
    · rw [PyData.leavesShortAll, hd.lv, h2]; rfl
    · have := hd.bk
      rw [PyData.bulkAll, List.length_cons, Nat.succ_mul]
      omega
    · rw [PyData.depthAll]
      exact Nat.max_le.mpr ⟨hd.dp, h4⟩
    · rw [PyData.canLayAll0, hd.cl, h5]; rfl
theorem Sz.tuple {n k m : Nat} {ds : List PyData} (h : ∀ d ∈ ds, Sz n k d) (hm : ds.length * (n + 1) ≤ m) : Sz m (k + 1) (.tuple ds) := by
  obtain ⟨h1, h2, h3, h4, h5⟩ := sz_all h
  exact ⟨by simpa only [PyData.showable] using h1, by simpa only [PyData.leavesShort] using h2, by simpa only [PyData.bulk] using Nat.le_trans h3 hm, by simp only [PyData.depth]; omega, by simpa only [PyData.canLay0] using h5⟩
theorem Sz.list {n k m : Nat} {ds : List PyData} (h : ∀ d ∈ ds, Sz n k d) (hm : ds.length * (n + 1) ≤ m) : Sz m (k + 1) (.list ds) := by
  obtain ⟨h1, h2, h3, h4, h5⟩ := sz_all h
  exact ⟨by simpa only [PyData.showable] using h1, by simpa only [PyData.leavesShort] using h2, by simpa only [PyData.bulk] using Nat.le_trans h3 hm, by simp only [PyData.depth]; omega, by simpa only [PyData.canLay0] using h5⟩
/-- what the law's functions ask of a thing -/
structure Okd (d : PyData) : Prop where
  wf : Wf d
  bk : d.bulk ≤ 100000
  os : okS d = true
  sh : isTup d = true → SeqAt.shaped d = true
theorem Sz.okd {n k : Nat} {d : PyData} (h : Sz n k d) (hn : n ≤ 100000) (hk : k ≤ 60) : Okd d := by
  have hb : d.bulk ≤ 100000 := Nat.le_trans h.bk hn
  have hd : d.depth ≤ 60 := Nat.le_trans h.dp hk
  refine ⟨⟨h.sh, h.lv, by omega, hd, .inl (PyData.hasDict_of_canLay d h.cl)⟩, hb, ok_of_lay h.cl, fun _ => ?_⟩
  unfold SeqAt.shaped
  rw [h.cl, decide_eq_true (by omega)]
  rfl
theorem okd_dict0 : Okd (.dict []) := ⟨⟨by decide +kernel, by decide +kernel, by decide +kernel, by decide +kernel, .inr (by decide +kernel)⟩, by decide +kernel, rfl, fun h => nomatch h⟩
theorem okd_dict1 {x y : Str} (hx : Sz 1000 0 (.str x)) (hy : Sz 1000 0 (.str y)) : Okd (.dict [(.str x, .str y)]) := by
  have e1 := hx.lv
  have e2 := hy.lv
  have b1 := hx.bk
  have b2 := hy.bk
  refine ⟨⟨rfl, ?_, ?_, (by show 1 + max (max 0 0) 0 ≤ 60; decide), .inr rfl⟩, ?_, rfl, fun h => nomatch h⟩
  · simp [PyData.leavesShort, PyData.leavesShortKv] at e1 e2 ⊢
    exact ⟨e1, e2⟩
  · simp only [PyData.bulk, PyData.bulkKv] at b1 b2 ⊢
    omega
  · simp only [PyData.bulk, PyData.bulkKv] at b1 b2 ⊢
    omega
theorem wf_b3 (a b c : Bool) : Wf (.tuple [.bool a, .bool b, .bool c]) := by
  have h : Sz 1000 1 (.tuple [.bool a, .bool b, .bool c]) := Sz.tuple (n := 0) (k := 0) (fun d hd => by
    simp only [List.mem_cons, List.mem_nil_iff, or_false] at hd
    rcases hd with rfl | rfl | rfl <;> exact Sz.bool _) (by show 3 * 1 ≤ 1000; decide)
  exact (h.okd (by decide) (by decide)).wf
def spLaw (K : PySem.W.Frag) : Sp := fun vs H Q _ => ∃ (a : Addr) (ns : List Int), vs = [.ref a] ∧ SqL K H a (ns.map V.int) ∧ ns.length ≤ 63 ∧ ∀ H', Q (.bl true) H'
/-- a law's def, nothing raised -/
theorem mkCalG0 {P : Program} {w : World} {K : PySem.W.Frag} {mg : Str → Option Value} {base : Heap} {x : String} {st : Stmt} {N ps : List Str} {k : Nat} {sp : Sp} (D : Def1 K mg x st) (S : FnScope N ps (defScope st))
    (hb : ∀ (kV doc pm : Value) (an : Option Addr) (cdv ct : Value) (us : List Value), us.length = ps.length → bindArgs (PySem.W.fnOf x x (defArgs st) (defBody st) (defScope st) .none kV doc pm an cdv ct) ⟨us, []⟩ = pure (ps.zip us))
    (len : ∀ vs H Q E, sp vs H Q E → vs.length = ps.length)
    (body : ∀ (f : Addr) (cdv : Value) (A : Around) (above : List Env) (s : Shared) (H : Hp) (vs : List V) (Q : VK) (E : XK), Room k (A.deeper (envOfC x (defScope st) s.heap.objs.size f cdv)) →
      (A.deeper (envOfC x (defScope st) s.heap.objs.size f cdv)).guards = some [] → sp vs H Q E →
      ∃ t, PSs (cxOf CX0 P w K mg base N x (defScope st) f cdv A above s H E).nox (defBody st) t ∧ t { nx := fun _ H' => Q .non H', rt := Q } (start N vs) H) : CalG P w K mg base CX0 (k + 1) x sp :=
  mkCalG D S hb len fun f cdv A above s H vs Q E hr hg h => by
    obtain ⟨t, ht, q⟩ := body f cdv A above s H vs Q E hr hg h
    exact ⟨t, ht.nox, q⟩
theorem iteF' {b : Bool} {A B : Prop} (hb : b = false) (h : B) : if b = true then A else B := by
  rw [hb]
  exact iteF h
theorem iteT' {b : Bool} {A B : Prop} (hb : b = true) (h : A) : if b = true then A else B := by
  rw [hb]
  exact iteT h
/-! ### stores and loops over made data -/
section
variable {K : PySem.W.Frag} {σ : L2.St} {H : Hp} {te : TE} {g : TG} {t : TS} {D : Ends} {ds : List PyData}
theorem set_mkL (h : MkL K te σ H ds) (q : ∀ p xs H', Same H H' → H' p = some (.lst xs) → ThAll K H' xs ds → g (.ref p) σ H' (t D)) : tSeq (tAsg te g) t D σ H := h H (Same.refl H) _ q
theorem thAll_get : ∀ {xs : List V} {ds : List PyData} {i : Nat} {x : V}, ThAll K H xs ds → xs[i]? = some x → ∃ d, d ∈ ds ∧ Th K H x d
  | _, _, _, _, .nil, h => by simp at h
  | _, _, 0, _, .cons h _, e => by
    simp at e
    subst e
    exact ⟨_, List.mem_cons_self, h⟩
  | _, _, i + 1, x, .cons _ tl, e => by
    obtain ⟨d, m, h⟩ := thAll_get (i := i) (x := x) tl (by simpa using e)
    exact ⟨d, List.mem_cons_of_mem _ m, h⟩
def zrep (k : Nat) (x : Str) : Str := ⟨((List.replicate k (TL.tl x)).flatten).toArray⟩
theorem tl_zrep (k : Nat) (x : Str) : TL.tl (zrep k x) = (List.replicate k (TL.tl x)).flatten := rfl
theorem mk_rep {i k : Nat} {x : Str} (h : σ[i]? = some (some (.str x))) (k1 : 2 ≤ k) (k2 : k ≤ 5000) (hx : x.length ≤ 1000) : Mk1 K (tOp rStrRep (tVar i) (tC (.int (k : Int)))) σ H (.str (zrep k x)) := fun H1 _ Q q =>
  ⟨_, h, x, k, rfl, rfl, k1, k2, hx, fun z e => by
    have : z = zrep k x := TL.ext_tl e
    subst this
    exact q _ H1 (Same.refl H1) (.str _)⟩
theorem ok_cut {z : Str} {lo hi : Option Int} (h : PyData.strOk z = true) : PyData.strOk (cutS z lo hi) = true := by
  refine ok_of_all fun c hc => ?_
  have hc2 : c ∈ TL.tl z := (List.drop_sublist _ _).subset ((List.take_sublist _ _).subset hc)
  unfold PyData.strOk at h
  rw [Array.all_eq_true'] at h
  exact of_decide_eq_true (h c (by simpa using hc2))
theorem ok_sub {z y : Str} (h : PyData.strOk z = true) (hs : ∀ c ∈ TL.tl y, c ∈ TL.tl z) : PyData.strOk y = true := by
  refine ok_of_all fun c hc => ?_
  unfold PyData.strOk at h
  rw [Array.all_eq_true'] at h
  exact of_decide_eq_true (h c (by simpa using hs c hc))
theorem ok_rep {k : Nat} {x : Str} (h : PyData.strOk x = true) : PyData.strOk (zrep k x) = true := ok_sub h fun c hc => by
  rw [tl_zrep] at hc
  obtain ⟨l, hl, hc⟩ := List.mem_flatten.mp hc
  rw [(List.mem_replicate.mp hl).2] at hc
  exact hc
theorem ok_add {x y : Str} (h : PyData.strOk x = true) (g : PyData.strOk y = true) : PyData.strOk (x ++ y) = true := by
  refine ok_of_all fun c hc => ?_
  unfold PyData.strOk at h g
  rw [Array.all_eq_true'] at h g
  rw [TL.tl_append] at hc
  rcases List.mem_append.mp hc with hc | hc
  · exact of_decide_eq_true (h c (by simpa using hc))
  · exact of_decide_eq_true (g c (by simpa using hc))
theorem len_add (x y : Str) : (x ++ y).length = x.length + y.length := strLen_append x y
theorem len_rep (k : Nat) (x : Str) : (zrep k x).length = k * x.length := by
  rw [TL.len_tl, tl_zrep, List.length_flatten, List.map_replicate, List.sum_replicate_nat, TL.len_tl x]
end
theorem nmB_app {u l : List Nat} (hu : u.all upB = true) (hl : l.all loB = true) (ne : u ++ l ≠ []) : nmB (u ++ l) = true := by
  have e : (u ++ l).dropWhile upB = l := by
    have e1 : ∀ u : List Nat, u.all upB = true → (u ++ l).dropWhile upB = l.dropWhile upB := fun u => by
      induction u with
      | nil => exact fun _ => rfl
      | cons c r ih =>
        intro h
        rw [List.all_cons, Bool.and_eq_true] at h
        rw [List.cons_append, List.dropWhile_cons, if_pos h.1]
        exact ih h.2
    rw [e1 u hu]
    cases l with
    | nil => rfl
    | cons c r =>
      rw [List.all_cons, Bool.and_eq_true] at hl
      have : upB c = false := by
        have h1 := hl.1
        simp only [loB, Bool.and_eq_true, decide_eq_true_eq] at h1
        simp only [upB, Bool.and_eq_false_iff, decide_eq_false_iff_not]
        omega
      rw [List.dropWhile_cons, if_neg (by rw [this]; exact Bool.false_ne_true)]
  unfold nmB
  rw [e, hl, Bool.and_true]
  cases q : u ++ l with
  | nil => exact absurd q ne
  | cons c r => rfl
theorem nmB_bad {u : List Nat} {c : Nat} (hu : u.all upB = true) (h1 : upB c = false) (h2 : loB c = false) : nmB (u ++ [c]) = false := by
  have e : (u ++ [c]).dropWhile upB = [c] := by
    induction u with
    | nil => rw [List.nil_append, List.dropWhile_cons, if_neg (by rw [h1]; exact Bool.false_ne_true)]
    | cons d r ih =>
      rw [List.all_cons, Bool.and_eq_true] at hu
      rw [List.cons_append, List.dropWhile_cons, if_pos hu.1]
      exact ih hu.2
  unfold nmB
  rw [e, List.all_cons, h2, Bool.false_and, Bool.and_false]
theorem all_rep {k c : Nat} {x : Str} (p : Nat → Bool) (hx : TL.tl x = [c]) (hc : p c = true) : (TL.tl (zrep k x)).all p = true := by
  rw [tl_zrep, hx, List.all_eq_true]
  intro d hd
  obtain ⟨l, hl, hd⟩ := List.mem_flatten.mp hd
  rw [(List.mem_replicate.mp hl).2] at hd
  rw [List.mem_singleton.mp hd]
  exact hc
/-- for x in e, e a list of made data -/
theorem for_mkL {K K' : PySem.W.Frag} {σ : L2.St} {H : Hp} {te : TE} {g : TG} {tb : TS} {D : Ends} {ds : List PyData} (h : MkL K te σ H ds)
    (q : ∀ (L : Addr) (xs : List V) (H' : Hp), Same H H' → H' L = some (.lst xs) → ThAll K H' xs ds → ∃ Pv : Nat → L2.St → Hp → Prop, Pv 0 σ H' ∧ (∀ i σ H2, Pv i σ H2 → H2 L = some (.lst xs)) ∧
      (∀ (i : Nat) (x : V) (d : PyData) (σ : L2.St) (H2 : Hp), d ∈ ds → Th K H' x d → Pv i σ H2 → g x σ H2 fun σ2 H3 => tb { D with nx := Pv (i + 1), ct := Pv (i + 1), bk := D.nx } σ2 H3) ∧ ∀ σ H2, Pv xs.length σ H2 → D.nx σ H2) :
    tFor (iList K' te) g tb D σ H := h H (Same.refl H) _ fun L xs H' s e t => by
  obtain ⟨Pv, p0, pl, ps, pd⟩ := q L xs H' s e t
  exact ⟨L, rfl, ⟨_, SqL.of e⟩, for_list (K := K') (a := L) (xs := xs) Pv p0 (fun i σ H2 _ p => SqL.of (pl i σ H2 p)) (fun i x σ H2 hx p => by
    obtain ⟨d, hd, ht⟩ := thAll_get t hx
    exact ps i x d σ H2 hd ht p) pd⟩
theorem or_pat {K : PySem.W.Frag} {σ : L2.St} {H : Hp} {i : Nat} {v : V} {d : PyData} {Q : VK} (hv : σ[i]? = some (some v)) (th : Th K H v d) (ok : Okd d) (h : ∀ H', Same H H' → Q (.bl (dName d || dPat d)) H') :
    if dName d = true then Q (.bl true) H else tCall (spLPat K) [] E0 (tCons (tVar i) tNil) σ H Q := by
  cases e : dName d with
  | true =>
    rw [e, Bool.true_or] at h
    exact iteT (h H (Same.refl H))
  | false =>
    rw [e, Bool.false_or] at h
    exact iteF ⟨v, hv, v, d, rfl, th, ok.bk, ok.sh, h⟩
theorem mkFnG {P : Program} {w : World} {K : PySem.W.Frag} {mg : Str → Option Value} {base : Heap} {CX : CXT} {x : String} {st : Stmt} {f : Addr} {fd : FuncData} {N ps : List Str} {k : Nat} {sp : Sp} (F : L2.Fun K x x st f fd) (S : FnScope N ps (defScope st))
    (len : ∀ vs H Q E, sp vs H Q E → vs.length = ps.length)
    (body : ∀ (cdv : Value) (A : Around) (above : List Env) (s : Shared) (H : Hp) (vs : List V) (Q : VK) (E : XK), Room k (A.deeper (envOfC x (defScope st) s.heap.objs.size f cdv)) →
      (A.deeper (envOfC x (defScope st) s.heap.objs.size f cdv)).guards = some [] → sp vs H Q E →
      ∃ t, PSs (cxOf CX P w K mg base N x (defScope st) f cdv A above s H E) (defBody st) t ∧ t { nx := fun _ H' => Q .non H', rt := Q } (start N vs) H) : FnG P w K mg base CX (k + 1) f fd ps sp := by
  obtain ⟨oc, od, kV, doc, pm, an, cdv, ct, sl, rfl, lk, hcd⟩ := F.ex
  exact fnG_of lk hcd S len fun A above s H vs Q E hr hg h => body cdv A above s H vs Q E hr hg h
theorem mkFnG0 {P : Program} {w : World} {K : PySem.W.Frag} {mg : Str → Option Value} {base : Heap} {x : String} {st : Stmt} {f : Addr} {fd : FuncData} {N ps : List Str} {k : Nat} {sp : Sp} (F : L2.Fun K x x st f fd) (S : FnScope N ps (defScope st))
    (len : ∀ vs H Q E, sp vs H Q E → vs.length = ps.length)
    (body : ∀ (cdv : Value) (A : Around) (above : List Env) (s : Shared) (H : Hp) (vs : List V) (Q : VK) (E : XK), Room k (A.deeper (envOfC x (defScope st) s.heap.objs.size f cdv)) →
      (A.deeper (envOfC x (defScope st) s.heap.objs.size f cdv)).guards = some [] → sp vs H Q E →
      ∃ t, PSs (cxOf CX0 P w K mg base N x (defScope st) f cdv A above s H E).nox (defBody st) t ∧ t { nx := fun _ H' => Q .non H', rt := Q } (start N vs) H) : FnG P w K mg base CX0 (k + 1) f fd ps sp :=
  mkFnG F S len fun cdv A above s H vs Q E hr hg h => by
    obtain ⟨t, ht, q⟩ := body cdv A above s H vs Q E hr hg h
    exact ⟨t, ht.nox, q⟩
end Lk

/-! Try0 -/
set_option Elab.async false
set_option maxRecDepth 100000
set_option linter.all false
set_option maxHeartbeats 4000000
namespace Lk
open PySem PySem.Spec PyProof.Rows L2

abbrev Suite := Addr → Value → Option Addr → TS
/-- the ends of a suite «as n»: behind it n's slot is empty -/
def endsAs (i : Nat) (D : Ends) : Ends := { nx := fun σ H => D.nx (σ.set i none) H, rt := D.rt, bk := fun σ H => D.bk (σ.set i none) H, ct := fun σ H => D.ct (σ.set i none) H }
/-- several clauses «except C as n», the same n: one of them takes what the body raises -/
def wAsL (K : PySem.W.Frag) (i : Nat) (D : Ends) : List (Value × Suite) → WX
  | [] => fun _ _ _ _ => False
  | (c, ts) :: more => fun cls d σ H => ∃ b, PySem.W.exmOne K cls c = some b ∧ (b = true → ∀ a, H a = none → ts a cls d (endsAs i D) (σ.set i (some (.ref a))) H) ∧ (b = false → wAsL K i D more cls d σ H)
inductive HdAs (X : Cx) (n : Str) : List ExceptHandler → List (Value × Suite) → Prop
  | none : HdAs X n [] []
  | more {x : Str} {c : Value} {ts : Suite} {st : Stmt} {sts : List Stmt} {p1 p2 : Pos} {hds : List ExceptHandler} {l : List (Value × Suite)} (names : Names X x c)
      (run : ∀ (a : Addr) (oe : Obj) (cls : Value) (d : Option Addr) (pn : List (Addr × Obj)), Zc cls d oe → (∃ vs, oe.data = .fields vs) → PSs (X.suite a ((a, oe) :: pn)) (st :: sts) (ts a cls d)) (rest : HdAs X n hds l) :
      HdAs X n (.ExceptHandler (some (.Name x p1)) (some n) (st :: sts) p2 :: hds) ((c, ts) :: l)
section
variable {X : Cx} {n : Str} {i : Nat} {body : List Stmt} {hd : ExceptHandler} {hds : List ExceptHandler} {l : List (Value × Suite)} {pos : Pos} {tb : WX → TS}
theorem ps_try_asL (top : X.stack = X.env :: X.outer) (fr : X.env.frame = some X.env.locals) (nd : X.N.Nodup) (slot : X.N[i]? = some n) (loc : X.env.kindOf n = some .local)
    (bodyOk : ∀ (W : WX) (pn : List (Addr × Obj)) (xe : Value → Shared → Prop), Takes (X.tr pn xe) W → PassesOwn (model X.prog X.w) X.A X.env xe → PSs (X.tr pn xe) body (tb W)) (clauses : HdAs X n (hd :: hds) l) :
    PS X (.Try body (hd :: hds) [] [] pos) (fun D σ H => tb (wAsL X.K i D l) D σ H) := by
  constructor
  intro pins s σ H D I rd
  have xok := I.ok
  have frames : X.A.frames = some (X.env :: X.outer) := xok.frames.trans (congrArg some top)
  apply wpAny_Try_except
  let caught : Value → Shared → Prop := fun e s₁ => wpAny (model X.prog X.w) X.A (noteFrame e X.env) (fun _ s₂ => wpAny (model X.prog X.w) X.A (setFlight e none) (fun _ s₃ => wpAny (model X.prog X.w) X.A (handleBy e X.env (hd :: hds)) (SP X pins D) X.xe s₃) X.xe s₂) X.xe s₁
  have takes : Takes (X.tr (X.pn ++ pins) caught) (wAsL X.K i D l) := by
    rintro u s1 ⟨a, B, sI, pins1, σ1, H1, cls, d, rfl, J0, nb, up, sky, fresh, os, ag, want⟩
    have J : Inv X pins σ1 H1 sI := J0.ofTry xok
    rw [show (X.tr (X.pn ++ pins) caught).stack = X.stack from rfl, top] at sky
    show wpAny (model X.prog X.w) X.A (noteFrame (.ref a) X.env) _ _ _
    apply Sky.land Zc.steady frames fr sky
    intro h2 fly up2
    have J2 : Inv X pins σ1 H1 { s1 with heap := h2 } := J.landed nb fly.1 (up.trans up2) os ag
    obtain ⟨o2, vs2, at2, z2, dat2⟩ := fly.there
    have apart : a ∉ frs (X.env :: X.outer) := by
      intro hm
      obtain ⟨_, o', e', hnf⟩ := fly.2.2.1.mem hm
      rw [at2] at e'
      cases e'
      exact hnf _ dat2
    have nL : a ≠ X.env.locals := by
      rintro rfl
      exact apart (List.mem_filterMap.mpr ⟨X.env, List.mem_cons_self, fr⟩)
    have nF : a ∉ X.fs := by
      intro hm
      obtain ⟨e, he, q⟩ := List.mem_filterMap.mp hm
      exact apart (List.mem_filterMap.mpr ⟨e, List.mem_cons_of_mem _ he, q⟩)
    have S2 := J2.suite at2 dat2 fresh nL nF
    have each : ∀ {hs : List ExceptHandler} {ls : List (Value × Suite)}, HdAs X n hs ls → wAsL X.K i D ls cls d σ1 H1 → wpAny (model X.prog X.w) X.A (handleBy (.ref a) X.env hs) (SP X pins D) X.xe { s1 with heap := h2 } := by
      intro hs ls hk
      induction hk with
      | none => exact fun w => w.elim
      | @more x c ts st sts p1 p2 hds2 l2 names run rest ih =>
        rintro ⟨b, matches_, yes, no⟩
        apply wpAny_handleBy_cons (codeAny_handlers_test ?_) (by intro q; cases q)
        have looksT : PySem.W.Looks (model X.prog X.w) h2 (typeOf (.ref a)) cls := fun A Q E s k q => wpAny_typeOf_ref (k _ _ at2) (by rw [z2.1]; exact q)
        have looksM := PySem.W.exm_one (M := model X.prog X.w) J2.kIn looksT matches_
        have named : ∀ {Q : Value → Shared → Prop} {E : Value → Shared → Prop}, Q c { s1 with heap := h2 } → wpAny (model X.prog X.w) (X.A.mark (some (.ref a))) (eval (.Name x p1) X.env) Q E { s1 with heap := h2 } := by
          intro Q E q
          rcases names with ⟨hg, hdbg, hm | ⟨hm, hv, hnn⟩⟩
          · exact ld_glob (X := X.suite a ((a, o2) :: (X.pn ++ pins))) S2 hg hm q hdbg
          · exact ld_blt (X := X.suite a ((a, o2) :: (X.pn ++ pins))) S2 hg hm hv q hnn hdbg
        apply named
        apply looksM.here
        match b, yes, no with
        | false, _, no => exact ih (no rfl)
        | true, yes, _ =>
          apply codeAny_handlers_suite_as
          apply HandSPX.lands_againZ fly
          intro h3 fly3 up3
          have J3 : Inv X pins σ1 H1 { s1 with heap := h3 } := J.landed nb fly3.1 ((up.trans up2).trans up3) os ag
          obtain ⟨o3, vs3, at3, z3, dat3⟩ := fly3.there
          have S3 := J3.suite at3 dat3 fresh nL nF
          apply store_ok (X := X.suite a ((a, o3) :: (X.pn ++ pins))) (v := .ref a) S3 nd slot (.inl loc) rfl (fun s4 S4 => ?_) (.inr loc)
          apply wpAny_mono ((run a o3 cls d (X.pn ++ pins) z3 ⟨_, dat3⟩).run [] s4 _ H1 _ S4 (yes rfl a fresh)) ?_ (fun _ _ z => False.elim z)
          intro fl s5 out
          have close : ∀ {σ6 : L2.St} {H6 : Hp} {Q : Shared → Prop}, Inv (X.suite a ((a, o3) :: (X.pn ++ pins))) [] σ6 H6 s5 → (∀ s7, Inv X pins (σ6.set i Option.none) H6 s7 → Q s7) →
              wpAny (model X.prog X.w) X.A (do bindName X.env n .none; unbindBehindTheSuite X.env n p2) (fun _ s7 => Q s7) X.xe s5 := fun S6 hq => gone_ok (S6.unsuite xok) nd slot loc hq
          match fl, out with
          | .next, ⟨_, _, S6, q6⟩ => exact close S6 fun _ J7 => ⟨_, _, J7, q6⟩
          | .brk, ⟨_, _, S6, q6⟩ => exact close S6 fun _ J7 => ⟨_, _, J7, q6⟩
          | .cont, ⟨_, _, S6, q6⟩ => exact close S6 fun _ J7 => ⟨_, _, J7, q6⟩
          | .ret _, ⟨_, _, _, S6, r6, q6⟩ => exact close S6 fun _ J7 => ⟨_, _, _, J7, r6, q6⟩
    exact each clauses want
  apply wpAny_mono ((bodyOk _ _ caught takes PassesOwn.looking).run [] s σ H D (I.toTry _) rd) ?_ (fun _ _ he => he)
  intro fl s1 out
  match fl, out with
  | .next, ⟨_, _, J, q⟩ => exact wpAny_execs_nil ⟨_, _, J.ofTry xok, q⟩
  | .brk, ⟨_, _, J, q⟩ => exact ⟨_, _, J.ofTry xok, q⟩
  | .cont, ⟨_, _, J, q⟩ => exact ⟨_, _, J.ofTry xok, q⟩
  | .ret _, ⟨_, _, _, J, r, q⟩ => exact ⟨_, _, _, J.ofTry xok, r, q⟩
end
end Lk

/-! Ne0 -/
set_option Elab.async false
set_option maxRecDepth 100000
set_option linter.all false
set_option maxHeartbeats 4000000
namespace PySem
open PySem.SeqAt
section
variable {prog : Program} {w : World} {A : Around} {E : Value → Shared → Prop} {s : Shared}
theorem lk_dict_ne_str (l : Addr) (es : Array DictEntry) (n : Nat) (dd : Option Addr) (sl : Array (Option Value)) (b : Str) (u : Tok) :
    Meets (Builtin.«dict.__ne__» ⟨[.ref l, .str b u], []⟩) (fun _ R s => s.heap.get? l = some { cls := .type "dict", dict := dd, data := .dict es n, slots := sl } ∧ R (.ok (.ret .notImplemented)) s) := by
  refine .of_wp ?_
  rintro prog w A R ⟨hp, g, d, tk, os⟩ ⟨there, h⟩
  have noSub := F.sub_str_dict
  wp_walk using wpAny_loadPart' there, wpAny_load there
  exact ⟨_, rfl, h⟩
theorem lk_str_ne_dict (l : Addr) (es : Array DictEntry) (n : Nat) (dd : Option Addr) (sl : Array (Option Value)) (b : Str) (u : Tok) :
    Meets (Builtin.«str.__ne__» ⟨[.str b u, .ref l], []⟩) (fun _ R s => s.heap.get? l = some { cls := .type "dict", dict := dd, data := .dict es n, slots := sl } ∧ R (.ok (.ret .notImplemented)) s) := by
  refine .of_wp ?_
  rintro prog w A R ⟨hp, g, d, tk, os⟩ ⟨there, h⟩
  wp_walk using wpAny_loadPart' there, wpAny_load there
  exact ⟨_, rfl, h⟩
theorem lk_rc_dict_str {l : Addr} {o : Obj} {es : Array DictEntry} {n : Nat} (b : Str) (u : Tok) (ho : s.heap.get? l = some o) (hc : o.cls = .type "dict") (hd : o.data = .dict es n) (hu : A.units < cLine) {Q : Value → Shared → Prop} (h : Q (.bool true) s) :
    wpAny (model prog w) A (richCompare .NotEq (.ref l) (.str b u)) Q E s := by
  obtain ⟨cls, dd, data, sl⟩ := o
  simp only at hc hd
  subst hc hd
  refine rc_ne_decline_or (a := .ref l) (b := .str b u) (s := s) (k := false) (show s.TypeIs (.ref l) "dict" from ⟨_, ho, rfl⟩) (typeIs_str s b u) (by decide) F.sub_str_dict F.slot_dict_ne F.slot_str_ne_refl ?_ ?_ ?_ ?_ ?_
  · exact fun _ hq => call_meets F.slot_dict_ne ⟨_, ho, rfl⟩ F.entry_dict_ne (F.args_dict_ne_2 _ _) (lk_dict_ne_str l es n dd sl b u) ⟨ho, hq⟩
  · exact fun _ hq => call_meets F.slot_str_ne_refl (typeIs_str s b u) F.entry_str_ne (F.args_str_ne_2 _ _) (lk_str_ne_dict l es n dd sl b u) ⟨ho, hq⟩
  · exact fun _ hq => wpAny_of_eq (rfl : isSame (.ref l) (.str b u) = pure false) hq
  · exact .inr hu
  · exact h
end
end PySem
namespace Lk
open PySem PySem.Spec PyProof.Rows L2
/-- thing != '', thing of any form -/
def rNeE (K : PySem.W.Frag) : R2 := fun x y H Q => ∃ d, y = .str "" ∧ Th K H x d ∧ (d.hasDict = true → isDct d = true) ∧ (d.hasDict = false → SeqAt.shaped d = true) ∧ Q (.bl (!isE d)) H
theorem op_neE {X : Cx} (hu : X.A.units + 64 < cLine) : OpR X (compareOp .NotEq) (rNeE X.K) := by
  intro pins s σ H x y v u Q I rx ry h
  obtain ⟨d, rfl, ht, hd, hs, q⟩ := h
  cases e : d.hasDict with
  | false =>
    have sh := hs e
    refine op_neD hu pins s σ H x (.str "") v u Q I rx ry ⟨d, .str "", th_dp ht (SeqAt.canLay_of_shaped sh), .str _, sh, by decide +kernel, ?_⟩
    rw [eqv_empty]
    exact q
  | true =>
    have hh := hd e
    cases ht with
    | dct ha _ _ =>
      obtain ⟨t, rfl⟩ := ry
      cases rx
      obtain ⟨_, _, vs, kv, o, es, ep, ho, ex, hda, _⟩ := (show ObjOk X.prog X.w H s.heap _ (.dK _) from I.hok _ _ ha)
      exact PySem.lk_rc_dict_str _ _ ho ex.1 hda (by omega) ⟨.bl true, H, I, rfl, q⟩
    | _ => cases hh
end Lk

/-! Xr0 -/
set_option Elab.async false
set_option maxRecDepth 100000
set_option linter.all false
set_option maxHeartbeats 4000000
namespace Lk
open PySem PySem.Spec PyProof.Rows L2
/-- an own class of errors, under ValueError -/
structure Err (K : PySem.W.Frag) (mg : Str → Option Value) (x : String) (C : Addr) : Prop where
  gC : mg x = some (.ref C)
  xC : PySem.W.excIn K C [.type "ValueError", .type "Exception", .type "BaseException", .type "object"] "ValueError.__new__" = true
  kC : PySem.W.keepIn K (.ref C) = true
  bC : PySem.W.subIn K (.ref C) (.type "BaseException") = some true
  tC : PySem.W.typeIn K (.ref C) = some (.type "type")
/-- an error of the class at S, a clause that names the class at T -/
theorem exm_of {K : PySem.W.Frag} {S T : Addr} {b : Bool} (h1 : PySem.W.subIn K (.ref T) (.type "BaseException") = some true) (h2 : PySem.W.isClsIn K T = true) (h3 : PySem.W.typeIn K (.ref T) = some (.type "type")) (h4 : PySem.W.subIn K (.ref S) (.ref T) = some b) :
    PySem.W.exmOne K (.ref S) (.ref T) = some b := by
  have e1 : (PySem.W.subIn K (.ref T) (.type "BaseException") == some true) = true := by rw [h1] <;> rfl
  have e2 : ((PySem.W.clsIn K T).isSome && PySem.W.typeIn K (.ref T) == some (.type "type")) = true := by
    have h2' : (PySem.W.clsIn K T).isSome = true := h2
    rw [h2', h3] <;> rfl
  show (if (PySem.W.subIn K (.ref T) (.type "BaseException") == some true) = true then (if ((PySem.W.clsIn K T).isSome && PySem.W.typeIn K (.ref T) == some (.type "type")) = true then PySem.W.subIn K (.ref S) (.ref T) else none) else none) = some b
  rw [if_pos e1, if_pos e2]
  exact h4
section
variable {X : Cx} {C : Addr} {W : WX} {x : String}
/-- raise C('m') -/
theorem ps_err (R : Err X.K X.mg x C) (calm : X.calm = true) (tk : Takes X W) {m : Str} {j : Nat} {p p2 p3 pos : Pos} (hg : Gl X x := by rfl) (hdb : ((x : Str) == ("__debug__" : Str)) = false := by decide) :
    PS X (.Raise (some (.Call (.Name x p) [.Constant (.str m) j p2] [] p3)) none pos) (fun _ σ H => W (.ref C) none σ H) :=
  ps_raise calm tk (pmk_own PySem.F.excBase_ValueError R.xC R.gC R.kC (raises_own R.bC R.tC) hg hdb)
end
/-- a def that may raise, called by its name -/
structure CalX (P : Program) (w : World) (K : PySem.W.Frag) (mg : Str → Option Value) (base : Heap) (k : Nat) (x : String) (sp : Sp) : Prop where
  ex : ∃ (f : Addr) (fd : FuncData) (ps : List Str), FnOk P w K mg base (L2.CX P w) k f fd ps sp ∧ mg x = some (.ref f) ∧ PySem.W.keepIn K (.ref f) = true ∧ Binds K fd ps []
section
variable {P : Program} {w : World} {K : PySem.W.Frag} {mg : Str → Option Value} {base : Heap}
theorem mkCalX {x : String} {st : Stmt} {N ps : List Str} {k : Nat} {sp : Sp} (D : Def1 K mg x st) (S : FnScope N ps (defScope st))
    (hb : ∀ (kV doc pm : Value) (an : Option Addr) (cdv ct : Value) (us : List Value), us.length = ps.length → bindArgs (PySem.W.fnOf x x (defArgs st) (defBody st) (defScope st) .none kV doc pm an cdv ct) ⟨us, []⟩ = pure (ps.zip us))
    (len : ∀ vs H Q E, sp vs H Q E → vs.length = ps.length)
    (hbody : ∀ (f : Addr) (cdv : Value) (A : Around) (outer : List Env) (s : Shared) (H : Hp) (vs : List V) (Q : VK) (E : XK), Room k (A.deeper (envOfC x (defScope st) s.heap.objs.size f cdv)) → sp vs H Q E →
      ∃ t, PSs (cxOf (L2.CX P w) P w K mg base N x (defScope st) f cdv A outer s H E) (defBody st) t ∧ t { nx := fun _ H' => Q .non H', rt := Q } (start N vs) H) : CalX P w K mg base (k + 1) x sp := by
  obtain ⟨f, fd, F, m⟩ := D.ex
  exact ⟨f, fd, ps, F.okX S len fun cdv A outer s H vs Q E hr h => hbody f cdv A outer s H vs Q E hr h, m, F.kp, F.binds hb⟩
end
section
variable {X : Cx} {k j : Nat} {x : String} {sp : Sp} {p pos : Pos} {e : Expr} {es : List Expr} {t : TA}
/-- called in a def that lets its errors out -/
theorem pe_calX {E : XK} (c : CalX X.prog X.w X.K X.mg X.base k x sp) (hr : Room j X.A) (hk : k ≤ j) (tk : Takes X (fun cls d _ H => E cls d H)) (ha : PA X (e :: es) t) (hg : Gl X x := by rfl)
    (hdb : ((x : Str) == ("__debug__" : Str)) = false := by decide) (he : starEach (e :: es) X.env = (false, eval e X.env) :: starEach es X.env := by rfl) (hpl : (backTo pos (starEach es X.env)).any (·.1) = false := by rfl) :
    PE X (.Call (.Name x p) (e :: es) [] pos) (tCall sp [] E t) := by
  obtain ⟨f, fd, ps, F, m, kp, b⟩ := c.ex
  exact pe_call F (hr.mono hk) hg m kp b .nil (passes_call tk fun _ _ _ _ h => h) ha hdb he hpl
/-- called in a try's body -/
theorem pe_calT {W : WX} (c : CalX X.prog X.w X.K X.mg X.base k x sp) (hr : Room j X.A) (hk : k ≤ j) (tk : Takes X W) (ha : PA X (e :: es) t) (hg : Gl X x := by rfl)
    (hdb : ((x : Str) == ("__debug__" : Str)) = false := by decide) (he : starEach (e :: es) X.env = (false, eval e X.env) :: starEach es X.env := by rfl) (hpl : (backTo pos (starEach es X.env)).any (·.1) = false := by rfl) :
    PE X (.Call (.Name x p) (e :: es) [] pos) (tCallS sp (WE W) t) := by
  obtain ⟨f, fd, ps, F, m, kp, b⟩ := c.ex
  exact pe_callS F (hr.mono hk) hg m kp b (fun σ => passAt tk σ) ha hdb he hpl
/-- a def that asks for no guard on the stack -/
theorem pe_calG (c : CalG X.prog X.w X.K X.mg X.base CX0 k x sp) (hr : Room j X.A) (hk : k ≤ j) (gd : X.A.guards = some []) (ha : PA X (e :: es) t) (hg : Gl X x := by rfl)
    (hdb : ((x : Str) == ("__debug__" : Str)) = false := by decide) (he : starEach (e :: es) X.env = (false, eval e X.env) :: starEach es X.env := by rfl) (hpl : (backTo pos (starEach es X.env)).any (·.1) = false := by rfl) :
    PE X (.Call (.Name x p) (e :: es) [] pos) (tCall sp [] E0 t) := by
  obtain ⟨f, fd, ps, F, m, kp, b⟩ := c.ex
  refine ⟨fun pins s σ H Q I h => ?_⟩
  refine wpAny_Call_Name_kw (ld_glob I hg m ?_ hdb)
  refine PySem.W.callWith_K (h₀ := X.base) I.ok.mod.kin kp (thn (ha.run pos pins s σ H _ I h) fun us s1 ⟨vs, H1, I1, r, q⟩ => ⟨I1.kIn, ?_⟩) he hpl
  replace q : sp (vs ++ []) H1 Q E0 := q
  rw [List.append_nil] at q
  have hl : us.length = ps.length := by rw [← r.length]; exact F.len _ _ _ _ q
  have b2 := b s1 us I1.kIn (by rw [List.append_nil]; exact hl)
  rw [List.append_nil] at b2
  refine wpAny_call (codeAny_mono (F.go X.A X.stack s1 H1 ⟨us, []⟩ us vs Q E0 (hr.mono hk) gd I1.env0 b2 r q) fun r' s' hq => ?_)
  cases r' with
  | error e' => exact pass0 pins σ H1 s1 e' s' I1 hq
  | ok fl =>
    cases fl with
    | ret u => exact I1.after hq
    | next => exact False.elim hq
    | brk => exact False.elim hq
    | cont => exact False.elim hq
end
/-! ### data stands when the pot changes -/
def potLike : List PyData → Bool
  | [_, .int _, .int _, .int _] => true
  | _ => false
mutual
def noPot : PyData → Bool
  | .none | .bool _ | .int _ | .str _ => true
  | .list xs => !potLike xs && noPotAll xs
  | .tuple xs => noPotAll xs
  | .dict kvs => noPotKv kvs
def noPotAll : List PyData → Bool
  | [] => true
  | x :: xs => noPot x && noPotAll xs
def noPotKv : List (PyData × PyData) → Bool
  | [] => true
  | (_, v) :: r => noPot v && noPotKv r
end
theorem noPotKv_map : ∀ ds : List (PyData × PyData), noPotAll (ds.map (·.2)) = noPotKv ds
  | [] => rfl
  | (k, v) :: r => by
    show (noPot v && noPotAll (r.map (·.2))) = (noPot v && noPotKv r)
    rw [noPotKv_map r]
theorem potLike_of {K : PySem.W.Frag} {H : Hp} {x : V} {i a b : Int} : ∀ {ds : List PyData}, ThAll K H [x, .int i, .int a, .int b] ds → potLike ds = true
  | _, .cons _ (.cons (.int _) (.cons (.int _) (.cons (.int _) .nil))) => rfl
theorem th_ext {K : PySem.W.Frag} {p c : Addr} {H H' : Hp} (hP : PotAt p c H) (e : Ext p c H H') {v : V} {d : PyData} (h : Th K H v d) : noPot d = true → Th K H' v d := by
  obtain ⟨_, ⟨i, a, b, hp⟩, _⟩ := hP
  refine Th.rec (motive_1 := fun v d _ => noPot d = true → Th K H' v d) (motive_2 := fun vs ds _ => noPotAll ds = true → ThAll K H' vs ds) ?_ ?_ ?_ ?_ ?_ ?_ ?_ ?_ ?_ h
  · exact fun _ => .non
  · exact fun b _ => .bl b
  · exact fun i _ => .int i
  · exact fun x _ => .str x
  · intro q xs ds hs ha ih n
    have n2 : potLike ds = false ∧ noPotAll ds = true := by simpa only [noPot, Bool.and_eq_true, Bool.not_eq_true'] using n
    by_cases z : q = p
    · rcases hs with (hs | ⟨o, hs⟩) | hs
      · rw [z, hp] at hs
        cases hs
        rw [potLike_of ha] at n2
        cases n2.1
      · rw [z, hp] at hs
        cases hs
      · exact .lst (.inr hs) (ih n2.2)
    · exact .lst (e.seq z hs) (ih n2.2)
  · intro q xs ds hs ha ih n
    have n2 : noPotAll ds = true := by simpa only [noPot] using n
    by_cases z : q = p
    · rcases hs with (hs | ⟨o, hs⟩) | hs
      · rw [z, hp] at hs
        cases hs
      · rw [z, hp] at hs
        cases hs
      · exact .tup (.inr hs) (ih n2)
    · exact .tup (e.seqT z hs) (ih n2)
  · intro q kvs ds hs _ ek ih n
    have n2 : noPotAll (ds.map (·.2)) = true := by
      rw [noPotKv_map]
      simpa only [noPot] using n
    by_cases z : q = p
    · rw [z, hp] at hs
      cases hs
    · exact .dct (e.get hs z) (ih n2) ek
  · exact fun _ => .nil
  · intro v vs d ds _ _ i1 i2 n
    have n2 : noPot d = true ∧ noPotAll ds = true := by simpa only [noPotAll, Bool.and_eq_true] using n
    exact .cons (i1 n2.1) (i2 n2.2)
theorem thAll_ext {K : PySem.W.Frag} {p c : Addr} {H H' : Hp} (hP : PotAt p c H) (e : Ext p c H H') : ∀ {vs : List V} {ds : List PyData}, ThAll K H vs ds → noPotAll ds = true → ThAll K H' vs ds
  | _, _, .nil, _ => .nil
  | _ :: _, d :: ds, .cons h t, n => by
    have n2 : noPot d = true ∧ noPotAll ds = true := by simpa only [noPotAll, Bool.and_eq_true] using n
    exact .cons (th_ext hP e h n2.1) (thAll_ext hP e t n2.2)
end Lk

/-! Clr0 -/
set_option Elab.async false
set_option maxRecDepth 100000
set_option linter.all false
set_option maxHeartbeats 4000000
namespace Lk
open PySem PySem.Spec PyProof.Rows L2
structure Wf0 (d : PyData) : Prop where
  sh : d.showable = true
  lv : d.leavesShort 13 = true
  bk : d.bulk ≤ 1000000
  dp : d.depth ≤ 60
theorem Wf.wf0 {d : PyData} (h : Wf d) : Wf0 d := ⟨h.sh, h.lv, h.bk, h.dp⟩
/-- its lists are not the table of modules -/
inductive Clr (K : PySem.W.Frag) (H : Hp) : V → PyData → Prop
  | flat {v : V} {d : PyData} : Th K H v d → noLst d = true → Clr K H v d
  | lst {p : Addr} {xs : List V} {ds : List PyData} : SqL K H p xs → (p == sysModules) = false → ThAll K H xs ds → noLstAll ds = true → Clr K H (.ref p) (.list ds)
  | two {q : Addr} {v1 v2 : V} {d1 d2 : PyData} : SqT K H q [v1, v2] → Clr K H v1 d1 → Clr K H v2 d2 → Clr K H (.ref q) (.tuple [d1, d2])
section
variable {X : Cx} {pins : List (Addr × Obj)} {σ : L2.St} {H : Hp} {s : Shared}
theorem all_reads (I : Inv X pins σ H s) : ∀ {vs : List V} {ds : List PyData}, ThAll X.K H vs ds → noLstAll ds = true → ∀ us, Vals vs us → ∃ as, ReadsAll s.heap us ds as ∧ sysModules ∉ as
  | _, _, .nil, _, us, r => by
    cases r
    exact ⟨_, ReadsAll.nil, fun h => nomatch h⟩
  | _ :: _, d :: ds, .cons h t, n, us, r => by
    have n2 : noLst d = true ∧ noLstAll ds = true := by simpa [noLstAll] using n
    cases r with
    | cons r1 r2 =>
      obtain ⟨as, q1, m1⟩ := th_reads I h _ r1
      obtain ⟨bs, q2, m2⟩ := all_reads I t n2.2 _ r2
      refine ⟨_, ReadsAll.cons q1 q2, fun hm => ?_⟩
      rcases List.mem_append.mp hm with hm | hm
      · exact m1 n2.1 hm
      · exact m2 hm
theorem clr_reads (I : Inv X pins σ H s) {v : V} {d : PyData} (h : Clr X.K H v d) : ∀ u, RelV v u → ∃ as, Reads s.heap u d as ∧ sysModules ∉ as := by
  induction h with
  | flat h n =>
    intro u r
    obtain ⟨as, q, m⟩ := th_reads I h u r
    exact ⟨as, q, m n⟩
  | lst hs hp ha n =>
    intro u r
    cases r
    obtain ⟨its, rv, ⟨o, k, ho, hc, _, hd⟩, _⟩ := I.list hs
    obtain ⟨as, hr, m⟩ := all_reads I ha n its rv
    refine ⟨_, Reads.list ho hc hd hr, fun hm => ?_⟩
    rcases List.mem_cons.mp hm with hm | hm
    · rw [hm] at hp
      exact absurd hp (by simp)
    · exact m hm
  | two hs _ _ ih1 ih2 =>
    intro u r
    cases r
    obtain ⟨its, rv, ⟨o, ho, hc, n, hd⟩, _⟩ := I.tuple hs
    cases rv with
    | cons r1 rr =>
      cases rr with
      | cons r2 rz =>
        cases rz
        obtain ⟨as, q1, m1⟩ := ih1 _ r1
        obtain ⟨bs, q2, m2⟩ := ih2 _ r2
        refine ⟨_, Reads.tuple ho hc hd (ReadsAll.cons q1 (ReadsAll.cons q2 ReadsAll.nil)), fun hm => ?_⟩
        rcases List.mem_append.mp hm with hm | hm
        · exact m1 hm
        · rcases List.mem_append.mp hm with hm | hm
          · exact m2 hm
          · exact nomatch hm
def rReprC (K : PySem.W.Frag) : List V → Hp → VK → Prop := fun xs H Q => ∃ v d, xs = [v] ∧ Th K H v d ∧ Wf0 d ∧ (d.hasDict = true → Clr K H v d) ∧ Q (.str d.shown) H
theorem call_reprC (hg : X.A.guards = some []) (hu : X.A.units + 64 < cLine) : CallR X (.builtin "repr") (rReprC X.K) := by
  intro pins s σ H xs us Q I r h
  obtain ⟨v, d, rfl, ht, hw, hc, q⟩ := h
  cases r with
  | cons r1 rr =>
    cases rr
    obtain ⟨as, hr, hsm⟩ : ∃ as, Reads s.heap _ d as ∧ (d.hasDict = true → sysModules ∉ as) := by
      cases e : d.hasDict with
      | true =>
        obtain ⟨as, a, b⟩ := clr_reads I (hc e) _ r1
        exact ⟨as, a, fun _ => b⟩
      | false =>
        obtain ⟨as, a, b⟩ := th_reads I ht _ r1
        exact ⟨as, a, fun z => nomatch z⟩
    have hz : d.shown.length ≤ sizeLine := PyData.shown_fits_bulk (B := 13) (by decide) (by decide) hw.lv (Nat.le_trans hw.bk (by decide))
    have fin : ∀ (h' : Heap) (u tk : Nat), (∀ b o, s.heap.get? b = some o → h'.get? b = some o) → EP X pins σ Q (.str d.shown u) { s with heap := h', toks := tk } := fun h' u tk k => ⟨.str d.shown, H, I.kept (t' := tk) k, ⟨u, rfl⟩, q⟩
    have hd := hw.dp
    cases hr with
    | none => exact PySem.P.repr_of_none (fin s.heap _ _ fun _ _ e => e)
    | bool b => exact PySem.P.repr_of_bool (fin s.heap _ _ fun _ _ e => e)
    | int i t => exact PySem.P.repr_of_int (by simpa [PyData.showable] using hw.sh) (fin s.heap _ _ fun _ _ e => e)
    | str x t => exact PySem.P.repr_of_str (fin s.heap _ _ fun _ _ e => e) hz
    | list h1 h2 h3 h4 => exact repr_of_reads' (.list h1 h2 h3 h4) hw.sh hsm hg (by omega) (fun _ _ e => e) (fun h' u tk k => fin h' u tk k) hz
    | tuple h1 h2 h3 h4 => exact repr_of_reads' (.tuple h1 h2 h3 h4) hw.sh hsm hg (by omega) (fun _ _ e => e) (fun h' u tk k => fin h' u tk k) hz
    | dict h1 h2 h3 h4 h5 => exact repr_of_reads' (.dict h1 h2 h3 h4 h5) hw.sh hsm hg (by omega) (fun _ _ e => e) (fun h' u tk k => fin h' u tk k) hz
/-- a list display; the new list is not the table of modules -/
def tLstS (t : TA) : TE := fun σ H Q => t σ H fun xs H1 => xs.length ≤ sizeLine ∧ ∀ p, H1 p = none → (p == sysModules) = false → Q (.ref p) (upd H1 p (.lst xs))
theorem pe_lstS {es : List Expr} {t : TA} {pos : Pos} (h : PA X es t) : PE X (.List es pos) (tLstS t) := by
  refine ⟨fun pins s σ H Q I hq => ?_⟩
  refine wpAny_List_spliced (thn (h.run pos pins s σ H _ I hq) fun us s1 ⟨xs, H1, I1, r, z, q⟩ => ⟨by rw [← r.length]; exact z, ?_⟩)
  have hf : H1 s1.heap.objs.size = none := I1.hok.fresh (Nat.le_refl _)
  have hm : (s1.heap.objs.size == sysModules) = false := beq_eq_false_iff_ne.mpr (Nat.ne_of_gt I1.big)
  refine ⟨.ref s1.heap.objs.size, upd H1 s1.heap.objs.size (.lst xs), I1.laid (t' := s1.toks) (fun b u e => Heap.get?_push_of_some _ e) (Nat.le_refl _) ?_, rfl, q _ hf hm⟩
  exact ⟨z, us, 0, r, Heap.get?_push_size _ rfl⟩
end
theorem Clr.same {K : PySem.W.Frag} {H H' : Hp} (s : Same H H') {v : V} {d : PyData} (h : Clr K H v d) : Clr K H' v d := by
  induction h with
  | flat h n => exact .flat (th_same s h) n
  | lst hs hp ha n => exact .lst (s.seq hs) hp (thAll_same s ha) n
  | two hs _ _ i1 i2 => exact .two (Same.seqT s hs) i1 i2
end Lk

/-! Rev0 -/
set_option Elab.async false
set_option maxRecDepth 100000
set_option linter.all false
set_option maxHeartbeats 4000000
namespace Lk
open PySem PySem.Spec PyProof.Rows L2
/-! ### t[::-1], t a tuple -/
section
variable {P : Program} {w : World} {A : Around} {E : Value → Shared → Prop} {s : Shared}
theorem rev_pick (xs : Array Value) : ((List.range xs.size).filterMap fun (k : Nat) => xs[(((xs.size : Int) - 1) + (k : Int) * (-1)).toNat]?) = xs.toList.reverse := by
  have e : ∀ l : List Nat, (∀ k ∈ l, k < xs.size) → (l.filterMap fun (k : Nat) => xs[(((xs.size : Int) - 1) + (k : Int) * (-1)).toNat]?) = l.filterMap fun k => xs.toList.reverse[k]? := by
    intro l
    induction l with
    | nil => exact fun _ => rfl
    | cons k l ih =>
      intro h
      have hk := h k List.mem_cons_self
      have ek : (((xs.size : Int) - 1) + (k : Int) * (-1)).toNat = xs.size - 1 - k := by omega
      have e1 : xs[(((xs.size : Int) - 1) + (k : Int) * (-1)).toNat]? = xs.toList.reverse[k]? := by
        rw [ek, List.getElem?_reverse (by rw [Array.length_toList]; exact hk), Array.length_toList, Array.getElem?_toList]
      simp only [List.filterMap_cons, e1, ih fun j hj => h j (List.mem_cons_of_mem _ hj)]
  rw [e _ fun k hk => List.mem_range.mp hk]
  have n : xs.toList.reverse.length = xs.size := by rw [List.length_reverse, Array.length_toList]
  rw [← n]
  generalize xs.toList.reverse = l
  clear n e
  induction l with
  | nil => rfl
  | cons b bs ih =>
    rw [List.length_cons, List.range_succ_eq_map, List.filterMap_cons_some (show (b :: bs)[0]? = some b from rfl), List.filterMap_map]
    exact congrArg (b :: ·) ih
theorem item_rev {t sl : Addr} {items : Array Value} {u : Tok} {Q : Value → Shared → Prop} (ht : IsTup s.heap t items) (hs : s.heap.IsSliceOf sl .none .none (.int (-1) u)) (h : Q (.ref s.heap.objs.size) { s with heap := s.heap.push { cls := .type "tuple", data := .seq items.toList.reverse.toArray } })
    (small : items.size ≤ sizeLine) : wpAny (model P w) A (getItem (.ref t) (.ref sl)) Q E s := by
  have fits : sizeOk (.seq items.toList.reverse.toArray) := by
    show items.toList.reverse.toArray.size ≤ sizeLine
    rw [List.size_toArray, List.length_reverse, Array.length_toList]
    exact small
  obtain ⟨os, hos, hcs, hds⟩ := id hs
  have sT : s.TypeIs (.ref sl) "slice" := ⟨os, hos, hcs⟩
  unfold getItem
  try with_reducible refine wpAny_holding ?_
  first | refine wpAny_bind (wpAny_pure ?_) | skip
  refine wpAny_bind (wpAny_sequenceKey (IsTup.typeIs ht) (by decide) ?_)
  refine wpAny_bind (wpAny_callSpecial?_slot (name := Str.ofString "__getitem__") (IsTup.typeIs ht) PyProof.Rows.slot_tuple_getitem (wpAny_call_entry PyProof.Rows.slot_tuple_getitem (IsTup.typeIs ht) entry_tuple_getitem ?_ (args_tuple_getitem _ _)))
  show wpAny _ _ (Builtin.Tuple.tupleItemsOf (.ref t) >>= _) _ _ s
  refine wpAny_bind (tupleItemsOf_ (t := t) ht (wpAny_bind (wpAny_typeOf sT ?_)))
  simp only [show (Value.type "slice" == Value.type "slice") = true by decide, if_true]
  refine wpAny_bind ?_
  unfold Builtin.Slice.sliceApplied Builtin.Slice.sliceFields
  refine wpAny_bind (wpAny_bind (wpAny_field (a := sl) hos hds (x := .none) rfl (wpAny_bind (wpAny_field (a := sl) hos hds (x := .none) rfl (wpAny_bind (wpAny_field (a := sl) hos hds (x := .int (-1) u) rfl (wpAny_pure ?_)))))))
  refine wpAny_bind (slicePart_int ?_)
  show wpAny _ _ (if ((-1 : Int) == 0) = true then _ else _) _ _ s
  rw [if_neg (by decide)]
  refine wpAny_bind (slicePart_none (wpAny_bind (slicePart_none (wpAny_bind (wpAny_pure ?_)))))
  have adj : Builtin.Slice.sliceAdjust none none (-1) (items.size : Int) = ((items.size : Int) - 1, -1) := rfl
  have pl : Builtin.Slice.slicePlaces ((items.size : Int) - 1) (-1) (-1) = items.size := by
    unfold Builtin.Slice.slicePlaces
    simp only [show ¬ ((-1 : Int) > 0) by decide, if_false]
    split
    · simp only [Int.neg_neg, Int.ediv_one]
      omega
    · omega
  show wpAny _ _ (match Builtin.Slice.sliceAdjust none none (-1) (items.size : Int) with | (lo, hi) => pure (lo, (-1 : Int), Builtin.Slice.slicePlaces lo hi (-1))) _ _ s
  rw [adj]
  dsimp only
  rw [pl]
  refine wpAny_pure ?_
  dsimp only
  have no : (((items.size : Int) - 1 == 0) && ((-1 : Int) == 1) && (items.size == items.size)) = false := by
    rw [show ((-1 : Int) == 1) = false by decide, Bool.and_false, Bool.false_and]
  rw [no, rev_pick]
  simp only [Bool.false_eq_true, if_false]
  first
    | exact wpAny_bind (m := Builtin.Tuple.tupleExact _) (wpAny_newObj_type (wpAny_pure ⟨_, rfl, wpAny_pure h⟩) fits)
    | exact wpAny_bind (m := Builtin.Tuple.tupleExact _) (wpAny_newObj_type (wpAny_bind (wpAny_pure (wpAny_pure ⟨_, rfl, wpAny_pure h⟩))) fits)
    | exact wpAny_bind (wpAny_bind (m := Builtin.Tuple.tupleExact _) (wpAny_newObj_type (wpAny_pure (wpAny_pure ⟨_, rfl, wpAny_pure h⟩)) fits))
    | exact wpAny_bind (wpAny_bind (m := Builtin.Tuple.tupleExact _) (wpAny_newObj_type (wpAny_pure ⟨_, rfl, wpAny_pure h⟩) fits))
end
section
variable {X : Cx}
def tRevT (K : PySem.W.Frag) (te : TE) : TE := fun σ H Q => te σ H fun x H1 => ∃ a xs, x = .ref a ∧ SqT K H1 a xs ∧ ∀ p, H1 p = none → Q (.ref p) (upd H1 p (.tup xs.reverse))
theorem vals_rev : ∀ {xs : List V} {us : List Value}, Vals xs us → Vals xs.reverse us.reverse
  | _, _, .nil => .nil
  | _, _, .cons r t => by
    rw [List.reverse_cons, List.reverse_cons]
    exact Vals.append (vals_rev t) (.cons r .nil)
theorem pe_revT {e : Expr} {te : TE} {pos p1 p2 p3 : Pos} (he : PE X e te) : PE X (.Subscript e (.Slice none none (some (.UnaryOp .USub (.Constant (.int 1) 0 p1) p2)) p3) pos) (tRevT X.K te) := by
  refine ⟨fun pins s σ H Q I h => ?_⟩
  refine Subscript_ (thn (he.run pins s σ H _ I h) fun v s1 ⟨x, H1, I1, r1, q1⟩ => ?_)
  obtain ⟨a, xs, rfl, hx, q⟩ := q1
  cases r1
  refine wpAny_Slice ?_
  rw [evalPart_none]
  refine wpAny_pure (wpAny_pure ?_)
  rw [evalPart_some]
  have hm : PE X (.UnaryOp .USub (.Constant (.int 1) 0 p1) p2) _ := pe_un un_neg pe_int
  refine thn (hm.run pins s1 σ H1 (fun y H2 => y = .int (-1) ∧ H2 = H1) I1 ⟨1, rfl, rfl, rfl⟩) fun vk s2 ⟨y, H2, I2, r2, ey, eH⟩ => ?_
  subst ey eH
  obtain ⟨tk, rfl⟩ := r2
  have I4 : Inv X pins σ H2 { s2 with heap := s2.heap.push { cls := .type "slice", data := .fields #[.none, .none, .int (-1) tk] } } := I2.kept (t' := s2.toks) fun b ob z => Heap.get?_push_of_some _ z
  obtain ⟨its, r, ht, hz⟩ := I4.tuple hx
  have len : its.toArray.size = xs.length := by rw [List.size_toArray]; exact r.length.symm
  show wpAny (model X.prog X.w) X.A (subscriptTail e _ (.ref a) (.ref s2.heap.objs.size)) (EP X pins σ Q) X.xe { s2 with heap := s2.heap.push { cls := .type "slice", data := .fields #[.none, .none, .int (-1) tk] } }
  refine tail_any (ops := [.ref a, .ref s2.heap.objs.size]) (IsTup.typeIs ht) PyProof.Rows.slot_tuple_getitem.lookup (item_rev (u := tk) ht (Heap.IsSliceOf.new ..) ?_ (by rw [len]; exact hz)) (by with_unfolding_all rfl)
  refine ⟨.ref (s2.heap.push { cls := .type "slice", data := .fields #[.none, .none, .int (-1) tk] }).objs.size, _, I4.laid (t' := s2.toks) (o := .tup xs.reverse) (fun b ob z => Heap.get?_push_of_some _ z) (Nat.le_refl _) ?_, rfl, q _ (I4.hok.fresh (Nat.le_refl _))⟩
  exact ⟨by rw [List.length_reverse]; exact hz, _, vals_rev r, IsTup.new _ _⟩
end
/-! ### text * int, from 1 on -/
def rStrRep1 : R2 := fun x y H Q => ∃ (a : Str) (k : Nat), x = .str a ∧ y = .int (k : Int) ∧ 1 ≤ k ∧ k ≤ 5000 ∧ a.length ≤ 1000 ∧ ∀ z : Str, TL.tl z = (List.replicate k (TL.tl a)).flatten → Q (.str z) H
theorem op_strRep1 {X : Cx} : OpR X (binaryOp .Mult) rStrRep1 := by
  intro pins s σ H x y v u Q I rx ry h
  obtain ⟨a, k, rfl, rfl, k1, k2, ha, q⟩ := h
  obtain ⟨t, rfl⟩ := rx
  obtain ⟨t', rfl⟩ := ry
  have hm : a.length * k ≤ 5000000 := by
    have := Nat.mul_le_mul ha k2
    omega
  have hl := TL.len_tl a
  have long : Builtin.Str.tooLong (a.length * k) = false := by
    unfold Builtin.Str.tooLong
    refine decide_eq_false (Nat.not_lt.mpr (Nat.le_trans hm ?_))
    decide
  refine PySem.P.mul_str (by rw [decide_eq_false (by omega), decide_eq_false (by omega)]; rfl) (fun _ _ => ?_) (fun _ _ => by rw [Int.toNat_natCast]; exact long) ?_
  · refine Int.not_lt.mpr (Int.le_ediv_of_mul_le (by omega) ?_)
    have : ((a.length * k : Nat) : Int) = (a.length : Int) * (k : Int) := Int.natCast_mul _ _
    omega
  · rw [if_neg (by omega), Int.toNat_natCast]
    by_cases one : k = 1
    · rw [if_pos (by rw [one]; rfl)]
      exact ⟨.str a, H, I, ⟨_, rfl⟩, q a (by rw [one]; simp)⟩
    have big : ((k : Int) == 1) = false := beq_eq_false_iff_ne.mpr (by omega)
    rw [big, Bool.false_or]
    by_cases h0 : a.length = 0
    · rw [if_pos (beq_iff_eq.mpr h0)]
      have e0 : TL.tl a = [] := List.length_eq_zero_iff.mp (by omega)
      exact ⟨.str a, H, I, ⟨_, rfl⟩, q a (by rw [e0]; simp)⟩
    · rw [if_neg (by rw [beq_iff_eq]; exact h0)]
      have e : TL.tl ⟨(List.replicate k a.cps).foldl (· ++ ·) #[]⟩ = (List.replicate k (TL.tl a)).flatten := by
        show ((List.replicate k a.cps).foldl (· ++ ·) #[]).toList = _
        rw [rep_fold, List.nil_append]
      refine ⟨?_, .str _, H, I.tok _, ⟨_, rfl⟩, q _ e⟩
      rw [TL.len_tl, e, List.length_flatten, List.map_replicate, List.sum_replicate_nat, ← hl, Nat.mul_comm]
      exact Nat.le_trans hm (by decide)

end Lk

/-! Pick0 -/
set_option Elab.async false
set_option maxRecDepth 100000
set_option linter.all false
set_option maxHeartbeats 4000000
namespace Lk
open PySem PySem.Spec PyProof.Rows L2
/-! ### one of a display (law04b.tpl has its own copies: do not build both together) -/
section
variable {K : PySem.W.Frag} {H H' : Hp} {p c : Addr} {σ : L2.St}
theorem th_of_mem : ∀ {xs : List V} {ds : List PyData} {x : V}, ThAll K H xs ds → x ∈ xs → ∃ d, d ∈ ds ∧ Th K H x d
  | _, _, _, .nil, h => by simp at h
  | _, _, x, .cons h t, m => by
    rcases List.mem_cons.mp m with rfl | m
    · exact ⟨_, List.mem_cons_self, h⟩
    · obtain ⟨d, hd, ht⟩ := th_of_mem t m
      exact ⟨d, List.mem_cons_of_mem _ hd, ht⟩
theorem noPot_of : ∀ {ds : List PyData} {d : PyData}, noPotAll ds = true → d ∈ ds → noPot d = true
  | e :: r, d, h, m => by
    have n2 : noPot e = true ∧ noPotAll r = true := by simpa only [noPotAll, Bool.and_eq_true] using h
    rcases List.mem_cons.mp m with rfl | m
    · exact n2.1
    · exact noPot_of n2.2 m
/-- one of a new display; the list may have any length -/
theorem pick_new {ta : TA} {ds : List PyData} {Q : VK} {i : Nat} (h : MkA K ta σ H ds) (hn : noPotAll ds = true) (l0 : 0 < ds.length) (l1 : ds.length ≤ 1000) (hP : PotAt p c H) (hi : σ[i]? = some (some (.ref p)))
    (k : ∀ v d H', d ∈ ds → Th K H' v d → Ext p c H H' → Q v H') : tCall (spPick K) [] E0 (tCons (tVar i) (tCons (tLst ta) tNil)) σ H Q :=
  ⟨_, hi, h H (Same.refl H) _ fun xs H1 s1 t1 => by
    have hl := thAll_len t1
    refine ⟨Nat.le_trans (Nat.le_of_eq hl) (Nat.le_trans l1 (by decide)), fun l nl => ?_⟩
    have P1 := hP.same s1
    have s2 : Same H1 (upd H1 l (.lst xs)) := same_upd nl
    refine ⟨p, c, l, xs, rfl, P1.same s2, SqL.of upd_same, P1.nep nl, by omega, by omega, fun v H2 hv e2 => ?_⟩
    obtain ⟨d, hd, ht⟩ := th_of_mem t1 hv
    exact k v d H2 hd (th_ext (P1.same s2) e2 (th_same s2 ht) (noPot_of hn hd)) (Ext.pre (s1.trans s2) e2)⟩
/-- data without lists stands when a list changes -/
theorem th_mutL {D : Addr} {ys : List V} {o : HO} (hD : H D = some (.lst ys)) {v : V} {d : PyData} (h : Th K H v d) : noLst d = true → Th K (upd H D o) v d := by
  refine Th.rec (motive_1 := fun v d _ => noLst d = true → Th K (upd H D o) v d) (motive_2 := fun vs ds _ => noLstAll ds = true → ThAll K (upd H D o) vs ds) ?_ ?_ ?_ ?_ ?_ ?_ ?_ ?_ ?_ h
  · exact fun _ => .non
  · exact fun b _ => .bl b
  · exact fun i _ => .int i
  · exact fun x _ => .str x
  · intro q xs ds _ _ _ n
    simp [noLst] at n
  · intro q xs ds hs ha ih n
    have n2 : noLstAll ds = true := by simpa only [noLst] using n
    rcases hs with (hs | ⟨u, hs⟩) | hs
    · have ne : q ≠ D := fun z => by
        rw [z, hD] at hs
        cases hs
      exact .tup (.inl (.inl (by rw [upd_ne ne]; exact hs))) (ih n2)
    · have ne : q ≠ D := fun z => by
        rw [z, hD] at hs
        cases hs
      exact .tup (.inl (.inr ⟨u, by rw [upd_ne ne]; exact hs⟩)) (ih n2)
    · exact .tup (.inr hs) (ih n2)
  · intro q kvs ds hs _ ek ih n
    have n2 : noLstAll (ds.map (·.2)) = true := by
      rw [noLstKv_map]
      simpa only [noLst] using n
    have ne : q ≠ D := fun z => by
      rw [z, hD] at hs
      cases hs
    exact .dct (by rw [upd_ne ne]; exact hs) (ih n2) ek
  · exact fun _ => .nil
  · intro v vs d ds _ _ i1 i2 n
    have n2 : noLst d = true ∧ noLstAll ds = true := by simpa only [noLstAll, Bool.and_eq_true] using n
    exact .cons (i1 n2.1) (i2 n2.2)
theorem thAll_mutL {D : Addr} {ys : List V} {o : HO} (hD : H D = some (.lst ys)) : ∀ {vs : List V} {ds : List PyData}, ThAll K H vs ds → noLstAll ds = true → ThAll K (upd H D o) vs ds
  | _, _, .nil, _ => .nil
  | _ :: _, d :: ds, .cons h t, n => by
    have n2 : noLst d = true ∧ noLstAll ds = true := by simpa only [noLstAll, Bool.and_eq_true] using n
    exact .cons (th_mutL hD h n2.1) (thAll_mutL hD t n2.2)
/-- what stands ready: a list that grows while the pot moves -/
theorem grow {H0 : Hp} {D : Addr} {n iv : Nat} {te : TE} {α : Type} {f : α → PyData} {Ok : α → Prop} {Qd : Hp → Prop} (flat : ∀ a, noLst (f a) = true ∧ noPot (f a) = true) (hP : PotAt p c H0) (hD0 : H0 D = none) (small : n ≤ 1000)
    (wp : ∀ (x : V), wipe ((wipe σ [iv]).set iv (some x)) [iv] = wipe σ [iv])
    (call : ∀ (x : V) (H' : Hp) (R : VK), PotAt p c H' → (∀ v a H2, Ok a → Ext p c H' H2 → Th K H2 v (f a) → R v H2) → te ((wipe σ [iv]).set iv (some x)) H' R)
    (k : ∀ (vs : List V) (as : List α) (H' : Hp), H' D = some (.lst vs) → ThAll K H' vs (as.map f) → (∀ a ∈ as, Ok a) → as.length = n → Ext p c H0 H' → Qd H') :
    ∃ W : Nat → Nat → Hp → Prop, (∃ m, W 0 m (upd H0 D (.lst []))) ∧ ∀ i m H, W i m H →
      ((Itr 0 n).stop i H ∧ Qd H) ∨ ((Itr 0 n).go i H ∧ ∃ Nx : Hp → Prop, (∀ H', Nx H' → ∃ m', m' < m ∧ W (i + 1) m' H') ∧ ∀ x H', (Itr 0 n).yld i H x H' → gName iv x (wipe σ [iv]) H' fun σ2 H2 => wipe σ2 [iv] = wipe σ [iv] ∧ tYes σ2 H2 fun b H3 =>
        if b = true then te σ2 H3 fun y H4 => ∃ acc, H4 D = some (.lst acc) ∧ acc.length < sizeLine ∧ Nx (upd H4 D (.lst (acc ++ [y]))) else Nx H3) := by
  have nd := hP.nep hD0
  have flatA : ∀ as : List α, noLstAll (as.map f) = true ∧ noPotAll (as.map f) = true := fun as => by
    induction as with
    | nil => exact ⟨rfl, rfl⟩
    | cons a r ih => exact ⟨by rw [List.map_cons, noLstAll, (flat a).1, ih.1]; rfl, by rw [List.map_cons, noPotAll, (flat a).2, ih.2]; rfl⟩
  refine lc_range (lo := 0) (n := n) (fun i H' => ∃ vs as, H' D = some (.lst vs) ∧ ThAll K H' vs (as.map f) ∧ (∀ a ∈ as, Ok a) ∧ as.length = i ∧ Ext p c H0 H') ⟨[], [], upd_same, .nil, (fun _ h => by simp at h), rfl, Ext.mut hP hP.ref hD0⟩ ?_ ?_
  · rintro i H' hi ⟨vs, as, hD, ta, ok, len, e⟩
    refine ⟨wp _, call _ H' _ e.pot fun v a H2 oka e2 th => ⟨vs, e2.get hD nd, ?_, vs ++ [v], as ++ [a], upd_same, ?_, ?_, ?_, Ext.mut hP (e.trans e2) hD0⟩⟩
    · have := thAll_len ta
      rw [List.length_map] at this
      exact small1000 (by omega)
    · rw [List.map_append]
      exact thAll_app (thAll_mutL (e2.get hD nd) (thAll_ext e.pot e2 ta (flatA as).2) (flatA as).1) (.cons (th_mutL (e2.get hD nd) th (flat a).1) .nil)
    · intro y hy
      rcases List.mem_append.mp hy with hy | hy
      · exact ok y hy
      · rw [List.mem_singleton.mp hy]
        exact oka
    · rw [List.length_append, List.length_singleton, len]
  · rintro H' ⟨vs, as, hD, ta, ok, len, e⟩
    exact k vs as H' hD ta ok len e
end
end Lk

/-! Mak1 -/
set_option Elab.async false
set_option maxRecDepth 100000
set_option linter.all false
set_option maxHeartbeats 4000000
namespace Lk
open PySem PySem.Spec PyProof.Rows L2
/-! ### made data: tuples put together, cut, told again and again -/
def cutL {α : Type} (l : List α) (lo hi : Option Int) : List α := (l.drop (HT.sIx l.length 0 lo)).take (HT.sIx l.length l.length hi - HT.sIx l.length 0 lo)
theorem mem_cutL {α : Type} {l : List α} {lo hi : Option Int} {x : α} (h : x ∈ cutL l lo hi) : x ∈ l := (List.drop_sublist _ _).subset ((List.take_sublist _ _).subset h)
theorem len_cutL {α : Type} (l : List α) (lo hi : Option Int) : (cutL l lo hi).length ≤ l.length := by
  unfold cutL
  rw [List.length_take, List.length_drop]
  omega
section
variable {K : PySem.W.Frag} {σ : L2.St} {H0 : Hp} {te tf : TE} {ds es : List PyData}
theorem thAll_drop {H : Hp} : ∀ (n : Nat) {vs : List V} {ds : List PyData}, ThAll K H vs ds → ThAll K H (vs.drop n) (ds.drop n)
  | 0, _, _, h => h
  | n + 1, _, _, .nil => .nil
  | n + 1, _, _, .cons _ t => thAll_drop n t
theorem thAll_take {H : Hp} : ∀ (n : Nat) {vs : List V} {ds : List PyData}, ThAll K H vs ds → ThAll K H (vs.take n) (ds.take n)
  | 0, _, _, _ => .nil
  | n + 1, _, _, .nil => .nil
  | n + 1, _, _, .cons h t => .cons h (thAll_take n t)
theorem thAll_cut {H : Hp} {vs : List V} {ds : List PyData} (lo hi : Option Int) (h : ThAll K H vs ds) : ThAll K H (cutV vs lo hi) (cutL ds lo hi) := by
  unfold cutV cutL
  rw [thAll_len h]
  exact thAll_take _ (thAll_drop _ h)
theorem thAll_reps {H : Hp} {vs : List V} {ds : List PyData} (h : ThAll K H vs ds) : ∀ k, ThAll K H (List.replicate k vs).flatten (List.replicate k ds).flatten
  | 0 => .nil
  | k + 1 => by
    rw [List.replicate_succ, List.replicate_succ, List.flatten_cons, List.flatten_cons]
    exact thAll_app h (thAll_reps h k)
theorem th_of_tup {H : Hp} {v : V} {ds : List PyData} (h : Th K H v (.tuple ds)) : ∃ a xs, v = .ref a ∧ SqT K H a xs ∧ ThAll K H xs ds := by
  cases h with
  | tup hs ha => exact ⟨_, _, rfl, hs, ha⟩
theorem mk_catT (h : Mk1 K te σ H0 (.tuple ds)) (g : Mk1 K tf σ H0 (.tuple es)) (hl : ds.length + es.length ≤ 1000) : Mk1 K (tOp (rCatA K) te tf) σ H0 (.tuple (ds ++ es)) := fun H s Q q =>
  h H s _ fun v H1 s1 h1 => g H1 (s.trans s1) _ fun u H2 s2 h2 => by
    obtain ⟨a, xs, rfl, ha, ta⟩ := th_of_tup (th_same s2 h1)
    obtain ⟨b, ys, rfl, hb, tb⟩ := th_of_tup h2
    have l1 := thAll_len ta
    have l2 := thAll_len tb
    refine ⟨a, b, xs, ys, rfl, rfl, ha, hb, Nat.le_of_lt (small1000 (by omega)), fun e => ?_, fun _ e => ?_, fun _ _ p np => ?_⟩
    · have ed : ds = [] := List.length_eq_zero_iff.mp (by rw [← l1, e]; rfl)
      rw [ed] at q
      exact q _ H2 (s1.trans s2) h2
    · have ed : es = [] := List.length_eq_zero_iff.mp (by rw [← l2, e]; rfl)
      rw [ed, List.append_nil] at q
      exact q _ H2 (s1.trans s2) (th_same s2 h1)
    · exact q _ _ ((s1.trans s2).trans (same_upd np)) (.tup (.inl (.inl upd_same)) (thAll_same (same_upd np) (thAll_app ta tb)))
/-- a part of a slice -/
def MkP (t : TO) (σ : L2.St) (H0 : Hp) (o : Option Int) : Prop := ∀ H, Same H0 H → ∀ Q : Option Int → Hp → Prop, (∀ H', Same H H' → Q o H') → t σ H Q
theorem mkp_none : MkP tNoPart σ H0 none := fun H _ Q q => q H (Same.refl H)
theorem mkp_int {i : Int} : MkP (tPart (tC (.int i))) σ H0 (some i) := fun H _ Q q => ⟨i, rfl, q H (Same.refl H)⟩
theorem mkp_var {i : Int} {j : Nat} (h : σ[j]? = some (some (.int i))) : MkP (tPart (tVar j)) σ H0 (some i) := fun H _ Q q => ⟨_, h, i, rfl, q H (Same.refl H)⟩
theorem mkp_more {i k : Int} {j : Nat} (h : σ[j]? = some (some (.int i))) : MkP (tPart (tOp (rI0 fun a b => V.int (a + b)) (tVar j) (tC (.int k)))) σ H0 (some (i + k)) := fun H _ Q q => ⟨_, h, i, k, rfl, rfl, _, rfl, q H (Same.refl H)⟩
theorem mk_slT {tl th : TO} {lo hi : Option Int} (h : Mk1 K te σ H0 (.tuple ds)) (hl : MkP tl σ H0 lo) (hh : MkP th σ H0 hi) : Mk1 K (tSl (rSlA K) te tl th) σ H0 (.tuple (cutL ds lo hi)) := fun H s Q q =>
  h H s _ fun v H1 s1 h1 => hl H1 (s.trans s1) _ fun H2 s2 => hh H2 ((s.trans s1).trans s2) _ fun H3 s3 => by
    obtain ⟨a, xs, rfl, ha, ta⟩ := th_of_tup (th_same (s2.trans s3) h1)
    have l1 := thAll_len ta
    have x3 := (s1.trans s2).trans s3
    refine ⟨a, xs, rfl, ha, fun e => ?_, fun _ p np => ?_⟩
    · have ec : cutL ds lo hi = ds := by
        unfold cutL
        rw [← l1, e.1, e.2, List.drop_zero, Nat.sub_zero, List.take_of_length_le (Nat.le_of_eq l1.symm)]
      rw [ec] at q
      exact q _ H3 x3 (.tup ha ta)
    · exact q _ _ (x3.trans (same_upd np)) (.tup (.inl (.inl upd_same)) (thAll_same (same_upd np) (thAll_cut lo hi ta)))
theorem mk_revT (h : Mk1 K te σ H0 (.tuple ds)) : Mk1 K (tRevT K te) σ H0 (.tuple ds.reverse) := fun H s Q q =>
  h H s _ fun v H1 s1 h1 => by
    obtain ⟨a, xs, rfl, ha, ta⟩ := th_of_tup h1
    have rev : ∀ {vs : List V} {ds : List PyData}, ThAll K H1 vs ds → ThAll K H1 vs.reverse ds.reverse := fun {vs ds} t => by
      induction vs generalizing ds with
      | nil => cases t; exact .nil
      | cons v vs ih =>
        cases t with
        | cons r t =>
          rw [List.reverse_cons, List.reverse_cons]
          exact thAll_app (ih t) (.cons r .nil)
    exact ⟨a, xs, rfl, ha, fun p np => q _ _ (s1.trans (same_upd np)) (.tup (.inl (.inl upd_same)) (thAll_same (same_upd np) (rev ta)))⟩
/-- list(t) -/
theorem mk_listT (h : Mk1 K te σ H0 (.tuple ds)) : MkL K (tCB (fun xs H Q => ∃ p ys, xs = [.ref p] ∧ (SqL K H p ys ∨ SqT K H p ys) ∧ ∀ l, H l = none → Q (.ref l) (upd H l (.lst ys))) (tCons te tNil)) σ H0 ds := fun H s Q q =>
  h H s _ fun v H1 s1 h1 => by
    obtain ⟨a, xs, rfl, ha, ta⟩ := th_of_tup h1
    exact ⟨a, xs, rfl, .inr ha, fun l nl => q l xs _ (s1.trans (same_upd nl)) upd_same (thAll_same (same_upd nl) ta)⟩
/-- tuple(l) -/
theorem mk_tupL (h : MkL K te σ H0 ds) : Mk1 K (tCB (fun xs H Q => ∃ p ys, xs = [.ref p] ∧ ((SqL K H p ys ∧ ∀ l, H l = none → Q (.ref l) (upd H l (.tup ys))) ∨ (SqT K H p ys ∧ Q (.ref p) H))) (tCons te tNil)) σ H0 (.tuple ds) := fun H s Q q =>
  h H s _ fun p xs H1 s1 e1 t1 => ⟨p, xs, rfl, .inl ⟨SqL.of e1, fun l nl => q _ _ (s1.trans (same_upd nl)) (.tup (.inl (.inl upd_same)) (thAll_same (same_upd nl) t1))⟩⟩
/-- t * k -/
theorem mk_repT {k : Nat} (h : Mk1 K te σ H0 (.tuple ds)) (ne : ds ≠ []) (k1 : 2 ≤ k) (k2 : k ≤ 1000) (hl : ds.length ≤ 1000) : Mk1 K (tOp (rRepT K) te (tC (.int (k : Int)))) σ H0 (.tuple (List.replicate k ds).flatten) := fun H s Q q =>
  h H s _ fun v H1 s1 h1 => by
    obtain ⟨a, xs, rfl, ha, ta⟩ := th_of_tup h1
    have l1 := thAll_len ta
    refine ⟨a, k, xs, rfl, rfl, ha, fun e => ne (List.length_eq_zero_iff.mp (by rw [← l1, e]; rfl)), by omega, by omega, by omega, fun p np => q _ _ (s1.trans (same_upd np)) (.tup (.inl (.inl upd_same)) ?_)⟩
    rw [Int.toNat_natCast]
    exact thAll_same (same_upd np) (thAll_reps ta k)
/-- a list that is new -/
def MkN (K : PySem.W.Frag) (te : TE) (σ : L2.St) (H0 : Hp) (ds : List PyData) : Prop := ∀ H, Same H0 H → ∀ Q : VK, (∀ p xs H1, Same H H1 → H1 p = none → ThAll K H1 xs ds → Q (.ref p) (upd H1 p (.lst xs))) → te σ H Q
theorem mk_catN (h : MkL K te σ H0 ds) (g : MkL K tf σ H0 es) (hl : ds.length + es.length ≤ 1000) : MkN K (tOp rCat te tf) σ H0 (ds ++ es) := fun H s Q q =>
  h H s _ fun p xs H1 s1 e1 h1 => g H1 (s.trans s1) _ fun r ys H2 s2 e2 h2 => ⟨p, r, xs, ys, rfl, rfl, s2 _ _ e1, e2, by rw [thAll_len h1, thAll_len h2]; exact Nat.le_of_lt (small1000 hl), fun l nl =>
    q l _ H2 (s1.trans s2) nl (thAll_app (thAll_same s2 h1) h2)⟩
end
end Lk

/-! Open0 -/
set_option Elab.async false
set_option maxRecDepth 100000
set_option linter.all false
namespace Lk
open PySem PySem.Spec PyProof.Rows L2
/-! ### openings of readings, for any statement -/
theorem on_go {S : TS} {x : V} {i : Nat} {D : Ends} {σ : L2.St} {H : Hp} (h : S D (σ.set i (some x)) H) : gName i x σ H (S D) := h
theorem on_end {x : V} {i : Nat} {q : L2.St → Hp → Prop} {rt : VK} {bk ct : L2.St → Hp → Prop} {σ : L2.St} {H : Hp} (h : gName i x σ H q) : gName i x σ H (Ends.nx { nx := q, rt := rt, bk := bk, ct := ct }) := h
theorem sq_asg {te : TE} {g : TG} {r : TS} {D : Ends} {σ : L2.St} {H : Hp} (h : te σ H fun y H1 => g y σ H1 (r D)) : tSeq (tAsg te g) r D σ H := h
theorem sq_if {t : TT} {ts tl r : TS} {D : Ends} {σ : L2.St} {H : Hp} (h : tIfS t ts tl { D with nx := r D } σ H) : tSeq (tIfS t ts tl) r D σ H := h
theorem sq_for {w : TI} {g : TG} {tb r : TS} {D : Ends} {σ : L2.St} {H : Hp} (h : tFor w g tb { D with nx := r D } σ H) : tSeq (tFor w g tb) r D σ H := h
theorem sq_drop {te : TE} {r : TS} {D : Ends} {σ : L2.St} {H : Hp} (h : te σ H fun _ H1 => r D σ H1) : tSeq (tDrop te) r D σ H := h
theorem go_if {t : TT} {ts tl : TS} {D : Ends} {σ : L2.St} {H : Hp} (h : t σ H fun b H1 => if b = true then ts D σ H1 else tl D σ H1) : tIfS t ts tl D σ H := h
theorem go_ret {te : TE} {D : Ends} {σ : L2.St} {H : Hp} (h : te σ H D.rt) : tRet te D σ H := h
theorem nxt_go {q : L2.St → Hp → Prop} {rt : VK} {bk ct : L2.St → Hp → Prop} {σ : L2.St} {H : Hp} (h : q σ H) : tNext { nx := q, rt := rt, bk := bk, ct := ct } σ H := h
theorem ends_go {q : L2.St → Hp → Prop} {rt : VK} {bk ct : L2.St → Hp → Prop} {σ : L2.St} {H : Hp} (h : q σ H) : Ends.nx { nx := q, rt := rt, bk := bk, ct := ct } σ H := h
/-- an if whose two roads meet again -/
theorem if_join {t : TT} {ts tl r : TS} {D : Ends} {σ : L2.St} {H : Hp} (Pj : L2.St → Hp → Prop) (tail : ∀ σ H, Pj σ H → r D σ H) (h : ∀ Rn : L2.St → Hp → Prop, (∀ σ H, Pj σ H → Rn σ H) → tIfS t ts tl { D with nx := Rn } σ H) : tSeq (tIfS t ts tl) r D σ H := h _ tail
theorem lst_nil {σ : L2.St} {H : Hp} {Q : VK} (h : ∀ p, H p = none → Q (.ref p) (upd H p (.lst []))) : tLst tNil σ H Q := ⟨by show 0 ≤ sizeLine; decide, h⟩
theorem go_tt {r : R2} {ta tb : TE} {σ : L2.St} {H : Hp} {R : Bool → Hp → Prop} (h : ta σ H fun x H1 => tb σ H1 fun y H2 => r x y H2 fun v H3 => ∃ b, v = .bl b ∧ R b H3) : tTest (tOp r ta tb) σ H R := h
theorem go_cbc {r : List V → Hp → VK → Prop} {te : TE} {ta : TA} {σ : L2.St} {H : Hp} {Q : List V → Hp → Prop} (h : te σ H fun x H1 => r [x] H1 fun y H2 => ta σ H2 fun ys H3 => Q (y :: ys) H3) : tCons (tCB r (tCons te tNil)) ta σ H Q := h
end Lk

/-! Exv0 -/
set_option Elab.async false
set_option maxRecDepth 100000
set_option linter.all false
set_option maxHeartbeats 4000000
namespace Lk
open PySem PySem.Spec PyProof.Rows L2
/-- a held error of the class at C, not raised -/
def EvAt (H : Hp) (a C : Addr) : Prop := H a = some (ExO (.ref C) a) ∨ ∃ d fs, H a = some (exo a C (some d)) ∧ H d = some (exd d fs)
theorem EvAt.same {H H' : Hp} {a C : Addr} (h : EvAt H a C) (s : Same H H') : EvAt H' a C := by
  rcases h with h | ⟨d, fs, h, g⟩
  · exact .inl (s _ _ h)
  · exact .inr ⟨d, fs, s _ _ h, s _ _ g⟩
/-- what isinstance asks of an error's class -/
structure EvC (K : PySem.W.Frag) (C : Addr) : Prop where
  cl : PySem.W.isClsIn K C = true
  ga : PySem.W.findIn K (.ref C) "__getattribute__" = some (some (.builtin "BaseException.__getattribute__"))
  gt : PySem.W.findIn K (.ref C) "__getattr__" = some none
  sb : PySem.W.subIn K (.ref C) (.type "BaseException") = some true
  ca : PySem.W.findIn K (.ref C) "__class__" = some (some (.builtin "object.__class__"))
  gg : PySem.W.specialIn K (.builtin "object.__class__") "__get__" = some (some (.builtin "getset_descriptor.__get__"))
  tk : PySem.W.takesIn K (.builtin "object.__class__") = some true
  mo : PySem.W.mroIn K C (.type "object") = some true
section
variable {X : Cx} {pins : List (Addr × Obj)} {σ : L2.St} {H : Hp} {s : Shared} {a C : Addr}
theorem ev_inst (I : Inv X pins σ H s) (e : EvAt H a C) : ∃ oe od, PySem.W.InstAt s.heap a oe C od := by
  rcases e with e | ⟨d, fs, e, ed⟩
  · obtain ⟨⟨oe, vs, ho, hz, hd, _⟩, _, _⟩ := I.hok a _ e
    refine ⟨oe, none, ?_⟩
    obtain ⟨oc, od, oda, osl⟩ := oe
    obtain ⟨h1, h2⟩ := hz
    dsimp only at h1 h2 hd
    subst h1 h2 hd
    exact ⟨ho, rfl, rfl, trivial⟩
  · obtain ⟨t1, ho⟩ := exo_at I.hok e
    obtain ⟨mA, hns, _⟩ := exd_at I.hok ed
    obtain ⟨od, hod, _⟩ := lookIn_ns hns
    exact ⟨_, some od, ho, rfl, rfl, hod⟩
def rIsV (K : PySem.W.Frag) : List V → Hp → VK → Prop := fun xs H Q => ∃ (a C : Addr) (c : V) (cv : Value) (b : Bool), xs = [.ref a, c] ∧ EvAt H a C ∧ EvC K C ∧ (∀ u, RelV c u → u = cv) ∧ PySem.W.kitOne K (.ref C) cv = some b ∧ Q (.bl b) H
theorem call_isV : CallR X (.builtin "isinstance") (rIsV X.K) := by
  intro pins s σ H xs us Q I r h
  obtain ⟨a, C, c, cv, b, rfl, ev, T, hcv, e, q⟩ := h
  cases r with
  | cons rx rr =>
    cases rr with
    | cons rt rr =>
      cases rr
      cases rx
      have ec := hcv _ rt
      subst ec
      obtain ⟨oe, od, J⟩ := ev_inst I ev
      exact PySem.W.kia_one (PySem.W.kitx_exc (od := od) T.cl T.ga T.gt T.sb T.ca T.gg T.tk T.mo) I.kIn J e (fun z => nomatch z) fun tk => ⟨.bl b, H, I.kept (t' := tk) fun _ _ z => z, rfl, q⟩
def rIsVT (K : PySem.W.Frag) : List V → Hp → VK → Prop := fun xs H Q => ∃ (a C tp : Addr) (ts : List String) (b : Bool), xs = [.ref a, .ref tp] ∧ EvAt H a C ∧ EvC K C ∧ H tp = some (.tup (ts.map V.ty)) ∧ PySem.W.kitAny K (.ref C) (ts.map Value.type) = some b ∧ Q (.bl b) H
theorem vals_ty : ∀ {ts : List String} {us : List Value}, Vals (ts.map V.ty) us → us = ts.map Value.type
  | [], us, r => by
    cases r
    rfl
  | t :: r, us, h => by
    cases h with
    | cons h1 h2 =>
      cases h1
      rw [vals_ty h2]
      rfl
theorem call_isVT : CallR X (.builtin "isinstance") (rIsVT X.K) := by
  intro pins s σ H xs us Q I r h
  obtain ⟨a, C, tp, ts, b, rfl, ev, T, htp, e, q⟩ := h
  cases r with
  | cons rx rr =>
    cases rr with
    | cons rt rr =>
      cases rr
      cases rx
      cases rt
      obtain ⟨oe, od, J⟩ := ev_inst I ev
      obtain ⟨_, its, rv, o, ho, hc, n, hd⟩ := I.hok tp _ htp
      have ei := vals_ty rv
      subst ei
      obtain ⟨oc, odd, oda, osl⟩ := o
      dsimp only at hc hd
      subst hc hd
      exact PySem.W.kia_tup (PySem.W.kitx_exc (od := od) T.cl T.ga T.gt T.sb T.ca T.gg T.tk T.mo) I.kIn J ho e (fun z => nomatch z) fun tk => ⟨.bl b, H, I.kept (t' := tk) fun _ _ z => z, rfl, q⟩
/-- e.f, e a held error with fields -/
def tXv (K : PySem.W.Frag) (f : Str) (te : TE) : TE := fun σ H Q => te σ H fun x H1 => ∃ (a C d : Addr) (fs : List (Str × V)) (v : V), x = .ref a ∧ XfC K C ∧ PySem.W.findIn K (.ref C) f = some none ∧ H1 a = some (exo a C (some d)) ∧ H1 d = some (exd d fs) ∧ fs.lookup f = some v ∧ Q v H1
theorem pe_xv {e : Expr} {te : TE} {pos : Pos} {n : Str} (he : PE X e te) (hb : attributeBase e n X.env (eval e X.env) = eval e X.env := by rfl) : PE X (.Attribute e n pos) (tXv X.K n te) := by
  refine ⟨fun pins s σ H Q I h => ?_⟩
  refine attr_of hb (thn (he.run pins s σ H _ I h) fun u s1 hh => ?_)
  obtain ⟨x, H1, I1, rx, a, C, dd, fs, v, ex, T, hno, ea, ed, l, q⟩ := hh
  subst ex
  obtain rfl : u = Value.ref a := rx
  obtain ⟨t1, ho⟩ := exo_at I1.hok ea
  obtain ⟨mA, hns, hr⟩ := exd_at I1.hok ed
  obtain ⟨od, hod, hl⟩ := lookIn_ns hns
  obtain ⟨u, hu, ru⟩ := RelO.some_of (v := v) (o := mA n) (by rw [← l]; exact hr n)
  have J : PySem.W.InstAt s1.heap a _ C (some od) := ⟨ho, rfl, rfl, hod⟩
  exact HandSPX.exc_get I1.kIn J T.ga T.gg T.exC (PySem.W.findObj_own T.hdC hno rfl (by rw [hl, hu])) (handed_of ru) ⟨v, H1, I1.tok _, ru, q⟩
/-- C(e, ..) as a value, C's own __init__ keeping sp -/
def tMkV (C : Addr) (sp : Sp) (ta : TA) : TE := fun σ H Q => ta σ H fun vs H1 => vs.length ≤ 1000 ∧ ∀ a, H1 a = none → sp (.ref a :: vs) (upd H1 a (exo a C none)) (fun v H2 => v = .non ∧ Q (.ref a) H2) E0
theorem pe_mkV {CX : CXT} {x : Str} {C fI : Addr} {k : Nat} {fd : FuncData} {ps : List Str} {sp : Sp} {e : Expr} {es : List Expr} {ta : TA} {p pos : Pos} (T : OexC X.K C) (iC : PySem.W.findIn X.K (.ref C) "__init__" = some (some (.ref fI))) (tI : PySem.W.typeIn X.K (.ref fI) = some (.type "function"))
    (F1 : FnOk X.prog X.w X.K X.mg X.base CX k fI fd ps sp) (hr : Room (k + 1) X.A) (hb : Binds X.K fd ps []) (hx : Passes CX X E0) (hg : Gl X x) (hm : X.mg x = some (.ref C)) (ha : PA X (e :: es) ta)
    (hdb : (x == ("__debug__" : Str)) = false := by decide) (he : starEach (e :: es) X.env = (false, eval e X.env) :: starEach es X.env := by rfl) (hpl : (backTo pos (starEach es X.env)).any (·.1) = false := by rfl) :
    PE X (.Call (.Name x p) (e :: es) [] pos) (tMkV C sp ta) := by
  refine ⟨fun pins s σ H Q I h => ?_⟩
  obtain ⟨nm, q, N, bs, bm, sn, sub, ab, col, dd, k0, k1, k2, k3, k5, hC, hbm⟩ := T.cls
  refine wpAny_Call_Name_kw (ld_glob I hg hm ?_ hdb)
  refine PySem.W.callWith_K (h₀ := X.base) I.ok.mod.kin T.kC (thn (ha.run pos pins s σ H _ I h) fun us s1 ⟨vs, H1, I1, r1, hz, q1⟩ => ⟨I1.kIn, ?_⟩) he hpl
  show wpAny _ _ (call (.ref C) us) _ _ _
  obtain ⟨hp, g, dr, tk, os⟩ := s1
  have hsz : hp.objs.size ≤ hp.objs.size + 1 := Nat.le_succ _
  have hn : H1 (hp.objs.size + 1) = none := I1.hok.fresh hsz
  have hq := q1 (hp.objs.size + 1) hn
  have kk : ∀ b o, hp.get? b = some o → ((hp.push (PySem.W.kdv_tup us)).push (PySem.HandSPX.excO C hp.objs.size)).get? b = some o := fun b o e => Heap.get?_push_of_some _ (Heap.get?_push_of_some _ e)
  have hget : ((hp.push (PySem.W.kdv_tup us)).push (PySem.HandSPX.excO C hp.objs.size)).get? (hp.objs.size + 1) = some (PySem.HandSPX.excO C hp.objs.size) := by heap_get
  have I2 : Inv X pins σ (upd H1 (hp.objs.size + 1) (exo (hp.objs.size + 1) C none)) ⟨(hp.push (PySem.W.kdv_tup us)).push (PySem.HandSPX.excO C hp.objs.size), g, dr, tk, os⟩ :=
    I1.laid (t' := tk) (a := hp.objs.size + 1) (o := exo (hp.objs.size + 1) C none) (h' := (hp.push (PySem.W.kdv_tup us)).push (PySem.HandSPX.excO C hp.objs.size)) kk hsz (exo_ok hget)
  have r2 : Vals (V.ref (hp.objs.size + 1) :: vs) (Value.ref (hp.objs.size + 1) :: us) := .cons rfl r1
  have hl : (Value.ref (hp.objs.size + 1) :: us ++ []).length = ps.length := by
    have e := r2.length
    rw [F1.len _ _ _ _ hq] at e
    rw [List.append_nil]
    exact e.symm
  have b2 := hb ⟨(hp.push (PySem.W.kdv_tup us)).push (PySem.HandSPX.excO C hp.objs.size), g, dr, tk, os⟩ (Value.ref (hp.objs.size + 1) :: us) I2.kIn hl
  rw [List.append_nil] at b2
  have hus : us.length ≤ sizeLine := by
    rw [← Paired.length r1, sizeLine_eq]
    omega
  refine wpAny_call (PySem.HandSPX.call_own F.excBase_ValueError (fun Y => PySem.HandSPX.refsVE_contains Y bm hbm) (I1.kIn _ _ hC) (PySem.W.looks_findIn I1.kIn iC) (fun self => PySem.W.bind_fn I1.kIn self tI) hus
    (codeAny_mono (F1.run _ X.stack _ _ ⟨Value.ref (hp.objs.size + 1) :: us, []⟩ (Value.ref (hp.objs.size + 1) :: us) _ _ E0 (hr.make C us []) (I2.env0.make C us []) b2 r2 hq) fun r s' hq' => ?_))
  cases r with
  | error er => exact hx pins σ _ _ er s' I2 hq'
  | ok fl =>
    cases fl with
    | ret u =>
      obtain ⟨v, H2, os2, bare2, un, hok, rv, ev, q2⟩ := hq'
      subst ev
      refine ⟨rv, ?_⟩
      have nha : ∀ {b : Addr} {o : Obj}, hp.get? b = some o → b ≠ hp.objs.size + 1 := fun {b o} z => Nat.ne_of_lt (Nat.lt_of_lt_of_le (Heap.lt_size z) hsz)
      have up : ∀ {b : Addr}, b ≠ hp.objs.size + 1 → H1 b = none → upd H1 (hp.objs.size + 1) (exo (hp.objs.size + 1) C none) b = none := fun {b} hb n => by rw [upd_ne hb]; exact n
      have U : Un (frs X.stack) [] H1 H2 hp s'.heap := {
        keep := fun b o z n hf hx => un.keep b o (kk b o z) (up (nha z) n) hf hx
        slot := fun b o z n hf hx => un.slot b o (kk b o z) (up (nha z) n) hf hx
        free := fun b o z n hx => un.free b o (kk b o z) (up (nha z) n) hx
        there := fun b o z hx => un.there b o (kk b o z) hx
        tups := fun b xs z => un.tups b xs (by rw [upd_ne (ne_of_none z hn)]; exact z)
        frzs := fun b o v z => un.frzs b o v (by rw [upd_ne (ne_of_none z hn)]; exact z)
        tbls := fun b ps z => un.tbls b ps (by rw [upd_ne (ne_of_none z hn)]; exact z) }
      have J : Inv X pins σ H2 s' := I1.call' (ch := []) os2 U hok bare2 (fun b z => absurd z (by simp))
      exact ⟨.ref (hp.objs.size + 1), H2, J, rfl, q2⟩
    | next => exact False.elim hq'
    | brk => exact False.elim hq'
    | cont => exact False.elim hq'
/-- the name of a built-in class, as a value -/
theorem pe_bt {T : String} {pos : Pos} (hT : X.mg T = none) (hb : bootBuiltins T = some (.type T)) (hg : Gl X T := by rfl) (hn : (T : Str) ≠ "__name__" := by decide) (hd : ((T : Str) == ("__debug__" : Str)) = false := by decide) : PE X (.Name T pos) (tC (.ty T)) :=
  ⟨fun _ _ _ H Q I h => ld_blt I hg hT hb ⟨.ty T, H, I, rfl, h⟩ hn hd⟩
end
/-- one class as isinstance sees it -/
theorem kit_of {K : PySem.W.Frag} {C D : Addr} {b : Bool} (h2 : PySem.W.isClsIn K D = true) (h3 : PySem.W.typeIn K (.ref D) = some (.type "type")) (h4 : PySem.W.subIn K (.ref C) (.ref D) = some b) (h5 : PySem.W.subIn K (.ref D) (.ref D) = some true) : PySem.W.kitOne K (.ref C) (.ref D) = some b := by
  have e2 : ((PySem.W.clsIn K D).isSome && PySem.W.typeIn K (.ref D) == some (.type "type")) = true := by
    have h2' : (PySem.W.clsIn K D).isSome = true := h2
    rw [h2', h3] <;> rfl
  unfold PySem.W.kitOne
  split
  · rename_i z
    have e : C = D := Value.ref.inj (beq_iff_eq.mp z)
    subst e
    rw [← h4, h5]
  · show (if ((PySem.W.clsIn K D).isSome && PySem.W.typeIn K (.ref D) == some (.type "type")) = true then PySem.W.subIn K (.ref C) (.ref D) else none) = some b
    rw [if_pos e2]
    exact h4
theorem kit_ty1 {K : PySem.W.Frag} {C : Addr} {T : String} {b : Bool} (h : PySem.W.kitMeta T = true) (h4 : PySem.W.subIn K (.ref C) (.type T) = some b) : PySem.W.kitOne K (.ref C) (.type T) = some b := by
  unfold PySem.W.kitOne
  rw [if_neg (by exact fun z => by cases (beq_iff_eq.mp z))]
  show (if PySem.W.kitMeta T = true then PySem.W.subIn K (.ref C) (.type T) else none) = some b
  rw [if_pos h]
  exact h4
end Lk

/-! Stem0 -/
set_option Elab.async false
set_option maxRecDepth 100000
set_option linter.all false
set_option maxHeartbeats 4000000
namespace Lk
open PySem PySem.Spec PyProof.Rows L2
/-! ### stems -/
theorem starts_tl {x y : Str} : Txt.startswith x y = true ↔ ∃ r, TL.tl x = TL.tl y ++ r := by
  unfold Txt.startswith
  rw [StrLaws.subAt_eq, Bool.and_eq_true, decide_eq_true_eq, beq_iff_eq, List.drop_zero]
  constructor
  · rintro ⟨_, h⟩
    exact ⟨(TL.tl x).drop y.length, by
      have e : TL.tl x = (TL.tl x).take y.length ++ (TL.tl x).drop y.length := (List.take_append_drop _ _).symm
      rw [show (TL.tl x).take y.length = TL.tl y from h] at e
      exact e⟩
  · rintro ⟨r, h⟩
    have l1 : x.length = (TL.tl y ++ r).length := by rw [TL.len_tl, h]
    rw [List.length_append, ← TL.len_tl] at l1
    refine ⟨by omega, ?_⟩
    show (TL.tl x).take y.length = TL.tl y
    rw [h, TL.len_tl, List.take_left]
theorem ends_tl {x y : Str} : Txt.endswith x y = true ↔ ∃ r, TL.tl x = r ++ TL.tl y := by
  unfold Txt.endswith
  rw [StrLaws.subAt_eq, Bool.and_eq_true, decide_eq_true_eq, beq_iff_eq]
  constructor
  · rintro ⟨l, h⟩
    refine ⟨(TL.tl x).take (x.length - y.length), ?_⟩
    have h2 : ((TL.tl x).drop (x.length - y.length)).take y.length = TL.tl y := h
    have l2 : ((TL.tl x).drop (x.length - y.length)).length ≤ y.length := by
      rw [List.length_drop, ← TL.len_tl]
      omega
    rw [List.take_of_length_le l2] at h2
    rw [← h2, List.take_append_drop]
  · rintro ⟨r, h⟩
    have l1 : x.length = (r ++ TL.tl y).length := by rw [TL.len_tl, h]
    rw [List.length_append, ← TL.len_tl] at l1
    refine ⟨by omega, ?_⟩
    show ((TL.tl x).drop (x.length - y.length)).take y.length = TL.tl y
    rw [h, show x.length - y.length = r.length by omega, List.drop_left, TL.len_tl y, List.take_length]
/-- what lies between two ends, where the one are capitals and the other small letters -/
theorem mid_of {z b e : List Nat} (hb : ∀ c ∈ b, upB c = true) (he : ∀ c ∈ e, loB c = true) (h1 : ∃ r, z = b ++ r) (h2 : ∃ r, z = r ++ e) : ∃ m, z = b ++ m ++ e := by
  obtain ⟨r, rfl⟩ := h1
  obtain ⟨q, h2⟩ := h2
  rcases List.append_eq_append_iff.mp h2 with ⟨m, e1, e2⟩ | ⟨m, e1, e2⟩
  · exact ⟨m, by rw [e2, List.append_assoc]⟩
  · cases m with
    | nil => exact ⟨[], by rw [e2]; simp⟩
    | cons c t =>
      have u := hb c (by rw [e1]; simp)
      have v := he c (by rw [e2]; simp)
      simp only [upB, loB, Bool.and_eq_true, decide_eq_true_eq] at u v
      omega
theorem cut_mid {z : Str} {b m e : List Nat} (h : TL.tl z = b ++ m ++ e) : TL.tl (cutS z (some (b.length : Int)) (some ((z.length : Int) - (e.length : Int)))) = m := by
  have l : z.length = b.length + m.length + e.length := by
    rw [TL.len_tl, h, List.length_append, List.length_append]
  show ((TL.tl z).drop (HT.sIx z.length 0 (some (b.length : Int)))).take (HT.sIx z.length z.length (some ((z.length : Int) - (e.length : Int))) - HT.sIx z.length 0 (some (b.length : Int))) = m
  rw [show ((z.length : Int) - (e.length : Int)) = ((b.length + m.length : Nat) : Int) by omega, HT.sIx_nat, HT.sIx_nat, Nat.min_eq_left (by omega), Nat.min_eq_left (by omega), h, List.append_assoc, List.drop_left, show b.length + m.length - b.length = m.length by omega, List.take_left]
end Lk

/-! DctN0 -/
set_option Elab.async false
set_option maxRecDepth 100000
set_option linter.all false
set_option maxHeartbeats 4000000
namespace Lk
open PySem PySem.Spec PyProof.Rows L2
/-! ### dicts whose keys are pairs of a text and a tuple of numbers -/
abbrev NK := Str × List Nat
def nk (p : NK) : NestedKey := .tup [.text p.1, .tup (p.2.map fun n : Nat => .num (n : Int))]
theorem nums_inj : ∀ {a b : List Nat}, (a.map fun n : Nat => NestedKey.num (n : Int)) = b.map (fun n : Nat => NestedKey.num (n : Int)) → a = b
  | [], [], _ => rfl
  | [], _ :: _, e => nomatch e
  | _ :: _, [], e => nomatch e
  | x :: xs, y :: ys, e => by
    rw [List.map_cons, List.map_cons] at e
    injection e with e1 e2
    injection e1 with e1
    rw [nums_inj e2]
    congr 1
    exact Int.ofNat.inj e1
theorem nk_inj {p q : NK} (h : nk p = nk q) : p = q := by
  obtain ⟨a, b⟩ := p
  obtain ⟨c, d⟩ := q
  unfold nk at h
  injection h with h
  injection h with h1 h2
  injection h1 with h1
  injection h2 with h2 _
  injection h2 with h2
  have e1 : a = c := h1
  have e2 : b = d := nums_inj h2
  rw [e1, e2]
theorem nums_depth : ∀ ns : List Nat, NestedKey.depthAll (ns.map fun n : Nat => NestedKey.num (n : Int)) = 0
  | [] => rfl
  | x :: xs => by
    rw [List.map_cons, NestedKey.depthAll, nums_depth xs]
    rfl
theorem nk_depth (p : NK) : (nk p).depth ≤ 8 := by
  unfold nk
  simp [NestedKey.depth, NestedKey.depthAll, nums_depth]
def KeyAt (H : Hp) (b : Addr) (p : NK) : Prop := ∃ t, H b = some (.tup [.str p.1, .ref t]) ∧ H t = some (.tup (p.2.map fun n : Nat => V.int (n : Int)))
theorem KeyAt.keeps {H H' : Hp} {b : Addr} {p : NK} (h : KeyAt H b p) (k : ∀ c xs, H c = some (.tup xs) → H' c = some (.tup xs)) : KeyAt H' b p := by
  obtain ⟨t, h1, h2⟩ := h
  exact ⟨t, k _ _ h1, k _ _ h2⟩
theorem nested_nums {h : Heap} : ∀ {ns : List Nat} {us : List Value}, Vals (ns.map fun n : Nat => V.int (n : Int)) us → NestedAll h (ns.map fun n : Nat => NestedKey.num (n : Int)) us
  | [], _, r => by
    cases r
    exact .nil
  | n :: ns, _, r => by
    rw [List.map_cons] at r
    cases r with
    | cons h1 t =>
      obtain ⟨tk, rfl⟩ := (show ∃ t, _ = Value.int (n : Int) t from h1)
      rw [List.map_cons]
      exact .cons (.int _ tk) (nested_nums t)
section
variable {P : Program} {w : World} {H : Hp} {h : Heap} {a b d : Addr}
theorem keyN {p : NK} (ok : HOk P w H h) (e : KeyAt H b p) : (nestedKind P w).is h (nk p) b := by
  obtain ⟨t, e1, e2⟩ := e
  obtain ⟨_, its, r, o, h1, h2, n, h3⟩ := (show ObjOk P w H h b (.tup [.str p.1, .ref t]) from ok b _ e1)
  obtain ⟨_, its2, r2, o2, g1, g2, n2, g3⟩ := (show ObjOk P w H h t (.tup (p.2.map fun n : Nat => V.int (n : Int))) from ok t _ e2)
  refine ⟨?_, nk_depth p⟩
  cases r with
  | cons r1 r =>
    cases r with
    | cons r3 r =>
      cases r
      obtain ⟨tk, rfl⟩ := (show ∃ t, _ = Value.str p.1 t from r1)
      cases (show _ = Value.ref t from r3)
      exact .tup h1 h2 h3 (.cons (.text _ tk) (.cons (.tup g1 g2 g3 (by simpa using nested_nums r2)) .nil))
def DN (P : Program) (w : World) (d : Addr) (xs : List (NestedKey × Addr × Value)) : HO :=
  .ext fun h => (d == sysModules) = false ∧ ∃ o es ep, h.get? d = some o ∧ o.ExactDict ∧ o.data = .dict es ep ∧ es.toList = xs.map (entryOfKey (nestedKind P w)) ∧ (xs.map (·.1)).Nodup
abbrev KN (H : Hp) : List (NK × V) → List (NestedKey × Addr × Value) → Prop := Paired fun p q => q.1 = nk p.1 ∧ KeyAt H q.2.1 p.1 ∧ RelV p.2 q.2.2
def NAt (P : Program) (w : World) (H : Hp) (d : Addr) (kvs : List (NK × V)) : Prop := kvs.length ≤ sizeLine ∧ ((kvs = [] ∧ H d = some (.dK [])) ∨ ∃ xs, H d = some (DN P w d xs) ∧ KN H kvs xs)
theorem KN.val {H : Hp} {kvs : List (NK × V)} {xs : List (NestedKey × Addr × Value)} (r : KN H kvs xs) (k : NK) : RelO (valV kvs k) ((atKey xs (nk k)).map (·.2)) := by
  induction r with
  | nil => exact True.intro
  | @cons p q ps qs h t ih =>
    obtain ⟨h1, _, h2⟩ := h
    by_cases e : p.1 = k
    · have e' : q.1 = nk k := h1.trans (congrArg nk e)
      have b : atKey (q :: qs) (nk k) = some q.2 := by simp [atKey, List.find?_cons, e']
      rw [valV_pos e, b]; exact h2
    · have e' : ¬ q.1 = nk k := fun z => e (nk_inj (h1.symm.trans z))
      have b : atKey (q :: qs) (nk k) = atKey qs (nk k) := by simp [atKey, List.find?_cons, e']
      rw [valV_neg e, b]; exact ih
theorem KN.repl {H : Hp} {kvs : List (NK × V)} {xs : List (NestedKey × Addr × Value)} (r : KN H kvs xs) (k : NK) {y : V} {u : Value} (ry : RelV y u) :
    KN H (kvs.map fun kv => if kv.1 = k then (kv.1, y) else kv) (xs.map (putAt (nk k) u)) := by
  induction r with
  | nil => exact .nil
  | @cons p q ps qs h t ih =>
    rw [List.map_cons, List.map_cons]
    refine .cons ?_ ih
    obtain ⟨h1, h2, h3⟩ := h
    unfold putAt
    by_cases e : p.1 = k
    · rw [if_pos e, if_pos (h1.trans (congrArg nk e))]; exact ⟨h1, h2, ry⟩
    · rw [if_neg e, if_neg (fun z => e (nk_inj (h1.symm.trans z)))]; exact ⟨h1, h2, h3⟩
theorem KN.put {H : Hp} {kvs : List (NK × V)} {xs : List (NestedKey × Addr × Value)} (r : KN H kvs xs) (k : NK) {b : Addr} {y : V} {u : Value} (hb : KeyAt H b k) (ry : RelV y u) :
    KN H (putK kvs k y) (storedH xs (nk k) b u) := by
  have e : (kvs.any fun kv => decide (kv.1 = k)) = (atKey xs (nk k)).isSome := by
    rw [valV_any, (r.val k).isSome_eq, Option.isSome_map]
  unfold putK storedH
  rw [e]
  by_cases q : (atKey xs (nk k)).isSome = true
  · rw [if_pos q, if_pos q]; exact r.repl k ry
  · rw [if_neg q, if_neg q]; exact Paired.snoc r ⟨rfl, hb, ry⟩
theorem KN.keeps {H H' : Hp} {kvs : List (NK × V)} {xs : List (NestedKey × Addr × Value)} (r : KN H kvs xs) (ht : ∀ b ys, H b = some (.tup ys) → H' b = some (.tup ys)) : KN H' kvs xs :=
  Paired.mapP r fun _ _ z => ⟨z.1, z.2.1.keeps ht, z.2.2⟩
theorem n_of {kvs : List (NK × V)} (ok : HOk P w H h) (g : NAt P w H d kvs) : (d == sysModules) = false ∧ ∃ xs, KN H kvs xs ∧ h.DictOfH (nestedKind P w) d xs := by
  obtain ⟨_, ⟨rfl, e⟩ | ⟨xs, e, r⟩⟩ := g
  · obtain ⟨_, hd, vs, rel, o, es, ep, h1, h2, h3, _, h5, _⟩ := dk_of ok e
    cases rel
    refine ⟨hd, [], .nil, o, es, ep, h1, h2, h3, ?_, (fun x hx => nomatch hx), List.nodup_nil⟩
    generalize es.toList = l at h5
    cases h5
    rfl
  · obtain ⟨⟨hd, o, es, ep, h1, h2, h3, h4, h5⟩, _⟩ := (show ObjOk P w H h d (DN P w d xs) from ok d _ e)
    refine ⟨hd, xs, r, o, es, ep, h1, h2, h3, h4, fun x hx => ?_, h5⟩
    have all : ∀ {l : List (NK × V)} {m : List (NestedKey × Addr × Value)}, KN H l m → ∀ x ∈ m, (nestedKind P w).is h x.1 x.2.1 := by
      intro l m q
      induction q with
      | nil => intro x hx; exact nomatch hx
      | @cons p q ps qs hq t ih =>
        intro x hx
        rcases List.mem_cons.mp hx with e | hx
        · subst e
          rw [hq.1]
          exact keyN ok hq.2.1
        · exact ih x hx
    exact all r x hx
theorem NAt.mut {kvs : List (NK × V)} (g : NAt P w H d kvs) : Mut (H d) := by
  obtain ⟨_, ⟨_, e⟩ | ⟨xs, e, _⟩⟩ := g
  · rw [e]
    exact True.intro
  · rw [e]
    exact True.intro
theorem NAt.notup {kvs : List (NK × V)} (g : NAt P w H d kvs) {ys : List V} : H d ≠ some (.tup ys) := by
  obtain ⟨_, ⟨_, e⟩ | ⟨xs, e, _⟩⟩ := g
  · rw [e]
    exact fun z => nomatch z
  · rw [e]
    exact fun z => nomatch z
theorem NAt.same {H' : Hp} {kvs : List (NK × V)} (g : NAt P w H d kvs) (hd : ∀ o, H d = some o → H' d = some o) (ht : ∀ b ys, H b = some (.tup ys) → H' b = some (.tup ys)) : NAt P w H' d kvs := by
  obtain ⟨z, ⟨e0, e⟩ | ⟨xs, e, r⟩⟩ := g
  · exact ⟨z, .inl ⟨e0, hd _ e⟩⟩
  · exact ⟨z, .inr ⟨xs, hd _ e, r.keeps ht⟩⟩
theorem NAt.new (e : H d = some (.dK [])) : NAt P w H d [] := ⟨Nat.zero_le _, .inl ⟨rfl, e⟩⟩
end
section
variable {X : Cx} {pins : List (Addr × Obj)} {σ : L2.St} {H : Hp} {s : Shared} {a b : Addr} {p : NK} {kvs : List (NK × V)} {v : V} {u r : Value} {A : Around} {E : Value → Shared → Prop}
theorem n_getItem {Q : Value → Shared → Prop} (hu : A.units + 9 < cLine) (I : Inv X pins σ H s) (g : NAt X.prog X.w H a kvs) (kb : KeyAt H b p) (hv : valV kvs p = some v) (h : ∀ w' s', Inv X pins σ H s' → RelV v w' → Q w' s') :
    wpAny (model X.prog X.w) A (getItem (.ref a) (.ref b)) Q E s := by
  obtain ⟨hd, xs, rel, dd⟩ := n_of I.hok g
  obtain ⟨w', hw, rw'⟩ := RelO.some_of (v := v) (o := (atKey xs (nk p)).map (·.2)) (by rw [← hv]; exact rel.val p)
  obtain ⟨q, hp, hp2⟩ := Option.map_eq_some_iff.mp hw
  refine wpAny_getItem_heap (show (nestedKind X.prog X.w).room A.in1 from (by show A.units + 1 + 8 < cLine; omega)) (keyN I.hok kb) dd hp ?_
  rw [hp2]
  exact h w' _ (I.tok _) rw'
theorem n_notIn {Q : Value → Shared → Prop} (hu : A.units + 9 < cLine) (I : Inv X pins σ H s) (g : NAt X.prog X.w H a kvs) (kb : KeyAt H b p) (h : ∀ s', Inv X pins σ H s' → Q (.bool (!(valV kvs p).isSome)) s') :
    wpAny (model X.prog X.w) A (compareOp .NotIn (.ref b) (.ref a)) Q E s := by
  obtain ⟨hd, xs, rel, dd⟩ := n_of I.hok g
  refine wpAny_notIn_heap (show (nestedKind X.prog X.w).room A.in1 from (by show A.units + 1 + 8 < cLine; omega)) (keyN I.hok kb) hd dd ?_
  have q := (rel.val p).isSome_eq
  rw [Option.isSome_map] at q
  rw [← q]
  exact h _ (I.tok _)
theorem n_setItem {Q : Unit → Shared → Prop} (hu : A.units + 9 < cLine) (I : Inv X pins σ H s) (g : NAt X.prog X.w H a kvs) (hl : kvs.length < sizeLine) (kb : KeyAt H b p) (rv : RelV v r)
    (h : ∀ o s', NAt X.prog X.w (upd H a o) a (putK kvs p v) → Inv X pins σ (upd H a o) s' → Q () s') : wpAny (model X.prog X.w) A (setItem (.ref a) (.ref b) r) Q E s := by
  obtain ⟨hd, xs, rel, dd⟩ := n_of I.hok g
  have hz : xs.length ≤ sizeLine := by rw [← Paired.length rel]; exact Nat.le_of_lt hl
  refine wpAny_setItem_heap (hsz := hz) (show (nestedKind X.prog X.w).room A.in1 from (by show A.units + 1 + 8 < cLine; omega)) (keyN I.hok kb) dd fun h' dd' hs => ?_
  obtain ⟨q, es, ep, hq, h2, h3, h4, _, h5⟩ := dd'
  have keep : ∀ c ys, H c = some (.tup ys) → upd H a (DN X.prog X.w a (storedH xs (nk p) b r)) c = some (.tup ys) := fun c ys ec => by
    have ne : c ≠ a := fun z => g.notup (z ▸ ec)
    rw [upd_ne ne]
    exact ec
  refine h (DN X.prog X.w a (storedH xs (nk p) b r)) _ ⟨?_, .inr ⟨_, upd_same, (rel.put p kb rv).keeps keep⟩⟩ (d_write I g.mut hs ⟨q, hq⟩ ⟨⟨hd, q, es, ep, hq, h2, h3, h4, h5⟩, ⟨q, hq⟩, ?_⟩)
  · have := length_putK kvs p v
    omega
  · rintro h1 h2' ⟨e0, o, es, ep, x1, x2⟩ k
    exact ⟨e0, o, es, ep, k _ x1, x2⟩
end
/-- d[y], y not in d, d[y] = v -/
def tNGet (P : Program) (w : World) (td ty : TE) : TE := fun σ H Q => td σ H fun x H1 => ty σ H1 fun y H2 => ∃ a b p kvs v, x = .ref a ∧ y = .ref b ∧ NAt P w H2 a kvs ∧ KeyAt H2 b p ∧ valV kvs p = some v ∧ Q v H2
def tNNotIn (P : Program) (w : World) (ty td : TE) : TE := fun σ H Q => ty σ H fun y H1 => td σ H1 fun x H2 => ∃ a b p kvs, x = .ref a ∧ y = .ref b ∧ NAt P w H2 a kvs ∧ KeyAt H2 b p ∧ Q (.bl (!(valV kvs p).isSome)) H2
def sNPut (P : Program) (w : World) (td ty tv : TE) : TS := fun D σ H => tv σ H fun v H1 => td σ H1 fun x H2 => ty σ H2 fun y H3 => ∃ a b p kvs, x = .ref a ∧ y = .ref b ∧ NAt P w H3 a kvs ∧ KeyAt H3 b p ∧ kvs.length < sizeLine ∧
  ∀ o, NAt P w (upd H3 a o) a (putK kvs p v) → D.nx σ (upd H3 a o)
section
variable {X : Cx} {o i value : Expr} {td ty tv : TE} {pos pos' : Pos}
theorem pe_nget (hu : X.A.units + 9 < cLine) (ho : PE X o td) (hi : PE X i ty) (hs : NoSl i) : PE X (.Subscript o i pos) (tNGet X.prog X.w td ty) := by
  refine ⟨fun pins s σ H Q I h => ?_⟩
  refine subD_of PySem.F.slot_dict_getitem.lookup hs (thn (ho.run pins s σ H _ I h) fun u s1 ⟨x, H1, I1, rx, q1⟩ => thn (hi.run pins s1 σ H1 _ I1 q1) fun iv s2 ⟨y, H2, I2, ry, a, b, p, kvs, v, ex, ey, g, kb, hv, q2⟩ => ?_)
  subst ex ey
  obtain rfl : u = Value.ref a := rx
  obtain rfl : iv = Value.ref b := ry
  obtain ⟨_, xs, _, dd⟩ := n_of I2.hok g
  exact ⟨dd.typeIs, n_getItem hu I2 g kb hv fun w' s3 I3 rw' => ⟨v, H2, I3, rw', q2⟩⟩
theorem pc_nnotin (hu : X.A.units + 9 < cLine) (hi : PE X i ty) (ho : PE X o td) : PC X .NotIn i o (tNNotIn X.prog X.w ty td) := by
  refine ⟨fun pins s σ H Q I h => ?_⟩
  refine thn (hi.run pins s σ H _ I h) fun iv s1 ⟨y, H1, I1, ry, q1⟩ => thn (ho.run pins s1 σ H1 _ I1 q1) fun u s2 ⟨x, H2, I2, rx, a, b, p, kvs, ex, ey, g, kb, q2⟩ => ?_
  subst ex ey
  obtain rfl : u = Value.ref a := rx
  obtain rfl : iv = Value.ref b := ry
  exact n_notIn hu I2 g kb fun s3 I3 => ⟨.bl (!(valV kvs p).isSome), H2, I3, rfl, q2⟩
theorem ps_nput (hu : X.A.units + 9 < cLine) (ho : PE X o td) (hi : PE X i ty) (hv : PE X value tv) (hs : swapsWith value (some (.Subscript o i pos')) pos.line X.env = pure false) :
    PS X (.Assign [.Subscript o i pos'] value pos) (sNPut X.prog X.w td ty tv) := by
  refine ⟨fun pins s σ H D I h => ?_⟩
  refine wpAny_Assign_Subscript (thn (hv.run pins s σ H _ I h) fun r s1 ⟨v, H1, I1, rv, q1⟩ => thn (ho.run pins s1 σ H1 _ I1 q1) fun u s2 ⟨x, H2, I2, rx, q2⟩ => thn (hi.run pins s2 σ H2 _ I2 q2) fun iv s3 ⟨y, H3, I3, ry, a, b, p, kvs, ex, ey, g, kb, hl, q3⟩ => ?_) hs
  subst ex ey
  obtain rfl : u = Value.ref a := rx
  obtain rfl : iv = Value.ref b := ry
  exact n_setItem hu I3 g hl kb rv fun o s4 g4 I4 => ⟨σ, _, I4, q3 o g4⟩
end
end Lk

/-! Obj0 -/
set_option Elab.async false
set_option maxRecDepth 100000
set_option linter.all false
set_option maxHeartbeats 4000000
namespace Lk
open PySem PySem.Spec PyProof.Rows L2
/-! ### own classes: their methods, called -/
/-- a method of the class at C, as it stands behind the top -/
structure DefM (K : PySem.W.Frag) (C : Addr) (m qn : String) (st : Stmt) : Prop where
  ex : ∃ (f : Addr) (fd : FuncData), L2.Fun K m qn st f fd ∧ Meth K C m f
/-- a class that is made by its own __init__ -/
structure Kls (K : PySem.W.Frag) (mg : Str → Option Value) (x : String) (C : Addr) : Prop where
  cl : Cls K C
  makes : PySem.W.makesIn K C = true
  kp : PySem.W.keepIn K (.ref C) = true
  mgC : mg x = some (.ref C)
/-- a method that may be called, with its promise -/
structure MCal (P : Program) (w : World) (K : PySem.W.Frag) (mg : Str → Option Value) (base : Heap) (C : Addr) (k : Nat) (m : String) (sp : Sp) : Prop where
  ex : ∃ (f : Addr) (fd : FuncData) (ps : List Str), FnOk P w K mg base CX0 k f fd ps sp ∧ Meth K C m f ∧ Binds K fd ps []
section
variable {P : Program} {w : World} {K : PySem.W.Frag} {mg : Str → Option Value} {base : Heap} {C : Addr}
theorem mkMCal {m qn : String} {st : Stmt} {N ps : List Str} {k : Nat} {sp : Sp} (D : DefM K C m qn st) (S : FnScope N ps (defScope st))
    (hb : ∀ (kV doc pm : Value) (an : Option Addr) (cdv ct : Value) (us : List Value), us.length = ps.length → bindArgs (PySem.W.fnOf m qn (defArgs st) (defBody st) (defScope st) .none kV doc pm an cdv ct) ⟨us, []⟩ = pure (ps.zip us))
    (len : ∀ vs H Q E, sp vs H Q E → vs.length = ps.length)
    (hbody : ∀ (f : Addr) (cdv : Value) (A : Around) (outer : List Env) (s : Shared) (H : Hp) (vs : List V) (Q : VK) (E : XK), Room k (A.deeper (envOfC qn (defScope st) s.heap.objs.size f cdv)) → sp vs H Q E →
      ∃ t, PSs (cxOf CX0 P w K mg base N qn (defScope st) f cdv A outer s H E).nox (defBody st) t ∧ t { nx := fun _ H' => Q .non H', rt := Q } (start N vs) H) : MCal P w K mg base C (k + 1) m sp := by
  obtain ⟨f, fd, F, m⟩ := D.ex
  exact ⟨f, fd, ps, F.ok S len fun cdv A outer s H vs Q E hr h => hbody f cdv A outer s H vs Q E hr h, m, F.binds hb⟩
theorem MCal.imp {m : String} {k : Nat} {sp sp' : Sp} (c : MCal P w K mg base C k m sp) (h : ∀ vs H Q E, sp' vs H Q E → sp vs H Q E) : MCal P w K mg base C k m sp' := by
  obtain ⟨f, fd, ps, F, a, b⟩ := c.ex
  exact ⟨f, fd, ps, F.imp h, a, b⟩
theorem MCal.mono {m : String} {j k : Nat} {sp : Sp} (c : MCal P w K mg base C j m sp) (h : j ≤ k) : MCal P w K mg base C k m sp := by
  obtain ⟨f, fd, ps, F, a, b⟩ := c.ex
  exact ⟨f, fd, ps, F.mono h, a, b⟩
/-- a promise that nobody can ask for -/
theorem mcal_never {m qn : String} {st : Stmt} {ps : List Str} {k : Nat} {sp : Sp} (D : DefM K C m qn st)
    (hb : ∀ (kV doc pm : Value) (an : Option Addr) (cdv ct : Value) (us : List Value), us.length = ps.length → bindArgs (PySem.W.fnOf m qn (defArgs st) (defBody st) (defScope st) .none kV doc pm an cdv ct) ⟨us, []⟩ = pure (ps.zip us))
    (no : ∀ vs H Q E, ¬ sp vs H Q E) : MCal P w K mg base C k m sp := by
  obtain ⟨f, fd, F, m⟩ := D.ex
  exact ⟨f, fd, ps, ⟨fun vs H Q E h => absurd h (no vs H Q E), fun A outer s H args us vs Q E _ _ _ _ h => absurd h (no vs H Q E)⟩, m, F.binds hb⟩
theorem Cal.mono {x : String} {j k : Nat} {sp : Sp} (c : Cal P w K mg base j x sp) (h : j ≤ k) : Cal P w K mg base k x sp := by
  obtain ⟨f, fd, ps, F, a, b, d⟩ := c.ex
  exact ⟨f, fd, ps, F.mono h, a, b, d⟩
theorem cal_never {x : String} {st : Stmt} {ps : List Str} {k : Nat} {sp : Sp} (D : Def1 K mg x st)
    (hb : ∀ (kV doc pm : Value) (an : Option Addr) (cdv ct : Value) (us : List Value), us.length = ps.length → bindArgs (PySem.W.fnOf x x (defArgs st) (defBody st) (defScope st) .none kV doc pm an cdv ct) ⟨us, []⟩ = pure (ps.zip us))
    (no : ∀ vs H Q E, ¬ sp vs H Q E) : Cal P w K mg base k x sp := by
  obtain ⟨f, fd, F, m⟩ := D.ex
  exact ⟨f, fd, ps, ⟨fun vs H Q E h => absurd h (no vs H Q E), fun A outer s H args us vs Q E _ _ _ _ h => absurd h (no vs H Q E)⟩, m, F.kp, F.binds hb⟩
end
theorem u9 {k : Nat} {A : Around} (r : Room k A) : A.units + 9 < cLine := by
  have := r.units
  omega
section
variable {X : Cx} {k j : Nat} {C : Addr} {m x : String} {sp : Sp} {p pos apos : Pos} {o e : Expr} {es : List Expr} {ta : TE} {t : TA}
theorem pe_mcal {pl : Sem Bool} (c : MCal X.prog X.w X.K X.mg X.base C k m sp) (cl : Cls X.K C) (hr : Room j X.A) (hk : k ≤ j) (he : PE X o ta) (ha : PA X (e :: es) t)
    (hst : starEach (e :: es) X.env = (false, eval e X.env) :: starEach es X.env := by rfl) (hpl : (backTo pos (starEach es X.env)).any (·.1) = false := by rfl)
    (ht : eval (.Call (.Attribute o m apos) (e :: es) [] pos) X.env = (do
      let ov ← eval o X.env
      standAt apos.atName
      let (f, first) ← holding [ov] (getMethod ov m pl)
      callWith pos f first (backTo pos (starEach (e :: es) X.env)) (backToKw pos (keywordEach [] X.env))) := by rfl) :
    PE X (.Call (.Attribute o m apos) (e :: es) [] pos) (tMeth C m sp [] E0 ta t) := by
  obtain ⟨f, fd, ps, F, hm, b⟩ := c.ex
  exact pe_meth he cl hm F (hr.mono hk) b .nil pass0 ha hst hpl ht
theorem pe_mcal0 {pl : Sem Bool} (c : MCal X.prog X.w X.K X.mg X.base C k m sp) (cl : Cls X.K C) (hr : Room j X.A) (hk : k ≤ j) (he : PE X o ta)
    (ht : eval (.Call (.Attribute o m apos) [] [] pos) X.env = (do
      let ov ← eval o X.env
      standAt apos.atName
      let (f, first) ← holding [ov] (getMethod ov m pl)
      callWith pos f first (backTo pos (starEach [] X.env)) (backToKw pos (keywordEach [] X.env))) := by rfl) :
    PE X (.Call (.Attribute o m apos) [] [] pos) (tMeth C m sp [] E0 ta tNil) := by
  obtain ⟨f, fd, ps, F, hm, b⟩ := c.ex
  exact pe_meth0 he cl hm F (hr.mono hk) b .nil pass0 ht
theorem pe_new (c : MCal X.prog X.w X.K X.mg X.base C k "__init__" sp) (Z : Kls X.K X.mg x C) (hr : Room j X.A) (hk : k + 1 ≤ j) (ha : PA X (e :: es) t) (hg : Gl X x := by rfl)
    (hdb : ((x : Str) == ("__debug__" : Str)) = false := by decide) (he : starEach (e :: es) X.env = (false, eval e X.env) :: starEach es X.env := by rfl) (hpl : (backTo pos (starEach es X.env)).any (·.1) = false := by rfl) :
    PE X (.Call (.Name x p) (e :: es) [] pos) (tMake C sp [] E0 t) := by
  obtain ⟨f, fd, ps, F, hm, b⟩ := c.ex
  exact pe_make ⟨Z.makes, hm.at_, hm.fn, Z.kp⟩ F (hr.mono hk) hg Z.mgC b .nil pass0 ha hdb he hpl
end
/-! within a comprehension: the reading speaks of K, not of the frame's own -/
theorem inL {X : Cx} {K : PySem.W.Frag} {tg l : Expr} {tl : TE} (h : PE X l tl) (e : X.K = K := by rfl) : PI X tg l (iList K tl) := e ▸ pi_list h
theorem inT {X : Cx} {K : PySem.W.Frag} {tg l : Expr} {tl : TE} (h : PE X l tl) (e : X.K = K := by rfl) : PI X tg l (iTup K tl) := e ▸ pi_tup h
/-! ### data of tuples and texts alone: it stands while one other thing is written -/
mutual
def onlyT : PyData → Bool
  | .none | .bool _ | .int _ | .str _ => true
  | .list _ => false
  | .tuple xs => onlyTs xs
  | .dict _ => false
def onlyTs : List PyData → Bool
  | [] => true
  | x :: xs => onlyT x && onlyTs xs
end
theorem onlyTs_all : ∀ {ds : List PyData}, onlyTs ds = true ↔ ∀ d ∈ ds, onlyT d = true
  | [] => ⟨(fun _ _ m => nomatch m), (fun _ => rfl)⟩
  | d :: ds => by
    rw [onlyTs, Bool.and_eq_true, onlyTs_all]
    exact ⟨fun h e m => (List.mem_cons.mp m).elim (fun z => z ▸ h.1) (h.2 e), fun h => ⟨h d List.mem_cons_self, fun e m => h e (List.mem_cons_of_mem _ m)⟩⟩
/-- all tuples and all that is locked stand -/
def Tups (H H' : Hp) : Prop := (∀ b xs, H b = some (.tup xs) → H' b = some (.tup xs)) ∧ ∀ b o u, H b = some (.frz o u) → H' b = some (.frz o u)
theorem Tups.seqT {K : PySem.W.Frag} {H H' : Hp} {a : Addr} {xs : List V} (t : Tups H H') (h : SqT K H a xs) : SqT K H' a xs := by
  rcases h with (h | ⟨o, h⟩) | h
  · exact .inl (.inl (t.1 _ _ h))
  · exact .inl (.inr ⟨o, t.2 _ _ _ h⟩)
  · exact .inr h
theorem Same.tups {H H' : Hp} (s : Same H H') : Tups H H' := ⟨fun b xs h => s _ _ h, fun b o u h => s _ _ h⟩
theorem Tups.trans {H H1 H2 : Hp} (a : Tups H H1) (b : Tups H1 H2) : Tups H H2 := ⟨fun c xs h => b.1 _ _ (a.1 _ _ h), fun c o u h => b.2 _ _ _ (a.2 _ _ _ h)⟩
theorem But.tups {d : Addr} {H H' : Hp} (b : But d H H') (h1 : ∀ ys, H d ≠ some (.tup ys)) (h2 : ∀ o u, H d ≠ some (.frz o u)) : Tups H H' :=
  ⟨fun c xs h => b _ _ h fun z => h1 xs (z ▸ h), fun c o u h => b _ _ h fun z => h2 o u (z ▸ h)⟩
theorem th_tups {K : PySem.W.Frag} {H H' : Hp} (t : Tups H H') {v : V} {d : PyData} (h : Th K H v d) : onlyT d = true → Th K H' v d := by
  refine Th.rec (motive_1 := fun v d _ => onlyT d = true → Th K H' v d) (motive_2 := fun vs ds _ => onlyTs ds = true → ThAll K H' vs ds) ?_ ?_ ?_ ?_ ?_ ?_ ?_ ?_ ?_ h
  · exact fun _ => .non
  · exact fun b _ => .bl b
  · exact fun i _ => .int i
  · exact fun x _ => .str x
  · exact fun _ _ _ n => nomatch n
  · exact fun hs _ ih n => .tup (t.seqT hs) (ih n)
  · exact fun _ _ _ _ n => nomatch n
  · exact fun _ => .nil
  · intro v vs d ds _ _ i1 i2 n
    have n2 : onlyT d = true ∧ onlyTs ds = true := by simpa only [onlyTs, Bool.and_eq_true] using n
    exact .cons (i1 n2.1) (i2 n2.2)
theorem thAll_tups {K : PySem.W.Frag} {H H' : Hp} (t : Tups H H') : ∀ {vs : List V} {ds : List PyData}, ThAll K H vs ds → onlyTs ds = true → ThAll K H' vs ds
  | _, _, .nil, _ => .nil
  | _ :: _, d :: ds, .cons h r, n => by
    have n2 : onlyT d = true ∧ onlyTs ds = true := by simpa only [onlyTs, Bool.and_eq_true] using n
    exact .cons (th_tups t h n2.1) (thAll_tups t r n2.2)
theorem NAt.nofrz {P : Program} {w : World} {H : Hp} {d : Addr} {kvs : List (NK × V)} (g : NAt P w H d kvs) {o : Obj} {u : HO} : H d ≠ some (.frz o u) := by
  obtain ⟨_, ⟨_, e⟩ | ⟨xs, e, _⟩⟩ := g
  · rw [e]
    exact fun z => nomatch z
  · rw [e]
    exact fun z => nomatch z
theorem But.trans {d : Addr} {H H1 H2 : Hp} (a : But d H H1) (b : But d H1 H2) : But d H H2 := fun q o h n => b q o (a q o h n) n
theorem But.same {d : Addr} {H H1 H2 : Hp} (a : But d H H1) (b : Same H1 H2) : But d H H2 := fun q o h n => b q o (a q o h n)
theorem But.refl (d : Addr) (H : Hp) : But d H H := fun _ _ h _ => h
theorem Same.but {d : Addr} {H H1 : Hp} (a : Same H H1) : But d H H1 := fun q o h _ => a q o h
theorem But.upd {d : Addr} {H H1 : Hp} {o : HO} (a : But d H H1) : But d H (upd H1 d o) := fun q u h n => by
  rw [upd_ne n]
  exact a q u h n
theorem But.upd2 {d p : Addr} {H H1 : Hp} {o : HO} (a : But d H H1) (n : H p = none) : But d H (L2.upd H1 p o) := fun q u h nq => by
  rw [upd_ne (ne_of_none h n)]
  exact a q u h nq
theorem But.free {d : Addr} {H H1 : Hp} {q : Addr} (a : But d H H1) (h : H1 q = none) (n : q ≠ d) : H q = none := by
  cases e : H q with
  | none => rfl
  | some o =>
    rw [a q o e n] at h
    cases h
theorem putK_mem {κ : Type} [DecidableEq κ] {kvs : List (κ × V)} {k : κ} {v : V} {p : κ × V} (h : p ∈ putK kvs k v) : p ∈ kvs ∨ p = (k, v) := by
  unfold putK at h
  split at h
  · obtain ⟨q, hq, rfl⟩ := List.mem_map.mp h
    by_cases e : q.1 = k
    · rw [if_pos e, ← e]
      exact .inr (by rw [e])
    · rw [if_neg e]
      exact .inl hq
  · rcases List.mem_append.mp h with h | h
    · exact .inl h
    · exact .inr (List.mem_singleton.mp h)
theorem putK_keys {κ : Type} [DecidableEq κ] {kvs : List (κ × V)} {k : κ} {v : V} (h : (kvs.map (·.1)).Nodup) : ((putK kvs k v).map (·.1)).Nodup := by
  unfold putK
  split
  · have e : (kvs.map fun kv => if kv.1 = k then (kv.1, v) else kv).map (·.1) = kvs.map (·.1) := by
      rw [List.map_map]
      refine List.map_congr_left fun q _ => ?_
      show (if q.1 = k then (q.1, v) else q).1 = q.1
      split <;> rfl
    rw [e]
    exact h
  · rename_i n
    rw [List.map_append, List.nodup_append]
    refine ⟨h, List.nodup_cons.mpr ⟨(fun z => nomatch z), List.nodup_nil⟩, fun a ha b hb e => n ?_⟩
    have hb2 : b = k := by simpa using hb
    obtain ⟨q, hq, e2⟩ := List.mem_map.mp ha
    exact List.any_eq_true.mpr ⟨q, hq, decide_eq_true (e2.trans (e.trans hb2))⟩
theorem valV_mem {κ : Type} [DecidableEq κ] {kvs : List (κ × V)} {k : κ} {v : V} (h : valV kvs k = some v) : (k, v) ∈ kvs := by
  unfold valV at h
  obtain ⟨q, hq, e⟩ := Option.map_eq_some_iff.mp h
  have a := List.find?_some hq
  have b := List.mem_of_find?_eq_some hq
  have c : q.1 = k := of_decide_eq_true a
  rw [← c, ← e]
  exact b
theorem valV_put_self {κ : Type} [DecidableEq κ] {kvs : List (κ × V)} {k : κ} {v : V} : valV (putK kvs k v) k = some v := by
  rw [valV_put, if_pos rfl]
end Lk

/-! Xm0 -/
set_option Elab.async false
set_option maxRecDepth 100000
set_option linter.all false
set_option maxHeartbeats 4000000
namespace Lk
open PySem PySem.Spec PyProof.Rows L2
/-! ### methods that may raise -/
structure MCalX (P : Program) (w : World) (K : PySem.W.Frag) (mg : Str → Option Value) (base : Heap) (C : Addr) (k : Nat) (m : String) (sp : Sp) : Prop where
  ex : ∃ (f : Addr) (fd : FuncData) (ps : List Str), FnOk P w K mg base (L2.CX P w) k f fd ps sp ∧ Meth K C m f ∧ Binds K fd ps []
section
variable {P : Program} {w : World} {K : PySem.W.Frag} {mg : Str → Option Value} {base : Heap} {C : Addr}
theorem mkMCalX {m qn : String} {st : Stmt} {N ps : List Str} {k : Nat} {sp : Sp} (D : DefM K C m qn st) (S : FnScope N ps (defScope st))
    (hb : ∀ (kV doc pm : Value) (an : Option Addr) (cdv ct : Value) (us : List Value), us.length = ps.length → bindArgs (PySem.W.fnOf m qn (defArgs st) (defBody st) (defScope st) .none kV doc pm an cdv ct) ⟨us, []⟩ = pure (ps.zip us))
    (len : ∀ vs H Q E, sp vs H Q E → vs.length = ps.length)
    (hbody : ∀ (f : Addr) (cdv : Value) (A : Around) (outer : List Env) (s : Shared) (H : Hp) (vs : List V) (Q : VK) (E : XK), Room k (A.deeper (envOfC qn (defScope st) s.heap.objs.size f cdv)) → sp vs H Q E →
      ∃ t, PSs (cxOf (L2.CX P w) P w K mg base N qn (defScope st) f cdv A outer s H E) (defBody st) t ∧ t { nx := fun _ H' => Q .non H', rt := Q } (start N vs) H) : MCalX P w K mg base C (k + 1) m sp := by
  obtain ⟨f, fd, F, m⟩ := D.ex
  exact ⟨f, fd, ps, F.okX S len fun cdv A outer s H vs Q E hr h => hbody f cdv A outer s H vs Q E hr h, m, F.binds hb⟩
theorem MCalX.mono {m : String} {j k : Nat} {sp : Sp} (c : MCalX P w K mg base C j m sp) (h : j ≤ k) : MCalX P w K mg base C k m sp := by
  obtain ⟨f, fd, ps, F, a, b⟩ := c.ex
  exact ⟨f, fd, ps, F.mono h, a, b⟩
theorem CalX.mono {x : String} {j k : Nat} {sp : Sp} (c : CalX P w K mg base j x sp) (h : j ≤ k) : CalX P w K mg base k x sp := by
  obtain ⟨f, fd, ps, F, a, b, d⟩ := c.ex
  exact ⟨f, fd, ps, FnOk.mono F h, a, b, d⟩
end
section
variable {X : Cx} {k j : Nat} {C : Addr} {m x : String} {sp : Sp} {p pos apos : Pos} {o e : Expr} {es : List Expr} {ta : TE} {t : TA}
theorem pe_mcalX {E : XK} {pl : Sem Bool} (c : MCalX X.prog X.w X.K X.mg X.base C k m sp) (cl : Cls X.K C) (hr : Room j X.A) (hk : k ≤ j) (tk : Takes X (fun cls d _ H => E cls d H)) (he : PE X o ta) (ha : PA X (e :: es) t)
    (hst : starEach (e :: es) X.env = (false, eval e X.env) :: starEach es X.env := by rfl) (hpl : (backTo pos (starEach es X.env)).any (·.1) = false := by rfl)
    (ht : eval (.Call (.Attribute o m apos) (e :: es) [] pos) X.env = (do
      let ov ← eval o X.env
      standAt apos.atName
      let (f, first) ← holding [ov] (getMethod ov m pl)
      callWith pos f first (backTo pos (starEach (e :: es) X.env)) (backToKw pos (keywordEach [] X.env))) := by rfl) :
    PE X (.Call (.Attribute o m apos) (e :: es) [] pos) (tMeth C m sp [] E ta t) := by
  obtain ⟨f, fd, ps, F, hm, b⟩ := c.ex
  exact pe_meth he cl hm F (hr.mono hk) b .nil (passes_call tk fun _ _ _ _ h => h) ha hst hpl ht
theorem pe_newX {E : XK} (c : MCalX X.prog X.w X.K X.mg X.base C k "__init__" sp) (Z : Kls X.K X.mg x C) (hr : Room j X.A) (hk : k + 1 ≤ j) (tk : Takes X (fun cls d _ H => E cls d H)) (ha : PA X (e :: es) t) (hg : Gl X x := by rfl)
    (hdb : ((x : Str) == ("__debug__" : Str)) = false := by decide) (he : starEach (e :: es) X.env = (false, eval e X.env) :: starEach es X.env := by rfl) (hpl : (backTo pos (starEach es X.env)).any (·.1) = false := by rfl) :
    PE X (.Call (.Name x p) (e :: es) [] pos) (tMake C sp [] E t) := by
  obtain ⟨f, fd, ps, F, hm, b⟩ := c.ex
  exact pe_make ⟨Z.makes, hm.at_, hm.fn, Z.kp⟩ F (hr.mono hk) hg Z.mgC b .nil (passes_call tk fun _ _ _ _ h => h) ha hdb he hpl
end
end Lk

/-! Nil0 -/
set_option Elab.async false
set_option maxRecDepth 100000
set_option linter.all false
set_option maxHeartbeats 4000000
namespace Lk
open PySem PySem.Spec PyProof.Rows L2
/-! ### xs == [], xs != [], whatever xs holds -/
def rEqNil (K : PySem.W.Frag) : R2 := fun x y H Q => ∃ (a b : Addr) (xs : List V), x = .ref a ∧ y = .ref b ∧ SqL K H a xs ∧ SqL K H b [] ∧ Q (.bl xs.isEmpty) H
def rNeNil (K : PySem.W.Frag) : R2 := fun x y H Q => ∃ (a b : Addr) (xs : List V), x = .ref a ∧ y = .ref b ∧ SqL K H a xs ∧ SqL K H b [] ∧ Q (.bl (!xs.isEmpty)) H
section
variable {X : Cx}
theorem op_eqNil (hu : X.A.units + 64 < cLine) : OpR X (compareOp .Eq) (rEqNil X.K) := by
  intro pins s σ H x y v u Q I rx ry h
  obtain ⟨a, b, xs, rfl, rfl, ha, hb, q⟩ := h
  cases xs with
  | nil => exact op_eqD hu pins s σ H (.ref a) (.ref b) v u Q I rx ry ⟨.list [], .list [], .lst ha .nil, .lst hb .nil, rfl, rfl, q⟩
  | cons y ys =>
    cases rx
    cases ry
    obtain ⟨us, r1, p1, _⟩ := I.list ha
    obtain ⟨ws, r2, p2, _⟩ := I.list hb
    obtain ⟨⟨c1, d1, e1, l1⟩, ho1, hc1, n1, hd1⟩ := p1.isList
    obtain ⟨⟨c2, d2, e2, l2⟩, ho2, hc2, n2, hd2⟩ := p2.isList
    simp only at hc1 hd1 hc2 hd2
    subst hc1 hd1 hc2 hd2
    have sz : (us.toArray.size != ws.toArray.size) = true := by
      have z1 := r1.length
      have z2 := r2.length
      rw [List.size_toArray, List.size_toArray, ← z1, ← z2]
      rfl
    exact wpAny_richCompare_same_room (op := .Eq) (show s.TypeIs (.ref a) "list" from ⟨_, ho1, rfl⟩) (show s.TypeIs (.ref b) "list" from ⟨_, ho2, rfl⟩) F.slot_list_eq
      (call_meets F.slot_list_eq ⟨_, ho1, rfl⟩ F.entry_list_eq (F.args_list_eq_2 _ _) (SeqAt.list_eq_lengthsAt a b _ _ n1 n2 d1 d2 l1 l2 sz) ⟨ho1, ho2, show Value.bool false ≠ Value.notImplemented ∧ _ from ⟨(fun x => nomatch x), ⟨.bl false, H, I, rfl, q⟩⟩⟩) (by omega)
theorem op_neNil (hu : X.A.units + 64 < cLine) : OpR X (compareOp .NotEq) (rNeNil X.K) := by
  intro pins s σ H x y v u Q I rx ry h
  obtain ⟨a, b, xs, rfl, rfl, ha, hb, q⟩ := h
  cases xs with
  | nil => exact op_neD hu pins s σ H (.ref a) (.ref b) v u Q I rx ry ⟨.list [], .list [], .lst ha .nil, .lst hb .nil, rfl, rfl, q⟩
  | cons y ys =>
    cases rx
    cases ry
    obtain ⟨us, r1, p1, _⟩ := I.list ha
    obtain ⟨ws, r2, p2, _⟩ := I.list hb
    obtain ⟨⟨c1, d1, e1, l1⟩, ho1, hc1, n1, hd1⟩ := p1.isList
    obtain ⟨⟨c2, d2, e2, l2⟩, ho2, hc2, n2, hd2⟩ := p2.isList
    simp only at hc1 hd1 hc2 hd2
    subst hc1 hd1 hc2 hd2
    have sz : (us.toArray.size != ws.toArray.size) = true := by
      have z1 := r1.length
      have z2 := r2.length
      rw [List.size_toArray, List.size_toArray, ← z1, ← z2]
      rfl
    exact wpAny_richCompare_same_room (op := .NotEq) (show s.TypeIs (.ref a) "list" from ⟨_, ho1, rfl⟩) (show s.TypeIs (.ref b) "list" from ⟨_, ho2, rfl⟩) F.slot_list_ne
      (call_meets F.slot_list_ne ⟨_, ho1, rfl⟩ F.entry_list_ne (F.args_list_ne_2 _ _) (SeqAt.list_ne_lengthsAt a b _ _ n1 n2 d1 d2 l1 l2 sz) ⟨ho1, ho2, show Value.bool true ≠ Value.notImplemented ∧ _ from ⟨(fun x => nomatch x), ⟨.bl true, H, I, rfl, q⟩⟩⟩) (by omega)
end
end Lk

/-! Clr1 -/
set_option Elab.async false
set_option maxRecDepth 100000
set_option linter.all false
set_option maxHeartbeats 4000000
namespace Lk
open PySem PySem.Spec PyProof.Rows L2
/-! ### repr of a tuple of whatever many things -/
inductive ClrAll (K : PySem.W.Frag) (H : Hp) : List V → List PyData → Prop
  | nil : ClrAll K H [] []
  | cons {v : V} {d : PyData} {vs : List V} {ds : List PyData} : Clr K H v d → ClrAll K H vs ds → ClrAll K H (v :: vs) (d :: ds)
theorem ClrAll.same {K : PySem.W.Frag} {H H' : Hp} (s : Same H H') : ∀ {vs : List V} {ds : List PyData}, ClrAll K H vs ds → ClrAll K H' vs ds
  | _, _, .nil => .nil
  | _, _, .cons h t => .cons (h.same s) (t.same s)
section
variable {X : Cx} {pins : List (Addr × Obj)} {σ : L2.St} {H : Hp} {s : Shared}
theorem clrAll_reads (I : Inv X pins σ H s) : ∀ {vs : List V} {ds : List PyData}, ClrAll X.K H vs ds → ∀ us, Vals vs us → ∃ as, ReadsAll s.heap us ds as ∧ sysModules ∉ as
  | _, _, .nil, us, r => by
    cases r
    exact ⟨_, ReadsAll.nil, fun h => nomatch h⟩
  | _ :: _, _, .cons h t, us, r => by
    cases r with
    | cons r1 r2 =>
      obtain ⟨as, a1, a2⟩ := clr_reads I h _ r1
      obtain ⟨bs, c1, c2⟩ := clrAll_reads I t _ r2
      exact ⟨_, ReadsAll.cons a1 c1, fun m => (List.mem_append.mp m).elim a2 c2⟩
def rReprE (K : PySem.W.Frag) : List V → Hp → VK → Prop := fun xs H Q => ∃ (q : Addr) (vs : List V) (ds : List PyData), xs = [.ref q] ∧ SqT K H q vs ∧ ThAll K H vs ds ∧ Wf0 (.tuple ds) ∧ ((PyData.tuple ds).hasDict = true → ClrAll K H vs ds) ∧ Q (.str (PyData.tuple ds).shown) H
theorem call_reprE (hg : X.A.guards = some []) (hu : X.A.units + 64 < cLine) : CallR X (.builtin "repr") (rReprE X.K) := by
  intro pins s σ H xs us Q I r h
  obtain ⟨a, vs, ds, rfl, hq, ht, hw, hc, q⟩ := h
  cases r with
  | cons r1 rr =>
    cases rr
    have hz : (PyData.tuple ds).shown.length ≤ sizeLine := PyData.shown_fits_bulk (B := 13) (by decide) (by decide) hw.lv (Nat.le_trans hw.bk (by decide))
    have done : ∀ (h' : Heap) (u tk : Nat), (∀ b o, s.heap.get? b = some o → h'.get? b = some o) → EP X pins σ Q (.str (PyData.tuple ds).shown u) { s with heap := h', toks := tk } := fun h' u tk k =>
      ⟨.str (PyData.tuple ds).shown, H, I.kept (t' := tk) k, ⟨u, rfl⟩, q⟩
    have hd := hw.dp
    by_cases e : (PyData.tuple ds).hasDict = true
    · cases r1
      obtain ⟨its, rv, ⟨o, ho, hk, n, hdt⟩, _⟩ := I.tuple hq
      obtain ⟨as, hr, hm⟩ := clrAll_reads I (hc e) _ rv
      exact repr_of_reads' (.tuple ho hk hdt hr) hw.sh (fun _ => hm) hg (by omega) (fun _ _ z => z) (fun h' u tk k => done h' u tk k) hz
    · obtain ⟨as, hr, _⟩ := th_reads I (.tup hq ht) _ r1
      cases r1
      exact repr_of_reads' hr hw.sh (fun z => absurd z e) hg (by omega) (fun _ _ z => z) (fun h' u tk k => done h' u tk k) hz
end
end Lk

/-! LisS0 -/
set_option Elab.async false
set_option maxRecDepth 100000
set_option linter.all false
set_option maxHeartbeats 4000000
namespace Lk
open PySem PySem.Spec PyProof.Rows L2
/-! ### list(text) -/
def signsOf (x : Str) : List Str := (TL.tl x).map fun c => ⟨#[c]⟩
section
variable {X : Cx}
theorem call_listTx (hc : X.calm = true) : CallR X (.type "list") (fun xs H Q => ∃ x : Str, xs = [.str x] ∧ x.length ≤ 1000 ∧ ∀ p, H p = none → Q (.ref p) (upd H p (.lst ((signsOf x).map V.str)))) := by
  intro pins s σ H xs us Q I r h
  obtain ⟨x, rfl, hz, q⟩ := h
  obtain ⟨u, rfl, rx⟩ := vals1 r
  obtain ⟨t, rfl⟩ := rx
  have hn : x.cps.size ≤ sizeLine := by
    have z : x.cps.size ≤ 1000 := hz
    rw [sizeLine_eq]
    omega
  refine PySem.call_list_str (I.ok.hd hc) x t (fun h' tk acc' c' keep new items => ?_) hn
  obtain ⟨sz, each⟩ := items
  have lt : (TL.tl x).length = x.cps.size := rfl
  have vals : ∀ (l : List Nat) (vs : List Value), vs.length = l.length → (∀ (j : Nat) v, vs[j]? = some v → ∃ c u, l[j]? = some c ∧ v = Value.str ⟨#[c]⟩ u) → Vals (l.map fun c => V.str ⟨#[c]⟩) vs := fun l => by
    induction l with
    | nil =>
      intro vs lv _
      cases vs with
      | nil => exact .nil
      | cons _ _ => simp at lv
    | cons c l ih =>
      intro vs lv h
      cases vs with
      | nil => simp at lv
      | cons v vs =>
        obtain ⟨d, u, e1, e2⟩ := h 0 v rfl
        cases e1
        exact .cons ⟨u, e2⟩ (ih vs (by simpa using lv) fun j w hj => by simpa using h (j + 1) w (by simpa using hj))
  have V0 : Vals ((signsOf x).map V.str) acc'.toList := by
    unfold signsOf
    rw [List.map_map]
    refine vals (TL.tl x) acc'.toList (by rw [Array.length_toList, sz]; rfl) fun j v hj => ?_
    rw [Array.getElem?_toList] at hj
    obtain ⟨c, u, e1, e2⟩ := each j v hj
    exact ⟨c, u, by rw [← Array.getElem?_toList] at e1; exact e1, e2⟩
  have lz : ((signsOf x).map V.str).length ≤ sizeLine := by
    rw [V0.length, Array.length_toList, sz]
    exact hn
  exact ⟨.ref s.heap.objs.size, _, I.laid (t' := tk) keep (Nat.le_refl _) (show ObjOk X.prog X.w _ h' _ (.lst ((signsOf x).map V.str)) from ⟨lz, acc'.toList, c', V0, by simpa using new⟩), rfl, q _ (I.hok.fresh (Nat.le_refl _))⟩
end
end Lk

/-! Rep0 -/
set_option Elab.async false
set_option maxRecDepth 100000
set_option linter.all false
set_option maxHeartbeats 4000000
namespace Lk
open PySem PySem.Spec PyProof.Rows L2
/-! ### text * int, from 0 on -/
def rStrRep0 : R2 := fun x y H Q => ∃ (a : Str) (k : Nat), x = .str a ∧ y = .int (k : Int) ∧ k ≤ 5000 ∧ a.length ≤ 1000 ∧ ∀ z : Str, TL.tl z = (List.replicate k (TL.tl a)).flatten → Q (.str z) H
theorem op_strRep0 {X : Cx} : OpR X (binaryOp .Mult) rStrRep0 := by
  intro pins s σ H x y v u Q I rx ry h
  obtain ⟨a, k, rfl, rfl, k2, ha, q⟩ := h
  by_cases h0 : k = 0
  · subst h0
    obtain ⟨t, rfl⟩ := rx
    obtain ⟨t', rfl⟩ := ry
    exact PySem.P.mul_str_none (by decide) (by decide) ⟨.str Str.empty, H, I.tok _, ⟨_, rfl⟩, q _ rfl⟩
  · exact op_strRep1 pins s σ H _ _ v u Q I rx ry ⟨a, k, rfl, rfl, by omega, k2, ha, q⟩
/-! ### data that repr shows: tuples of such -/
structure Pl (k : Nat) (d : PyData) : Prop where
  sh : d.showable = true
  lv : d.leavesShort 13 = true
  dp : d.depth ≤ k
  hd : d.hasDict = false
theorem pl_all {k : Nat} : ∀ {ds : List PyData}, (∀ d ∈ ds, Pl k d) → PyData.showableAll ds = true ∧ PyData.leavesShortAll 13 ds = true ∧ PyData.depthAll ds ≤ k ∧ PyData.hasDictAll ds = false
  | [], _ => ⟨rfl, rfl, Nat.zero_le _, rfl⟩
  | d :: ds, h => by
    obtain ⟨a, b, c, e⟩ := pl_all fun x m => h x (List.mem_cons_of_mem _ m)
    have q := h d List.mem_cons_self
    refine ⟨?_, ?_, ?_, ?_⟩
    · rw [PyData.showableAll, q.sh, a]
      rfl
    · rw [PyData.leavesShortAll, q.lv, b]
      rfl
    · rw [PyData.depthAll]
      have z := q.dp
      omega
    · rw [PyData.hasDictAll, q.hd, e]
      rfl
theorem pl_tup {k : Nat} {ds : List PyData} (h : ∀ d ∈ ds, Pl k d) : Pl (k + 1) (.tuple ds) := by
  obtain ⟨a, b, c, e⟩ := pl_all h
  refine ⟨?_, ?_, ?_, ?_⟩
  · rw [PyData.showable]
    exact a
  · rw [PyData.leavesShort]
    exact b
  · rw [PyData.depth]
    omega
  · rw [PyData.hasDict]
    exact e
theorem Pl.le {k j : Nat} {d : PyData} (h : Pl k d) (le : k ≤ j) : Pl j d := ⟨h.sh, h.lv, Nat.le_trans h.dp le, h.hd⟩
theorem Pl.wf {k : Nat} {d : PyData} (h : Pl k d) (k60 : k ≤ 60) (b : d.bulk ≤ 1000000) : Wf d := ⟨h.sh, h.lv, b, Nat.le_trans h.dp k60, .inl h.hd⟩
end Lk

/-! K91t -/
set_option Elab.async false
set_option linter.all false
set_option maxRecDepth 100000
set_option maxHeartbeats 4000000
namespace Lk
open PySem PySem.Spec PyProof.Rows L2
def top (i : Nat) : Stmt := PySem.Challenge.pw_stemrules_k91_texts_refused.main.body.getD i (.Pass ⟨0, 0, 0, 0⟩)
abbrev s_p_is_name : Stmt := top 9
abbrev s_p_is_pattern : Stmt := top 10
abbrev s_p_is_end : Stmt := top 11
abbrev s_p_is_label : Stmt := top 17
abbrev s_p_is_rule_source : Stmt := top 18
abbrev s_p_parse_rule : Stmt := top 23
abbrev s_p_parse_book : Stmt := top 24
abbrev s_p_tokens_of : Stmt := top 25
abbrev s_p_letters_at : Stmt := top 26
abbrev s_p_read_rule : Stmt := top 27
abbrev s_p_read_sources : Stmt := top 28
abbrev s_p_read_source : Stmt := top 29
abbrev s_p_read_pattern : Stmt := top 30
abbrev s_p_is_begin : Stmt := top 31
abbrev s_kneaded : Stmt := top 33
abbrev s_pot_of : Stmt := top 34
abbrev s_below : Stmt := top 35
abbrev s_pick : Stmt := top 36
abbrev s_split : Stmt := top 37
abbrev s_is_name : Stmt := top 38
abbrev s_stem : Stmt := top 39
abbrev s_put : Stmt := top 40
abbrev s_whole : Stmt := top 41
abbrev s_some_source : Stmt := top 42
abbrev s_some_rule : Stmt := top 43
abbrev s_way : Stmt := top 44
abbrev s_source_text : Stmt := top 45
abbrev s_rule_text : Stmt := top 46
abbrev s_is_letter : Stmt := top 47
abbrev s_tokens : Stmt := top 48
abbrev s_is_all : Stmt := top 49
abbrev s_pattern_stop : Stmt := top 50
abbrev s_stop : Stmt := top 51
abbrev s_row_due : Stmt := top 52
abbrev s_due : Stmt := top 53
abbrev s_told : Stmt := top 54
abbrev s_spoilt : Stmt := top 55
abbrev s_fixed : Stmt := top 56
abbrev s_law : Stmt := top 57
abbrev s_TooMany_init : Stmt := L2.inClass (top 2) 0
abbrev s_TooMany_str : Stmt := L2.inClass (top 2) 1
abbrev s_SyntaxProblem_init : Stmt := L2.inClass (top 3) 0
abbrev s_SyntaxProblem_str : Stmt := L2.inClass (top 3) 1
abbrev s_Row_init : Stmt := L2.inClass (top 22) 0
abbrev s_Row_at_end : Stmt := L2.inClass (top 22) 1
abbrev s_Row_next_word : Stmt := L2.inClass (top 22) 2
abbrev s_Row_is_joined : Stmt := L2.inClass (top 22) 3
abbrev s_Row_need : Stmt := L2.inClass (top 22) 4
abbrev s_Row_taken : Stmt := L2.inClass (top 22) 5
end Lk

/-! K91p -/
set_option Elab.async false
set_option linter.all false
set_option maxRecDepth 100000
set_option maxHeartbeats 4000000
namespace Lk
open PySem PySem.Spec PyProof.Rows L2
/-! ### the pot of numbers -/
section
variable {P : Program} {w : World} {K : PySem.W.Frag} {mg : Str → Option Value} {base : Heap}
theorem sc_kneaded : FnScope ["seed", "lap", "prime", "amount", "again"] ["seed", "lap"] (defScope s_kneaded) := ⟨rfl, rfl, rfl, by decide +kernel, rfl, by decide +kernel, by decide +kernel⟩
theorem cal_kneaded (D : Def1 K mg "_law_kneaded" s_kneaded) (T : Glb mg) : Cal P w K mg base 1 "_law_kneaded" spKneaded := by
  refine mkCal D sc_kneaded (fun _ _ _ _ _ _ us hl => match us, hl with | [_, _], _ => rfl) (fun vs H Q E h => ?_) (fun f cdv A outer s H vs Q E hr h => ?_)
  · obtain ⟨s, l, rfl, _⟩ := h
    rfl
  · obtain ⟨s, l, rfl, k⟩ := h
    refine ⟨_, pss_cons (ps_set (i := 2) sc_kneaded.nd rfl (.inl rfl) pe_int)
      (pss_cons (ps_set (i := 3) sc_kneaded.nd rfl (.inl rfl) (pe_op op_mod (pe_callTy call_int1 (by rfl) T.int (by decide +kernel)
        (pa_cons (pe_op op_add (pe_op op_add (pe_op op_mul (pv 0) pe_int) (pe_op op_mul (pv 1) pe_int)) pe_int) pa_nil)) (pv 2)))
      (pss_cons (ps_for PassesOwn.never rfl (pi_range1 (by rfl) T.range (pa_cons pe_int pa_nil)) (pg_name (i := 4) sc_kneaded.nd rfl (.inl rfl))
        (pss_one (ps_set (i := 3) sc_kneaded.nd rfl (.inl rfl) (pe_op op_mod (pe_callTy call_int1 (by rfl) T.int (by decide +kernel)
          (pa_cons (pe_op op_add (pe_op op_add (pe_op op_add (pe_op op_mul (pv 3) (pv 3)) (pe_op op_mul pe_int (pv 3))) (pe_op op_mul pe_int (pv 4))) (pv 1)) pa_nil)) (pv 2)))))
      (pss_one (ps_ret (pe_op op_add (pe_op op_mul (pv 3) (pv 2)) (pe_op op_mod (pe_callTy call_int1 (by rfl) T.int (by decide +kernel)
          (pa_cons (pe_op op_add (pe_op op_mul (pv 3) pe_int) (pv 1)) pa_nil)) (pv 2))))))), ?_⟩
    refine ⟨_, rfl, _, _, rfl, rfl, .inr (by decide), _, rfl, _, _, rfl, rfl, .inr (by decide), _, _, rfl, rfl, _, _, rfl, rfl, .inl ⟨_, rfl, _, rfl, _, _, rfl, rfl, (by show (0 : Int) < 2305843009213693907; decide), ?_⟩⟩
    refine ⟨4, rfl, by decide, by decide, for_range (n := 4) (fun i σ H' => ∃ (m : Int) (v : Option V), σ = [some (.int s), some (.int l), some (.int 2305843009213693907), some (.int m), v] ∧ 0 ≤ m ∧ m < 2305843009213693907 ∧ H' = H)
      ⟨_, none, rfl, Int.emod_nonneg _ (by decide), Int.emod_lt_of_pos _ (by decide), rfl⟩ ?_ ?_⟩
    · rintro i σ H' hi ⟨m, v, rfl, m0, m1, rfl⟩
      refine ⟨_, rfl, _, rfl, _, _, rfl, rfl, .inl ⟨by omega, by omega⟩, _, rfl, _, _, rfl, rfl, .inr ⟨by omega, by omega⟩, _, _, rfl, rfl, _, rfl, _, _, rfl, rfl, .inl ⟨by decide, by decide⟩, _, _, rfl, rfl, _, rfl, _, _, rfl, rfl,
        .inl ⟨_, rfl, _, rfl, _, _, rfl, rfl, (by show (0 : Int) < 2305843009213693907; decide), ?_⟩⟩
      exact ⟨_, _, rfl, Int.emod_nonneg _ (by decide), Int.emod_lt_of_pos _ (by decide), rfl⟩
    · rintro σ H' ⟨m, v, rfl, m0, m1, rfl⟩
      refine ⟨_, rfl, _, rfl, _, _, rfl, rfl, .inl ⟨by omega, by omega⟩, _, rfl, _, _, rfl, rfl, .inl ⟨by omega, by omega⟩, _, rfl, _, _, rfl, rfl, .inl ⟨_, rfl, _, rfl, _, _, rfl, rfl, (by show (0 : Int) < 2305843009213693907; decide), ?_⟩⟩
      exact ⟨_, _, rfl, rfl, k _⟩

theorem sc_pot_of : FnScope ["script", "cells", "place", "cell"] ["script"] (defScope s_pot_of) := ⟨rfl, rfl, rfl, by decide +kernel, rfl, by decide +kernel, by decide +kernel⟩
theorem cal_pot_of (D : Def1 K mg "_law_pot_of" s_pot_of) (T : Glb mg) : Cal P w K mg base 1 "_law_pot_of" (spPotOf K) := by
  refine mkCal D sc_pot_of (fun _ _ _ _ _ _ us hl => match us, hl with | [_], _ => rfl) (fun vs H Q E h => ?_) (fun f cdv A outer s H vs Q E hr h => ?_)
  · obtain ⟨a, ns, rfl, _⟩ := h
    rfl
  · obtain ⟨a, ns, rfl, hS, hlen, k⟩ := h
    refine ⟨_, pss_cons (ps_setLc (i := 1) (own := [("cell", 3)]) (g := gName 3) (tt := tYes) (by rfl) sc_pot_of.nd rfl rfl (sw_true rfl rfl rfl (by decide +kernel)) (pi_list (pe_slice sl_list (pv 0) po_none (po_some pe_int)))
        (blkOk_by (own := [("cell", 3)]) (N := ["script", "cells", "place", "cell"]) (sc := defScope s_pot_of) (by decide +kernel)) (fun _ _ _ _ _ => pg_name (i := 3) sc_pot_of.nd rfl (Or.inl rfl)) (fun _ _ _ _ _ => pts_nil)
        (fun _ _ _ _ _ => pe_callB call_abs (by rfl) T.abs (by decide +kernel) (pa_cons (pv 3) pa_nil)))
      (pss_cons (ps_for PassesOwn.never rfl (pi_enum (by rfl) T.enumerate (pa_cons (pe_slice sl_list (pv 0) (po_some pe_int) (po_some pe_int)) pa_nil)) (pg_tup rfl (pgs_cons (pg_name (i := 2) sc_pot_of.nd rfl (.inl rfl)) (pgs_cons (pg_name (i := 3) sc_pot_of.nd rfl (.inl rfl)) pgs_nil)))
        (pss_one (ps_asg (pe_op op_add (pe_ix ix_list (pv 1) (pe_op op_mod (pv 2) pe_int) (fun _ _ => rfl)) (pe_callB call_abs (by rfl) T.abs (by decide +kernel) (pa_cons (pv 3) pa_nil))) (pg_sub (pv 1) (pe_op op_mod (pv 2) pe_int) set_list))))
      (pss_one (ps_ret (pe_lst (pa_cons (pv 1) (pa_cons pe_int (pa_cons pe_int (pa_cons pe_int pa_nil)))))))), ?_⟩
    refine ⟨_, rfl, 17, rfl, a, _, rfl, hS, fun q nq => ⟨q, rfl, ⟨_, SqL.of upd_same⟩, fun D nD => ?_⟩⟩
    have e17 : cutV (ns.map V.int) none (some 17) = (ns.take 17).map V.int := by
      rw [cut_to (by decide), List.map_take]
      rfl
    have sq : Same H (upd H q (.lst (cutV (ns.map V.int) none (some 17)))) := same_upd nq
    have nDq : D ≠ q := fun z => by
      rw [z, upd_same] at nD
      cases nD
    have nD0 : H D = none := sq.free nD
    refine lc_list (K := K) (a := q) (xs := (ns.take 17).map V.int) (fun i H' => Same H H' ∧ H' q = some (.lst ((ns.take 17).map V.int)) ∧ ∃ ms : List Int, H' D = some (.lst (ms.map V.int)) ∧ ms.length = i)
      ⟨same_mut sq nD0, by rw [upd_ne nDq.symm, upd_same, e17], [], upd_same, rfl⟩ (fun i H' _ h => SqL.of h.2.1) ?_ ?_
    · rintro i x H' hx ⟨sH, hq, ms, hD, hm⟩
      obtain ⟨z, rfl, hz⟩ := map_item hx
      have hi : i < 17 := by
        have := (List.getElem?_eq_some_iff.mp hx).1
        rw [List.length_map, List.length_take] at this
        omega
      refine ⟨rfl, _, rfl, z, rfl, _, hD, ?_, same_mut sH nD0, ?_, ms ++ [if z < 0 then -z else z], ?_, ?_⟩
      · rw [List.length_map, hm]
        exact small1000 (by omega)
      · rw [upd_ne nDq.symm]
        exact hq
      · rw [upd_same, List.map_append]
        rfl
      · rw [List.length_append, List.length_singleton, hm]
    · rintro H1 ⟨sH, hq, ms, hD, hm⟩
      rw [List.length_map, List.length_take] at hm
      refine ⟨_, rfl, 17, rfl, 60, rfl, a, _, rfl, sH.seq hS, fun r nr => ⟨r, _, rfl, SqL.of upd_same, ?_⟩⟩
      have e60 : cutV (ns.map V.int) (some 17) (some 60) = ((ns.drop 17).take 43).map V.int := by
        rw [cut_from_to (by decide) (by decide), List.map_take, List.map_drop]
        rfl
      have sr : Same H1 (upd H1 r (.lst (cutV (ns.map V.int) (some 17) (some 60)))) := same_upd nr
      have nrD : D ≠ r := ne_of_none hD nr
      refine for_enum (K := K) (a := r) (xs := ((ns.drop 17).take 43).map V.int) (fun i σ H' => ∃ (v2 v3 : Option V) (ms : List Int), σ = [some (.ref a), some (.ref D), v2, v3] ∧ Same H H' ∧ H' r = some (.lst (((ns.drop 17).take 43).map V.int)) ∧ H' D = some (.lst (ms.map V.int)) ∧ ms.length = min 17 ns.length)
        ⟨none, none, ms, rfl, sH.trans sr, by rw [upd_same, e60], by rw [upd_ne nrD]; exact hD, hm⟩ (fun i σ H' ⟨_, _, _, _, _, h, _⟩ => SqL.of h) ?_ ?_
      · rintro i x σ H' t hx nt ⟨v2, v3, ms, rfl, sH', hr', hD', hm'⟩
        obtain ⟨z, rfl, hz⟩ := map_item hx
        have hl : 17 < ns.length := by
          have := (List.getElem?_eq_some_iff.mp hz).1
          rw [List.length_take, List.length_drop] at this
          omega
        have ml : ms.length = 17 := by omega
        have ntD : D ≠ t := ne_of_none hD' nt
        have ntr : r ≠ t := ne_of_none hr' nt
        obtain ⟨y, hy⟩ := atI_ints (ns := ms) (k := (i : Int) % 17) (Int.emod_nonneg _ (by decide)) (by rw [ml]; exact Int.emod_lt_of_pos _ (by decide))
        refine ⟨t, _, rfl, .inl (.inl upd_same), rfl, _, _, rfl, _, _, rfl, rfl, ?_⟩
        refine ⟨_, rfl, _, rfl, _, _, rfl, rfl, (by show (0 : Int) < 17; decide), D, ms.map V.int, _, .int y, rfl, rfl, SqL.of (by rw [upd_ne ntD]; exact hD'), hy, _, rfl, z, rfl, y, _, rfl, rfl, ?_⟩
        refine ⟨_, rfl, _, rfl, _, _, rfl, rfl, (by show (0 : Int) < 17; decide), D, ms.map V.int, _, _, rfl, rfl, (by rw [upd_ne ntD]; exact hD'), ixN_lt (Int.emod_nonneg _ (by decide)) (by rw [List.length_map, ml]; exact Int.emod_lt_of_pos _ (by decide)), ?_⟩
        refine ⟨_, _, ms.set ((i : Int) % 17).toNat (y + if z < 0 then -z else z), rfl, same_mut (sH'.trans (same_upd nt)) nD0, ?_, ?_, ?_⟩
        · rw [upd_ne nrD.symm, upd_ne ntr]
          exact hr'
        · rw [upd_same, List.map_set]
        · rw [List.length_set]
          exact hm'
      · rintro σ H' ⟨v2, v3, ms, rfl, sH', hr', hD', hm'⟩
        refine ⟨_, rfl, (by show 4 ≤ sizeLine; decide), fun l nl => ?_⟩
        exact k l D _ (sH'.trans (same_upd nl)) (sH'.free nl) ⟨(ne_of_none hD' nl).symm, ⟨0, 0, 0, upd_same⟩, ms, by rw [upd_ne (ne_of_none hD' nl)]; exact hD', by omega⟩

theorem sc_below : FnScope ["pot", "bound", "cells", "place", "amount", "found"] ["pot", "bound"] (defScope s_below) := ⟨rfl, rfl, rfl, by decide +kernel, rfl, by decide +kernel, by decide +kernel⟩
theorem cal_below (D : Def1 K mg "_law_below" s_below) (T : Glb mg) (CK : Cal P w K mg base 1 "_law_kneaded" spKneaded) : Cal P w K mg base 2 "_law_below" spBelow := by
  refine mkCal D sc_below (fun _ _ _ _ _ _ us hl => match us, hl with | [_, _], _ => rfl) (fun vs H Q E h => ?_) (fun f cdv A outer s H vs Q E hr h => ?_)
  · obtain ⟨p, c, n, rfl, _⟩ := h
    rfl
  · obtain ⟨p, c, n, rfl, hP, n0, n1, k⟩ := h
    have hu := hu_of hr
    refine ⟨_, pss_cons (ps_if (pt_cmpR op_lt (pe_ix ix_list (pv 0) pe_int (fun _ _ => rfl)) (pv 1) (nomark _))
        (pss_cons (ps_par (i := 2) (j := 3) (by rfl) sc_below.nd rfl rfl (by decide) rfl rfl (pa_cons (pe_ix ix_list (pv 0) pe_int (fun _ _ => rfl)) (pa_cons (pe_ix ix_list (pv 0) pe_int (fun _ _ => rfl)) pa_nil)) (by rfl))
        (pss_cons (ps_set (i := 4) sc_below.nd rfl (.inl rfl) (pe_ifExp (pt_cmpR (op_neD hr.units) (pv 2) (pe_lst pa_nil) (nomark _))
            (pe_ix ix_list (pv 2) (pe_op op_modN (pv 3) (pe_callB call_len_seq (by rfl) T.len PySem.boot_len (pa_cons (pv 2) pa_nil))) (fun _ _ => rfl)) pe_int))
        (pss_cons (ps_if (PW.pt (pw_or (pt_cmpR op_ge (pv 3) (pe_callB call_len_seq (by rfl) T.len PySem.boot_len (pa_cons (pv 2) pa_nil)) (nomark _)) (pw_or1 (pt_cmpR op_lt (pv 4) (pe_op op_pow pe_int pe_int) (nomark _)))))
            (pss_one (ps_set (i := 4) sc_below.nd rfl (.inl rfl) (pe_cal CK hr (by decide) (pa_cons (pe_op op_mod (pe_callTy call_int1 (by rfl) T.int (by decide +kernel) (pa_cons (pv 4) pa_nil)) pe_int) (pa_cons (pv 3) pa_nil))))) pss_nil)
        (pss_cons (ps_asg (pe_op op_add (pv 3) pe_int) (pg_sub (pv 0) pe_int set_list))
        (pss_cons (ps_asg (pv 4) (pg_sub (pv 0) pe_int set_list))
        (pss_one (ps_asg (pv 4) (pg_sub (pv 0) pe_int set_list)))))))) pss_nil)
      (pss_cons (ps_set (i := 5) sc_below.nd rfl (.inl rfl) (pe_op op_mod (pe_callTy call_int1 (by rfl) T.int (by decide +kernel) (pa_cons (pe_ix ix_list (pv 0) pe_int (fun _ _ => rfl)) pa_nil)) (pv 1)))
      (pss_cons (ps_asg (pe_op op_fdivN (pe_ix ix_list (pv 0) pe_int (fun _ _ => rfl)) (pv 1)) (pg_sub (pv 0) pe_int set_list))
      (pss_cons (ps_asg (pe_op op_fdivN (pe_ix ix_list (pv 0) pe_int (fun _ _ => rfl)) (pv 1)) (pg_sub (pv 0) pe_int set_list))
      (pss_one (ps_ret (pv 5)))))), ?_⟩
    -- the end, from any pot
    have tail : ∀ (v2 v3 v4 : Option V) (H1 : Hp), Ext p c H H1 → ∀ (t : TS), t = tSeq (tAsg (tOp (rI (fun _ j => 0 < j) fun i j => V.int (i % j)) (tCB (fun xs H Q => (∃ i, xs = [V.int i] ∧ Q (.int i) H) ∨ ∃ k, xs = [V.bl k] ∧ Q (.int (if k then 1 else 0)) H) (tCons (tOp (rIxL K) (tVar 0) (tC (.int 2))) tNil)) (tVar 1)) (gName 5))
        (tSeq (tAsg (tOp (rI CDivN fun i j => V.int (i.fdiv j)) (tOp (rIxL K) (tVar 0) (tC (.int 2))) (tVar 1)) (gSub (tVar 0) (tC (.int 2)) rSetL)) (tSeq (tAsg (tOp (rI CDivN fun i j => V.int (i.fdiv j)) (tOp (rIxL K) (tVar 0) (tC (.int 3))) (tVar 1)) (gSub (tVar 0) (tC (.int 3)) rSetL)) (tRet (tVar 5)))) →
        t { nx := fun _ H' => Q .non H', rt := Q } [some (.ref p), some (.int n), v2, v3, v4, none] H1 := by
      rintro v2 v3 v4 H1 e t rfl
      obtain ⟨npc, ⟨i, a, b, hp⟩, _⟩ := id e.pot
      refine ⟨_, rfl, p, _, 2, .int a, rfl, rfl, SqL.of hp, atI_nat (j := 2) rfl, .inl ⟨_, rfl, _, rfl, _, _, rfl, rfl, n0, ?_⟩⟩
      refine ⟨_, rfl, p, _, 2, .int a, rfl, rfl, SqL.of hp, atI_nat (j := 2) rfl, _, rfl, _, _, rfl, rfl, ⟨by omega, by omega⟩, ?_⟩
      refine ⟨_, rfl, p, _, 2, 2, rfl, rfl, hp, rfl, ?_⟩
      refine ⟨_, rfl, p, _, 3, .int b, rfl, rfl, SqL.of upd_same, atI_nat (j := 3) rfl, _, rfl, _, _, rfl, rfl, ⟨by omega, by omega⟩, ?_⟩
      refine ⟨_, rfl, p, _, 3, 3, rfl, rfl, upd_same, rfl, ?_⟩
      refine ⟨_, rfl, k _ _ (Int.emod_nonneg _ (by omega)) (Int.emod_lt_of_pos _ n0) ?_⟩
      exact pot_put hP (pot_put hP e)
    obtain ⟨npc, ⟨i, a, b, hp⟩, ns, hc, hl⟩ := id hP
    refine ⟨_, rfl, p, _, 3, .int b, rfl, rfl, SqL.of hp, atI_nat (j := 3) rfl, _, rfl, _, _, rfl, rfl, _, rfl, ?_⟩
    refine ite2 (fun _ => ?_) (fun _ => tail _ _ _ H hP.ref _ rfl)
    refine ⟨_, rfl, p, _, 0, .ref c, rfl, rfl, SqL.of hp, atI_nat (j := 0) rfl, _, rfl, p, _, 1, .int i, rfl, rfl, SqL.of hp, atI_nat (j := 1) rfl, _, _, rfl, ?_⟩
    refine ⟨_, rfl, Nat.zero_le _, fun q nq => ⟨_, _, .lst (SqL.of (by rw [upd_ne (ne_of_none hc nq)]; exact hc)) (dp_ints ns), .lst (SqL.of upd_same) .nil, shaped_ints ns, rfl, _, rfl, ?_⟩⟩
    rw [eqv_ints_nil]
    have e1 : Ext p c H (upd H q (.lst [])) := hP.ref.new nq
    have hc1 : (upd H q (.lst [])) c = some (.lst (ns.map V.int)) := by rw [upd_ne (ne_of_none hc nq)]; exact hc
    have hp1 : (upd H q (.lst [])) p = some (.lst [.ref c, .int i, .int a, .int b]) := by rw [upd_ne (ne_of_none hp nq)]; exact hp
    refine ite2 (fun hn => ?wayA) (fun hn => ?wayB)
    case' wayA =>
      have hn2 : 0 < ns.length := List.length_pos_iff.mpr fun z => by
        rw [z] at hn
        exact absurd hn (by decide)
      obtain ⟨z, hz⟩ := atI_ints (ns := ns) (k := Int.fmod i (((ns.map V.int).length : Nat) : Int)) (Int.fmod_nonneg_of_pos _ (by rw [List.length_map]; omega)) (by
        rw [List.length_map]
        exact Int.fmod_lt_of_pos _ (by omega))
      refine ⟨_, rfl, _, rfl, _, rfl, c, _, rfl, .inl (SqL.of hc1), _, _, rfl, rfl, (by rw [List.length_map]; show ((ns.length : Nat) : Int) ≠ 0; omega), c, _, _, .int z, rfl, rfl, SqL.of hc1, hz, ?_⟩
    all_goals
      refine ⟨_, rfl, _, rfl, c, _, rfl, .inl (SqL.of hc1), _, _, rfl, rfl, _, rfl, ?_⟩
      refine ite2 (fun _ => iteT ?_) (fun _ => ⟨_, rfl, _, _, rfl, rfl, ⟨by decide, by decide, by decide⟩, _, _, rfl, rfl, _, rfl, ite2 (fun _ => ?_) (fun _ => ?_)⟩)
      all_goals try refine ⟨_, rfl, .inl ⟨_, rfl, _, _, rfl, rfl, (by show (0 : Int) < 982451629; decide), _, rfl, _, _, rfl, fun r => ?_⟩⟩
      all_goals
        refine ⟨_, rfl, _, _, rfl, rfl, _, rfl, p, _, 1, 1, rfl, rfl, hp1, rfl, ?_⟩
        refine ⟨_, rfl, _, rfl, p, _, 2, 2, rfl, rfl, upd_same, rfl, ?_⟩
        refine ⟨_, rfl, _, rfl, p, _, 3, 3, rfl, rfl, upd_same, rfl, ?_⟩
        exact tail _ _ _ _ (pot_put hP (pot_put hP (pot_put hP e1))) _ rfl
end
end Lk

/-! K91q -/
set_option Elab.async false
set_option linter.all false
set_option maxRecDepth 100000
set_option maxHeartbeats 4000000
namespace Lk
open PySem PySem.Spec PyProof.Rows L2
section
variable {P : Program} {w : World} {K : PySem.W.Frag} {mg : Str → Option Value} {base : Heap}
theorem sc_p_is_name : FnScope ["thing"] ["thing"] (defScope s_p_is_name) := ⟨rfl, rfl, rfl, by decide +kernel, rfl, by decide +kernel, by decide +kernel⟩
theorem cal_p_is_name (D : Def1 K mg "is_name" s_p_is_name) (T : Glc mg) : Cal P w K mg base 1 "is_name" (spIsName K) := by
  refine mkCal D sc_p_is_name (fun _ _ _ _ _ _ us hl => match us, hl with | [_], _ => rfl) (fun vs H Q E h => ?_) (fun f cdv A outer s H vs Q E hr h => ?_)
  · obtain ⟨v, d, rfl, _⟩ := h
    rfl
  · obtain ⟨v, d, rfl, ht, hb, k⟩ := h
    refine ⟨_, pss_one (ps_ret (pe_and (pe_isi (T := "str") (pv 0) T.isinst T.str (by decide +kernel)) (pe_and (pe_cmpR op_ne (pv 0) pe_str (nomark _))
      (pe_one (pe_cmpR op_eq (pe_m1 PySem.F.slot_str_lstrip PySem.F.type_str_lstrip mt_lstripChars (pe_m1 PySem.F.slot_str_lstrip PySem.F.type_str_lstrip mt_lstripChars (pv 0) (pe_con1 T.caps)) (pe_con1 T.smalls)) pe_str (nomark _)))))), ?_⟩
    refine ⟨_, rfl, v, _, _, _, _, rfl, .ty _, th_ty ht, kit_str d, _, rfl, ?_⟩
    cases e : isStr d with
    | false =>
      rw [(not_str e).1] at k
      exact iteF k
    | true =>
      obtain ⟨x, rfl, rfl⟩ := th_str ht e
      refine iteT ⟨_, rfl, rfl, _, rfl, ?_⟩
      have hx : x.length ≤ sizeLine := Nat.le_trans hb (by decide)
      have e1 : TL.tl (Txt.lstripChars (Txt.lstripChars x capS) smaS) = ((TL.tl x).dropWhile upB).dropWhile loB := by
        rw [Txt.lstripChars, tl_lstrip, Txt.lstripChars, tl_lstrip, funext cap_has, funext sma_has]
      have h2 : (Txt.lstripChars x capS).length ≤ sizeLine := by
        rw [TL.len_tl, Txt.lstripChars, tl_lstrip]
        refine Nat.le_trans ?_ hx
        rw [TL.len_tl, ← drop_tw, List.length_drop]
        omega
      refine ite2 (fun hne => ?_) (fun hne => ?_)
      · have hn : TL.tl x ≠ [] := fun z => by
          rw [tl_nil_iff.mp z] at hne
          exact absurd hne (by decide)
        refine ⟨_, rfl, ⟨x, rfl⟩, x, capS, rfl, rfl, hx, ⟨_, rfl⟩, _, smaS, rfl, rfl, h2, rfl, ?_⟩
        have e2 : decide (V.str (Txt.lstripChars (Txt.lstripChars x capS) smaS) = V.str "") = dName (.str x) := by
          rw [Bool.eq_iff_iff, decide_eq_true_iff]
          show _ ↔ (!(TL.tl x).isEmpty && ((TL.tl x).dropWhile upB).all loB) = true
          rw [V.str.injEq, ← tl_nil_iff, e1, dw_all]
          cases q : TL.tl x with
          | nil => exact absurd q hn
          | cons c r => simp
        rw [e2]
        exact k
      · have hn : x = "" := by
          apply Classical.byContradiction
          intro z
          exact hne (by rw [decide_eq_false (by rw [V.str.injEq]; exact z)]; rfl)
        subst hn
        exact k
theorem sc_p_is_end : FnScope ["thing", "letters"] ["thing", "letters"] (defScope s_p_is_end) := ⟨rfl, rfl, rfl, by decide +kernel, rfl, by decide +kernel, by decide +kernel⟩
theorem cal_p_is_end (D : Def1 K mg "is_end" s_p_is_end) (T : Glc mg) (G : Glb mg) : Cal P w K mg base 1 "is_end" (spIsEnd K) := by
  refine mkCal D sc_p_is_end (fun _ _ _ _ _ _ us hl => match us, hl with | [_, _], _ => rfl) (fun vs H Q E h => ?_) (fun f cdv A outer s H vs Q E hr h => ?_)
  · obtain ⟨v, d, L, p, rfl, _⟩ := h
    rfl
  · obtain ⟨v, d, L, p, rfl, ht, hb, hL, k⟩ := h
    refine ⟨_, pss_one (ps_ret (pe_and (pe_isi (T := "str") (pv 0) T.isinst T.str (by decide +kernel)) (pe_and (pe_cmpR op_le (pe_callB call_len_str (by rfl) G.len PySem.boot_len (pa_cons (pv 0) pa_nil)) (pe_con1 T.ends) (nomark _))
      (pe_one (pe_cmpR op_eq (pe_m1 PySem.F.slot_str_strip PySem.F.type_str_strip mt_stripChars (pv 0) (pv 1)) pe_str (nomark _)))))), ?_⟩
    refine ⟨_, rfl, v, _, _, _, _, rfl, .ty _, th_ty ht, kit_str d, _, rfl, ?_⟩
    cases e : isStr d with
    | false =>
      rw [(not_str e).2.1] at k
      exact iteF k
    | true =>
      obtain ⟨x, rfl, rfl⟩ := th_str ht e
      have hx : x.length ≤ sizeLine := Nat.le_trans hb (by decide)
      refine iteT ⟨_, rfl, x, rfl, hx, _, _, rfl, rfl, _, rfl, ?_⟩
      refine ite2 (fun hne => ?_) (fun hne => ?_)
      · have h3 : x.length ≤ 3 := by
          have := of_decide_eq_true hne
          omega
        refine ⟨_, rfl, ⟨x, rfl⟩, _, rfl, x, L, rfl, rfl, hx, rfl, ?_⟩
        have e2 : decide (V.str (Txt.stripChars x L) = V.str "") = dEnd p (.str x) := by
          rw [Bool.eq_iff_iff, decide_eq_true_iff]
          show _ ↔ (decide (x.length ≤ 3) && (TL.tl x).all p) = true
          rw [V.str.injEq, ← tl_nil_iff, Txt.stripChars, tl_strip, funext hL, decide_eq_true h3, Bool.true_and]
        rw [e2]
        exact k
      · have e2 : dEnd p (.str x) = false := by
          show (decide (x.length ≤ 3) && (TL.tl x).all p) = false
          rw [decide_eq_false (fun z => hne (decide_eq_true (by omega))), Bool.false_and]
        rw [e2] at k
        exact k
theorem sc_p_is_pattern : FnScope ["thing", "begin", "end"] ["thing"] (defScope s_p_is_pattern) := ⟨rfl, rfl, rfl, by decide +kernel, rfl, by decide +kernel, by decide +kernel⟩
theorem cal_p_is_pattern (D : Def1 K mg "is_pattern" s_p_is_pattern) (T : Glc mg) (G : Glb mg) (CE : Cal P w K mg base 1 "is_end" (spIsEnd K)) : Cal P w K mg base 2 "is_pattern" (spIsPat K) := by
  refine mkCal D sc_p_is_pattern (fun _ _ _ _ _ _ us hl => match us, hl with | [_], _ => rfl) (fun vs H Q E h => ?_) (fun f cdv A outer s H vs Q E hr h => ?_)
  · obtain ⟨v, d, rfl, _⟩ := h
    rfl
  · obtain ⟨v, d, rfl, ht, hb, k⟩ := h
    refine ⟨_, pss_cons (ps_if (PW.pt (pw_or (pt_not (pt_val (pe_isi (T := "tuple") (pv 0) T.isinst T.tuple (by decide +kernel)))) (pw_or1 (pt_cmpR op_ne (pe_callB call_len_seq (by rfl) G.len PySem.boot_len (pa_cons (pv 0) pa_nil)) pe_int (nomark _))))) (pss_one (ps_ret pe_bl)) pss_nil)
      (pss_cons (ps_asg (pv 0) (pg_tup rfl (pgs_cons (pg_name (i := 1) sc_p_is_pattern.nd rfl (.inl rfl)) (pgs_cons (pg_name (i := 2) sc_p_is_pattern.nd rfl (.inl rfl)) pgs_nil))))
      (pss_one (ps_ret (pe_and (pe_cal CE hr (by decide) (pa_cons (pv 1) (pa_cons (pe_con1 T.caps) pa_nil))) (pe_and (pe_cal CE hr (by decide) (pa_cons (pv 2) (pa_cons (pe_con1 T.smalls) pa_nil))) (pe_one (pe_cmpR op_ne (pe_op op_add_str (pv 1) (pv 2)) pe_str (nomark _)))))))), ?_⟩
    refine ⟨_, rfl, v, _, _, _, _, rfl, .ty _, th_ty ht, kit_tup d, _, rfl, ?_⟩
    cases e : isTup d with
    | false =>
      rw [not_pat e] at k
      exact iteT (iteT k)
    | true =>
      obtain ⟨a, xs, ds, rfl, rfl, hs, ha⟩ := th_tup ht e
      have hl := thAll_len ha
      refine iteF ⟨_, rfl, a, xs, rfl, .inr hs, rfl, _, rfl, ?_⟩
      refine ite2 (fun hne => ?_) (fun hne => ?_)
      · have h2 : ds.length ≠ 2 := fun z => by
          rw [hl, z] at hne
          exact absurd hne (by decide)
        rw [not_pat2 h2] at k
        exact k
      · have h2 : xs.length = 2 := by
          apply Classical.byContradiction
          intro z
          refine hne ?_
          rw [decide_eq_false (by rw [V.int.injEq]; omega)]
          rfl
        obtain ⟨b, c, db, dc, rfl, rfl, hb1, hc1⟩ := th_two ha h2
        have hbk : db.bulk ≤ 1000000 ∧ dc.bulk ≤ 1000000 := by
          simp only [PyData.bulk, PyData.bulkAll] at hb
          omega
        refine ⟨_, rfl, a, _, rfl, hs, rfl, b, [c], rfl, c, [], rfl, rfl, ?_⟩
        refine ⟨_, rfl, b, db, capS, upB, rfl, hb1, hbk.1, cap_has, _, rfl, ?_⟩
        have ep : dPat (.tuple [db, dc]) = (dEnd upB db && (dEnd loB dc && !(isE db && isE dc))) := rfl
        cases e1 : dEnd upB db with
        | false =>
          rw [ep, e1, Bool.false_and] at k
          exact iteF k
        | true =>
          refine iteT ⟨_, rfl, c, dc, smaS, loB, rfl, hc1, hbk.2, sma_has, _, rfl, ?_⟩
          cases e2 : dEnd loB dc with
          | false =>
            rw [ep, e1, e2, Bool.true_and, Bool.false_and] at k
            exact iteF k
          | true =>
            obtain ⟨x, rfl, rfl⟩ := th_str hb1 (end_str e1)
            obtain ⟨y, rfl, rfl⟩ := th_str hc1 (end_str e2)
            refine iteT ⟨_, rfl, _, rfl, x, y, rfl, rfl, ?_, rfl, ?_⟩
            · have l1 : x.length ≤ 1000000 := hbk.1
              have l2 : y.length ≤ 1000000 := hbk.2
              exact Nat.le_trans (Nat.add_le_add l1 l2) (by decide)
            · have e3 : (!decide (V.str (x ++ y) = V.str "")) = dPat (.tuple [.str x, .str y]) := by
                rw [ep, e1, e2, Bool.true_and, Bool.true_and]
                congr 1
                rw [Bool.eq_iff_iff, decide_eq_true_iff]
                show _ ↔ (decide (x = "") && decide (y = "")) = true
                rw [V.str.injEq, ← tl_nil_iff, TL.tl_append, Bool.and_eq_true, decide_eq_true_iff, decide_eq_true_iff, List.append_eq_nil_iff, tl_nil_iff, tl_nil_iff]
              rw [e3]
              exact k
end
end Lk

/-! K91b -/
set_option Elab.async false
set_option linter.all false
set_option maxRecDepth 100000
set_option maxHeartbeats 4000000
namespace Lk
open PySem PySem.Spec PyProof.Rows L2
def sLen : PyData → Nat
  | .str x => x.length
  | _ => 0
def dLabel : PyData → Bool
  | .str x => decide (1 ≤ x.length) && (decide (x.length ≤ 8) && (TL.tl x).all loB)
  | _ => false
def dSrc1 (d : PyData) : Bool := dPat d || (dName d && decide (sLen d ≤ 6))
def dSrcs : PyData → Bool
  | .tuple ds => decide (ds.length ≤ 3) && ds.all dSrc1
  | _ => false
def dRule : PyData → Bool
  | .tuple [l, p, s] => dLabel l && (dPat p && dSrcs s)
  | _ => false
def dBook : PyData → Bool
  | .tuple ds => decide (ds.length ≤ 6) && ds.all dRule
  | _ => false
section
variable {P : Program} {w : World} {K : PySem.W.Frag} {mg : Str → Option Value} {base : Heap}
structure Glk (mg : Str → Option Value) : Prop where
  all : mg "all" = none
  label : Con1 mg "MOST_LABEL_LETTERS" (.int 8)
  name : Con1 mg "MOST_NAME_LETTERS" (.int 6)
  sources : Con1 mg "MOST_SOURCES" (.int 3)
  rules : Con1 mg "MOST_RULES" (.int 6)
def spOne (K : PySem.W.Frag) (p : PyData → Bool) : Sp := fun vs H Q _ => ∃ v d, vs = [v] ∧ Th K H v d ∧ d.bulk ≤ 1000000 ∧ Q (.bl (p d)) H
def spOneS (K : PySem.W.Frag) (p : PyData → Bool) : Sp := fun vs H Q _ => ∃ v d, vs = [v] ∧ Th K H v d ∧ d.bulk ≤ 1000000 ∧ ∀ H', Same H H' → Q (.bl (p d)) H'
theorem name_str {d : PyData} (h : dName d = true) : isStr d = true := by
  cases d with
  | str x => rfl
  | _ => cases h
theorem th_at {H : Hp} : ∀ {xs : List V} {ds : List PyData} {i : Nat} {x : V}, ThAll K H xs ds → xs[i]? = some x → ∃ d, ds[i]? = some d ∧ Th K H x d
  | _, _, _, _, .nil, h => by simp at h
  | _, _, 0, _, .cons h _, e => by
    simp at e
    subst e
    exact ⟨_, rfl, h⟩
  | _, _, i + 1, x, .cons _ tl, e => by
    obtain ⟨d, m, h⟩ := th_at (i := i) (x := x) tl (by simpa using e)
    exact ⟨d, by simpa using m, h⟩
theorem bulk_in : ∀ {ds : List PyData} {d : PyData}, d ∈ ds → d.bulk ≤ PyData.bulkAll ds
  | e :: r, d, h => by
    rw [PyData.bulkAll]
    rcases List.mem_cons.mp h with rfl | h
    · omega
    · have := bulk_in h
      omega
/-- all([f(x) for x in t]), t a tuple -/
theorem all_read {σ : L2.St} {H : Hp} {a : Addr} {xs : List V} {ds : List PyData} {p : PyData → Bool} {n iv : Nat} {te : TE} {Q : VK} (hv : σ[0]? = some (some (.ref a))) (hs : SqT K H a xs) (ha : ThAll K H xs ds) (small : ds.length ≤ 1000)
    (wp : ∀ (x : V), wipe ((wipe σ [iv]).set iv (some x)) [iv] = wipe σ [iv])
    (call : ∀ (x : V) (d : PyData) (H' : Hp) (R : VK), d ∈ ds → Th K H' x d → Same H H' → (∀ H2, Same H' H2 → R (.bl (p d)) H2) → te ((wipe σ [iv]).set iv (some x)) H' R) (k : ∀ H', Same H H' → Q (.bl (ds.all p)) H') :
    tCB (rAll K) (tCons (tLc (iTup K (tVar 0)) (gName iv) tYes te [iv]) tNil) σ H Q := by
  have hl := thAll_len ha
  refine ⟨_, hv, a, rfl, ⟨_, hs⟩, fun D nD => ?_⟩
  refine lc_tup (K := K) (a := a) (xs := xs) (fun i H' => H' D = some (.lst (((ds.take i).map p).map V.bl)) ∧ Same H H') ⟨upd_same, same_upd nD⟩ (fun i H' _ h => Same.seqT h.2 hs) ?_ ?_
  · rintro i x H' hx ⟨hD, s⟩
    obtain ⟨d, hd, th⟩ := th_at ha hx
    have hi : i < ds.length := (List.getElem?_eq_some_iff.mp hd).1
    refine ⟨wp x, call x d H' _ (List.mem_of_getElem? hd) (th_same s th) s fun H2 s2 => ⟨_, s2 _ _ hD, ?_, ?_, same_mut (s.trans s2) nD⟩⟩
    · rw [List.length_map, List.length_map, List.length_take]
      exact small1000 (by omega)
    · rw [upd_same, List.take_add_one, hd, List.map_append, List.map_append]
      rfl
  · rintro H' ⟨hD, s⟩
    rw [hl, List.take_length] at hD
    refine ⟨D, ds.map p, rfl, SqL.of hD, ?_⟩
    have e : (ds.map p).all id = ds.all p := by rw [List.all_map]; rfl
    rw [e]
    exact k H' s
theorem sc_p_is_label : FnScope ["thing"] ["thing"] (defScope s_p_is_label) := ⟨rfl, rfl, rfl, by decide +kernel, rfl, by decide +kernel, by decide +kernel⟩
theorem cal_p_is_label (D : Def1 K mg "is_label" s_p_is_label) (T : Glc mg) (G : Glb mg) (B : Glk mg) : Cal P w K mg base 1 "is_label" (spOne K dLabel) := by
  refine mkCal D sc_p_is_label (fun _ _ _ _ _ _ us hl => match us, hl with | [_], _ => rfl) (fun vs H Q E h => ?_) (fun f cdv A outer s H vs Q E hr h => ?_)
  · obtain ⟨v, d, rfl, _⟩ := h
    rfl
  · obtain ⟨v, d, rfl, ht, hb, k⟩ := h
    refine ⟨_, pss_one (ps_ret (pe_and (pe_isi (T := "str") (pv 0) T.isinst T.str (by decide +kernel)) (pe_and (pe_chain op_le op_le pe_int (pe_callB call_len_str (by rfl) G.len PySem.boot_len (pa_cons (pv 0) pa_nil)) (pe_con1 B.label))
      (pe_one (pe_cmpR op_eq (pe_m1 PySem.F.slot_str_strip PySem.F.type_str_strip mt_stripChars (pv 0) (pe_con1 T.smalls)) pe_str (nomark _)))))), ?_⟩
    refine ⟨_, rfl, v, _, _, _, _, rfl, .ty _, th_ty ht, kit_str d, _, rfl, ?_⟩
    cases e : isStr d with
    | false =>
      have z : dLabel d = false := by
        cases d with
        | str x => cases e
        | _ => rfl
      rw [z] at k
      exact iteF k
    | true =>
      obtain ⟨x, rfl, rfl⟩ := th_str ht e
      have hx : x.length ≤ sizeLine := Nat.le_trans hb (by decide)
      have ed : dLabel (.str x) = (decide (1 ≤ x.length) && (decide (x.length ≤ 8) && (TL.tl x).all loB)) := rfl
      refine iteT ⟨_, rfl, x, rfl, hx, _, _, rfl, rfl, _, rfl, ?_⟩
      refine ite2 (fun h1 => ?_) (fun h1 => ?_)
      · have g1 : 1 ≤ x.length := by
          have := of_decide_eq_true h1
          omega
        refine ⟨_, _, rfl, rfl, _, rfl, ?_⟩
        refine ite2 (fun h2 => ?_) (fun h2 => ?_)
        · have g2 : x.length ≤ 8 := by
            have := of_decide_eq_true h2
            omega
          refine ⟨_, rfl, ⟨x, rfl⟩, x, smaS, rfl, rfl, hx, rfl, ?_⟩
          have e2 : decide (V.str (Txt.stripChars x smaS) = V.str "") = dLabel (.str x) := by
            rw [ed, decide_eq_true g1, decide_eq_true g2, Bool.true_and, Bool.true_and, Bool.eq_iff_iff, decide_eq_true_iff, V.str.injEq, ← tl_nil_iff, Txt.stripChars, tl_strip, funext sma_has]
          rw [e2]
          exact k
        · have z : dLabel (.str x) = false := by
            rw [ed, decide_eq_false (p := x.length ≤ 8) (fun q => h2 (decide_eq_true (by omega))), Bool.false_and, Bool.and_false]
          rw [z] at k
          exact k
      · have z : dLabel (.str x) = false := by
          rw [ed, decide_eq_false (p := 1 ≤ x.length) (fun q => h1 (decide_eq_true (by omega))), Bool.false_and]
        rw [z] at k
        exact ⟨_, rfl, iteF k⟩
theorem sc_p_is_rule_source : FnScope ["thing"] ["thing"] (defScope s_p_is_rule_source) := ⟨rfl, rfl, rfl, by decide +kernel, rfl, by decide +kernel, by decide +kernel⟩
theorem cal_p_is_rule_source (D : Def1 K mg "is_rule_source" s_p_is_rule_source) (G : Glb mg) (B : Glk mg) (CN : Cal P w K mg base 1 "is_name" (spIsName K)) (CP : Cal P w K mg base 2 "is_pattern" (spIsPat K)) : Cal P w K mg base 3 "is_rule_source" (spOne K dSrc1) := by
  refine mkCal D sc_p_is_rule_source (fun _ _ _ _ _ _ us hl => match us, hl with | [_], _ => rfl) (fun vs H Q E h => ?_) (fun f cdv A outer s H vs Q E hr h => ?_)
  · obtain ⟨v, d, rfl, _⟩ := h
    rfl
  · obtain ⟨v, d, rfl, ht, hb, k⟩ := h
    refine ⟨_, pss_one (ps_ret (pe_or (pe_cal CP hr (by decide) (pa_cons (pv 0) pa_nil)) (pe_one (pe_and (pe_cal CN hr (by decide) (pa_cons (pv 0) pa_nil)) (pe_one (pe_cmpR op_le (pe_callB call_len_str (by rfl) G.len PySem.boot_len (pa_cons (pv 0) pa_nil)) (pe_con1 B.name) (nomark _))))))), ?_⟩
    refine ⟨_, rfl, v, d, rfl, ht, hb, _, rfl, ?_⟩
    unfold dSrc1 at k
    cases e : dPat d with
    | true =>
      rw [e, Bool.true_or] at k
      exact iteT k
    | false =>
      rw [e, Bool.false_or] at k
      refine iteF ⟨_, rfl, v, d, rfl, ht, hb, _, rfl, ?_⟩
      cases e2 : dName d with
      | false =>
        rw [e2, Bool.false_and] at k
        exact iteF k
      | true =>
        rw [e2, Bool.true_and] at k
        obtain ⟨x, rfl, rfl⟩ := th_str ht (name_str e2)
        refine iteT ⟨_, rfl, x, rfl, Nat.le_trans hb (by decide), _, _, rfl, rfl, ?_⟩
        have z : decide ((x.length : Int) ≤ 6) = decide (sLen (.str x) ≤ 6) := by
          rw [Bool.eq_iff_iff, decide_eq_true_iff, decide_eq_true_iff]
          show (x.length : Int) ≤ 6 ↔ x.length ≤ 6
          omega
        rw [← z] at k
        exact k
theorem tup_no {d : PyData} (h : isTup d = false) : dSrcs d = false ∧ dRule d = false ∧ dBook d = false := by
  cases d with
  | tuple ds => cases h
  | _ => exact ⟨rfl, rfl, rfl⟩
theorem rule_no : ∀ {ds : List PyData}, ds.length ≠ 3 → dRule (.tuple ds) = false
  | [], _ => rfl
  | [_], _ => rfl
  | [_, _], _ => rfl
  | [_, _, _], h => absurd rfl h
  | _ :: _ :: _ :: _ :: _, _ => rfl
end
end Lk

/-! K91A -/
set_option Elab.async false
set_option linter.all false
set_option maxRecDepth 100000
set_option maxHeartbeats 4000000
namespace Lk
open PySem PySem.Spec PyProof.Rows L2
section
variable {P : Program} {w : World} {K : PySem.W.Frag} {mg : Str → Option Value} {base : Heap}
/-! ### letters and tokens of a row -/
def ltB (c : Nat) : Bool := upB c || loB c
def sgB (c : Nat) : Bool := decide (c = 58) || (decide (c = 42) || decide (c = 60))
def blB (c : Nat) : Bool := decide (c = 32) || decide (c = 9)
def letS : Str := "ABCDEFGHIJKLMNOPQRSTUVWXYZabcdefghijklmnopqrstuvwxyz"
structure Gtx (mg : Str → Option Value) : Prop where
  letters : Con1 mg "LETTERS" (.str letS)
  signs : Con1 mg "SIGNS" (.str ":*<")
  blanks : Con1 mg "BLANKS" (.str " \t")
theorem let_has (c : Nat) : decide (c ∈ letS.cps.toList) = ltB c := by
  have e : letS.cps.toList = List.range' 65 26 ++ List.range' 97 26 := by decide +kernel
  rw [e, Bool.eq_iff_iff, decide_eq_true_iff, List.mem_append, List.mem_range'_1, List.mem_range'_1]
  unfold ltB upB loB
  rw [Bool.or_eq_true, Bool.and_eq_true, Bool.and_eq_true, decide_eq_true_iff, decide_eq_true_iff, decide_eq_true_iff, decide_eq_true_iff]
  omega
theorem sign_has (c : Nat) : decide (c ∈ (":*<" : Str).cps.toList) = sgB c := by
  have e : (":*<" : Str).cps.toList = [58, 42, 60] := by decide +kernel
  rw [e, Bool.eq_iff_iff, decide_eq_true_iff]
  unfold sgB
  rw [Bool.or_eq_true, Bool.or_eq_true, decide_eq_true_iff, decide_eq_true_iff, decide_eq_true_iff, List.mem_cons, List.mem_cons, List.mem_singleton]
theorem blank_has (c : Nat) : decide (c ∈ (" \t" : Str).cps.toList) = blB c := by
  have e : (" \t" : Str).cps.toList = [32, 9] := by decide +kernel
  rw [e, Bool.eq_iff_iff, decide_eq_true_iff]
  unfold blB
  rw [Bool.or_eq_true, decide_eq_true_iff, decide_eq_true_iff, List.mem_cons, List.mem_singleton]
theorem one_tl (c : Nat) : TL.tl (⟨#[c]⟩ : Str) = [c] := rfl
theorem one_len (c : Nat) : (⟨#[c]⟩ : Str).length = 1 := rfl
/-- the sign at a place -/
theorem at_sign {x : Str} {n c : Nat} (h : (TL.tl x)[n]? = some c) : atI x.cps.toList (n : Int) = some c := by
  have l := (List.getElem?_eq_some_iff.mp h).1
  unfold atI ixN
  have lx : x.cps.toList.length = (TL.tl x).length := rfl
  rw [if_pos (by omega), if_pos (by omega)]
  exact h
def spLet : Sp := fun vs H Q _ => ∃ (x : Str) (p : Nat), vs = [.str x, .int (p : Int)] ∧ p ≤ x.length ∧ x.length ≤ 1000000 ∧ ∀ w : Str, TL.tl w = ((TL.tl x).drop p).takeWhile ltB → Q (.str w) H
theorem sc_p_letters : FnScope ["text", "at", "end"] ["text", "at"] (defScope s_p_letters_at) := ⟨rfl, rfl, rfl, by decide +kernel, rfl, by decide +kernel, by decide +kernel⟩
theorem cut_two {x : Str} {p n : Nat} (h : p ≤ n) (hn : n ≤ x.length) : TL.tl (cutS x (some (p : Int)) (some (n : Int))) = ((TL.tl x).drop p).take (n - p) := by
  show ((TL.tl x).drop (HT.sIx x.length 0 (some (p : Int)))).take (HT.sIx x.length x.length (some (n : Int)) - HT.sIx x.length 0 (some (p : Int))) = _
  rw [HT.sIx_nat, HT.sIx_nat, Nat.min_eq_left hn, Nat.min_eq_left (Nat.le_trans h hn)]
theorem tw_of {l : List Nat} {k : Nat} {p : Nat → Bool} (h : ∀ c ∈ l.take k, p c = true) (stop : ∀ c, l[k]? = some c → p c = false) (hk : k ≤ l.length) : l.take k = l.takeWhile p := by
  have e := List.take_append_drop k l
  conv => rhs; rw [← e]
  rw [List.takeWhile_append_of_pos h]
  cases d : l.drop k with
  | nil => simp
  | cons c r =>
    have z : l[k]? = some c := by
      have y := congrArg (fun m => m[0]?) d
      simpa using y
    rw [List.takeWhile_cons, stop c z]
    simp
theorem cal_p_letters (D : Def1 K mg "letters_at" s_p_letters_at) (G : Glb mg) (T : Gtx mg) : Cal P w K mg base 1 "letters_at" spLet := by
  refine mkCal D sc_p_letters (fun _ _ _ _ _ _ us hl => match us, hl with | [_, _], _ => rfl) (fun vs H Q E h => ?_) (fun f cdv A outer s H vs Q E hr h => ?_)
  · obtain ⟨x, p, rfl, _⟩ := h
    rfl
  · obtain ⟨x, p, rfl, hp, hx, k⟩ := h
    have hz : x.length ≤ sizeLine := Nat.le_trans hx (by decide)
    have hl := TL.len_tl x
    refine ⟨_, (pss_cons (ps_set (i := 2) sc_p_letters.nd rfl (.inl rfl) (pv 1))
    (pss_cons (ps_while PassesOwn.never (PW.pt (pw_and (pt_cmpR op_lt (pv 2) (pe_callB call_len_str (by rfl) G.len PySem.boot_len (pa_cons (pv 0) pa_nil)) (nomark _)) (pw_and1 (pt_cmpR op_inS (pe_ix ix_str (pv 0) (pv 2) (fun _ _ => rfl)) (pe_con1 T.letters) (by rfl)))))
    (pss_one (ps_aug (i := 2) sc_p_letters.nd rfl (.inl rfl) pe_int ip_add)))
    (pss_one (ps_ret (pe_slice sl_str (pv 0) (po_some (pv 1)) (po_some (pv 2))))))), ?_⟩
    have fin : ∀ n : Nat, p ≤ n → n ≤ x.length → (∀ c ∈ ((TL.tl x).drop p).take (n - p), ltB c = true) → (∀ c, (TL.tl x)[n]? = some c → ltB c = false) → tRet (tSl rSlS (tVar 0) (tPart (tVar 1)) (tPart (tVar 2))) { nx := fun _ H' => Q .non H', rt := Q } [some (.str x), some (.int (p : Int)), some (.int (n : Int))] H := by
      intro n h1 h2 up stop
      refine ⟨_, rfl, _, rfl, _, rfl, _, rfl, _, rfl, x, rfl, hz, k _ ?_⟩
      rw [cut_two h1 h2]
      refine tw_of up (fun c hc => stop c ?_) (by rw [List.length_drop]; omega)
      rw [List.getElem?_drop] at hc
      rwa [show p + (n - p) = n by omega] at hc
    refine sq_asg ⟨_, rfl, on_go ?_⟩
    refine ⟨fun m σ H' => ∃ n : Nat, σ = [some (.str x), some (.int (p : Int)), some (.int (n : Int))] ∧ n + m = x.length ∧ p ≤ n ∧ (∀ c ∈ ((TL.tl x).drop p).take (n - p), ltB c = true) ∧ H' = H, ⟨x.length - p, p, rfl, by omega, Nat.le_refl _, by rw [Nat.sub_self, List.take_zero]; exact (fun _ m => nomatch m), rfl⟩, ?_⟩
    rintro m σ H' ⟨n, rfl, em, pn, up, rfl⟩
    refine ⟨_, rfl, _, rfl, x, rfl, hz, _, _, rfl, rfl, _, rfl, ?_⟩
    refine ite2 (fun hlt => ?_) (fun hge => ?_)
    · have hn : n < (TL.tl x).length := by
        have := of_decide_eq_true hlt
        omega
      have hc : (TL.tl x)[n]? = some ((TL.tl x)[n]) := List.getElem?_eq_getElem hn
      refine ⟨_, rfl, _, rfl, x, _, _, rfl, rfl, hz, at_sign hc, _, _, rfl, rfl, _, rfl, ?_⟩
      rw [let_has]
      refine ite2 (fun h1 => ?_) (fun h1 => ?_)
      · refine ⟨fun σ' H'' => ∃ n' : Nat, n' = n + 1 ∧ σ' = [some (.str x), some (.int (p : Int)), some (.int (n' : Int))] ∧ H'' = H', fun σ' H'' hN => ?_, _, rfl, _, _, rfl, rfl, n + 1, rfl, ?_, rfl⟩
        · obtain ⟨n', rfl, rfl, rfl⟩ := hN
          refine ⟨m - 1, by omega, n + 1, rfl, by omega, by omega, fun c hc' => ?_, rfl⟩
          rw [show n + 1 - p = (n - p) + 1 by omega, List.take_add_one] at hc'
          rcases List.mem_append.mp hc' with h | h
          · exact up c h
          · rw [List.getElem?_drop, show p + (n - p) = n by omega, hc] at h
            rw [List.mem_singleton.mp h]
            exact h1
        · show [some (V.str x), _, some (V.int ((n : Int) + 1))] = _
          rw [show ((n + 1 : Nat) : Int) = (n : Int) + 1 by omega]
      · exact fin n pn (by omega) up fun c h => by
          rw [hc] at h
          rw [← Option.some.inj h]
          exact Bool.eq_false_iff.mpr h1
    · have hn : n = x.length := by
        have : ¬ ((n : Int) < (x.length : Int)) := fun z => hge (decide_eq_true z)
        omega
      exact fin n pn (by omega) up fun c h => by
        rw [List.getElem?_eq_none (by omega)] at h
        cases h
end
end Lk

/-! K91e -/
set_option Elab.async false
set_option linter.all false
set_option maxRecDepth 100000
set_option maxHeartbeats 4000000
namespace Lk
open PySem PySem.Spec PyProof.Rows L2
section
variable {P : Program} {w : World} {K : PySem.W.Frag} {mg : Str → Option Value} {base : Heap}
abbrev s_init1 : Stmt := inClass (top 2) 0
abbrev s_init2 : Stmt := inClass (top 3) 0
/-- a class with its own __init__ -/
structure Ini (P : Program) (w : World) (K : PySem.W.Frag) (mg : Str → Option Value) (base : Heap) (x : String) (C : Addr) (sp : Sp) : Prop where
  ex : ∃ (fI : Addr) (fd : FuncData) (ps : List Str), FnOk P w K mg base CX0 1 fI fd ps sp ∧ PySem.W.findIn K (.ref C) "__init__" = some (some (.ref fI)) ∧ PySem.W.typeIn K (.ref fI) = some (.type "function") ∧ Binds K fd ps [] ∧ mg x = some (.ref C)
  ox : OexC K C
theorem pe_ini {X : Cx} {x : String} {C : Addr} {sp : Sp} {j : Nat} {e : Expr} {es : List Expr} {ta : TA} {p pos : Pos} (T : Ini X.prog X.w X.K X.mg X.base x C sp) (hr : Room j X.A) (hj : 2 ≤ j) (ha : PA X (e :: es) ta) (hg : Gl X x := by rfl)
    (hdb : ((x : Str) == ("__debug__" : Str)) = false := by decide) (he : starEach (e :: es) X.env = (false, eval e X.env) :: starEach es X.env := by rfl) (hpl : (backTo pos (starEach es X.env)).any (·.1) = false := by rfl) :
    PE X (.Call (.Name x p) (e :: es) [] pos) (tMkV C sp ta) := by
  obtain ⟨fI, fd, ps, F, iC, tI, b, m⟩ := T.ex
  exact pe_mkV T.ox iC tI F (hr.mono hj) b pass0 hg m ha hdb he hpl
def spI1 (C : Addr) : Sp := fun vs H Q _ => ∃ (a : Addr) (y : V), vs = [.ref a, y] ∧ H a = some (exo a C none) ∧ ∀ dx, H dx = none → dx ≠ a → Q .non (upd (upd H dx (exd dx [("limit", y)])) a (exo a C (some dx)))
def spI2 (C : Addr) : Sp := fun vs H Q _ => ∃ (a : Addr) (y z : V), vs = [.ref a, y, z] ∧ H a = some (exo a C none) ∧ ∀ dx, H dx = none → dx ≠ a → Q .non (upd (upd (upd H dx (exd dx [("line", y)])) a (exo a C (some dx))) dx (exd dx [("column", z), ("line", y)]))
theorem sc_init1 : FnScope ["self", "limit"] ["self", "limit"] (defScope s_init1) := ⟨rfl, rfl, rfl, by decide +kernel, rfl, by decide +kernel, by decide +kernel⟩
theorem sc_init2 : FnScope ["self", "line", "column"] ["self", "line", "column"] (defScope s_init2) := ⟨rfl, rfl, rfl, by decide +kernel, rfl, by decide +kernel, by decide +kernel⟩
theorem ini1 {fI C : Addr} {fd : FuncData} (F : L2.Fun K "__init__" "TooMany.__init__" s_init1 fI fd) (T : OexC K C) (iC : PySem.W.findIn K (.ref C) "__init__" = some (some (.ref fI))) (tI : PySem.W.typeIn K (.ref fI) = some (.type "function")) (no : PySem.W.findIn K (.ref C) "limit" = some none) (m : mg "TooMany" = some (.ref C)) :
    Ini P w K mg base "TooMany" C (spI1 C) := by
  refine ⟨⟨fI, fd, ["self", "limit"], F.ok sc_init1 (fun vs H Q E h => ?_) (fun cdv A outer s H vs Q E hr h => ?_), iC, tI, F.binds (ps := ["self", "limit"]) fun _ _ _ _ _ _ us hl => match us, hl with | [_, _], _ => rfl, m⟩, T⟩
  · obtain ⟨a, y, rfl, _⟩ := h
    rfl
  · obtain ⟨a, y, rfl, ha, k⟩ := h
    exact ⟨_, pss_one (ps_ost (pv 0) (pv 1) (by rfl)), ⟨_, rfl, _, rfl, a, C, rfl, T, no, .inl ⟨ha, fun dx n ne => k dx n ne⟩⟩⟩
theorem ini2 {fI C : Addr} {fd : FuncData} (F : L2.Fun K "__init__" "SyntaxProblem.__init__" s_init2 fI fd) (T : OexC K C) (iC : PySem.W.findIn K (.ref C) "__init__" = some (some (.ref fI))) (tI : PySem.W.typeIn K (.ref fI) = some (.type "function")) (no1 : PySem.W.findIn K (.ref C) "line" = some none) (no2 : PySem.W.findIn K (.ref C) "column" = some none) (m : mg "SyntaxProblem" = some (.ref C)) :
    Ini P w K mg base "SyntaxProblem" C (spI2 C) := by
  refine ⟨⟨fI, fd, ["self", "line", "column"], F.ok sc_init2 (fun vs H Q E h => ?_) (fun cdv A outer s H vs Q E hr h => ?_), iC, tI, F.binds (ps := ["self", "line", "column"]) fun _ _ _ _ _ _ us hl => match us, hl with | [_, _, _], _ => rfl, m⟩, T⟩
  · obtain ⟨a, y, z, rfl, _⟩ := h
    rfl
  · obtain ⟨a, y, z, rfl, ha, k⟩ := h
    exact ⟨_, pss_cons (ps_ost (pv 0) (pv 1) (by rfl)) (pss_one (ps_ost (pv 0) (pv 2) (by rfl))), ⟨_, rfl, _, rfl, a, C, rfl, T, no1, .inl ⟨ha, fun dx n ne =>
      ⟨_, rfl, _, rfl, a, C, rfl, T, no2, .inr ⟨dx, _, upd_same, by rw [upd_ne ne, upd_same], by show 1 ≤ 900; decide, k dx n ne⟩⟩⟩⟩⟩
end
end Lk

/-! K91B -/
set_option Elab.async false
set_option linter.all false
set_option maxRecDepth 100000
set_option maxHeartbeats 4000000
namespace Lk
open PySem PySem.Spec PyProof.Rows L2
section
variable {P : Program} {w : World} {K : PySem.W.Frag} {mg : Str → Option Value} {base : Heap}
abbrev TkW := Nat × Str
def tokD (t : TkW) : PyData := .tuple [.int (t.1 : Int), .str t.2]
inductive Lex : Nat → List Nat → List TkW → Prop
  | nil {p : Nat} : Lex p [] []
  | blank {p c : Nat} {cs : List Nat} {T : List TkW} : blB c = true → Lex (p + 1) cs T → Lex p (c :: cs) T
  | sign {p c : Nat} {cs : List Nat} {T : List TkW} : sgB c = true → Lex (p + 1) cs T → Lex p (c :: cs) ((p, ⟨#[c]⟩) :: T)
  | word {p : Nat} {w : Str} {cs : List Nat} {T : List TkW} : TL.tl w ≠ [] → (∀ c ∈ TL.tl w, ltB c = true) → (∀ c, cs.head? = some c → ltB c = false) → Lex (p + w.length) cs T → Lex p (TL.tl w ++ cs) ((p, w) :: T)
theorem sg_no {c : Nat} (h : sgB c = true) : ltB c = false ∧ blB c = false := by
  unfold sgB at h
  unfold ltB upB loB blB
  simp only [Bool.or_eq_true, decide_eq_true_eq] at h
  simp only [Bool.or_eq_false_iff, Bool.and_eq_false_iff, decide_eq_false_iff_not]
  omega
theorem bl_no {c : Nat} (h : blB c = true) : ltB c = false ∧ sgB c = false := by
  unfold blB at h
  unfold ltB upB loB sgB
  simp only [Bool.or_eq_true, decide_eq_true_eq] at h
  simp only [Bool.or_eq_false_iff, Bool.and_eq_false_iff, decide_eq_false_iff_not]
  omega
theorem lt_no {c : Nat} (h : ltB c = true) : sgB c = false ∧ blB c = false := by
  unfold ltB upB loB at h
  unfold sgB blB
  simp only [Bool.or_eq_true, Bool.and_eq_true, decide_eq_true_eq] at h
  simp only [Bool.or_eq_false_iff, decide_eq_false_iff_not]
  omega
theorem Lex.bound {p : Nat} {cs : List Nat} {T : List TkW} (h : Lex p cs T) : (∀ t ∈ T, p ≤ t.1 ∧ t.1 + t.2.length ≤ p + cs.length) ∧ T.length ≤ cs.length := by
  induction h with
  | nil => exact ⟨(fun _ m => nomatch m), Nat.le_refl _⟩
  | blank _ _ ih =>
    refine ⟨fun t m => ?_, by rw [List.length_cons]; omega⟩
    have := ih.1 t m
    rw [List.length_cons]
    omega
  | sign _ _ ih =>
    refine ⟨fun t m => ?_, by rw [List.length_cons, List.length_cons]; omega⟩
    rw [List.length_cons]
    rcases List.mem_cons.mp m with rfl | m
    · show _ ≤ _ ∧ _ + 1 ≤ _
      omega
    · have := ih.1 t m
      omega
  | @word p w cs T hw h2 h3 h4 ih =>
    have lw := TL.len_tl w
    have l0 : 0 < (TL.tl w).length := List.length_pos_iff.mpr hw
    refine ⟨fun t m => ?_, by rw [List.length_cons, List.length_append]; omega⟩
    rw [List.length_append]
    rcases List.mem_cons.mp m with rfl | m
    · show p ≤ p ∧ p + w.length ≤ _
      omega
    · have := ih.1 t m
      omega
/-- the tokens of a row, or those ahead of the first sign that is none -/
inductive LexR : Nat → List Nat → List TkW → Option Nat → Prop
  | nil {p : Nat} : LexR p [] [] none
  | bad {p c : Nat} {cs : List Nat} : ltB c = false → sgB c = false → blB c = false → LexR p (c :: cs) [] (some p)
  | blank {p c : Nat} {cs : List Nat} {T : List TkW} {r : Option Nat} : blB c = true → LexR (p + 1) cs T r → LexR p (c :: cs) T r
  | sign {p c : Nat} {cs : List Nat} {T : List TkW} {r : Option Nat} : sgB c = true → LexR (p + 1) cs T r → LexR p (c :: cs) ((p, ⟨#[c]⟩) :: T) r
  | word {p : Nat} {w : Str} {cs : List Nat} {T : List TkW} {r : Option Nat} : TL.tl w ≠ [] → (∀ c ∈ TL.tl w, ltB c = true) → (∀ c, cs.head? = some c → ltB c = false) → LexR (p + w.length) cs T r → LexR p (TL.tl w ++ cs) ((p, w) :: T) r
theorem Lex.r {p : Nat} {cs : List Nat} {T : List TkW} (h : Lex p cs T) : LexR p cs T none := by
  induction h with
  | nil => exact .nil
  | blank a _ ih => exact .blank a ih
  | sign a _ ih => exact .sign a ih
  | word a b c _ ih => exact .word a b c ih
theorem tw_all (p : Nat → Bool) : ∀ (l : List Nat) {d : Nat}, d ∈ l.takeWhile p → p d = true
  | [], _, m => nomatch m
  | c :: l, d, m => by
    rw [List.takeWhile_cons] at m
    by_cases h : p c = true
    · rw [if_pos h] at m
      rcases List.mem_cons.mp m with rfl | m
      · exact h
      · exact tw_all p l m
    · rw [if_neg h] at m
      exact nomatch m
theorem lexR_ex : ∀ (n p : Nat) (cs : List Nat), cs.length ≤ n → ∃ T r, LexR p cs T r
  | _, p, [], _ => ⟨_, _, .nil⟩
  | 0, _, _ :: _, h => absurd h (by simp)
  | n + 1, p, c :: cs, h => by
    have h' : cs.length ≤ n := by
      rw [List.length_cons] at h
      omega
    rcases Bool.eq_false_or_eq_true (ltB c) with hl | hl
    · have es : c :: cs = TL.tl (⟨((c :: cs).takeWhile ltB).toArray⟩ : Str) ++ (c :: cs).dropWhile ltB := (List.takeWhile_append_dropWhile).symm
      have t0 : TL.tl (⟨((c :: cs).takeWhile ltB).toArray⟩ : Str) = (c :: cs).takeWhile ltB := rfl
      have ne : TL.tl (⟨((c :: cs).takeWhile ltB).toArray⟩ : Str) ≠ [] := by
        rw [t0, List.takeWhile_cons, hl]
        exact fun z => nomatch z
      have ld : ((c :: cs).dropWhile ltB).length ≤ n := by
        rw [List.dropWhile_cons, hl]
        exact Nat.le_trans (List.dropWhile_sublist _).length_le h'
      obtain ⟨T, r, h2⟩ := lexR_ex n (p + (⟨((c :: cs).takeWhile ltB).toArray⟩ : Str).length) ((c :: cs).dropWhile ltB) ld
      rw [es]
      refine ⟨_, _, .word ne (fun d m => ?_) (fun d hd => ?_) h2⟩
      · rw [t0] at m
        exact tw_all ltB _ m
      · have := List.head?_dropWhile_not ltB (c :: cs)
        rw [hd] at this
        exact this
    · rcases Bool.eq_false_or_eq_true (sgB c) with hs | hs
      · obtain ⟨T, r, h2⟩ := lexR_ex n (p + 1) cs h'
        exact ⟨_, _, .sign hs h2⟩
      · rcases Bool.eq_false_or_eq_true (blB c) with hb | hb
        · obtain ⟨T, r, h2⟩ := lexR_ex n (p + 1) cs h'
          exact ⟨_, _, .blank hb h2⟩
        · exact ⟨_, _, .bad hl hs hb⟩
theorem LexR.at_nil {p : Nat} {cs : List Nat} {T : List TkW} {r : Option Nat} (h : LexR p cs T r) (e : cs = []) : T = [] ∧ r = none := by
  cases h with
  | nil => exact ⟨rfl, rfl⟩
  | bad => cases e
  | blank => cases e
  | sign => cases e
  | word hw => exact absurd (List.append_eq_nil_iff.mp e).1 hw
theorem LexR.bound {p : Nat} {cs : List Nat} {T : List TkW} {r : Option Nat} (h : LexR p cs T r) : (∀ t ∈ T, p ≤ t.1 ∧ t.1 + t.2.length ≤ p + cs.length) ∧ T.length ≤ cs.length := by
  induction h with
  | nil => exact ⟨(fun _ m => nomatch m), Nat.le_refl _⟩
  | bad => exact ⟨(fun _ m => nomatch m), Nat.zero_le _⟩
  | blank _ _ ih =>
    refine ⟨fun t m => ?_, by rw [List.length_cons]; omega⟩
    have := ih.1 t m
    rw [List.length_cons]
    omega
  | sign _ _ ih =>
    refine ⟨fun t m => ?_, by rw [List.length_cons, List.length_cons]; omega⟩
    rw [List.length_cons]
    rcases List.mem_cons.mp m with rfl | m
    · show _ ≤ _ ∧ _ + 1 ≤ _
      omega
    · have := ih.1 t m
      omega
  | @word p w cs T r hw h2 h3 h4 ih =>
    have lw := TL.len_tl w
    have l0 : 0 < (TL.tl w).length := List.length_pos_iff.mpr hw
    refine ⟨fun t m => ?_, by rw [List.length_cons, List.length_append]; omega⟩
    rw [List.length_append]
    rcases List.mem_cons.mp m with rfl | m
    · show p ≤ p ∧ p + w.length ≤ _
      omega
    · have := ih.1 t m
      omega
theorem LexR.step {x : Str} {n : Nat} {T : List TkW} {r : Option Nat} {cs : List Nat} (h : LexR n cs T r) (ec : (TL.tl x).drop n = cs) (hn : n < x.length) : ∃ (c : Nat) (w : Str), (TL.tl x)[n]? = some c ∧ (sgB c = true → w = ⟨#[c]⟩) ∧ (sgB c = false → TL.tl w = ((TL.tl x).drop n).takeWhile ltB) ∧ (c :: (TL.tl x).drop (n + 1) = (TL.tl x).drop n) ∧
    ((w = "" ∧ blB c = false ∧ sgB c = false ∧ T = [] ∧ r = some n) ∨ ∃ T' : List TkW, (w = "" → blB c = true) ∧ T = (if w = "" then T' else (n, w) :: T') ∧ LexR (n + max 1 w.length) ((TL.tl x).drop (n + max 1 w.length)) T' r ∧ n + max 1 w.length ≤ x.length) := by
  have hl := TL.len_tl x
  have at0 : ∀ {c : Nat} {q : List Nat}, (TL.tl x).drop n = c :: q → (TL.tl x)[n]? = some c ∧ (TL.tl x).drop (n + 1) = q := fun {c q} e => by
    constructor
    · have y := congrArg (fun m => m[0]?) e
      simpa using y
    · rw [show n + 1 = n + 1 from rfl, ← List.drop_drop, e]
      rfl
  cases h with
  | nil =>
    have z := List.drop_eq_nil_iff.mp ec
    rw [← hl] at z
    omega
  | bad h1 h2 h3 =>
    rename_i c q
    obtain ⟨a1, a2⟩ := at0 ec
    refine ⟨c, "", a1, (fun z => by rw [h2] at z; cases z), (fun _ => ?_), by rw [a2, ec], .inl ⟨rfl, h3, h2, rfl, rfl⟩⟩
    rw [ec, List.takeWhile_cons, h1]
    rfl
  | blank hb hr =>
    rename_i c q
    obtain ⟨a1, a2⟩ := at0 ec
    have nb := bl_no hb
    have m1 : max 1 ("" : Str).length = 1 := rfl
    refine ⟨c, "", a1, (fun z => by rw [nb.2] at z; cases z), (fun _ => ?_), by rw [a2, ec], .inr ⟨T, (fun _ => hb), (if_pos rfl).symm, by rw [m1, a2]; exact hr, by rw [m1]; omega⟩⟩
    rw [ec, List.takeWhile_cons, nb.1]
    rfl
  | sign hs hr =>
    rename_i c q T'
    obtain ⟨a1, a2⟩ := at0 ec
    have m1 : max 1 (⟨#[c]⟩ : Str).length = 1 := rfl
    have ne : (⟨#[c]⟩ : Str) ≠ "" := fun z => by
      have y := congrArg TL.tl z
      exact nomatch (show [c] = [] from y)
    exact ⟨c, ⟨#[c]⟩, a1, (fun _ => rfl), (fun z => by rw [hs] at z; cases z), by rw [a2, ec], .inr ⟨T', (fun z => absurd z ne), (if_neg ne).symm, by rw [m1, a2]; exact hr, by rw [m1]; omega⟩⟩
  | word hw hl' hd hr =>
    rename_i w q T'
    obtain ⟨c, u, eu⟩ : ∃ c u, TL.tl w = c :: u := by
      cases e : TL.tl w with
      | nil => exact absurd e hw
      | cons c u => exact ⟨c, u, rfl⟩
    have lw : w.length = (c :: u).length := by rw [TL.len_tl, eu]
    have m1 : max 1 w.length = w.length := by
      rw [lw, List.length_cons]
      omega
    obtain ⟨a1, a2⟩ := at0 (c := c) (q := u ++ q) (by rw [ec, eu]; rfl)
    have ne : w ≠ "" := fun z => by
      rw [z] at eu
      exact nomatch (show [] = c :: u from eu)
    have hc := hl' c (by rw [eu]; exact List.mem_cons_self)
    have dr : (TL.tl x).drop (n + w.length) = q := by
      rw [← List.drop_drop, ec, TL.len_tl w, List.drop_left]
    refine ⟨c, w, a1, (fun z => by rw [(lt_no hc).1] at z; cases z), (fun _ => ?_), by rw [a2, ec, eu]; rfl, .inr ⟨T', (fun z => absurd z ne), (if_neg ne).symm, by rw [m1, dr]; exact hr, ?_⟩⟩
    · rw [ec, List.takeWhile_append_of_pos hl']
      cases q with
      | nil => simp
      | cons d q => rw [List.takeWhile_cons, hd d rfl]; simp
    · rw [m1]
      have z := congrArg List.length ec
      rw [List.length_drop, List.length_append, ← hl, ← TL.len_tl w] at z
      omega
theorem tok_nl (t : TkW) : noLst (tokD t) = true := rfl
theorem toks_nl : ∀ T : List TkW, noLstAll (T.map tokD) = true
  | [] => rfl
  | t :: T => by
    show (noLst (tokD t) && noLstAll (T.map tokD)) = true
    rw [tok_nl, toks_nl T]
    rfl
/-- the own dict of a SyntaxProblem -/
def probF (v : V) (c : Nat) : HO := .xd [("column", .int (c : Int)), ("line", v)]
theorem sp_raise {H : Hp} {SP : Addr} {y z : V} {Q : XK} (k : ∀ dd H', Same H H' → H' dd = some (.xd [("column", z), ("line", y)]) → Q (.ref SP) (some dd) H') : [y, z].length ≤ 1000 ∧ ∀ a, H a = none → spI2 SP (.ref a :: ([y, z] ++ [])) (upd H a (exo a SP none))
    (fun v H2 => v = .non ∧ ∃ (d : Addr) (fs : List (Str × V)), H2 a = some (exo a SP (some d)) ∧ H2 d = some (exd d fs) ∧ H d = none ∧ Q (.ref SP) (some d) (upd (del H2 a) d (.xd fs))) (fun _ _ _ => False) := by
  refine ⟨(by show 2 ≤ 1000; decide), fun a na => ⟨a, y, z, rfl, upd_same, fun d nd ne => ?_⟩⟩
  have nd' : H d = none := by rwa [upd_ne ne] at nd
  refine ⟨rfl, d, [("column", z), ("line", y)], by rw [upd_ne ne.symm, upd_same], upd_same, nd', k d _ (fun b x e => ?_) upd_same⟩
  have n1 : b ≠ a := ne_of_none e na
  have n2 : b ≠ d := ne_of_none e nd'
  rw [upd_ne n2, del_ne n1, upd_ne n2, upd_ne n1, upd_ne n2, upd_ne n1]
  exact e
def spTokX (K : PySem.W.Frag) (SP : Addr) : Sp := fun vs H Q E => ∃ (x : Str) (v : V) (T : List TkW) (r : Option Nat), vs = [.str x, v] ∧ x.length ≤ 1000000 ∧ LexR 0 (TL.tl x) T r ∧
  (r = none → ∀ (l : Addr) (xs : List V) (H' : Hp), Same H H' → H l = none → H' l = some (.lst xs) → ThAll K H' xs (T.map tokD) → Q (.ref l) H') ∧
  ∀ q, r = some q → ∀ (dd : Addr) (H' : Hp), Same H H' → H' dd = some (probF v (q + 1)) → E (.ref SP) (some dd) H'
theorem sc_p_tokens : FnScope ["text", "line", "found", "at", "word"] ["text", "line"] (defScope s_p_tokens_of) := ⟨rfl, rfl, rfl, by decide +kernel, rfl, by decide +kernel, by decide +kernel⟩
theorem calx_tokens {SP : Addr} (D : Def1 K mg "tokens_of" s_p_tokens_of) (G : Glb mg) (gmax : mg "max" = none) (T : Gtx mg) (PR : Ini P w K mg base "SyntaxProblem" SP (spI2 SP)) (CL : Cal P w K mg base 1 "letters_at" spLet) : CalX P w K mg base 3 "tokens_of" (spTokX K SP) := by
  obtain ⟨fI, fd, ps, F, iC, tI, b, m⟩ := PR.ex
  refine mkCalX D sc_p_tokens (fun _ _ _ _ _ _ us hl => match us, hl with | [_, _], _ => rfl) (fun vs H Q E h => ?_) (fun f cdv A outer s H vs Q E hr h => ?_)
  · obtain ⟨x, v, T, r, rfl, _⟩ := h
    rfl
  · obtain ⟨x, v, TT, r, rfl, hx, hlex, k, kr⟩ := h
    have hz : x.length ≤ sizeLine := Nat.le_trans hx (by decide)
    have hl := TL.len_tl x
    refine ⟨_, (pss_cons (ps_set (i := 2) sc_p_tokens.nd rfl (.inl rfl) (pe_lst pa_nil))
    (pss_cons (ps_set (i := 3) sc_p_tokens.nd rfl (.inl rfl) pe_int)
    (pss_cons (ps_while (passes_of rfl) (pt_cmpR op_lt (pv 3) (pe_callB call_len_str (by rfl) G.len PySem.boot_len (pa_cons (pv 0) pa_nil)) (nomark _))
    (pss_cons (ps_set (i := 4) sc_p_tokens.nd rfl (.inl rfl) (pe_ifExp (pt_cmpR op_inS (pe_ix ix_str (pv 0) (pv 3) (fun _ _ => rfl)) (pe_con1 T.signs) (by rfl)) (pe_ix ix_str (pv 0) (pv 3) (fun _ _ => rfl)) (pe_cal CL hr (by omega) (pa_cons (pv 0) (pa_cons (pv 3) pa_nil)))))
    (pss_cons (ps_if (PW.pt (pw_and (pt_cmpR op_eq (pv 4) pe_str (nomark _)) (pw_and1 (pt_cmpR op_notInS (pe_ix ix_str (pv 0) (pv 3) (fun _ _ => rfl)) (pe_con1 T.blanks) (by rfl))))) (pss_one (ps_raise rfl (takes_of rfl rfl rfl rfl) (pmk_oex (ds := []) (dvs := []) PR.ox iC tI F (hr.mono (by decide)) b .nil pass0 (by rfl) m (pa_cons (pv 1) (pa_cons (pe_op op_add (pv 3) pe_int) pa_nil))))) pss_nil)
    (pss_cons (ps_if (pt_cmpR op_ne (pv 4) pe_str (nomark _)) (pss_one (ps_expr (pe_bm PySem.F.plainAttrs_list PySem.F.slot_list_append PySem.F.type_list_append mt_append (pv 2) (pa_cons (pe_tup (pa_cons (pv 3) (pa_cons (pv 4) pa_nil))) pa_nil)))) pss_nil)
    (pss_one (ps_aug (i := 3) sc_p_tokens.nd rfl (.inl rfl) (pe_callB (call_max2 rfl) (by rfl) gmax (by decide +kernel) (pa_cons pe_int (pa_cons (pe_callB call_len_str (by rfl) G.len PySem.boot_len (pa_cons (pv 4) pa_nil)) pa_nil))) ip_add))))))
    (pss_one (ps_ret (pv 2)))))), ?_⟩
    refine sq_asg (lst_nil fun D nD => ?_)
    refine on_go (sq_asg (on_go ?_))
    refine ⟨fun m σ H' => ∃ (n : Nat) (T1 T2 : List TkW) (xs : List V) (v4 : Option V), σ = [some (.str x), some v, some (.ref D), some (.int (n : Int)), v4] ∧ n + m = x.length ∧ TT = T1 ++ T2 ∧ LexR n ((TL.tl x).drop n) T2 r ∧ Same H H' ∧ H' D = some (.lst xs) ∧ ThAll K H' xs (T1.map tokD),
      ⟨x.length, 0, [], TT, [], none, rfl, Nat.zero_add _, rfl, hlex, same_upd nD, upd_same, .nil⟩, ?_⟩
    rintro m σ H' ⟨n, T1, T2, xs, v4, rfl, em, eT, lx, s1, hD, th⟩
    refine ⟨_, rfl, _, rfl, x, rfl, hz, _, _, rfl, rfl, _, rfl, ?_⟩
    refine ite2 (fun hlt => ?_) (fun hge => ?_)
    · have hn : n < x.length := by
        have := of_decide_eq_true hlt
        omega
      obtain ⟨c, wd, hc, sg, nsg, _, hstep⟩ := lx.step rfl hn
      have lT := thAll_len th
      rw [List.length_map] at lT
      have bT := hlex.bound
      have lTT : T1.length ≤ x.length := by
        have z := bT.2
        rw [eT, List.length_append] at z
        omega
      refine ⟨fun σ' H'' => ∃ m', m' < m ∧ ∃ (n : Nat) (T1 T2 : List TkW) (xs : List V) (v4 : Option V), σ' = [some (.str x), some v, some (.ref D), some (.int (n : Int)), v4] ∧ n + m' = x.length ∧ TT = T1 ++ T2 ∧ LexR n ((TL.tl x).drop n) T2 r ∧ Same H H'' ∧ H'' D = some (.lst xs) ∧ ThAll K H'' xs (T1.map tokD), fun _ _ h => h, ?_⟩
      refine sq_asg ?_
      refine ⟨_, rfl, _, rfl, x, _, c, rfl, rfl, hz, at_sign hc, _, _, rfl, rfl, _, rfl, ?_⟩
      rw [sign_has]
      rcases hstep with ⟨rfl, nb, ns, eT2, er⟩ | ⟨T', emp, eT2, lx', le'⟩
      · refine iteF' ns ⟨_, rfl, _, rfl, x, n, rfl, by omega, hx, fun w' hw' => ?_⟩
        have ew : w' = "" := TL.ext_tl (hw'.trans (nsg ns).symm)
        rw [ew]
        refine on_go (sq_if (go_if ?_))
        refine ⟨_, rfl, rfl, _, rfl, iteT' rfl ⟨_, rfl, _, rfl, x, _, c, rfl, rfl, hz, at_sign hc, c, " \t", rfl, rfl, _, rfl, ?_⟩⟩
        rw [blank_has, nb]
        refine iteT' rfl ?_
        refine ⟨_, rfl, _, rfl, _, _, rfl, rfl, ?_⟩
        exact sp_raise fun dd H2 s2 h2 => kr n er dd H2 (s1.trans s2) h2
      have lw : wd.length ≤ x.length := by
        have : wd.length ≤ max 1 wd.length := Nat.le_max_right _ _
        omega
      have fin : ∀ (T1' : List TkW) (xs' : List V) (H2 : Hp), TT = T1' ++ T' → Same H H2 → H2 D = some (.lst xs') → ThAll K H2 xs' (T1'.map tokD) → ∃ m', m' < m ∧ ∃ (n2 : Nat) (T1 T2 : List TkW) (xs : List V) (v4 : Option V), [some (.str x), some v, some (.ref D), some (.int ((n : Int) + (if (wd.length : Int) > 1 then (wd.length : Int) else 1))), some (.str wd)] = [some (.str x), some v, some (.ref D), some (.int (n2 : Int)), v4] ∧ n2 + m' = x.length ∧ TT = T1 ++ T2 ∧ LexR n2 ((TL.tl x).drop n2) T2 r ∧ Same H H2 ∧ H2 D = some (.lst xs) ∧ ThAll K H2 xs (T1.map tokD) := by
        intro T1' xs' H2 e s2 h2 th2
        have em1 : (n : Int) + (if (wd.length : Int) > 1 then (wd.length : Int) else 1) = ((n + max 1 wd.length : Nat) : Int) := by
          split <;> omega
        refine ⟨x.length - (n + max 1 wd.length), by omega, n + max 1 wd.length, T1', T', xs', some (.str wd), by rw [em1], by omega, e, lx', s2, h2, th2⟩
      rcases Bool.eq_false_or_eq_true (sgB c) with h1 | h1
      · refine iteT' h1 ⟨_, rfl, _, rfl, x, _, c, rfl, rfl, hz, at_sign hc, ?_⟩
        rw [← sg h1]
        refine on_go (sq_if (go_if ?_))
        by_cases hw : wd = ""
        · refine ⟨_, rfl, rfl, _, rfl, iteT' (decide_eq_true (by rw [hw])) ⟨_, rfl, _, rfl, x, _, c, rfl, rfl, hz, at_sign hc, c, " \t", rfl, rfl, _, rfl, ?_⟩⟩
          rw [blank_has, emp hw]
          refine iteF' rfl (nxt_go (sq_if (go_if ⟨_, rfl, rfl, _, rfl, iteF' (by rw [hw]; rfl) (nxt_go ?_)⟩)))
          refine ⟨_, rfl, _, rfl, wd, rfl, Nat.le_trans lw hz, _, _, rfl, _, _, rfl, rfl, ?_⟩
          exact fin T1 xs H' (by rw [eT, eT2, if_pos hw]) s1 hD th
        · have nw : decide (V.str wd = V.str "") = false := decide_eq_false (fun z => hw (V.str.inj z))
          refine ⟨_, rfl, rfl, _, rfl, iteF' nw (iteF' rfl (nxt_go (sq_if (go_if ⟨_, rfl, rfl, _, rfl, iteT' (by rw [nw]; rfl) ?_⟩))))⟩
          refine ⟨_, rfl, .inl ⟨rfl, _, SqL.of hD⟩, _, rfl, _, rfl, (by show 2 ≤ sizeLine; decide), fun p np => ?_⟩
          have s2 := same_upd (o := .tup [.int (n : Int), .str wd]) np
          have hp : upd H' p (.tup [.int (n : Int), .str wd]) p = some (.tup [.int (n : Int), .str wd]) := upd_same
          generalize upd H' p (.tup [.int (n : Int), .str wd]) = H2 at s2 hp ⊢
          have hD2 := s2 _ _ hD
          refine ⟨D, _, _, rfl, rfl, hD2, by rw [sizeLine_eq]; omega, ?_⟩
          refine nxt_go ?_
          refine ⟨_, rfl, _, rfl, wd, rfl, Nat.le_trans lw hz, _, _, rfl, _, _, rfl, rfl, ?_⟩
          refine fin (T1 ++ [(n, wd)]) (xs ++ [V.ref p]) _ (by rw [eT, eT2, if_neg hw, List.append_assoc]; rfl) (same_mut (s1.trans s2) nD) upd_same ?_
          rw [List.map_append]
          exact thAll_app (thAll_mutL hD2 (thAll_same s2 th) (toks_nl T1)) (.cons (th_mutL hD2 (.tup (SqT.of hp) (.cons (.int _) (.cons (.str _) .nil))) rfl) .nil)
      · refine iteF' h1 ⟨_, rfl, _, rfl, x, n, rfl, by omega, hx, fun w' hw' => ?_⟩
        have ew : w' = wd := TL.ext_tl (hw'.trans (nsg h1).symm)
        rw [ew]
        refine on_go (sq_if (go_if ?_))
        by_cases hw : wd = ""
        · refine ⟨_, rfl, rfl, _, rfl, iteT' (decide_eq_true (by rw [hw])) ⟨_, rfl, _, rfl, x, _, c, rfl, rfl, hz, at_sign hc, c, " \t", rfl, rfl, _, rfl, ?_⟩⟩
          rw [blank_has, emp hw]
          refine iteF' rfl (nxt_go (sq_if (go_if ⟨_, rfl, rfl, _, rfl, iteF' (by rw [hw]; rfl) (nxt_go ?_)⟩)))
          refine ⟨_, rfl, _, rfl, wd, rfl, Nat.le_trans lw hz, _, _, rfl, _, _, rfl, rfl, ?_⟩
          exact fin T1 xs H' (by rw [eT, eT2, if_pos hw]) s1 hD th
        · have nw : decide (V.str wd = V.str "") = false := decide_eq_false (fun z => hw (V.str.inj z))
          refine ⟨_, rfl, rfl, _, rfl, iteF' nw (iteF' rfl (nxt_go (sq_if (go_if ⟨_, rfl, rfl, _, rfl, iteT' (by rw [nw]; rfl) ?_⟩))))⟩
          refine ⟨_, rfl, .inl ⟨rfl, _, SqL.of hD⟩, _, rfl, _, rfl, (by show 2 ≤ sizeLine; decide), fun p np => ?_⟩
          have s2 := same_upd (o := .tup [.int (n : Int), .str wd]) np
          have hp : upd H' p (.tup [.int (n : Int), .str wd]) p = some (.tup [.int (n : Int), .str wd]) := upd_same
          generalize upd H' p (.tup [.int (n : Int), .str wd]) = H2 at s2 hp ⊢
          have hD2 := s2 _ _ hD
          refine ⟨D, _, _, rfl, rfl, hD2, by rw [sizeLine_eq]; omega, ?_⟩
          refine nxt_go ?_
          refine ⟨_, rfl, _, rfl, wd, rfl, Nat.le_trans lw hz, _, _, rfl, _, _, rfl, rfl, ?_⟩
          refine fin (T1 ++ [(n, wd)]) (xs ++ [V.ref p]) _ (by rw [eT, eT2, if_neg hw, List.append_assoc]; rfl) (same_mut (s1.trans s2) nD) upd_same ?_
          rw [List.map_append]
          exact thAll_app (thAll_mutL hD2 (thAll_same s2 th) (toks_nl T1)) (.cons (th_mutL hD2 (.tup (SqT.of hp) (.cons (.int _) (.cons (.str _) .nil))) rfl) .nil)
    · have hn : n = x.length := by
        have : ¬ ((n : Int) < (x.length : Int)) := fun z => hge (decide_eq_true z)
        omega
      have e2 : T2 = [] ∧ r = none := by
        rw [List.drop_eq_nil_of_le (by omega)] at lx
        exact lx.at_nil rfl
      rw [e2.1, List.append_nil] at eT
      rw [← eT] at th
      exact ⟨_, rfl, k e2.2 D xs H' s1 nD hD th⟩
end
end Lk

/-! K91C -/
set_option Elab.async false
set_option linter.all false
set_option maxRecDepth 100000
set_option maxHeartbeats 4000000
namespace Lk
open PySem PySem.Spec PyProof.Rows L2
section
variable {P : Program} {w : World} {K : PySem.W.Frag} {mg : Str → Option Value} {base : Heap}
variable {C : Addr}
/-! ### a row that is read -/
def rKeys : List Str := ["line", "tokens", "at", "end"]
structure RCls (K : PySem.W.Frag) (C : Addr) : Prop where
  cl : Cls K C
  nL : NoAttr K C "line"
  nT : NoAttr K C "tokens"
  nA : NoAttr K C "at"
  nE : NoAttr K C "end"
structure RowAt (K : PySem.W.Frag) (C : Addr) (H : Hp) (o l : Addr) (T : List TkW) (k : Nat) : Prop where
  ob : ∃ (dx : Addr) (fs : List (Str × V)) (n : Nat), H o = some (.ins C dx fs) ∧ fs.map (·.1) = rKeys ∧ fs.lookup ("tokens" : Str) = some (.ref l) ∧ fs.lookup ("at" : Str) = some (.int (k : Int)) ∧ fs.lookup ("end" : Str) = some (.int (n : Int))
  tk : ∃ xs, H l = some (.lst xs) ∧ ThAll K H xs (T.map tokD)
  few : T.length ≤ 1000000
  small : ∀ t ∈ T, t.2.length ≤ 1000000
def nextW (T : List TkW) (k : Nat) : Str := match T[k]? with
  | some t => t.2
  | none => ""
def jnB (T : List TkW) (k : Nat) : Bool := match T[k - 1]?, T[k]? with
  | some a, some b => decide (b.1 = a.1 + a.2.length)
  | _, _ => false
theorem putF_keys {f : Str} {v : V} : ∀ {fs : List (Str × V)}, f ∈ fs.map (·.1) → (putF f v fs).map (·.1) = fs.map (·.1)
  | [], h => nomatch h
  | (g, x) :: r, h => by
    show (if g = f then (g, v) :: r else (g, x) :: putF f v r).map (·.1) = _
    by_cases e : g = f
    · rw [if_pos e]
      rfl
    · rw [if_neg e, List.map_cons, List.map_cons, putF_keys ((List.mem_cons.mp h).resolve_left fun z => e z.symm)]
theorem keys_no {fs : List (Str × V)} (h : fs.map (·.1) = rKeys) {m : Str} (n : m ∉ rKeys) : fs.lookup m = none := by
  cases e : fs.lookup m with
  | none => rfl
  | some v =>
    refine absurd ?_ n
    rw [← h]
    have go : ∀ fs : List (Str × V), fs.lookup m = some v → m ∈ fs.map (·.1) := fun fs => by
      induction fs with
      | nil => exact fun z => nomatch z
      | cons p fs ih =>
        intro z
        obtain ⟨g, x⟩ := p
        by_cases c : m = g
        · rw [c]
          exact List.mem_cons_self
        · rw [List.lookup_cons, beq_eq_false_iff_ne.mpr c] at z
          exact List.mem_cons_of_mem _ (ih z)
    exact go fs e
theorem putF_new {f : Str} {v : V} : ∀ {fs : List (Str × V)}, f ∉ fs.map (·.1) → (putF f v fs).map (·.1) = fs.map (·.1) ++ [f]
  | [], _ => rfl
  | (g, x) :: r, h => by
    show (if g = f then (g, v) :: r else (g, x) :: putF f v r).map (·.1) = _
    rw [if_neg (fun z => h (by rw [z]; exact List.mem_cons_self)), List.map_cons, List.map_cons, putF_new (fun m => h (List.mem_cons_of_mem _ m))]
    rfl
theorem keys_row (a b c d : V) : (putF "end" a (putF "at" b (putF "tokens" c (putF "line" d [])))).map (·.1) = rKeys := by
  have k1 : (putF "line" d []).map (·.1) = (["line"] : List Str) := rfl
  have k2 : (putF "tokens" c (putF "line" d [])).map (·.1) = (["line", "tokens"] : List Str) := by
    rw [putF_new (by rw [k1]; decide +kernel), k1]
    rfl
  have k3 : (putF "at" b (putF "tokens" c (putF "line" d []))).map (·.1) = (["line", "tokens", "at"] : List Str) := by
    rw [putF_new (by rw [k2]; decide +kernel), k2]
    rfl
  rw [putF_new (by rw [k3]; decide +kernel), k3]
  rfl
theorem keys_len {fs : List (Str × V)} (h : fs.map (·.1) = rKeys) : fs.length = 4 := by
  have z := congrArg List.length h
  rwa [List.length_map] at z
section
variable {C o l : Addr} {H H' : Hp} {T : List TkW} {k : Nat}
theorem RowAt.same (R : RowAt K C H o l T k) (s : Same H H') : RowAt K C H' o l T k := by
  obtain ⟨dx, fs, n, h, r⟩ := R.ob
  obtain ⟨xs, h1, h2⟩ := R.tk
  exact ⟨⟨dx, fs, n, s _ _ h, r⟩, ⟨xs, s _ _ h1, thAll_same s h2⟩, R.few, R.small⟩
/-- a list that is none of the row's may change -/
theorem RowAt.mut (R : RowAt K C H o l T k) {D : Addr} {ys : List V} {u : HO} (h : H D = some (.lst ys)) (n : D ≠ l) : RowAt K C (upd H D u) o l T k := by
  obtain ⟨dx, fs, m, h0, r⟩ := R.ob
  obtain ⟨xs, h1, h2⟩ := R.tk
  refine ⟨⟨dx, fs, m, ?_, r⟩, ⟨xs, by rw [upd_ne n.symm]; exact h1, thAll_mutL h h2 (toks_nl T)⟩, R.few, R.small⟩
  rw [upd_ne (fun z => by rw [z, h] at h0; cases h0)]
  exact h0
theorem toks_at {xs : List V} (h2 : ThAll K H xs (T.map tokD)) {t : TkW} (h : T[k]? = some t) : ∃ q : Addr, atI xs (k : Int) = some (.ref q) ∧ SqT K H q [.int (t.1 : Int), .str t.2] := by
  have lx := thAll_len h2
  rw [List.length_map] at lx
  have lk := (List.getElem?_eq_some_iff.mp h).1
  have hv := List.getElem?_eq_getElem (show k < xs.length by omega)
  obtain ⟨d, hd, th⟩ := th_at h2 hv
  rw [List.getElem?_map, h] at hd
  cases hd
  have ea : atI xs (k : Int) = xs[k]? := by
    unfold atI ixN
    rw [if_pos (by omega), if_pos (by omega)]
    rfl
  rw [hv] at ea
  rw [ea]
  generalize xs[k]'(by omega) = v at th
  cases th with
  | tup hs ha =>
    cases ha with
    | cons a1 a2 =>
      cases a1
      cases a2 with
      | cons b1 b2 =>
        cases b1
        cases b2
        exact ⟨_, rfl, hs⟩
end
section
variable {C : Addr}
def spAtEnd (K : PySem.W.Frag) (C : Addr) : Sp := fun vs H Q _ => ∃ (o l : Addr) (T : List TkW) (k : Nat), vs = [.ref o] ∧ RowAt K C H o l T k ∧ Q (.bl (decide (k = T.length))) H
theorem sc_at_end : FnScope ["self"] ["self"] (defScope s_Row_at_end) := ⟨rfl, rfl, rfl, by decide +kernel, rfl, by decide +kernel, by decide +kernel⟩
theorem cal_at_end (D : DefM K C "at_end" "Row.at_end" s_Row_at_end) (G : Glb mg) (cl : RCls K C) : MCal P w K mg base C 1 "at_end" (spAtEnd K C) := by
  refine mkMCal D sc_at_end (fun _ _ _ _ _ _ us hl => match us, hl with | [_], _ => rfl) (fun vs H Q E h => ?_) (fun f cdv A outer s H vs Q E hr h => ?_)
  · obtain ⟨o, l, T, k, rfl, _⟩ := h
    rfl
  · obtain ⟨o, l, T, k, rfl, R, kk⟩ := h
    refine ⟨_, (pss_one (ps_ret (pe_cmpR op_eq (pe_fld (pv 0) rfl) (pe_callB call_len_seq (by rfl) G.len PySem.boot_len (pa_cons (pe_fld (pv 0) rfl) pa_nil)) (nomark _)))), ?_⟩
    obtain ⟨dx, fs, n, ho, ks, f1, f2, f3⟩ := R.ob
    obtain ⟨xs, hl, hx⟩ := R.tk
    have lx := thAll_len hx
    rw [List.length_map] at lx
    refine go_ret ?_
    refine ⟨_, rfl, o, C, dx, fs, _, rfl, ho, cl.cl, cl.nA, f2, _, rfl, o, C, dx, fs, _, rfl, ho, cl.cl, cl.nT, f1, l, xs, rfl, .inl (SqL.of hl), rfl, ?_⟩
    rw [show decide (V.int (k : Int) = V.int (xs.length : Int)) = decide (k = T.length) by rw [decide_eq_decide, V.int.injEq, lx]; omega]
    exact kk
def spNext (K : PySem.W.Frag) (C : Addr) : Sp := fun vs H Q _ => ∃ (o l : Addr) (T : List TkW) (k : Nat), vs = [.ref o] ∧ RowAt K C H o l T k ∧ k ≤ T.length ∧ Q (.str (nextW T k)) H
theorem sc_next : FnScope ["self"] ["self"] (defScope s_Row_next_word) := ⟨rfl, rfl, rfl, by decide +kernel, rfl, by decide +kernel, by decide +kernel⟩
theorem no_key {m : Str} (h : decide (m ∈ rKeys) = false) : m ∉ rKeys := of_decide_eq_false h
theorem cal_next (D : DefM K C "next_word" "Row.next_word" s_Row_next_word) (cl : RCls K C) (CA : MCal P w K mg base C 1 "at_end" (spAtEnd K C)) : MCal P w K mg base C 2 "next_word" (spNext K C) := by
  refine mkMCal D sc_next (fun _ _ _ _ _ _ us hl => match us, hl with | [_], _ => rfl) (fun vs H Q E h => ?_) (fun f cdv A outer s H vs Q E hr h => ?_)
  · obtain ⟨o, l, T, k, rfl, _⟩ := h
    rfl
  · obtain ⟨o, l, T, k, rfl, R, le, kk⟩ := h
    refine ⟨_, (pss_one (ps_ret (pe_ifExp (pt_val (pe_mcal0 CA cl.cl hr (by omega) (pv 0))) pe_str (pe_ix ix_tup (pe_ix ix_list (pe_fld (pv 0) rfl) (pe_fld (pv 0) rfl) (fun _ _ => rfl)) pe_int (fun _ _ => rfl))))), ?_⟩
    obtain ⟨dx, fs, n, ho, ks, f1, f2, f3⟩ := R.ob
    refine go_ret ?_
    refine ⟨_, rfl, o, dx, fs, rfl, ho, keys_no ks (no_key (by decide +kernel)), o, l, T, k, rfl, R, ?_⟩
    cases e : T[k]? with
    | none =>
      have z := List.getElem?_eq_none_iff.mp e
      refine ⟨_, rfl, iteT' (decide_eq_true (by omega)) ?_⟩
      have y : nextW T k = "" := by unfold nextW; rw [e]
      rw [y] at kk
      exact kk
    | some t =>
      have lt := (List.getElem?_eq_some_iff.mp e).1
      obtain ⟨xs, hl, hx⟩ := R.tk
      obtain ⟨q, ha, hq⟩ := toks_at hx e
      refine ⟨_, rfl, iteF' (decide_eq_false (by omega)) ?_⟩
      have y : nextW T k = t.2 := by unfold nextW; rw [e]
      rw [y] at kk
      refine ⟨_, rfl, o, C, dx, fs, _, rfl, ho, cl.cl, cl.nT, f1, _, rfl, o, C, dx, fs, _, rfl, ho, cl.cl, cl.nA, f2, l, xs, _, _, rfl, rfl, SqL.of hl, ha, ?_⟩
      exact ⟨q, _, _, _, rfl, rfl, hq, rfl, kk⟩
def spJoined (K : PySem.W.Frag) (C : Addr) : Sp := fun vs H Q _ => ∃ (o l : Addr) (T : List TkW) (k : Nat), vs = [.ref o] ∧ RowAt K C H o l T k ∧ 1 ≤ k ∧ k ≤ T.length ∧ Q (.bl (jnB T k)) H
theorem sc_joined2 : FnScope ["self", "place", "word"] ["self"] (defScope s_Row_is_joined) := ⟨rfl, rfl, rfl, by decide +kernel, rfl, by decide +kernel, by decide +kernel⟩
theorem cal_is_joined (D : DefM K C "is_joined" "Row.is_joined" s_Row_is_joined) (G : Glb mg) (cl : RCls K C) (CA : MCal P w K mg base C 1 "at_end" (spAtEnd K C)) : MCal P w K mg base C 2 "is_joined" (spJoined K C) := by
  refine mkMCal D sc_joined2 (fun _ _ _ _ _ _ us hl => match us, hl with | [_], _ => rfl) (fun vs H Q E h => ?_) (fun f cdv A outer s H vs Q E hr h => ?_)
  · obtain ⟨o, l, T, k, rfl, _⟩ := h
    rfl
  · obtain ⟨o, l, T, k, rfl, R, k1, le, kk⟩ := h
    refine ⟨_, (pss_cons (ps_if (pt_val (pe_mcal0 CA cl.cl hr (by omega) (pv 0))) (pss_one (ps_ret pe_bl)) pss_nil)
    (pss_cons (ps_asg (pe_ix ix_list (pe_fld (pv 0) rfl) (pe_op op_sub (pe_fld (pv 0) rfl) pe_int) (fun _ _ => rfl)) (pg_tup rfl (pgs_cons (pg_name (i := 1) sc_joined2.nd rfl (.inl rfl)) (pgs_cons (pg_name (i := 2) sc_joined2.nd rfl (.inl rfl)) pgs_nil))))
    (pss_one (ps_ret (pe_cmpR op_eq (pe_ix ix_tup (pe_ix ix_list (pe_fld (pv 0) rfl) (pe_fld (pv 0) rfl) (fun _ _ => rfl)) pe_int (fun _ _ => rfl)) (pe_op op_add (pv 1) (pe_callB call_len_str (by rfl) G.len PySem.boot_len (pa_cons (pv 2) pa_nil))) (nomark _)))))), ?_⟩
    obtain ⟨dx, fs, n, ho, ks, f1, f2, f3⟩ := R.ob
    refine sq_if (go_if ?_)
    refine ⟨_, rfl, o, dx, fs, rfl, ho, keys_no ks (no_key (by decide +kernel)), o, l, T, k, rfl, R, ?_⟩
    cases e : T[k]? with
    | none =>
      have z := List.getElem?_eq_none_iff.mp e
      refine ⟨_, rfl, iteT' (decide_eq_true (by omega)) (go_ret ?_)⟩
      have y : jnB T k = false := by
        unfold jnB
        rw [e]
        cases T[k - 1]? <;> rfl
      rw [y] at kk
      exact kk
    | some t =>
      have lt := (List.getElem?_eq_some_iff.mp e).1
      obtain ⟨xs, hl, hx⟩ := R.tk
      obtain ⟨q, ha, hq⟩ := toks_at hx e
      have e1 : T[k - 1]? = some (T[k - 1]'(by omega)) := List.getElem?_eq_getElem _
      generalize T[k - 1]'(by omega) = u at e1
      obtain ⟨q1, ha1, hq1⟩ := toks_at hx e1
      rw [show (((k - 1 : Nat) : Nat) : Int) = (k : Int) - 1 by omega] at ha1
      have lu := R.small u (List.mem_of_getElem? e1)
      refine ⟨_, rfl, iteF' (decide_eq_false (by omega)) (nxt_go (sq_asg ?_))⟩
      refine ⟨_, rfl, o, C, dx, fs, _, rfl, ho, cl.cl, cl.nT, f1, _, rfl, o, C, dx, fs, _, rfl, ho, cl.cl, cl.nA, f2, _, _, rfl, rfl, l, xs, _, _, rfl, rfl, SqL.of hl, ha1, ?_⟩
      refine ⟨q1, _, rfl, hq1, rfl, _, _, rfl, _, _, rfl, rfl, go_ret ?_⟩
      refine ⟨_, rfl, o, C, dx, fs, _, rfl, ho, cl.cl, cl.nT, f1, _, rfl, o, C, dx, fs, _, rfl, ho, cl.cl, cl.nA, f2, l, xs, _, _, rfl, rfl, SqL.of hl, ha, ?_⟩
      refine ⟨q, _, _, _, rfl, rfl, hq, rfl, _, rfl, _, rfl, u.2, rfl, Nat.le_trans lu (by decide), _, _, rfl, rfl, rfl, ?_⟩
      have y : jnB T k = decide (t.1 = u.1 + u.2.length) := by
        unfold jnB
        rw [e, e1]
      rw [y] at kk
      rw [show decide (V.int (t.1 : Int) = V.int ((u.1 : Int) + (u.2.length : Int))) = decide (t.1 = u.1 + u.2.length) by rw [decide_eq_decide, V.int.injEq]; omega]
      exact kk
theorem but_seqL {H H' : Hp} {d a : Addr} {xs : List V} (b : But d H H') (n : a ≠ d) (h : SqL K H a xs) : SqL K H' a xs := by
  rcases h with (h | ⟨o, h⟩) | h
  · exact .inl (.inl (b _ _ h n))
  · exact .inl (.inr ⟨o, b _ _ h n⟩)
  · exact .inr h
/-- an instance that changes leaves all tuples -/
theorem but_ins {H H' : Hp} {o dx : Addr} {fs : List (Str × V)} (b : But o H H') (h : H o = some (.ins C dx fs)) : Tups H H' := b.tups (fun ys z => by rw [h] at z; cases z) (fun ob u z => by rw [h] at z; cases z)
theorem tok_onlyT (t : TkW) : onlyT (tokD t) = true := rfl
theorem toks_onlyT : ∀ T : List TkW, onlyTs (T.map tokD) = true
  | [] => rfl
  | t :: T => by
    rw [List.map_cons, onlyTs, tok_onlyT, toks_onlyT T]
    rfl
/-- a row, with its line and its end told -/
structure RowX (K : PySem.W.Frag) (C : Addr) (H : Hp) (o l : Addr) (T : List TkW) (k : Nat) (v : V) (n : Nat) : Prop where
  ob : ∃ (dx : Addr) (fs : List (Str × V)), H o = some (.ins C dx fs) ∧ fs.map (·.1) = rKeys ∧ fs.lookup ("tokens" : Str) = some (.ref l) ∧ fs.lookup ("at" : Str) = some (.int (k : Int)) ∧ fs.lookup ("end" : Str) = some (.int (n : Int)) ∧ fs.lookup ("line" : Str) = some v
  tk : ∃ xs, H l = some (.lst xs) ∧ ThAll K H xs (T.map tokD)
  few : T.length ≤ 1000000
  small : ∀ t ∈ T, t.2.length ≤ 1000000
  ne : ∀ t ∈ T, t.2 ≠ ""
def plcT (T : List TkW) (k n : Nat) : Nat := match T[k]? with
  | some t => t.1
  | none => n
section
variable {o l : Addr} {H H' : Hp} {T : List TkW} {k : Nat} {v : V} {n : Nat}
theorem RowX.at_ (R : RowX K C H o l T k v n) : RowAt K C H o l T k := by
  obtain ⟨dx, fs, h, a, b, c, d, _⟩ := R.ob
  exact ⟨⟨dx, fs, n, h, a, b, c, d⟩, R.tk, R.few, R.small⟩
theorem RowX.same (R : RowX K C H o l T k v n) (s : Same H H') : RowX K C H' o l T k v n := by
  obtain ⟨dx, fs, h, r⟩ := R.ob
  obtain ⟨xs, h1, h2⟩ := R.tk
  exact ⟨⟨dx, fs, s _ _ h, r⟩, ⟨xs, s _ _ h1, thAll_same s h2⟩, R.few, R.small, R.ne⟩
theorem RowX.mut (R : RowX K C H o l T k v n) {D : Addr} {ys : List V} {u : HO} (h : H D = some (.lst ys)) (nn : D ≠ l) : RowX K C (upd H D u) o l T k v n := by
  obtain ⟨dx, fs, h0, r⟩ := R.ob
  obtain ⟨xs, h1, h2⟩ := R.tk
  refine ⟨⟨dx, fs, ?_, r⟩, ⟨xs, by rw [upd_ne nn.symm]; exact h1, thAll_mutL h h2 (toks_nl T)⟩, R.few, R.small, R.ne⟩
  rw [upd_ne (fun z => by rw [z, h] at h0; cases h0)]
  exact h0
theorem RowX.call (R : RowX K C H o l T k v n) {m : Str} (nn : decide (m ∈ rKeys) = false) : ∃ dx fs, H o = some (.ins C dx fs) ∧ fs.lookup m = none := by
  obtain ⟨dx, fs, ho, ks, _⟩ := R.ob
  exact ⟨dx, fs, ho, keys_no ks (no_key nn)⟩
theorem next_lt (h : nextW T k ≠ "") : k < T.length := by
  unfold nextW at h
  cases e : T[k]? with
  | none =>
    rw [e] at h
    exact absurd rfl h
  | some t => exact (List.getElem?_eq_some_iff.mp e).1
theorem RowX.next_len (R : RowX K C H o l T k v n) (j : Nat) : (nextW T j).length ≤ 1000000 := by
  unfold nextW
  cases e : T[j]? with
  | none => exact Nat.zero_le _
  | some t => exact R.small t (List.mem_of_getElem? e)
end
def spNeedX (K : PySem.W.Frag) (C SP : Addr) : Sp := fun vs H Q E => ∃ (o l : Addr) (T : List TkW) (k : Nat) (v : V) (n : Nat) (b : Bool), vs = [.ref o, .bl b] ∧ RowX K C H o l T k v n ∧ (b = true → Q .non H) ∧
  (b = false → k ≤ T.length ∧ ∀ (dd : Addr) (H' : Hp), Same H H' → H' dd = some (probF v (plcT T k n + 1)) → E (.ref SP) (some dd) H')
theorem sc_need2 : FnScope ["self", "right", "place"] ["self", "right"] (defScope s_Row_need) := ⟨rfl, rfl, rfl, by decide +kernel, rfl, by decide +kernel, by decide +kernel⟩
theorem calx_need {SP : Addr} (D : DefM K C "need" "Row.need" s_Row_need) (cl : RCls K C) (PR : Ini P w K mg base "SyntaxProblem" SP (spI2 SP)) (CA : MCal P w K mg base C 1 "at_end" (spAtEnd K C)) : MCalX P w K mg base C 3 "need" (spNeedX K C SP) := by
  obtain ⟨fI, fd, ps, F, iC, tI, b, m⟩ := PR.ex
  refine mkMCalX D sc_need2 (fun _ _ _ _ _ _ us hl => match us, hl with | [_, _], _ => rfl) (fun vs H Q E h => ?_) (fun f cdv A outer s H vs Q E hr h => ?_)
  · obtain ⟨o, l, T, k, v, n, b, rfl, _⟩ := h
    rfl
  · obtain ⟨o, l, T, k, v, n, bb, rfl, R, k1, k2⟩ := h
    refine ⟨_, (pss_one (ps_if (pt_not (pt_val (pv 1))) (pss_cons (ps_set (i := 2) sc_need2.nd rfl (.inl rfl) (pe_ifExp (pt_val (pe_mcal0 CA cl.cl hr (by omega) (pv 0))) (pe_fld (pv 0) rfl) (pe_ix ix_tup (pe_ix ix_list (pe_fld (pv 0) rfl) (pe_fld (pv 0) rfl) (fun _ _ => rfl)) pe_int (fun _ _ => rfl))))
    (pss_one (ps_raise rfl (takes_of rfl rfl rfl rfl) (pmk_oex (ds := []) (dvs := []) PR.ox iC tI F (hr.mono (by decide)) b .nil pass0 (by rfl) m (pa_cons (pe_fld (pv 0) rfl) (pa_cons (pe_op op_add (pv 2) pe_int) pa_nil)))))) pss_nil)), ?_⟩
    cases bb with
    | true => exact go_if ⟨_, rfl, _, rfl, iteF' rfl (nxt_go (k1 rfl))⟩
    | false =>
      obtain ⟨le, k2⟩ := k2 rfl
      refine go_if ⟨_, rfl, _, rfl, iteT' rfl (sq_asg ?_)⟩
      obtain ⟨dx, fs, ho, ks, f1, f2, f3, f4⟩ := R.ob
      have fin : ∀ p : Nat, p = plcT T k n → ∀ (dd : Addr) (H' : Hp), Same H H' → H' dd = some (.xd [("column", .int ((p : Int) + 1)), ("line", v)]) → E (.ref SP) (some dd) H' := fun p e dd H' s' h' => k2 dd H' s' (by rw [← e]; exact h')
      refine ⟨_, rfl, o, dx, fs, rfl, ho, keys_no ks (no_key (by decide +kernel)), o, l, T, k, rfl, R.at_, ?_⟩
      cases e : T[k]? with
      | none =>
        have z := List.getElem?_eq_none_iff.mp e
        refine ⟨_, rfl, iteT' (decide_eq_true (by omega)) ?_⟩
        refine ⟨_, rfl, o, C, dx, fs, _, rfl, ho, cl.cl, cl.nE, f3, ?_⟩
        show tMkO SP (spI2 SP) [] _ _ _ _
        refine ⟨_, rfl, o, C, dx, fs, _, rfl, ho, cl.cl, cl.nL, f4, _, rfl, _, _, rfl, rfl, ?_⟩
        exact sp_raise (fin n (by unfold plcT; rw [e]))
      | some t =>
        have lt := (List.getElem?_eq_some_iff.mp e).1
        obtain ⟨xs, hl, hx⟩ := R.tk
        obtain ⟨q, ha, hq⟩ := toks_at hx e
        refine ⟨_, rfl, iteF' (decide_eq_false (by omega)) ?_⟩
        refine ⟨_, rfl, o, C, dx, fs, _, rfl, ho, cl.cl, cl.nT, f1, _, rfl, o, C, dx, fs, _, rfl, ho, cl.cl, cl.nA, f2, l, xs, _, _, rfl, rfl, SqL.of hl, ha, ?_⟩
        refine ⟨q, _, _, _, rfl, rfl, hq, rfl, ?_⟩
        show tMkO SP (spI2 SP) [] _ _ _ _
        refine ⟨_, rfl, o, C, dx, fs, _, rfl, ho, cl.cl, cl.nL, f4, _, rfl, _, _, rfl, rfl, ?_⟩
        exact sp_raise (fin t.1 (by unfold plcT; rw [e]))
def spTakenX (K : PySem.W.Frag) (C SP : Addr) : Sp := fun vs H Q E => ∃ (o l : Addr) (T : List TkW) (k : Nat) (v : V) (n : Nat) (b : Bool), vs = [.ref o, .bl b] ∧ RowX K C H o l T k v n ∧ k ≤ T.length ∧ (b = true → k < T.length ∧ ∀ H', But o H H' → RowX K C H' o l T (k + 1) v n → Q (.str (nextW T k)) H') ∧
  (b = false → ∀ (dd : Addr) (H' : Hp), Same H H' → H' dd = some (probF v (plcT T k n + 1)) → E (.ref SP) (some dd) H')
theorem sc_taken : FnScope ["self", "right", "word"] ["self", "right"] (defScope s_Row_taken) := ⟨rfl, rfl, rfl, by decide +kernel, rfl, by decide +kernel, by decide +kernel⟩
theorem calx_taken {SP : Addr} (D : DefM K C "taken" "Row.taken" s_Row_taken) (cl : RCls K C) (CE : MCalX P w K mg base C 3 "need" (spNeedX K C SP)) (CN : MCal P w K mg base C 2 "next_word" (spNext K C)) : MCalX P w K mg base C 4 "taken" (spTakenX K C SP) := by
  refine mkMCalX D sc_taken (fun _ _ _ _ _ _ us hl => match us, hl with | [_, _], _ => rfl) (fun vs H Q E h => ?_) (fun f cdv A outer s H vs Q E hr h => ?_)
  · obtain ⟨o, l, T, k, v, n, b, rfl, _⟩ := h
    rfl
  · obtain ⟨o, l, T, k, v, n, bb, rfl, R, le, kt, kf⟩ := h
    refine ⟨_, (pss_cons (ps_expr (pe_mcalX CE cl.cl hr (by decide) (takes_of rfl rfl rfl rfl) (pv 0) (pa_cons (pv 1) pa_nil)))
    (pss_cons (ps_set (i := 2) sc_taken.nd rfl (.inl rfl) (pe_mcal0 CN cl.cl hr (by omega) (pv 0)))
    (pss_cons (ps_fldaug (pv 0) pe_int in_add)
    (pss_one (ps_ret (pv 2)))))), ?_⟩
    obtain ⟨dx, fs, ho, ks, f1, f2, f3, f4⟩ := R.ob
    obtain ⟨xs, hl, hx⟩ := R.tk
    refine sq_drop ?_
    refine ⟨_, rfl, o, dx, fs, rfl, ho, keys_no ks (no_key (by decide +kernel)), _, rfl, o, l, T, k, v, n, bb, rfl, R, fun e1 => ?_, fun e1 => ⟨le, kf e1⟩⟩
    obtain ⟨lt, kk⟩ := kt e1
    refine sq_asg ?_
    refine ⟨_, rfl, o, dx, fs, rfl, ho, keys_no ks (no_key (by decide +kernel)), o, l, T, k, rfl, R.at_, by omega, ?_⟩
    refine on_go ?_
    refine ⟨_, rfl, o, C, dx, fs, _, rfl, ho, cl.cl, cl.nA, f2, _, _, rfl, rfl, dx, fs, ho, by rw [keys_len ks]; decide, ?_⟩
    refine ⟨_, rfl, ?_⟩
    have ma : ("at" : Str) ∈ fs.map (·.1) := by
      rw [ks]
      decide +kernel
    have b : But o H (upd H o (.ins C dx (putF "at" (.int ((k : Int) + 1)) fs))) := (But.refl o H).upd
    refine kk _ b ⟨⟨dx, putF "at" (.int ((k : Int) + 1)) fs, upd_same, (putF_keys ma).trans ks, ?_, ?_, ?_, ?_⟩, ⟨xs, b _ _ hl (fun z => by rw [z, ho] at hl; cases hl), thAll_tups (but_ins b ho) hx (toks_onlyT T)⟩, R.few, R.small, R.ne⟩
    · rw [lookup_putF, if_neg (by decide +kernel)]
      exact f1
    · rw [lookup_putF, if_pos rfl, show ((k + 1 : Nat) : Int) = (k : Int) + 1 by omega]
    · rw [lookup_putF, if_neg (by decide +kernel)]
      exact f3
    · rw [lookup_putF, if_neg (by decide +kernel)]
      exact f4
theorem LexR.words {p : Nat} {cs : List Nat} {T : List TkW} {r : Option Nat} (h : LexR p cs T r) : ∀ t ∈ T, t.2 ≠ "" := by
  induction h with
  | nil => exact fun _ m => nomatch m
  | bad => exact fun _ m => nomatch m
  | blank _ _ ih => exact ih
  | sign _ _ ih =>
    intro t m
    rcases List.mem_cons.mp m with rfl | m
    · exact fun z => nomatch (show [_] = [] from congrArg TL.tl z)
    · exact ih t m
  | word hw _ _ _ ih =>
    intro t m
    rcases List.mem_cons.mp m with rfl | m
    · exact fun z => hw (congrArg TL.tl z)
    · exact ih t m
def spInitX (K : PySem.W.Frag) (C SP : Addr) : Sp := fun vs H Q E => ∃ (o dx : Addr) (x : Str) (v : V) (T : List TkW) (r : Option Nat), vs = [.ref o, .str x, v] ∧ H o = some (.ins C dx []) ∧ x.length ≤ 1000000 ∧ LexR 0 (TL.tl x) T r ∧
  (r = none → ∀ (l : Addr) (H' : Hp), H l = none → But o H H' → RowX K C H' o l T 0 v x.length → Q .non H') ∧ ∀ q, r = some q → ∀ (dd : Addr) (H' : Hp), But o H H' → H' dd = some (probF v (q + 1)) → E (.ref SP) (some dd) H'
theorem sc_row_init : FnScope ["self", "text", "line"] ["self", "text", "line"] (defScope s_Row_init) := ⟨rfl, rfl, rfl, by decide +kernel, rfl, by decide +kernel, by decide +kernel⟩
theorem calx_init {SP : Addr} (D : DefM K C "__init__" "Row.__init__" s_Row_init) (G : Glb mg) (cl : RCls K C) (CK : CalX P w K mg base 3 "tokens_of" (spTokX K SP)) : MCalX P w K mg base C 4 "__init__" (spInitX K C SP) := by
  refine mkMCalX D sc_row_init (fun _ _ _ _ _ _ us hl => match us, hl with | [_, _, _], _ => rfl) (fun vs H Q E h => ?_) (fun f cdv A outer s H vs Q E hr h => ?_)
  · obtain ⟨o, dx, x, v, T, r, rfl, _⟩ := h
    rfl
  · obtain ⟨o, dx, x, v, T, r, rfl, ho, hx, hlex, kk, kr⟩ := h
    refine ⟨_, (pss_cons (ps_fld (pv 0) (pv 2) rfl)
    (pss_cons (ps_fld (pv 0) (pe_calX CK hr (by decide) (takes_of rfl rfl rfl rfl) (pa_cons (pv 1) (pa_cons (pv 2) pa_nil))) rfl)
    (pss_cons (ps_fld (pv 0) pe_int rfl)
    (pss_one (ps_fld (pv 0) (pe_callB call_len_str (by rfl) G.len PySem.boot_len (pa_cons (pv 1) pa_nil)) rfl))))), ?_⟩
    refine ⟨_, rfl, _, rfl, o, C, dx, [], rfl, ho, cl.cl, cl.nL, (by show 0 < 1000; decide), ?_⟩
    have b1 : But o H (upd H o (.ins C dx (putF "line" v []))) := (But.refl o H).upd
    have h1 : upd H o (.ins C dx (putF "line" v [])) o = some (.ins C dx (putF "line" v [])) := upd_same
    generalize upd H o (.ins C dx (putF "line" v [])) = H1 at b1 h1 ⊢
    refine ends_go ?_
    refine ⟨_, rfl, _, rfl, x, v, T, r, rfl, hx, hlex, fun er l xs H2 s2 nl hl thl => ?_, fun q e dd H2 s2 h2 => kr q e dd H2 (b1.same s2) h2⟩
    refine ⟨_, rfl, o, C, dx, _, rfl, s2 _ _ h1, cl.cl, cl.nT, Nat.lt_of_le_of_lt (length_putF _ _ _) (by decide), ?_⟩
    have nlo : l ≠ o := (ne_of_none h1 nl).symm
    have b2 := b1.same s2
    have b3 : But o H (upd H2 o (.ins C dx (putF "tokens" (.ref l) (putF "line" v [])))) := b2.upd
    have t3 : Tups H2 (upd H2 o (.ins C dx (putF "tokens" (.ref l) (putF "line" v [])))) := but_ins ((But.refl o H2).upd) (s2 _ _ h1)
    have hl3 : upd H2 o (.ins C dx (putF "tokens" (.ref l) (putF "line" v []))) l = some (.lst xs) := by rw [upd_ne nlo]; exact hl
    have th3 := thAll_tups t3 thl (toks_onlyT T)
    have h3 : upd H2 o (.ins C dx (putF "tokens" (.ref l) (putF "line" v []))) o = some (.ins C dx (putF "tokens" (.ref l) (putF "line" v []))) := upd_same
    generalize upd H2 o (.ins C dx (putF "tokens" (.ref l) (putF "line" v []))) = H3 at b3 t3 hl3 th3 h3 ⊢
    refine ends_go ?_
    refine ⟨_, rfl, o, C, dx, _, rfl, h3, cl.cl, cl.nA, (by have a := length_putF "tokens" (V.ref l) (putF "line" v []); have b := length_putF "line" v []; have c : ([] : List (Str × V)).length = 0 := rfl; omega), ?_⟩
    have b4 : But o H (upd H3 o (.ins C dx (putF "at" (.int 0) (putF "tokens" (.ref l) (putF "line" v []))))) := b3.upd
    have t4 : Tups H3 (upd H3 o (.ins C dx (putF "at" (.int 0) (putF "tokens" (.ref l) (putF "line" v []))))) := but_ins ((But.refl o H3).upd) h3
    have hl4 : upd H3 o (.ins C dx (putF "at" (.int 0) (putF "tokens" (.ref l) (putF "line" v [])))) l = some (.lst xs) := by rw [upd_ne nlo]; exact hl3
    have th4 := thAll_tups t4 th3 (toks_onlyT T)
    have h4 : upd H3 o (.ins C dx (putF "at" (.int 0) (putF "tokens" (.ref l) (putF "line" v [])))) o = some (.ins C dx (putF "at" (.int 0) (putF "tokens" (.ref l) (putF "line" v [])))) := upd_same
    generalize upd H3 o (.ins C dx (putF "at" (.int 0) (putF "tokens" (.ref l) (putF "line" v [])))) = H4 at b4 t4 hl4 th4 h4 ⊢
    refine ends_go ?_
    refine ⟨_, rfl, x, rfl, Nat.le_trans hx (by decide), _, rfl, o, C, dx, _, rfl, h4, cl.cl, cl.nE, (by have z := length_putF "at" (V.int 0) (putF "tokens" (V.ref l) (putF "line" v [])); have a := length_putF "tokens" (V.ref l) (putF "line" v []); have b := length_putF "line" v []; have c : ([] : List (Str × V)).length = 0 := rfl; omega), ?_⟩
    have b5 : But o H (upd H4 o (.ins C dx (putF "end" (.int (x.length : Int)) (putF "at" (.int 0) (putF "tokens" (.ref l) (putF "line" v [])))))) := b4.upd
    have t5 : Tups H4 (upd H4 o (.ins C dx (putF "end" (.int (x.length : Int)) (putF "at" (.int 0) (putF "tokens" (.ref l) (putF "line" v [])))))) := but_ins ((But.refl o H4).upd) h4
    have lb := hlex.bound
    have lx := TL.len_tl x
    refine kk er l _ (b1.free nl nlo) b5 ⟨⟨dx, _, upd_same, keys_row _ _ _ _, ?_, ?_, ?_, ?_⟩, ⟨xs, by rw [upd_ne nlo]; exact hl4, thAll_tups t5 th4 (toks_onlyT T)⟩, by omega, (fun t m => by have := (lb.1 t m).2; omega), hlex.words⟩
    · rw [lookup_putF, if_neg (by decide +kernel), lookup_putF, if_neg (by decide +kernel), lookup_putF, if_pos rfl]
    · rw [lookup_putF, if_neg (by decide +kernel), lookup_putF, if_pos rfl]
      rfl
    · rw [lookup_putF, if_pos rfl]
    · rw [lookup_putF, if_neg (by decide +kernel), lookup_putF, if_neg (by decide +kernel), lookup_putF, if_neg (by decide +kernel), lookup_putF, if_pos rfl]
end
end
end Lk

/-! K91D -/
set_option Elab.async false
set_option linter.all false
set_option maxRecDepth 100000
set_option maxHeartbeats 4000000
namespace Lk
open PySem PySem.Spec PyProof.Rows L2
section
variable {P : Program} {w : World} {K : PySem.W.Frag} {mg : Str → Option Value} {base : Heap}
theorem tl_ne {x : Str} (h : x ≠ "") : ∃ c u, TL.tl x = c :: u := by
  cases e : TL.tl x with
  | nil => exact absurd (tl_nil_iff.mp e) h
  | cons c u => exact ⟨c, u, rfl⟩
theorem star_tl : TL.tl ("*" : Str) = [42] := by decide +kernel
theorem colon_tl : TL.tl (":" : Str) = [58] := by decide +kernel
theorem less_tl : TL.tl ("<" : Str) = [60] := by decide +kernel
/-! ### where the parser stops, on any tokens -/
def hdL (w : Str) : Bool := match TL.tl w with
  | c :: _ => ltB c
  | [] => false
def begB (w : Str) : Bool := !decide (w = "") && dEnd upB (.str w)
/-- (the place behind a pattern, whether the token there cannot stand there) -/
def patX (T : List TkW) (k : Nat) (b : Str) : Nat × Bool :=
  if nextW T k = "*" ∧ (b = "" ∨ jnB T k = true) then
    (if jnB T (k + 1) = true ∧ hdL (nextW T (k + 1)) = true then (if dEnd loB (.str (nextW T (k + 1))) = true then (k + 2, false) else (k + 1, true)) else if b = "" then (k + 1, true) else (k + 1, false))
  else (k, true)
def srcX (T : List TkW) (k : Nat) : Nat × Bool :=
  if nextW T k = "*" then patX T k "" else if dSrc1 (.str (nextW T k)) = true then (if jnB T (k + 1) = true then (if begB (nextW T k) = true then patX T (k + 1) (nextW T k) else (k + 1, true)) else (k + 1, false)) else (k, true)
def srcsX (T : List TkW) : Nat → Nat → Nat → Nat × Bool
  | 0, k, _ => (k, false)
  | f + 1, k, c => if k < T.length then (if c < 3 ∧ (c = 0 ∨ jnB T k = false) then (if (srcX T k).2 = true then srcX T k else srcsX T f (srcX T k).1 (c + 1)) else (k, true)) else (k, false)
def tailX (T : List TkW) (r : Nat × Bool) : Nat × Bool := if r.2 = true then r else if nextW T r.1 = "<" then srcsX T 4 (r.1 + 1) 0 else (r.1, true)
def ruleX (T : List TkW) : Nat × Bool :=
  if dLabel (.str (nextW T 0)) = true then (if nextW T 1 = ":" then (if nextW T 2 = "*" then tailX T (patX T 2 "") else if begB (nextW T 2) = true then tailX T (patX T 3 (nextW T 2)) else (2, true)) else (1, true)) else (0, true)
theorem jn_lt {T : List TkW} {k : Nat} (h : jnB T k = true) : k < T.length := by
  unfold jnB at h
  cases e : T[k]? with
  | none =>
    rw [e] at h
    cases e1 : T[k - 1]? <;> rw [e1] at h <;> cases h
  | some t => exact (List.getElem?_eq_some_iff.mp e).1
theorem next_lt' {T : List TkW} {k : Nat} {x : Str} (h : nextW T k = x) (n : x ≠ "") : k < T.length := next_lt (by rw [h]; exact n)
theorem star_ne : ("*" : Str) ≠ "" := by decide +kernel
theorem colon_ne : (":" : Str) ≠ "" := by decide +kernel
theorem less_ne : ("<" : Str) ≠ "" := by decide +kernel
theorem patX_le {T : List TkW} {k : Nat} {b : Str} (h : k ≤ T.length) : (patX T k b).1 ≤ T.length ∧ k ≤ (patX T k b).1 ∧ ((patX T k b).2 = false → k < (patX T k b).1) := by
  unfold patX
  by_cases h1 : nextW T k = "*" ∧ (b = "" ∨ jnB T k = true)
  · rw [if_pos h1]
    have l1 := next_lt' h1.1 star_ne
    by_cases h2 : jnB T (k + 1) = true ∧ hdL (nextW T (k + 1)) = true
    · rw [if_pos h2]
      have l2 := jn_lt h2.1
      split
      · exact ⟨by show k + 2 ≤ _; omega, by show k ≤ k + 2; omega, fun _ => by show k < k + 2; omega⟩
      · exact ⟨by show k + 1 ≤ _; omega, by show k ≤ k + 1; omega, fun z => nomatch z⟩
    · rw [if_neg h2]
      split
      · exact ⟨by show k + 1 ≤ _; omega, by show k ≤ k + 1; omega, fun z => nomatch z⟩
      · exact ⟨by show k + 1 ≤ _; omega, by show k ≤ k + 1; omega, fun _ => by show k < k + 1; omega⟩
  · rw [if_neg h1]
    exact ⟨h, Nat.le_refl _, fun z => nomatch z⟩
theorem src_ne {x : Str} (h : dSrc1 (.str x) = true) : x ≠ "" := fun z => by
  rw [z] at h
  exact absurd h (by decide +kernel)
theorem lab_ne {x : Str} (h : dLabel (.str x) = true) : x ≠ "" := fun z => by
  rw [z] at h
  exact absurd h (by decide +kernel)
theorem beg_ne {x : Str} (h : begB x = true) : x ≠ "" := fun z => by
  rw [z] at h
  exact absurd h (by decide +kernel)
theorem srcX_le {T : List TkW} {k : Nat} (h : k ≤ T.length) : (srcX T k).1 ≤ T.length ∧ k ≤ (srcX T k).1 ∧ ((srcX T k).2 = false → k < (srcX T k).1) := by
  unfold srcX
  split
  · exact patX_le h
  · split
    · rename_i h2
      have l1 := next_lt (src_ne h2)
      split
      · split
        · have := patX_le (T := T) (k := k + 1) (b := nextW T k) l1
          exact ⟨this.1, by omega, fun _ => by omega⟩
        · exact ⟨l1, Nat.le_succ _, fun z => nomatch z⟩
      · exact ⟨l1, Nat.le_succ _, fun _ => Nat.lt_succ_self _⟩
    · exact ⟨h, Nat.le_refl _, fun z => nomatch z⟩
section
variable {C : Addr}
def spBegX : Sp := fun vs H Q _ => ∃ b : Str, vs = [.str b] ∧ b.length ≤ 1000000 ∧ Q (.bl (begB b)) H
theorem sc_is_begin : FnScope ["word"] ["word"] (defScope s_p_is_begin) := ⟨rfl, rfl, rfl, by decide +kernel, rfl, by decide +kernel, by decide +kernel⟩
theorem cal_is_begin (D : Def1 K mg "is_begin" s_p_is_begin) (T0 : Glc mg) (CI : Cal P w K mg base 1 "is_end" (spIsEnd K)) : Cal P w K mg base 2 "is_begin" spBegX := by
  refine mkCal D sc_is_begin (fun _ _ _ _ _ _ us hl => match us, hl with | [_], _ => rfl) (fun vs H Q E h => ?_) (fun f cdv A outer s H vs Q E hr h => ?_)
  · obtain ⟨b, rfl, _⟩ := h
    rfl
  · obtain ⟨b, rfl, lb, k⟩ := h
    refine ⟨_, (pss_one (ps_ret (pe_and (pe_cmpR op_ne (pv 0) pe_str (nomark _)) (pe_one (pe_cal CI hr (by omega) (pa_cons (pv 0) (pa_cons (pe_con1 T0.caps) pa_nil))))))), ?_⟩
    refine go_ret ⟨_, rfl, rfl, _, rfl, ?_⟩
    unfold begB at k
    by_cases hb : b = ""
    · rw [decide_eq_true hb] at k
      refine iteF' ?_ ?_
      · rw [hb]
        rfl
      · exact k
    · rw [decide_eq_false hb] at k
      refine iteT' ?_ ⟨_, rfl, .str b, .str b, capS, upB, rfl, .str b, Nat.le_trans lb (by decide), cap_has, ?_⟩
      · rw [decide_eq_false (fun z => hb (V.str.inj z))]
        rfl
      · exact k
def spPatX (K : PySem.W.Frag) (C SP : Addr) : Sp := fun vs H Q E => ∃ (o l : Addr) (T : List TkW) (k : Nat) (v : V) (n : Nat) (b : Str), vs = [.ref o, .str b] ∧ RowX K C H o l T k v n ∧ k ≤ T.length ∧ 1 ≤ k ∧
  ((patX T k b).2 = false → ∀ (p : Addr) (H' : Hp), But o H H' → RowX K C H' o l T (patX T k b).1 v n → Q (.ref p) H') ∧
  ((patX T k b).2 = true → ∀ (dd : Addr) (H' : Hp), But o H H' → H' dd = some (probF v (plcT T (patX T k b).1 n + 1)) → E (.ref SP) (some dd) H')
theorem sc_read_pattern : FnScope ["row", "begin"] ["row", "begin"] (defScope s_p_read_pattern) := ⟨rfl, rfl, rfl, by decide +kernel, rfl, by decide +kernel, by decide +kernel⟩
theorem calx_read_pattern {SP : Addr} (D : Def1 K mg "read_pattern" s_p_read_pattern) (T0 : Glc mg) (X : Gtx mg) (cl : RCls K C) (CI : Cal P w K mg base 1 "is_end" (spIsEnd K)) (CN : MCal P w K mg base C 2 "next_word" (spNext K C)) (CJ : MCal P w K mg base C 2 "is_joined" (spJoined K C)) (CE : MCalX P w K mg base C 3 "need" (spNeedX K C SP)) (CT : MCalX P w K mg base C 4 "taken" (spTakenX K C SP)) :
    CalX P w K mg base 5 "read_pattern" (spPatX K C SP) := by
  refine mkCalX D sc_read_pattern (fun _ _ _ _ _ _ us hl => match us, hl with | [_, _], _ => rfl) (fun vs H Q E h => ?_) (fun f cdv A outer s H vs Q E hr h => ?_)
  · obtain ⟨o, l, T, k, v, n, b, rfl, _⟩ := h
    rfl
  · obtain ⟨o, l, T, k, v, n, b, rfl, R, le, k1, ok, no⟩ := h
    refine ⟨_, (pss_cons (ps_expr (pe_mcalX CT cl.cl hr (by decide) (takes_of rfl rfl rfl rfl) (pv 0) (pa_cons (pe_and (pe_cmpR op_eq (pe_mcal0 CN cl.cl hr (by omega) (pv 0)) pe_str (nomark _)) (pe_one (pe_or (pe_cmpR op_eq (pv 1) pe_str (nomark _)) (pe_one (pe_mcal0 CJ cl.cl hr (by omega) (pv 0)))))) pa_nil)))
    (pss_cons (ps_if (PW.pt (pw_and (pt_val (pe_mcal0 CJ cl.cl hr (by omega) (pv 0))) (pw_and1 (pt_cmpR op_inS (pe_ix ix_str (pe_mcal0 CN cl.cl hr (by omega) (pv 0)) pe_int (fun _ _ => rfl)) (pe_con1 X.letters) (by rfl))))) (pss_one (ps_ret (pe_tup (pa_cons (pv 1) (pa_cons (pe_mcalX CT cl.cl hr (by decide) (takes_of rfl rfl rfl rfl) (pv 0) (pa_cons (pe_cal CI hr (by omega) (pa_cons (pe_mcal0 CN cl.cl hr (by omega) (pv 0)) (pa_cons (pe_con1 T0.smalls) pa_nil))) pa_nil)) pa_nil))))) pss_nil)
    (pss_cons (ps_expr (pe_mcalX CE cl.cl hr (by decide) (takes_of rfl rfl rfl rfl) (pv 0) (pa_cons (pe_cmpR op_ne (pv 1) pe_str (nomark _)) pa_nil)))
    (pss_one (ps_ret (pe_tup (pa_cons (pv 1) (pa_cons pe_str pa_nil)))))))), ?_⟩
    obtain ⟨dx, fs, ho, nof⟩ := R.call (m := "taken") (by decide +kernel)
    obtain ⟨dx1, fs1, ho1, no1⟩ := R.call (m := "next_word") (by decide +kernel)
    obtain ⟨dx2, fs2, ho2, no2⟩ := R.call (m := "is_joined") (by decide +kernel)
    refine sq_drop ?_
    refine ⟨_, rfl, o, dx, fs, rfl, ho, nof, ?_⟩
    refine ⟨_, rfl, o, dx1, fs1, rfl, ho1, no1, o, l, T, k, rfl, R.at_, le, rfl, _, rfl, ?_⟩
    have bad : (¬ (nextW T k = "*" ∧ (b = "" ∨ jnB T k = true))) → ∀ (dd : Addr) (H' : Hp), Same H H' → H' dd = some (probF v (plcT T k n + 1)) → E (.ref SP) (some dd) H' := fun c dd H' s' h' => by
      have e : patX T k b = (k, true) := by
        unfold patX
        rw [if_neg c]
      rw [e] at no
      exact no rfl dd H' (Same.but s') h'
    by_cases hs : nextW T k = "*"
    · refine iteT' (by rw [hs]; rfl) ?_
      have lt := next_lt' hs star_ne
      have went : ∀ (Z : VK), Z (.bl (decide (b = "") || jnB T k)) H → (tOrV (tOp rEq (tVar 1) (tC (.str ""))) (tMeth C "is_joined" (spJoined K C) [] E0 (tVar 0) tNil)) [some (.ref o), some (.str b)] H Z := fun Z z => by
        by_cases hb : b = ""
        · rw [decide_eq_true hb] at z
          exact ⟨_, rfl, rfl, _, rfl, iteT' (decide_eq_true (by rw [hb])) z⟩
        · rw [decide_eq_false hb] at z
          refine ⟨_, rfl, rfl, _, rfl, iteF' (decide_eq_false (fun y => hb (V.str.inj y))) ?_⟩
          exact ⟨_, rfl, o, dx2, fs2, rfl, ho2, no2, o, l, T, k, rfl, R.at_, k1, le, z⟩
      refine went _ ?_
      refine ⟨o, l, T, k, v, n, _, rfl, R, le, fun ej => ⟨lt, fun H1 b1 R1 => ?_⟩, fun ej dd H' s' h' => bad (fun z => ?_) dd H' s' h'⟩
      · have ej : b = "" ∨ jnB T k = true := by
          rcases Bool.or_eq_true_iff.mp ej with y | y
          · exact .inl (of_decide_eq_true y)
          · exact .inr y
        have e0 : patX T k b = (if jnB T (k + 1) = true ∧ hdL (nextW T (k + 1)) = true then (if dEnd loB (.str (nextW T (k + 1))) = true then (k + 2, false) else (k + 1, true)) else if b = "" then (k + 1, true) else (k + 1, false)) := by
          unfold patX
          rw [if_pos ⟨hs, ej⟩]
        have le1 : k + 1 ≤ T.length := lt
        obtain ⟨dx3, fs3, ho3, no3⟩ := R1.call (m := "is_joined") (by decide +kernel)
        obtain ⟨dx4, fs4, ho4, no4⟩ := R1.call (m := "next_word") (by decide +kernel)
        have fin : (¬ (jnB T (k + 1) = true ∧ hdL (nextW T (k + 1)) = true)) → tSeq (tDrop (tMeth C "need" (spNeedX K C SP) [] E (tVar 0) (tCons (tOp rNe (tVar 1) (tC (.str ""))) tNil))) (tRet (tTup (tCons (tVar 1) (tCons (tC (.str "")) tNil)))) { nx := fun _ H' => Q .non H', rt := Q } [some (.ref o), some (.str b)] H1 := fun c => by
          rw [if_neg c] at e0
          obtain ⟨dx5, fs5, ho5, no5⟩ := R1.call (m := "need") (by decide +kernel)
          refine sq_drop ⟨_, rfl, o, dx5, fs5, rfl, ho5, no5, _, rfl, rfl, o, l, T, k + 1, v, n, _, rfl, R1, fun eb => ?_, fun eb => ⟨le1, fun dd H' s' h' => ?_⟩⟩
          · have nb : b ≠ "" := fun z => by
              rw [z] at eb
              exact absurd eb (by decide +kernel)
            rw [if_neg nb] at e0
            rw [e0] at ok
            exact go_ret ⟨_, rfl, by show 2 ≤ sizeLine; decide, fun p np => ok rfl p _ (b1.same (same_upd np)) (R1.same (same_upd np))⟩
          · have yb : b = "" := Classical.byContradiction fun z => by
              rw [decide_eq_false (fun y => z (V.str.inj y))] at eb
              exact nomatch eb
            rw [if_pos yb] at e0
            rw [e0] at no
            exact no rfl dd H' (b1.same s') h'
        refine sq_if (go_if ?_)
        refine ⟨_, rfl, o, dx3, fs3, rfl, ho3, no3, o, l, T, k + 1, rfl, R1.at_, by omega, le1, _, rfl, ?_⟩
        cases hj : jnB T (k + 1) with
        | false => exact iteF' rfl (iteF' rfl (nxt_go (fin fun z => by rw [hj] at z; exact nomatch z.1)))
        | true =>
          have l2 := jn_lt hj
          have hu : T[k + 1]? = some (T[k + 1]'l2) := List.getElem?_eq_getElem _
          generalize T[k + 1]'l2 = u at hu
          have nw : nextW T (k + 1) = u.2 := by
            unfold nextW
            rw [hu]
          have mu := List.mem_of_getElem? hu
          obtain ⟨c, w', ec⟩ := tl_ne (R.ne u mu)
          refine iteT' rfl ⟨_, rfl, o, dx4, fs4, rfl, ho4, no4, o, l, T, k + 1, rfl, R1.at_, le1, ?_⟩
          rw [nw]
          refine ⟨u.2, 0, c, rfl, rfl, Nat.le_trans (R.small u mu) (by decide), at_sign (n := 0) (by rw [ec]; rfl), c, letS, rfl, rfl, _, rfl, ?_⟩
          rw [let_has]
          have eh : hdL (nextW T (k + 1)) = ltB c := by
            rw [nw]
            unfold hdL
            rw [ec]
          cases hc : ltB c with
          | false => exact iteF' rfl (nxt_go (fin fun z => by rw [eh, hc] at z; exact nomatch z.2))
          | true =>
            rw [if_pos ⟨hj, by rw [eh]; exact hc⟩] at e0
            obtain ⟨dx5, fs5, ho5, no5⟩ := R1.call (m := "taken") (by decide +kernel)
            refine iteT' rfl (go_ret ?_)
            refine ⟨_, rfl, _, rfl, o, dx5, fs5, rfl, ho5, no5, _, rfl, o, dx4, fs4, rfl, ho4, no4, o, l, T, k + 1, rfl, R1.at_, le1, ?_⟩
            rw [nw]
            refine ⟨.str u.2, .str u.2, smaS, loB, rfl, .str u.2, Nat.le_trans (R.small u mu) (by decide), sma_has, ?_⟩
            rw [nw] at e0
            refine ⟨o, l, T, k + 1, v, n, _, rfl, R1, le1, fun ee => ⟨l2, fun H2 b2 R2 => ?_⟩, fun ee dd H' s' h' => ?_⟩
            · rw [if_pos ee] at e0
              rw [e0] at ok
              exact ⟨(by show 2 ≤ sizeLine; decide), fun p np => ok rfl p _ ((b1.trans b2).same (same_upd np)) (R2.same (same_upd np))⟩
            · rw [if_neg (by rw [ee]; exact fun z => nomatch z)] at e0
              rw [e0] at no
              exact no rfl dd H' (b1.same s') h'
      · rw [Bool.or_eq_false_iff] at ej
        rcases z.2 with y | y
        · exact absurd y (of_decide_eq_false ej.1)
        · rw [ej.2] at y
          exact nomatch y
    · refine iteF' (decide_eq_false (fun z => hs (V.str.inj z))) ?_
      exact ⟨o, l, T, k, v, n, false, rfl, R, le, (fun z => nomatch z), fun _ dd H' s' h' => bad (fun z => hs z.1) dd H' s' h'⟩
end
end
end Lk

/-! K91E -/
set_option Elab.async false
set_option linter.all false
set_option maxRecDepth 100000
set_option maxHeartbeats 4000000
namespace Lk
open PySem PySem.Spec PyProof.Rows L2
section
variable {P : Program} {w : World} {K : PySem.W.Frag} {mg : Str → Option Value} {base : Heap}
section
variable {C : Addr}
def spSrcX (K : PySem.W.Frag) (C SP : Addr) : Sp := fun vs H Q E => ∃ (o l : Addr) (T : List TkW) (k : Nat) (v : V) (n : Nat), vs = [.ref o] ∧ RowX K C H o l T k v n ∧ k ≤ T.length ∧ 1 ≤ k ∧
  ((srcX T k).2 = false → ∀ (u : V) (H' : Hp), But o H H' → RowX K C H' o l T (srcX T k).1 v n → Q u H') ∧
  ((srcX T k).2 = true → ∀ (dd : Addr) (H' : Hp), But o H H' → H' dd = some (probF v (plcT T (srcX T k).1 n + 1)) → E (.ref SP) (some dd) H')
theorem sc_read_source : FnScope ["row", "word"] ["row"] (defScope s_p_read_source) := ⟨rfl, rfl, rfl, by decide +kernel, rfl, by decide +kernel, by decide +kernel⟩
theorem str_bulk {x : Str} (h : x.length ≤ 1000000) : (PyData.str x).bulk ≤ 1000000 := Nat.le_trans (show (PyData.str x).bulk ≤ 1000000 from h) (Nat.le_refl _)
theorem calx_read_source {SP : Addr} (D : Def1 K mg "read_source" s_p_read_source) (cl : RCls K C) (CR : Cal P w K mg base 3 "is_rule_source" (spOne K dSrc1)) (CB : Cal P w K mg base 2 "is_begin" spBegX) (CP : CalX P w K mg base 5 "read_pattern" (spPatX K C SP)) (CN : MCal P w K mg base C 2 "next_word" (spNext K C)) (CJ : MCal P w K mg base C 2 "is_joined" (spJoined K C)) (CE : MCalX P w K mg base C 3 "need" (spNeedX K C SP)) (CT : MCalX P w K mg base C 4 "taken" (spTakenX K C SP)) :
    CalX P w K mg base 6 "read_source" (spSrcX K C SP) := by
  refine mkCalX D sc_read_source (fun _ _ _ _ _ _ us hl => match us, hl with | [_], _ => rfl) (fun vs H Q E h => ?_) (fun f cdv A outer s H vs Q E hr h => ?_)
  · obtain ⟨o, l, T, k, v, n, rfl, _⟩ := h
    rfl
  · obtain ⟨o, l, T, k, v, n, rfl, R, le, k1, ok, no⟩ := h
    refine ⟨_, (pss_cons (ps_if (pt_cmpR op_eq (pe_mcal0 CN cl.cl hr (by omega) (pv 0)) pe_str (nomark _)) (pss_one (ps_ret (pe_calX CP hr (by decide) (takes_of rfl rfl rfl rfl) (pa_cons (pv 0) (pa_cons pe_str pa_nil))))) pss_nil)
    (pss_cons (ps_set (i := 1) sc_read_source.nd rfl (.inl rfl) (pe_mcalX CT cl.cl hr (by decide) (takes_of rfl rfl rfl rfl) (pv 0) (pa_cons (pe_cal CR hr (by omega) (pa_cons (pe_mcal0 CN cl.cl hr (by omega) (pv 0)) pa_nil)) pa_nil)))
    (pss_cons (ps_if (pt_not (pt_val (pe_mcal0 CJ cl.cl hr (by omega) (pv 0)))) (pss_one (ps_ret (pv 1))) pss_nil)
    (pss_cons (ps_expr (pe_mcalX CE cl.cl hr (by decide) (takes_of rfl rfl rfl rfl) (pv 0) (pa_cons (pe_cal CB hr (by omega) (pa_cons (pv 1) pa_nil)) pa_nil)))
    (pss_one (ps_ret (pe_calX CP hr (by decide) (takes_of rfl rfl rfl rfl) (pa_cons (pv 0) (pa_cons (pv 1) pa_nil))))))))), ?_⟩
    obtain ⟨dx, fs, ho, nof⟩ := R.call (m := "taken") (by decide +kernel)
    obtain ⟨dx1, fs1, ho1, no1⟩ := R.call (m := "next_word") (by decide +kernel)
    refine sq_if (go_if ?_)
    refine ⟨_, rfl, o, dx1, fs1, rfl, ho1, no1, o, l, T, k, rfl, R.at_, le, rfl, _, rfl, ?_⟩
    by_cases hs : nextW T k = "*"
    · have e : srcX T k = patX T k "" := by
        unfold srcX
        rw [if_pos hs]
      rw [e] at ok no
      refine iteT' (by rw [hs]; rfl) (go_ret ?_)
      exact ⟨_, rfl, o, l, T, k, v, n, "", rfl, R, le, k1, fun y p H' b' R' => ok y _ H' b' R', no⟩
    · refine iteF' (decide_eq_false (fun z => hs (V.str.inj z))) (nxt_go (sq_asg ?_))
      refine ⟨_, rfl, o, dx, fs, rfl, ho, nof, _, rfl, o, dx1, fs1, rfl, ho1, no1, o, l, T, k, rfl, R.at_, le, ?_⟩
      refine ⟨.str (nextW T k), .str (nextW T k), rfl, .str _, Nat.le_trans (R.next_len k) (by decide), ?_⟩
      refine ⟨o, l, T, k, v, n, _, rfl, R, le, fun ed => ?_, fun ed dd H' s' h' => ?_⟩
      · have lt := next_lt (src_ne ed)
        refine ⟨lt, fun H1 b1 R1 => ?_⟩
        have le1 : k + 1 ≤ T.length := lt
        have e : srcX T k = (if jnB T (k + 1) = true then (if begB (nextW T k) = true then patX T (k + 1) (nextW T k) else (k + 1, true)) else (k + 1, false)) := by
          unfold srcX
          rw [if_neg hs, if_pos ed]
        obtain ⟨dx2, fs2, ho2, no2⟩ := R1.call (m := "is_joined") (by decide +kernel)
        obtain ⟨dx3, fs3, ho3, no3⟩ := R1.call (m := "need") (by decide +kernel)
        refine on_go (sq_if (go_if ?_))
        refine ⟨_, rfl, o, dx2, fs2, rfl, ho2, no2, o, l, T, k + 1, rfl, R1.at_, by omega, le1, _, rfl, ?_⟩
        cases hj : jnB T (k + 1) with
        | false =>
          rw [if_neg (by rw [hj]; exact fun z => nomatch z)] at e
          rw [e] at ok
          exact iteT' rfl (go_ret ⟨_, rfl, ok rfl _ H1 b1 R1⟩)
        | true =>
          rw [if_pos hj] at e
          refine iteF' rfl (nxt_go (sq_drop ?_))
          refine ⟨_, rfl, o, dx3, fs3, rfl, ho3, no3, _, rfl, nextW T k, rfl, R.next_len k, ?_⟩
          refine ⟨o, l, T, k + 1, v, n, _, rfl, R1, fun eb => ?_, fun eb => ⟨le1, fun dd H' s' h' => ?_⟩⟩
          · rw [if_pos eb] at e
            rw [e] at ok no
            exact go_ret ⟨_, rfl, _, rfl, o, l, T, k + 1, v, n, nextW T k, rfl, R1, le1, by omega, fun y p H' b' R' => ok y _ H' (b1.trans b') R', fun y dd H' b' h' => no y dd H' (b1.trans b') h'⟩
          · rw [if_neg (by rw [eb]; exact fun z => nomatch z)] at e
            rw [e] at no
            exact no rfl dd H' (b1.same s') h'
      · have e : srcX T k = (k, true) := by
          unfold srcX
          rw [if_neg hs, if_neg (by rw [ed]; exact fun z => nomatch z)]
        rw [e] at no
        exact no rfl dd H' (Same.but s') h'
def spSrcsX (K : PySem.W.Frag) (C SP : Addr) : Sp := fun vs H Q E => ∃ (o l : Addr) (T : List TkW) (k : Nat) (v : V) (n : Nat), vs = [.ref o] ∧ RowX K C H o l T k v n ∧ k ≤ T.length ∧ 1 ≤ k ∧
  ((srcsX T 4 k 0).2 = false → ∀ (u : V) (H' : Hp), But o H H' → Q u H') ∧
  ((srcsX T 4 k 0).2 = true → ∀ (dd : Addr) (H' : Hp), But o H H' → H' dd = some (probF v (plcT T (srcsX T 4 k 0).1 n + 1)) → E (.ref SP) (some dd) H')
theorem sc_read_sources : FnScope ["row", "found"] ["row"] (defScope s_p_read_sources) := ⟨rfl, rfl, rfl, by decide +kernel, rfl, by decide +kernel, by decide +kernel⟩
theorem calx_read_sources {SP : Addr} (D : Def1 K mg "read_sources" s_p_read_sources) (G : Glb mg) (T0 : Glc mg) (KS : Con1 mg "MOST_SOURCES" (.int 3)) (cl : RCls K C) (CS : CalX P w K mg base 6 "read_source" (spSrcX K C SP)) (CA : MCal P w K mg base C 1 "at_end" (spAtEnd K C)) (CJ : MCal P w K mg base C 2 "is_joined" (spJoined K C)) (CE : MCalX P w K mg base C 3 "need" (spNeedX K C SP)) :
    CalX P w K mg base 7 "read_sources" (spSrcsX K C SP) := by
  refine mkCalX D sc_read_sources (fun _ _ _ _ _ _ us hl => match us, hl with | [_], _ => rfl) (fun vs H Q E h => ?_) (fun f cdv A outer s H vs Q E hr h => ?_)
  · obtain ⟨o, l, T, k, v, n, rfl, _⟩ := h
    rfl
  · obtain ⟨o, l, T, k, v, n, rfl, R, le, k1, ok, no⟩ := h
    refine ⟨_, (pss_cons (ps_set (i := 1) sc_read_sources.nd rfl (.inl rfl) (pe_lst pa_nil))
    (pss_cons (ps_while (passes_of rfl) (pt_not (pt_val (pe_mcal0 CA cl.cl hr (by omega) (pv 0))))
    (pss_cons (ps_expr (pe_mcalX CE cl.cl hr (by decide) (takes_of rfl rfl rfl rfl) (pv 0) (pa_cons (pe_and (pe_cmpR op_lt (pe_callB call_len_seq (by rfl) G.len PySem.boot_len (pa_cons (pv 1) pa_nil)) (pe_con1 KS) (nomark _)) (pe_one (pe_or (pe_cmpR (op_eqNil hr.units) (pv 1) (pe_lst pa_nil) (nomark _)) (pe_one (pe_not (pe_mcal0 CJ cl.cl hr (by omega) (pv 0))))))) pa_nil)))
    (pss_one (ps_expr (pe_bm PySem.F.plainAttrs_list PySem.F.slot_list_append PySem.F.type_list_append mt_append (pv 1) (pa_cons (pe_calX CS hr (by decide) (takes_of rfl rfl rfl rfl) (pa_cons (pv 0) pa_nil)) pa_nil))))))
    (pss_one (ps_ret (pe_callTy call_tuple_of (by rfl) T0.tuple (by decide +kernel) (pa_cons (pv 1) pa_nil)))))), ?_⟩
    refine sq_asg (lst_nil fun F nF => ?_)
    obtain ⟨dxH, fsH, hoH, _⟩ := R.ob
    obtain ⟨xsH, hlH, _⟩ := R.tk
    have nFo : F ≠ o := fun z => by rw [z, hoH] at nF; cases nF
    have nFl : F ≠ l := fun z => by rw [z, hlH] at nF; cases nF
    refine on_go ?_
    refine ⟨fun m σ H' => ∃ (j c : Nat) (zs : List V), σ = [some (.ref o), some (.ref F)] ∧ c + m = 4 ∧ zs.length = c ∧ But o H H' ∧ RowX K C H' o l T j v n ∧ j ≤ T.length ∧ 1 ≤ j ∧ H' F = some (.lst zs) ∧ srcsX T 4 k 0 = srcsX T m j c ∧ (m = 0 → False),
      ⟨4, k, 0, [], rfl, rfl, rfl, (Same.but (same_upd nF)), R.same (same_upd nF), le, k1, upd_same, rfl, fun z => nomatch z⟩, ?_⟩
    rintro m σ H1 ⟨j, c, zs, rfl, em, lz, b1, R1, lj, j1, hF, er, m0⟩
    obtain ⟨f', rfl⟩ : ∃ f', m = f' + 1 := ⟨m - 1, by have m1 : m ≠ 0 := m0; omega⟩
    obtain ⟨dx1, fs1, ho1, no1⟩ := R1.call (m := "at_end") (by decide +kernel)
    refine ⟨_, rfl, o, dx1, fs1, rfl, ho1, no1, o, l, T, j, rfl, R1.at_, _, rfl, ?_⟩
    by_cases hj : j = T.length
    · have e : srcsX T (f' + 1) j c = (j, false) := by
        unfold srcsX
        rw [if_neg (show ¬ j < T.length by omega)]
      rw [e] at er
      rw [er] at ok
      refine iteF' (by rw [decide_eq_true hj]; rfl) (ends_go (go_ret ?_))
      exact ⟨_, rfl, F, zs, rfl, .inl ⟨SqL.of hF, fun p np => ok rfl _ _ (b1.same (same_upd np))⟩⟩
    · have jlt : j < T.length := by omega
      refine iteT' (by rw [decide_eq_false hj]; rfl) ?_
      refine ⟨fun σ' H'' => ∃ m', m' < f' + 1 ∧ ∃ (j c : Nat) (zs : List V), σ' = [some (.ref o), some (.ref F)] ∧ c + m' = 4 ∧ zs.length = c ∧ But o H H'' ∧ RowX K C H'' o l T j v n ∧ j ≤ T.length ∧ 1 ≤ j ∧ H'' F = some (.lst zs) ∧ srcsX T 4 k 0 = srcsX T m' j c ∧ (m' = 0 → False), fun _ _ h => h, ?_⟩
      obtain ⟨dx2, fs2, ho2, no2⟩ := R1.call (m := "need") (by decide +kernel)
      have eb : srcsX T (f' + 1) j c = (if c < 3 ∧ (c = 0 ∨ jnB T j = false) then (if (srcX T j).2 = true then srcX T j else srcsX T f' (srcX T j).1 (c + 1)) else (j, true)) := by
        conv => lhs; unfold srcsX
        rw [if_pos jlt]
      have bad : ¬ (c < 3 ∧ (c = 0 ∨ jnB T j = false)) → ∀ (dd : Addr) (H' : Hp), Same H1 H' → H' dd = some (probF v (plcT T j n + 1)) → E (.ref SP) (some dd) H' := fun z dd H' s' h' => by
        rw [if_neg z] at eb
        rw [eb] at er
        rw [er] at no
        exact no rfl dd H' (b1.same s') h'
      refine sq_drop ⟨_, rfl, o, dx2, fs2, rfl, ho2, no2, ?_⟩
      refine ⟨_, rfl, F, zs, rfl, .inl (SqL.of hF), _, _, rfl, rfl, _, rfl, ?_⟩
      by_cases c3 : c < 3
      · refine iteT' (decide_eq_true (by omega)) ?_
        have went : ∀ (Z : VK), (∀ H2, Same H1 H2 → Z (.bl (decide (c = 0) || !jnB T j)) H2) → (tOrV (tOp (rEqNil K) (tVar 1) (tLst tNil)) (tNotV (tMeth C "is_joined" (spJoined K C) [] E0 (tVar 0) tNil))) [some (.ref o), some (.ref F)] H1 Z := fun Z z => by
          refine ⟨_, rfl, lst_nil fun D nD => ?_⟩
          have s2 := same_upd (o := .lst []) nD
          refine ⟨F, D, zs, rfl, rfl, SqL.of (s2 _ _ hF), SqL.of upd_same, _, rfl, ?_⟩
          cases zs with
          | nil =>
            have c0 : c = 0 := lz.symm
            have z := z _ s2
            rw [decide_eq_true c0] at z
            exact iteT' rfl z
          | cons z0 zs =>
            have c0 : ¬ c = 0 := by
              rw [← lz, List.length_cons]
              omega
            have z := z _ s2
            rw [decide_eq_false c0] at z
            refine iteF' rfl ?_
            have R2 := R1.same s2
            obtain ⟨dx3, fs3, ho3, no3⟩ := R2.call (m := "is_joined") (by decide +kernel)
            exact ⟨_, rfl, o, dx3, fs3, rfl, ho3, no3, o, l, T, j, rfl, R2.at_, j1, lj, _, rfl, z⟩
        refine went _ fun H2 s2 => ?_
        have R2 := R1.same s2
        refine ⟨o, l, T, j, v, n, _, rfl, R2, fun eg => ?_, fun eg => ⟨lj, fun dd H' s' h' => bad (fun z => ?_) dd H' (s2.trans s') h'⟩⟩
        · have cond : c < 3 ∧ (c = 0 ∨ jnB T j = false) := by
            refine ⟨c3, ?_⟩
            rcases Bool.or_eq_true_iff.mp eg with y | y
            · exact .inl (of_decide_eq_true y)
            · exact .inr ((Bool.not_eq_true' _).mp y)
          rw [if_pos cond] at eb
          have b2 := b1.same s2
          have hF2 := s2 _ _ hF
          have lx := srcX_le lj
          refine ⟨_, rfl, .inl ⟨rfl, _, SqL.of hF2⟩, ?_⟩
          refine ⟨_, rfl, o, l, T, j, v, n, rfl, R2, lj, j1, fun y u H3 b3 R3 => ?_, fun y dd H' b' h' => ?_⟩
          · rw [if_neg (by rw [y]; exact fun z => nomatch z)] at eb
            have hF3 := b3 _ _ hF2 nFo
            have lt2 := lx.2.2 y
            refine ⟨F, _, _, rfl, rfl, hF3, by rw [sizeLine_eq]; omega, ?_⟩
            refine nxt_go ⟨f', by omega, (srcX T j).1, c + 1, zs ++ [u], rfl, by omega, by rw [List.length_append, lz]; rfl, ?_, R3.mut hF3 nFl, lx.1, by omega, upd_same, er.trans eb, by omega⟩
            exact fun b ob e nn => by
              rw [upd_ne (ne_of_none e nF)]
              exact (b2.trans b3) b ob e nn
          · rw [if_pos y] at eb
            rw [er, eb] at no
            exact no y dd H' (b2.trans b') h'
        · rw [Bool.or_eq_false_iff] at eg
          rcases z.2 with y | y
          · exact absurd y (of_decide_eq_false eg.1)
          · rw [y] at eg
            exact nomatch eg.2
      · refine iteF' (decide_eq_false (by omega)) ?_
        refine ⟨o, l, T, j, v, n, _, rfl, R1, fun eg => ?_, fun eg => ⟨lj, fun dd H' s' h' => bad (fun z => c3 z.1) dd H' s' h'⟩⟩
        exact nomatch eg
def spRuleX (K : PySem.W.Frag) (C SP : Addr) : Sp := fun vs H Q E => ∃ (o l : Addr) (T : List TkW) (v : V) (n : Nat), vs = [.ref o] ∧ RowX K C H o l T 0 v n ∧
  ((ruleX T).2 = false → ∀ (u : V) (H' : Hp), But o H H' → Q u H') ∧
  ((ruleX T).2 = true → ∀ (dd : Addr) (H' : Hp), But o H H' → H' dd = some (probF v (plcT T (ruleX T).1 n + 1)) → E (.ref SP) (some dd) H')
theorem sc_read_rule : FnScope ["row", "label", "begin", "pattern"] ["row"] (defScope s_p_read_rule) := ⟨rfl, rfl, rfl, by decide +kernel, rfl, by decide +kernel, by decide +kernel⟩
theorem calx_read_rule {SP : Addr} (D : Def1 K mg "read_rule" s_p_read_rule) (cl : RCls K C) (CL : Cal P w K mg base 1 "is_label" (spOne K dLabel)) (CB : Cal P w K mg base 2 "is_begin" spBegX) (CP : CalX P w K mg base 5 "read_pattern" (spPatX K C SP)) (CS : CalX P w K mg base 7 "read_sources" (spSrcsX K C SP)) (CN : MCal P w K mg base C 2 "next_word" (spNext K C)) (CT : MCalX P w K mg base C 4 "taken" (spTakenX K C SP)) :
    CalX P w K mg base 8 "read_rule" (spRuleX K C SP) := by
  refine mkCalX D sc_read_rule (fun _ _ _ _ _ _ us hl => match us, hl with | [_], _ => rfl) (fun vs H Q E h => ?_) (fun f cdv A outer s H vs Q E hr h => ?_)
  · obtain ⟨o, l, T, v, n, rfl, _⟩ := h
    rfl
  · obtain ⟨o, l, T, v, n, rfl, R, ok, no⟩ := h
    refine ⟨_, (pss_cons (ps_set (i := 1) sc_read_rule.nd rfl (.inl rfl) (pe_mcalX CT cl.cl hr (by decide) (takes_of rfl rfl rfl rfl) (pv 0) (pa_cons (pe_cal CL hr (by omega) (pa_cons (pe_mcal0 CN cl.cl hr (by omega) (pv 0)) pa_nil)) pa_nil)))
    (pss_cons (ps_expr (pe_mcalX CT cl.cl hr (by decide) (takes_of rfl rfl rfl rfl) (pv 0) (pa_cons (pe_cmpR op_eq (pe_mcal0 CN cl.cl hr (by omega) (pv 0)) pe_str (nomark _)) pa_nil)))
    (pss_cons (ps_set (i := 2) sc_read_rule.nd rfl (.inl rfl) pe_str)
    (pss_cons (ps_if (pt_cmpR op_ne (pe_mcal0 CN cl.cl hr (by omega) (pv 0)) pe_str (nomark _)) (pss_one (ps_set (i := 2) sc_read_rule.nd rfl (.inl rfl) (pe_mcalX CT cl.cl hr (by decide) (takes_of rfl rfl rfl rfl) (pv 0) (pa_cons (pe_cal CB hr (by omega) (pa_cons (pe_mcal0 CN cl.cl hr (by omega) (pv 0)) pa_nil)) pa_nil)))) pss_nil)
    (pss_cons (ps_set (i := 3) sc_read_rule.nd rfl (.inl rfl) (pe_calX CP hr (by decide) (takes_of rfl rfl rfl rfl) (pa_cons (pv 0) (pa_cons (pv 2) pa_nil))))
    (pss_cons (ps_expr (pe_mcalX CT cl.cl hr (by decide) (takes_of rfl rfl rfl rfl) (pv 0) (pa_cons (pe_cmpR op_eq (pe_mcal0 CN cl.cl hr (by omega) (pv 0)) pe_str (nomark _)) pa_nil)))
    (pss_one (ps_ret (pe_tup (pa_cons (pv 1) (pa_cons (pv 3) (pa_cons (pe_calX CS hr (by decide) (takes_of rfl rfl rfl rfl) (pa_cons (pv 0) pa_nil)) pa_nil)))))))))))), ?_⟩
    obtain ⟨dx, fs, ho, nof⟩ := R.call (m := "taken") (by decide +kernel)
    obtain ⟨dx1, fs1, ho1, no1⟩ := R.call (m := "next_word") (by decide +kernel)
    refine sq_asg ?_
    refine ⟨_, rfl, o, dx, fs, rfl, ho, nof, _, rfl, o, dx1, fs1, rfl, ho1, no1, o, l, T, 0, rfl, R.at_, Nat.zero_le _, ?_⟩
    refine ⟨.str (nextW T 0), .str (nextW T 0), rfl, .str _, Nat.le_trans (R.next_len 0) (by decide), ?_⟩
    refine ⟨o, l, T, 0, v, n, _, rfl, R, Nat.zero_le _, fun e0 => ?_, fun e0 dd H' s' h' => ?_⟩
    case refine_2 =>
      have e : ruleX T = (0, true) := by
        unfold ruleX
        rw [if_neg (by rw [e0]; exact fun z => nomatch z)]
      rw [e] at no
      exact no rfl dd H' (Same.but s') h'
    have l0 := next_lt (lab_ne e0)
    refine ⟨l0, fun H1 b1 R1 => ?_⟩
    obtain ⟨dx2, fs2, ho2, no2⟩ := R1.call (m := "taken") (by decide +kernel)
    obtain ⟨dx3, fs3, ho3, no3⟩ := R1.call (m := "next_word") (by decide +kernel)
    refine on_go (sq_drop ?_)
    refine ⟨_, rfl, o, dx2, fs2, rfl, ho2, no2, _, rfl, o, dx3, fs3, rfl, ho3, no3, o, l, T, 1, rfl, R1.at_, l0, rfl, ?_⟩
    have ed : ∀ (x y : Str), decide (V.str x = V.str y) = decide (x = y) := fun x y => by rw [decide_eq_decide, V.str.injEq]
    refine ⟨o, l, T, 1, v, n, _, rfl, R1, l0, fun e1 => ?_, fun e1 dd H' s' h' => ?_⟩
    case refine_2 =>
      rw [ed] at e1
      have e : ruleX T = (1, true) := by
        unfold ruleX
        rw [if_pos e0, if_neg (of_decide_eq_false e1)]
      rw [e] at no
      exact no rfl dd H' (b1.same s') h'
    rw [ed] at e1
    have e1 := of_decide_eq_true e1
    have l1 := next_lt' e1 colon_ne
    refine ⟨l1, fun H2 b2 R2 => ?_⟩
    have b02 := b1.trans b2
    have le2 : 2 ≤ T.length := l1
    have er : ruleX T = (if nextW T 2 = "*" then tailX T (patX T 2 "") else if begB (nextW T 2) = true then tailX T (patX T 3 (nextW T 2)) else (2, true)) := by
      unfold ruleX
      rw [if_pos e0, if_pos e1]
    refine sq_asg (on_go ?_)
    refine if_join (fun σ H3 => ∃ (k : Nat) (b : Str), σ = [some (.ref o), some (.str (nextW T 0)), some (.str b), none] ∧ But o H H3 ∧ RowX K C H3 o l T k v n ∧ k ≤ T.length ∧ 1 ≤ k ∧ ruleX T = tailX T (patX T k b)) ?_ ?_
    · rintro σ H3 ⟨k, b, rfl, b3, R3, lk, k1, et⟩
      have lp := patX_le (T := T) (k := k) (b := b) lk
      unfold tailX at et
      refine sq_asg ?_
      refine ⟨_, rfl, _, rfl, o, l, T, k, v, n, b, rfl, R3, lk, k1, fun y pp H4 b4 R4 => ?_, fun y dd H' b' h' => ?_⟩
      · rw [if_neg (by rw [y]; exact fun z => nomatch z)] at et
        obtain ⟨dx4, fs4, ho4, no4⟩ := R4.call (m := "taken") (by decide +kernel)
        obtain ⟨dx5, fs5, ho5, no5⟩ := R4.call (m := "next_word") (by decide +kernel)
        refine on_go (sq_drop ?_)
        refine ⟨_, rfl, o, dx4, fs4, rfl, ho4, no4, _, rfl, o, dx5, fs5, rfl, ho5, no5, o, l, T, _, rfl, R4.at_, lp.1, rfl, ?_⟩
        refine ⟨o, l, T, _, v, n, _, rfl, R4, lp.1, fun e4 => ?_, fun e4 dd H' s' h' => ?_⟩
        · rw [ed] at e4
          have e4 := of_decide_eq_true e4
          have l4 := next_lt' e4 less_ne
          rw [if_pos e4] at et
          rw [et] at ok no
          refine ⟨l4, fun H5 b5 R5 => go_ret ?_⟩
          refine ⟨_, rfl, _, rfl, _, rfl, o, l, T, _, v, n, rfl, R5, l4, by omega, fun y2 u H6 b6 => ?_, fun y2 dd H' b' h' => no y2 dd H' (((b3.trans b4).trans b5).trans b') h'⟩
          exact ⟨(by show 3 ≤ sizeLine; decide), fun tp np => ok y2 _ _ ((((b3.trans b4).trans b5).trans b6).same (same_upd np))⟩
        · rw [ed] at e4
          rw [if_neg (of_decide_eq_false e4)] at et
          rw [et] at no
          exact no rfl dd H' ((b3.trans b4).same s') h'
      · rw [if_pos y] at et
        rw [et] at no
        exact no y dd H' (b3.trans b') h'
    · intro Rn hRn
      obtain ⟨dx4, fs4, ho4, no4⟩ := R2.call (m := "taken") (by decide +kernel)
      obtain ⟨dx5, fs5, ho5, no5⟩ := R2.call (m := "next_word") (by decide +kernel)
      refine go_if ?_
      refine ⟨_, rfl, o, dx5, fs5, rfl, ho5, no5, o, l, T, 2, rfl, R2.at_, le2, rfl, _, rfl, ?_⟩
      by_cases hs : nextW T 2 = "*"
      · rw [if_pos hs] at er
        exact iteF' (by rw [hs]; rfl) (nxt_go (hRn _ _ ⟨2, "", rfl, b02, R2, le2, by decide, er⟩))
      · rw [if_neg hs] at er
        refine iteT' (by rw [decide_eq_false (fun z => hs (V.str.inj z))]; rfl) ?_
        refine ⟨_, rfl, o, dx4, fs4, rfl, ho4, no4, _, rfl, o, dx5, fs5, rfl, ho5, no5, o, l, T, 2, rfl, R2.at_, le2, ?_⟩
        refine ⟨nextW T 2, rfl, R.next_len 2, o, l, T, 2, v, n, _, rfl, R2, le2, fun eb => ?_, fun eb dd H' s' h' => ?_⟩
        · have l2 := next_lt (beg_ne eb)
          rw [if_pos eb] at er
          exact ⟨l2, fun H3 b3 R3 => on_go (nxt_go (hRn _ _ ⟨3, nextW T 2, rfl, b02.trans b3, R3, l2, by decide, er⟩))⟩
        · rw [if_neg (by rw [eb]; exact fun z => nomatch z)] at er
          rw [er] at no
          exact no rfl dd H' (b02.same s') h'
end
end
end Lk

/-! K91F -/
set_option Elab.async false
set_option linter.all false
set_option maxRecDepth 100000
set_option maxHeartbeats 4000000
namespace Lk
open PySem PySem.Spec PyProof.Rows L2
section
variable {P : Program} {w : World} {K : PySem.W.Frag} {mg : Str → Option Value} {base : Heap}
theorem tm_raise {H : Hp} {TM : Addr} {y : V} {Q : XK} (k : ∀ dd H', Same H H' → H' dd = some (.xd [("limit", y)]) → Q (.ref TM) (some dd) H') : [y].length ≤ 1000 ∧ ∀ a, H a = none → spI1 TM (.ref a :: ([y] ++ [])) (upd H a (exo a TM none))
    (fun v H2 => v = .non ∧ ∃ (d : Addr) (fs : List (Str × V)), H2 a = some (exo a TM (some d)) ∧ H2 d = some (exd d fs) ∧ H d = none ∧ Q (.ref TM) (some d) (upd (del H2 a) d (.xd fs))) (fun _ _ _ => False) := by
  refine ⟨(by show 1 ≤ 1000; decide), fun a na => ⟨a, y, rfl, upd_same, fun d nd ne => ?_⟩⟩
  have nd' : H d = none := by rwa [upd_ne ne] at nd
  refine ⟨rfl, d, [("limit", y)], upd_same, by rw [upd_ne ne, upd_same], nd', k d _ (fun b x e => ?_) upd_same⟩
  have n1 : b ≠ a := ne_of_none e na
  have n2 : b ≠ d := ne_of_none e nd'
  rw [upd_ne n2, del_ne n1, upd_ne n1, upd_ne n2, upd_ne n1]
  exact e
/-- the column of the first problem of a row that tells a rule -/
def outR (T : List TkW) (r : Option Nat) (n : Nat) : Option Nat := match r with
  | some q => some (q + 1)
  | none => if (ruleX T).2 = true then some (plcT T (ruleX T).1 n + 1) else none
structure Part where
  x : Str
  T : List TkW
  r : Option Nat
def partO (c : Part) : Option Nat := if c.T = [] ∧ c.r = none then none else outR c.T c.r c.x.length
inductive Out
  | fine
  | prob (line col : Nat)
  | many
def bookO : List Part → Nat → Nat → Out
  | [], _, c => if 6 < c then .many else .fine
  | p :: L, i, c => match partO p with
    | some col => .prob (i + 1) col
    | none => bookO L (i + 1) (if p.T = [] then c else c + 1)
section
variable {C : Addr}
def spParseX (K : PySem.W.Frag) (SP : Addr) : Sp := fun vs H Q E => ∃ (x : Str) (T : List TkW) (r : Option Nat), vs = [.str x] ∧ x.length ≤ 1000000 ∧ LexR 0 (TL.tl x) T r ∧
  (outR T r x.length = none → ∀ (u : V) (H' : Hp), Same H H' → Q u H') ∧ ∀ c, outR T r x.length = some c → ∀ (dd : Addr) (H' : Hp), Same H H' → H' dd = some (probF (.int 1) c) → E (.ref SP) (some dd) H'
theorem sc_parse_rule : FnScope ["text"] ["text"] (defScope s_p_parse_rule) := ⟨rfl, rfl, rfl, by decide +kernel, rfl, by decide +kernel, by decide +kernel⟩
theorem calx_parse_rule {SP : Addr} (D : Def1 K mg "parse_rule" s_p_parse_rule) (Z : Kls K mg "Row" C) (CI : MCalX P w K mg base C 4 "__init__" (spInitX K C SP)) (CRR : CalX P w K mg base 8 "read_rule" (spRuleX K C SP)) : CalX P w K mg base 9 "parse_rule" (spParseX K SP) := by
  refine mkCalX D sc_parse_rule (fun _ _ _ _ _ _ us hl => match us, hl with | [_], _ => rfl) (fun vs H Q E h => ?_) (fun f cdv A outer s H vs Q E hr h => ?_)
  · obtain ⟨x, T, r, rfl, _⟩ := h
    rfl
  · obtain ⟨x, T, r, rfl, hx, hl, ok, no⟩ := h
    refine ⟨_, (pss_one (ps_ret (pe_calX CRR hr (by decide) (takes_of rfl rfl rfl rfl) (pa_cons (pe_newX CI Z hr (by decide) (takes_of rfl rfl rfl rfl) (pa_cons (pv 0) (pa_cons pe_int pa_nil))) pa_nil)))), ?_⟩
    refine go_ret ?_
    refine ⟨_, rfl, fun o dx no' nd ne => ?_⟩
    have ho : upd (upd H dx (.own o)) o (.ins C dx []) o = some (.ins C dx []) := upd_same
    have s1 : Same H (upd (upd H dx (.own o)) o (.ins C dx [])) := fun b u e => by
      rw [upd_ne (ne_of_none e no'), upd_ne (ne_of_none e nd)]
      exact e
    generalize upd (upd H dx (.own o)) o (.ins C dx []) = H1 at ho s1 ⊢
    have back : ∀ {H2 : Hp}, But o H1 H2 → Same H H2 := fun b2 b ob e => b2 b ob (s1 _ _ e) (ne_of_none e no')
    refine ⟨o, dx, x, .int 1, T, r, rfl, ho, hx, hl, fun er l H2 nl b2 R => ⟨rfl, ?_⟩, fun q eq dd H' b' h' => ?_⟩
    · refine ⟨o, l, T, .int 1, x.length, rfl, R, fun e u H3 b3 => ok ?_ u H3 (back (b2.trans b3)), fun e dd H3 b3 h3 => no _ ?_ dd H3 (back (b2.trans b3)) h3⟩
      · rw [er]
        unfold outR
        exact if_neg (by rw [e]; exact fun z => nomatch z)
      · rw [er]
        unfold outR
        exact if_pos e
    · exact no _ (by rw [eq]; rfl) dd H' (back b') h'
def spBookX (K : PySem.W.Frag) (SP TM : Addr) : Sp := fun vs H Q E => ∃ (x : Str) (L : List Part), vs = [.str x] ∧ x = Txt.join "\n" (L.map (·.x)) ∧ L ≠ [] ∧ (∀ c ∈ L, 10 ∉ TL.tl c.x ∧ LexR 0 (TL.tl c.x) c.T c.r ∧ c.x.length ≤ 1000000) ∧ x.length ≤ 1000000 ∧ L.length ≤ 1000000 ∧
  (bookO L 0 0 = .fine → ∀ (u : V) (H' : Hp), Same H H' → Q u H') ∧ (∀ i c, bookO L 0 0 = .prob i c → ∀ (dd : Addr) (H' : Hp), Same H H' → H' dd = some (probF (.int (i : Int)) c) → E (.ref SP) (some dd) H') ∧
  (bookO L 0 0 = .many → ∀ (dd : Addr) (H' : Hp), Same H H' → H' dd = some (.xd [("limit", .int 6)]) → E (.ref TM) (some dd) H')
theorem sc_parse_book : FnScope ["text", "rules", "number", "part", "row"] ["text"] (defScope s_p_parse_book) := ⟨rfl, rfl, rfl, by decide +kernel, rfl, by decide +kernel, by decide +kernel⟩
theorem calx_parse_book {SP TM : Addr} (D : Def1 K mg "parse_book" s_p_parse_book) (G : Glb mg) (T0 : Glc mg) (KR : Con1 mg "MOST_RULES" (.int 6)) (cl : RCls K C) (Z : Kls K mg "Row" C) (TR : Ini P w K mg base "TooMany" TM (spI1 TM)) (CI : MCalX P w K mg base C 4 "__init__" (spInitX K C SP)) (CA : MCal P w K mg base C 1 "at_end" (spAtEnd K C)) (CRR : CalX P w K mg base 8 "read_rule" (spRuleX K C SP)) :
    CalX P w K mg base 9 "parse_book" (spBookX K SP TM) := by
  obtain ⟨fI2, fd2, ps2, F2, iC2, tI2, b2, m2⟩ := TR.ex
  refine mkCalX D sc_parse_book (fun _ _ _ _ _ _ us hl => match us, hl with | [_], _ => rfl) (fun vs H Q E h => ?_) (fun f cdv A outer s H vs Q E hr h => ?_)
  · obtain ⟨x, L, rfl, _⟩ := h
    rfl
  · obtain ⟨x, L, rfl, ex, ne, each, lx, lL, ok, no, many⟩ := h
    refine ⟨_, (pss_cons (ps_set (i := 1) sc_parse_book.nd rfl (.inl rfl) (pe_lst pa_nil))
    (pss_cons (ps_for (passes_of rfl) rfl (pi_enum (by rfl) G.enumerate (pa_cons (pe_split (pv 0) pe_str) pa_nil)) (pg_tup rfl (pgs_cons (pg_name (i := 2) sc_parse_book.nd rfl (.inl rfl)) (pgs_cons (pg_name (i := 3) sc_parse_book.nd rfl (.inl rfl)) pgs_nil)))
    (pss_cons (ps_set (i := 4) sc_parse_book.nd rfl (.inl rfl) (pe_newX CI Z hr (by decide) (takes_of rfl rfl rfl rfl) (pa_cons (pv 3) (pa_cons (pe_op op_add (pv 2) pe_int) pa_nil))))
    (pss_one (ps_if (pt_not (pt_val (pe_mcal0 CA cl.cl hr (by omega) (pv 4)))) (pss_one (ps_expr (pe_bm PySem.F.plainAttrs_list PySem.F.slot_list_append PySem.F.type_list_append mt_append (pv 1) (pa_cons (pe_calX CRR hr (by decide) (takes_of rfl rfl rfl rfl) (pa_cons (pv 4) pa_nil)) pa_nil)))) pss_nil))))
    (pss_cons (ps_if (pt_cmpR op_gt (pe_callB call_len_seq (by rfl) G.len PySem.boot_len (pa_cons (pv 1) pa_nil)) (pe_con1 KR) (nomark _)) (pss_one (ps_raise rfl (takes_of rfl rfl rfl rfl) (pmk_oex (ds := []) (dvs := []) TR.ox iC2 tI2 F2 (hr.mono (by decide)) b2 .nil pass0 (by rfl) m2 (pa_cons (pe_con1 KR) pa_nil)))) pss_nil)
    (pss_one (ps_ret (pe_callTy call_tuple_of (by rfl) T0.tuple (by decide +kernel) (pa_cons (pv 1) pa_nil))))))), ?_⟩
    have esp : Txt.split x "\n" = L.map (·.x) := by
      rw [ex]
      exact TL.split_join (s := 10) (S := []) (by decide +kernel) (by decide +kernel) (fun z => ne (List.map_eq_nil_iff.mp z)) fun p mp => by
        obtain ⟨c, mc, rfl⟩ := List.mem_map.mp mp
        exact (each c mc).1
    refine sq_asg (lst_nil fun F nF => ?_)
    have s0 : Same H (upd H F (.lst [])) := same_upd nF
    have hF0 : upd H F (.lst []) F = some (.lst []) := upd_same
    generalize upd H F (.lst []) = H0 at s0 hF0 ⊢
    refine on_go (sq_for ?_)
    refine ⟨_, rfl, ⟨_, rfl⟩, x, "\n", rfl, rfl, by decide +kernel, by rw [sizeLine_eq]; omega, ?_⟩
    rw [esp]
    intro a na
    have s1 : Same H0 (upd H0 a (.lst ((L.map (·.x)).map V.str))) := same_upd na
    have ha : upd H0 a (.lst ((L.map (·.x)).map V.str)) a = some (.lst ((L.map (·.x)).map V.str)) := upd_same
    generalize upd H0 a (.lst ((L.map (·.x)).map V.str)) = H1 at s1 ha ⊢
    have s01 := s0.trans s1
    have hF1 := s1 _ _ hF0
    have naF : a ≠ F := fun z => by rw [z, hF0] at na; cases na
    refine ⟨a, _, rfl, SqL.of ha, for_enum (K := K) (a := a) (xs := (L.map (·.x)).map V.str) (fun i σ H' => ∃ (zs : List V) (v2 v3 v4 : Option V), σ = [some (.str x), some (.ref F), v2, v3, v4] ∧ Same H H' ∧ H' a = some (.lst ((L.map (·.x)).map V.str)) ∧ H' F = some (.lst zs) ∧ zs.length ≤ i ∧ bookO L 0 0 = bookO (L.drop i) i zs.length)
      ⟨[], _, _, _, rfl, s01, ha, hF1, Nat.le_refl _, rfl⟩ (fun i σ H' ⟨_, _, _, _, _, _, h, _⟩ => SqL.of h) ?_ ?_⟩
    · rintro i y σ H2 tt hy nt ⟨zs, v2, v3, v4, rfl, s2, ha2, hF2, lz, eo⟩
      obtain ⟨p, hp, rfl⟩ := Option.map_eq_some_iff.mp ((List.getElem?_map ..).symm.trans hy)
      obtain ⟨c, hc, rfl⟩ := Option.map_eq_some_iff.mp ((List.getElem?_map ..).symm.trans hp)
      have mc := List.mem_of_getElem? hc
      have il := (List.getElem?_eq_some_iff.mp hc).1
      have ed : L.drop i = c :: L.drop (i + 1) := by
        rw [← (List.getElem?_eq_some_iff.mp hc).2]
        exact (List.getElem_cons_drop (h := il)).symm
      rw [ed] at eo
      have eo : bookO L 0 0 = (match partO c with
        | some col => .prob (i + 1) col
        | none => bookO (L.drop (i + 1)) (i + 1) (if c.T = [] then zs.length else zs.length + 1)) := eo
      obtain ⟨_, lex, lc⟩ := each c mc
      have u3 := same_upd (o := .tup [.int (i : Int), .str c.x]) nt
      have h3 : upd H2 tt (.tup [.int (i : Int), .str c.x]) tt = some (.tup [.int (i : Int), .str c.x]) := upd_same
      generalize upd H2 tt (.tup [.int (i : Int), .str c.x]) = H3 at u3 h3 ⊢
      refine ⟨tt, _, rfl, SqT.of h3, rfl, _, _, rfl, _, _, rfl, rfl, sq_asg ?_⟩
      refine ⟨_, rfl, _, rfl, _, _, rfl, rfl, fun o dx no' nd ne2 => ?_⟩
      have ho : upd (upd H3 dx (.own o)) o (.ins C dx []) o = some (.ins C dx []) := upd_same
      have s4 : Same H3 (upd (upd H3 dx (.own o)) o (.ins C dx [])) := fun b u e => by
        rw [upd_ne (ne_of_none e no'), upd_ne (ne_of_none e nd)]
        exact e
      generalize upd (upd H3 dx (.own o)) o (.ins C dx []) = H4 at ho s4 ⊢
      have back : ∀ {H5 : Hp}, But o H4 H5 → Same H3 H5 := fun b5 b ob e => b5 b ob (s4 _ _ e) (ne_of_none e no')
      refine ⟨o, dx, c.x, .int ((i + 1 : Nat) : Int), c.T, c.r, rfl, ho, lc, lex, fun er l H5 nl b5 R => ⟨rfl, on_go ?_⟩, fun q eq dd H5 b5 h5 => ?_⟩
      · have s35 := back b5
        have s25 := s2.trans (u3.trans s35)
        have ha5 := (u3.trans s35) _ _ ha2
        have hF5 := (u3.trans s35) _ _ hF2
        have fo : F ≠ o := ne_of_none (u3 _ _ hF2) no'
        obtain ⟨dx1, fs1, ho1, no1⟩ := R.call (m := "at_end") (by decide +kernel)
        refine go_if ?_
        refine ⟨_, rfl, o, dx1, fs1, rfl, ho1, no1, o, l, c.T, 0, rfl, R.at_, _, rfl, ?_⟩
        by_cases hT : c.T = []
        · have ep : partO c = none := by
            unfold partO
            exact if_pos ⟨hT, er⟩
          rw [ep, if_pos hT] at eo
          exact iteF' (by rw [hT]; rfl) (nxt_go ⟨zs, _, _, _, rfl, s25, ha5, hF5, by omega, eo⟩)
        · have ep : partO c = outR c.T none c.x.length := by
            unfold partO
            rw [er]
            exact if_neg fun z => hT z.1
          have nl0 : ¬ 0 = c.T.length := fun z => hT (List.length_eq_zero_iff.mp z.symm)
          refine iteT' (by rw [decide_eq_false nl0]; rfl) ?_
          refine ⟨_, rfl, .inl ⟨rfl, _, SqL.of hF5⟩, _, rfl, o, l, c.T, _, c.x.length, rfl, R, fun e u H6 b6 => ?_, fun e dd H6 b6 h6 => ?_⟩
          · have en : partO c = none := by
              rw [ep]
              unfold outR
              exact if_neg (by rw [e]; exact fun z => nomatch z)
            rw [en, if_neg hT] at eo
            have s36 : Same H3 H6 := fun b ob e => b6 b ob (s35 _ _ e) (ne_of_none e no')
            have hF6 := b6 _ _ hF5 fo
            refine ⟨F, _, _, rfl, rfl, hF6, by rw [sizeLine_eq]; omega, ?_⟩
            refine nxt_go ⟨zs ++ [u], _, _, _, rfl, same_mut (s2.trans (u3.trans s36)) nF, ?_, upd_same, ?_, ?_⟩
            · rw [upd_ne naF]
              exact (u3.trans s36) _ _ ha2
            · rw [List.length_append, List.length_singleton]
              omega
            · rw [List.length_append, List.length_singleton]
              exact eo
          · have en : partO c = some (plcT c.T (ruleX c.T).1 c.x.length + 1) := by
              rw [ep]
              unfold outR
              exact if_pos e
            rw [en] at eo
            exact no _ _ eo dd H6 (s2.trans (u3.trans fun b ob e => b6 b ob (s35 _ _ e) (ne_of_none e no'))) h6
      · have en : partO c = some (q + 1) := by
          unfold partO
          rw [if_neg (by rw [eq]; exact fun z => nomatch z.2), eq]
          rfl
        rw [en] at eo
        exact no _ _ eo dd H5 (s2.trans (u3.trans (back b5))) h5
    · rintro σ H2 ⟨zs, v2, v3, v4, rfl, s2, ha2, hF2, lz, eo⟩
      rw [List.length_map, List.length_map] at lz eo
      rw [List.drop_length] at eo
      have eo : bookO L 0 0 = (if 6 < zs.length then .many else .fine) := eo
      refine ends_go (sq_if (go_if ?_))
      refine ⟨_, rfl, F, zs, rfl, .inl (SqL.of hF2), _, _, rfl, rfl, _, rfl, ?_⟩
      by_cases h6 : 6 < zs.length
      · rw [if_pos h6] at eo
        exact iteT' (decide_eq_true (by omega)) (tm_raise fun dd H' s' h' => many eo dd H' (s2.trans s') h')
      · rw [if_neg h6] at eo
        refine iteF' (decide_eq_false (by omega)) (nxt_go (go_ret ?_))
        exact ⟨_, rfl, F, zs, rfl, .inl ⟨SqL.of hF2, fun p np => ok eo _ _ (s2.trans (same_upd np))⟩⟩
end
end
end Lk

/-! K91G -/
set_option Elab.async false
set_option linter.all false
set_option maxRecDepth 100000
set_option maxHeartbeats 4000000
namespace Lk
open PySem PySem.Spec PyProof.Rows L2
section
/-! ### calls of an expression that gives one of some defs -/
def FnE (P : Program) (w : World) (K : PySem.W.Frag) (mg : Str → Option Value) (base : Heap) (k : Nat) (p : Addr × Sp) : Prop := ∃ (fd : FuncData) (ps : List Str), FnOk P w K mg base (L2.CX P w) k p.1 fd ps p.2 ∧ PySem.W.keepIn K (.ref p.1) = true ∧ Binds K fd ps []
def tCallE (Fs : List (Addr × Sp)) (E : L2.St → XK) (tf : TE) (t : TA) : TE := fun σ H Q => tf σ H fun y H1 => ∃ a sp, y = V.ref a ∧ (a, sp) ∈ Fs ∧ t σ H1 fun vs H2 => sp vs H2 Q (E σ)
/-- the callee is an expression, no name: what its call does -/
def ByE (fe e : Expr) (es : List Expr) (pos : Pos) (v : Env) : Prop := eval (.Call fe (e :: es) [] pos) v = (do callWith pos (← eval fe v) [] (backTo pos (starEach (e :: es) v)) (backToKw pos (keywordEach [] v)))
theorem pe_calE {X : Cx} {W : WX} {k j : Nat} {Fs : List (Addr × Sp)} {fe : Expr} {tf : TE} {t : TA} {e : Expr} {es : List Expr} {pos : Pos} (hf : PE X fe tf) (c : ∀ p ∈ Fs, FnE X.prog X.w X.K X.mg X.base k p) (hr : Room j X.A) (hk : k ≤ j) (tk : Takes X W) (ha : PA X (e :: es) t)
    (ht : ByE fe e es pos X.env := by rfl) (h1 : starEach (e :: es) X.env = (false, eval e X.env) :: starEach es X.env := by rfl) (h2 : (backTo pos (starEach es X.env)).any (·.1) = false := by rfl) :
    PE X (.Call fe (e :: es) [] pos) (tCallE Fs (WE W) tf t) := by
  constructor
  intro pins s σ H Q I h
  refine Call_ ?_ ht
  apply thn (hf.run pins s σ H _ I h)
  rintro u s1 ⟨y, H1, I1, ry, a, sp, rfl, hm, q⟩
  cases ry
  obtain ⟨fd, ps, F, kp, b⟩ := c _ hm
  apply PySem.W.callWith_K (h₀ := X.base) I1.ok.mod.kin kp ?_ h1 h2
  apply thn (ha.run pos pins s1 σ H1 _ I1 q)
  rintro us s2 ⟨vs, H2, I2, r, q2⟩
  exact ⟨I2.kIn, run_fnS F (hr.mono hk) b (passAt tk σ) I2 r q2⟩
theorem calX_at {P : Program} {w : World} {K : PySem.W.Frag} {mg : Str → Option Value} {base : Heap} {k : Nat} {x : String} {sp : Sp} (c : CalX P w K mg base k x sp) : ∃ a, mg x = some (.ref a) ∧ FnE P w K mg base k (a, sp) := by
  obtain ⟨f, fd, ps, F, m, kp, b⟩ := c.ex
  exact ⟨f, m, fd, ps, F, kp, b⟩
theorem FnE.mono {P : Program} {w : World} {K : PySem.W.Frag} {mg : Str → Option Value} {base : Heap} {k j : Nat} {p : Addr × Sp} (h : FnE P w K mg base k p) (le : k ≤ j) : FnE P w K mg base j p := by
  obtain ⟨fd, ps, F, kp, b⟩ := h
  exact ⟨fd, ps, FnOk.mono F le, kp, b⟩
end
section
variable {P : Program} {w : World} {K : PySem.W.Frag} {mg : Str → Option Value} {base : Heap}
/-! ### what is told -/
def outD : Out → PyData
  | .fine => .none
  | .prob i c => .tuple [.int (i : Int), .int (c : Int)]
  | .many => .tuple [.str "many", .int 6]
def out0 (T : List TkW) (r : Option Nat) (n : Nat) : Out := match outR T r n with
  | none => .fine
  | some c => .prob 1 c
structure PartsOf (x : Str) (L : List Part) : Prop where
  ex : x = Txt.join "\n" (L.map (·.x))
  ne : L ≠ []
  each : ∀ c ∈ L, 10 ∉ TL.tl c.x ∧ LexR 0 (TL.tl c.x) c.T c.r ∧ c.x.length ≤ 100000
  few : L.length ≤ 1000000
/-- what a choice and a text come to -/
def Told (c : Nat) (x : Str) (o : Out) : Prop := x.length ≤ 100000 ∧ ((c = 0 ∧ ∃ T r, LexR 0 (TL.tl x) T r ∧ o = out0 T r x.length) ∨ (c = 1 ∧ ∃ L, PartsOf x L ∧ o = bookO L 0 0))
structure ErrT (K : PySem.W.Frag) (mg : Str → Option Value) (SP TM : Addr) : Prop where
  sg : mg "SyntaxProblem" = some (.ref SP)
  tg : mg "TooMany" = some (.ref TM)
  xs : XfC K SP
  xt : XfC K TM
  nl : PySem.W.findIn K (.ref SP) "line" = some none
  nc : PySem.W.findIn K (.ref SP) "column" = some none
  nm : PySem.W.findIn K (.ref TM) "limit" = some none
  ss : PySem.W.exmOne K (.ref SP) (.ref SP) = some true
  ts : PySem.W.exmOne K (.ref TM) (.ref SP) = some false
  tt : PySem.W.exmOne K (.ref TM) (.ref TM) = some true
def spTold (K : PySem.W.Frag) : Sp := fun vs H Q _ => ∃ (c : Nat) (x : Str) (o : Out), vs = [.int (c : Int), .str x] ∧ Told c x o ∧ ∀ (u : V) (H' : Hp), Same H H' → Th K H' u (outD o) → Q u H'
theorem sx_told : FnScope ["choice", "text", "found", "error"] ["choice", "text"] (defScope s_told) := ⟨rfl, rfl, rfl, by decide +kernel, rfl, by decide +kernel, by decide +kernel⟩
theorem calg_told {SP TM : Addr} (D : Def1 K mg "_law_told" s_told) (RE : ErrT K mg SP TM) (C1 : CalX P w K mg base 9 "parse_rule" (spParseX K SP)) (C2 : CalX P w K mg base 9 "parse_book" (spBookX K SP TM)) : CalG P w K mg base CX0 10 "_law_told" (spTold K) := by
  obtain ⟨a0, m0, f0⟩ := calX_at C1
  obtain ⟨a1, m1, f1⟩ := calX_at C2
  have F2 : ∀ p ∈ [(a0, spParseX K SP), (a1, spBookX K SP TM)], FnE P w K mg base 9 p := fun p hp => by
    simp only [List.mem_cons, List.mem_nil_iff, or_false] at hp
    rcases hp with rfl | rfl
    · exact f0
    · exact f1
  refine mkCalG D sx_told (fun _ _ _ _ _ _ us hl => match us, hl with | [_, _], _ => rfl) (fun vs H Q E h => ?_) (fun f cdv A above s H vs Q E hr hg h => ?_)
  · obtain ⟨c, x, o, rfl, _⟩ := h
    rfl
  · obtain ⟨c, x, o, rfl, tld, k⟩ := h
    refine ⟨_, pss_cons (ps_set (i := 2) sx_told.nd rfl (.inl rfl) pe_non)
      (pss_cons (ps_try_asL (i := 3) rfl rfl sx_told.nd rfl rfl (fun W pn xe tk _ => pss_one (ps_expr (pe_calE (pe_ix (show IxR _ (rIxL K) from ix_list) (pe_lst (pa_cons (pe_glob (v := .ref a0) (by rfl) m0 rfl) (pa_cons (pe_glob (v := .ref a1) (by rfl) m1 rfl) pa_nil))) (pv 0) (fun _ _ => rfl)) F2 hr (by decide) tk (pa_cons (pv 1) pa_nil))))
          (.more ⟨rfl, by decide, .inl RE.sg⟩ (fun _ _ _ _ _ hz hf => pss_one (ps_set (i := 2) sx_told.nd rfl (.inl rfl) (pe_tup (pa_cons (pe_xf RE.xs RE.nl hz hf (pv 3)) (pa_cons (pe_xf RE.xs RE.nc hz hf (pv 3)) pa_nil)))))
          (.more ⟨rfl, by decide, .inl RE.tg⟩ (fun _ _ _ _ _ hz hf => pss_one (ps_set (i := 2) sx_told.nd rfl (.inl rfl) (pe_tup (pa_cons pe_str (pa_cons (pe_xf RE.xt RE.nm hz hf (pv 3)) pa_nil))))) .none)))
      (pss_one (ps_ret (pv 2)))), ?_⟩
    refine sq_asg (on_go ?_)
    refine ⟨(by show 2 ≤ sizeLine; decide), fun l nl => ?_⟩
    have s1 : Same H (upd H l (.lst [.ref a0, .ref a1])) := same_upd nl
    have hl : upd H l (.lst [.ref a0, .ref a1]) l = some (.lst [.ref a0, .ref a1]) := upd_same
    generalize upd H l (.lst [.ref a0, .ref a1]) = H1 at s1 hl ⊢
    obtain ⟨lx, ⟨rfl, T, r, lex, rfl⟩ | ⟨rfl, L, po, rfl⟩⟩ := tld
    · refine ⟨_, rfl, l, _, 0, _, rfl, rfl, SqL.of hl, atI_nat (j := 0) rfl, a0, spParseX K SP, rfl, by simp, _, rfl, ?_⟩
      refine ⟨x, T, r, rfl, Nat.le_trans lx (by decide), lex, fun e u H2 s2 => ?_, fun c e dd H2 s2 h2 => ?_⟩
      · exact ⟨_, rfl, k _ _ (s1.trans s2) (by unfold out0; rw [e]; exact .non)⟩
      · refine ⟨true, RE.ss, fun _ a na => ?_, fun y => nomatch y⟩
        refine ⟨_, rfl, rfl, rfl, dd, _, _, rfl, h2, rfl, _, rfl, rfl, rfl, dd, _, _, rfl, h2, rfl, ?_⟩
        refine ⟨(by show 2 ≤ sizeLine; decide), fun p np => ?_⟩
        exact ⟨_, rfl, k _ _ ((s1.trans s2).trans (same_upd np)) (by unfold out0; rw [e]; exact .tup (SqT.of upd_same) (.cons (.int _) (.cons (.int _) .nil)))⟩
    · refine ⟨_, rfl, l, _, 1, _, rfl, rfl, SqL.of hl, atI_nat (j := 1) rfl, a1, spBookX K SP TM, rfl, by simp, _, rfl, ?_⟩
      refine ⟨x, L, rfl, po.ex, po.ne, fun c m => ⟨(po.each c m).1, (po.each c m).2.1, Nat.le_trans (po.each c m).2.2 (by decide)⟩, Nat.le_trans lx (by decide), po.few, fun e u H2 s2 => ?_, fun i c e dd H2 s2 h2 => ?_, fun e dd H2 s2 h2 => ?_⟩
      · exact ⟨_, rfl, k _ _ (s1.trans s2) (by rw [e]; exact .non)⟩
      · refine ⟨true, RE.ss, fun _ a na => ?_, fun y => nomatch y⟩
        refine ⟨_, rfl, rfl, rfl, dd, _, _, rfl, h2, rfl, _, rfl, rfl, rfl, dd, _, _, rfl, h2, rfl, ?_⟩
        refine ⟨(by show 2 ≤ sizeLine; decide), fun p np => ?_⟩
        exact ⟨_, rfl, k _ _ ((s1.trans s2).trans (same_upd np)) (by rw [e]; exact .tup (SqT.of upd_same) (.cons (.int _) (.cons (.int _) .nil)))⟩
      · refine ⟨false, RE.ts, (fun y => nomatch y), fun _ => ⟨true, RE.tt, fun _ a na => ?_, fun y => nomatch y⟩⟩
        refine ⟨_, rfl, rfl, rfl, dd, _, _, rfl, h2, rfl, ?_⟩
        refine ⟨(by show 2 ≤ sizeLine; decide), fun p np => ?_⟩
        exact ⟨_, rfl, k _ _ ((s1.trans s2).trans (same_upd np)) (by rw [e]; exact .tup (SqT.of upd_same) (.cons (.str _) (.cons (.int _) .nil)))⟩
end
end Lk

/-! K91H -/
set_option Elab.async false
set_option linter.all false
set_option maxRecDepth 100000
set_option maxHeartbeats 4000000
namespace Lk
open PySem PySem.Spec PyProof.Rows L2
section
variable {P : Program} {w : World} {K : PySem.W.Frag} {mg : Str → Option Value} {base : Heap}
/-! ### the law's tokens -/
theorem tAnd_rd {a b : TT} {σ : L2.St} {H : Hp} {Z : Bool → Hp → Prop} (x y : Bool) (ha : ∀ Z : Bool → Hp → Prop, Z x H → a σ H Z) (hb : x = true → ∀ Z : Bool → Hp → Prop, Z y H → b σ H Z) (h : Z (x && y) H) : tAnd a b σ H Z := by
  refine ha _ ?_
  cases x with
  | true => exact hb rfl _ h
  | false => exact h
theorem tOr_rd {a b : TT} {σ : L2.St} {H : Hp} {Z : Bool → Hp → Prop} (x y : Bool) (ha : ∀ Z : Bool → Hp → Prop, Z x H → a σ H Z) (hb : x = false → ∀ Z : Bool → Hp → Prop, Z y H → b σ H Z) (h : Z (x || y) H) : tOr a b σ H Z := by
  refine ha _ ?_
  cases x with
  | false => exact hb rfl _ h
  | true => exact h
def allB (p : Nat → Bool) (m : Nat) (w : Str) : Bool := decide (0 < w.length) && (decide (w.length ≤ m) && (TL.tl w).all p)
def spLetter : Sp := fun vs H Q _ => ∃ c : Nat, vs = [.str (sg c)] ∧ Q (.bl (ltB c)) H
theorem sc_is_letter : FnScope ["sign"] ["sign"] (defScope s_is_letter) := ⟨rfl, rfl, rfl, by decide +kernel, rfl, by decide +kernel, by decide +kernel⟩
theorem cal_is_letter (D : Def1 K mg "_law_is_letter" s_is_letter) : Cal P w K mg base 1 "_law_is_letter" spLetter := by
  refine mkCal D sc_is_letter (fun _ _ _ _ _ _ us hl => match us, hl with | [_], _ => rfl) (fun vs H Q E h => ?_) (fun f cdv A outer s H vs Q E hr h => ?_)
  · obtain ⟨c, rfl, _⟩ := h
    rfl
  · obtain ⟨c, rfl, k⟩ := h
    have ta : TL.tl ("a" : Str) = [97] := by decide +kernel
    have tz : TL.tl ("z" : Str) = [122] := by decide +kernel
    have tA : TL.tl ("A" : Str) = [65] := by decide +kernel
    have tZ : TL.tl ("Z" : Str) = [90] := by decide +kernel
    refine ⟨_, (pss_one (ps_ret (pe_or (pe_chain op_le_str op_le_str pe_str (pv 0) pe_str) (pe_one (pe_chain op_le_str op_le_str pe_str (pv 0) pe_str))))), ?_⟩
    have k2 : loB c = false → Q (.bl (upB c)) H := fun e => by
      unfold ltB at k
      rwa [e, Bool.or_false] at k
    have k1 : loB c = true → Q (.bl true) H := fun e => by
      unfold ltB at k
      rwa [e, Bool.or_true] at k
    refine go_ret ⟨_, rfl, _, _, rfl, rfl, _, rfl, ?_⟩
    rw [le_sg ta]
    refine ite2 (fun h1 => ?_) (fun h1 => ?_)
    · refine ⟨_, _, rfl, rfl, _, rfl, ?_⟩
      rw [sg_le tz]
      cases h2 : decide (c ≤ 122) with
      | true => exact iteT' rfl (k1 (by unfold loB; rw [h1, h2]; rfl))
      | false =>
        refine iteF' rfl ?_
        refine ⟨_, rfl, _, _, rfl, rfl, _, rfl, ?_⟩
        rw [le_sg tA]
        refine ite2 (fun h3 => ?_) (fun h3 => ?_)
        · refine ⟨_, _, rfl, rfl, ?_⟩
          rw [sg_le tZ]
          have z := k2 (by unfold loB; rw [h2, Bool.and_false])
          unfold upB at z
          rwa [h3, Bool.true_and] at z
        · have z := k2 (by unfold loB; rw [h2, Bool.and_false])
          unfold upB at z
          rwa [Bool.not_eq_true _ |>.mp h3, Bool.false_and] at z
    · refine ⟨_, rfl, iteF' rfl ?_⟩
      refine ⟨_, rfl, _, _, rfl, rfl, _, rfl, ?_⟩
      rw [le_sg tA]
      refine ite2 (fun h3 => ?_) (fun h3 => ?_)
      · refine ⟨_, _, rfl, rfl, ?_⟩
        rw [sg_le tZ]
        have z := k2 (by unfold loB; rw [Bool.not_eq_true _ |>.mp h1, Bool.false_and])
        unfold upB at z
        rwa [h3, Bool.true_and] at z
      · have z := k2 (by unfold loB; rw [Bool.not_eq_true _ |>.mp h1, Bool.false_and])
        unfold upB at z
        rwa [Bool.not_eq_true _ |>.mp h3, Bool.false_and] at z
def spAll : Sp := fun vs H Q _ => ∃ (x f l : Str) (m a b : Nat), vs = [.str x, .str f, .str l, .int (m : Int)] ∧ TL.tl f = [a] ∧ TL.tl l = [b] ∧ x.length ≤ 100000 ∧ ∀ H', Same H H' → Q (.bl (allB (fun c => decide (a ≤ c) && decide (c ≤ b)) m x)) H'
theorem sc_is_all : FnScope ["word", "first", "last", "most", "sign"] ["word", "first", "last", "most"] (defScope s_is_all) := ⟨rfl, rfl, rfl, by decide +kernel, rfl, by decide +kernel, by decide +kernel⟩
theorem cal_is_all (D : Def1 K mg "_law_is_all" s_is_all) (G : Glb mg) : Cal P w K mg base 1 "_law_is_all" spAll := by
  refine mkCal D sc_is_all (fun _ _ _ _ _ _ us hl => match us, hl with | [_, _, _, _], _ => rfl) (fun vs H Q E h => ?_) (fun f cdv A outer s H vs Q E hr h => ?_)
  · obtain ⟨x, f, l, m, a, b, rfl, _⟩ := h
    rfl
  · obtain ⟨x, f, l, m, a, b, rfl, tf, tl, hx, k⟩ := h
    have hz : x.length ≤ sizeLine := Nat.le_trans hx (by decide)
    have lx := TL.len_tl x
    refine ⟨_, (pss_one (ps_ret (pe_and (pe_chain op_lt op_le pe_int (pe_callB call_len_str (by rfl) G.len PySem.boot_len (pa_cons (pv 0) pa_nil)) (pv 3)) (pe_one (pe_cmpR (op_eqNil hr.units) (pe_lc (own := [("sign", 4)]) (g := gName 4) (by rfl) sc_is_all.nd (pi_str (pv 0)) (blkOk_by (own := [("sign", 4)]) (N := ["word", "first", "last", "most", "sign"]) (sc := defScope s_is_all) (by decide +kernel)) (fun _ _ _ _ _ => pg_name (i := 4) sc_is_all.nd rfl (Or.inl rfl)) (fun _ _ _ _ _ => pts_one (pt_not (pt_chain op_le_str op_le_str (pv 1) (pv 4) (pv 2)))) (fun _ _ _ _ _ => (pv 4))) (pe_lst pa_nil) (nomark _)))))), ?_⟩
    refine go_ret ⟨_, rfl, x, rfl, hz, _, _, rfl, rfl, _, rfl, ?_⟩
    unfold allB at k
    refine ite2 (fun h1 => ?_) (fun h1 => ?_)
    · rw [show decide (0 < x.length) = true from decide_eq_true (by have := of_decide_eq_true h1; omega), Bool.true_and] at k
      refine ⟨_, rfl, _, _, rfl, rfl, _, rfl, ?_⟩
      refine ite2 (fun h2 => ?_) (fun h2 => ?_)
      · rw [show decide (x.length ≤ m) = true from decide_eq_true (by have := of_decide_eq_true h2; omega), Bool.true_and] at k
        refine ⟨_, rfl, x, rfl, fun D nD => ?_⟩
        refine lc_str (x := x) (fun pre H' => Same H H' ∧ ∃ ys : List V, H' D = some (.lst ys) ∧ ys.length ≤ pre.length ∧ (ys = [] ↔ pre.all (fun c => decide (a ≤ c) && decide (c ≤ b)) = true))
          ⟨same_upd nD, [], upd_same, Nat.le_refl _, by simp⟩ ?_ ?_
        · rintro pre c post H' hsplit ⟨sH, ys, hD, hl, hi⟩
          refine ⟨rfl, _, rfl, _, rfl, _, _, rfl, rfl, _, rfl, ?_⟩
          rw [le_sg tf]
          have hpl : pre.length ≤ 100000 := by
            rw [lx, hsplit, List.length_append] at hx
            omega
          have keep : (decide (a ≤ c) && decide (c ≤ b)) = true → ∃ ys : List V, H' D = some (.lst ys) ∧ ys.length ≤ (pre ++ [c]).length ∧ (ys = [] ↔ (pre ++ [c]).all (fun c => decide (a ≤ c) && decide (c ≤ b)) = true) := fun hb2 => by
            refine ⟨ys, hD, by rw [List.length_append]; omega, ?_⟩
            rw [List.all_append, Bool.and_eq_true, ← hi, List.all_cons, hb2]
            simp
          have grow : (decide (a ≤ c) && decide (c ≤ b)) = false → tVar 4 [some (.str x), some (.str f), some (.str l), some (.int (m : Int)), some (.str (sg c))] H' fun y H4 => ∃ acc, H4 D = some (.lst acc) ∧ acc.length < sizeLine ∧ (Same H (upd H4 D (.lst (acc ++ [y]))) ∧ ∃ ys : List V, (upd H4 D (.lst (acc ++ [y]))) D = some (.lst ys) ∧ ys.length ≤ (pre ++ [c]).length ∧ (ys = [] ↔ (pre ++ [c]).all (fun c => decide (a ≤ c) && decide (c ≤ b)) = true)) := fun hb2 => by
            refine ⟨_, rfl, _, hD, Nat.lt_of_le_of_lt (Nat.le_trans hl hpl) (by decide), same_mut sH nD, ys ++ [.str (sg c)], upd_same, by rw [List.length_append, List.length_append]; simp; omega, ?_⟩
            rw [List.all_append, List.all_cons, hb2]
            simp
          refine ite2 (fun h3 => ?_) (fun h3 => ?_)
          · refine ⟨_, rfl, _, _, rfl, rfl, _, rfl, ?_⟩
            rw [sg_le tl]
            cases h4 : decide (c ≤ b) with
            | true => exact iteF ⟨sH, keep (by rw [h3, h4]; rfl)⟩
            | false => exact iteT (grow (by rw [h4, Bool.and_false]))
          · exact ⟨_, rfl, iteT (grow (by rw [Bool.not_eq_true _ |>.mp h3, Bool.false_and]))⟩
        · rintro H' ⟨sH, ys, hD, hl, hi⟩
          refine lst_nil fun q nq => ?_
          have nDq : D ≠ q := ne_of_none hD nq
          have s2 := same_upd (o := .lst []) nq
          refine ⟨D, q, ys, rfl, rfl, SqL.of (s2 _ _ hD), SqL.of upd_same, ?_⟩
          have e : decide (ys = []) = (TL.tl x).all (fun c => decide (a ≤ c) && decide (c ≤ b)) := by
            rw [Bool.eq_iff_iff, decide_eq_true_iff, hi]
          have z := k _ (sH.trans s2)
          rw [← e] at z
          cases ys with
          | nil => exact z
          | cons y ys => exact z
      · rw [show decide (x.length ≤ m) = false from decide_eq_false (fun q => h2 (decide_eq_true (by omega))), Bool.false_and] at k
        exact k H (Same.refl H)
    · rw [show decide (0 < x.length) = false from decide_eq_false (fun q => h1 (decide_eq_true (by omega))), Bool.false_and] at k
      exact ⟨_, rfl, iteF' rfl (k H (Same.refl H))⟩
end
end Lk

/-! K91I -/
set_option Elab.async false
set_option linter.all false
set_option maxRecDepth 100000
set_option maxHeartbeats 4000000
namespace Lk
open PySem PySem.Spec PyProof.Rows L2
section
variable {P : Program} {w : World} {K : PySem.W.Frag} {mg : Str → Option Value} {base : Heap}
/-- the end of the last token -/
def endF : Option Nat → List TkW → Option Nat
  | e, [] => e
  | _, t :: T => endF (some (t.1 + t.2.length)) T
/-- the law's rows of tokens -/
def rowsL : Option Nat → List TkW → List PyData
  | _, [] => []
  | e, t :: T => .tuple [.str t.2, .int (t.1 : Int), .bool (!decide (e = some t.1))] :: rowsL (some (t.1 + t.2.length)) T
theorem endF_app : ∀ (e : Option Nat) (T : List TkW) (t : TkW), endF e (T ++ [t]) = some (t.1 + t.2.length)
  | _, [], _ => rfl
  | _, u :: T, t => endF_app (some (u.1 + u.2.length)) T t
theorem rowsL_app : ∀ (e : Option Nat) (T : List TkW) (t : TkW), rowsL e (T ++ [t]) = rowsL e T ++ [.tuple [.str t.2, .int (t.1 : Int), .bool (!decide (endF e T = some t.1))]]
  | _, [], _ => rfl
  | e, u :: T, t => by
    show _ :: rowsL _ (T ++ [t]) = _ :: (rowsL _ T ++ _)
    rw [rowsL_app (some (u.1 + u.2.length)) T t]
    rfl
theorem rowsL_len : ∀ (e : Option Nat) (T : List TkW), (rowsL e T).length = T.length
  | _, [] => rfl
  | _, u :: T => congrArg (· + 1) (rowsL_len _ T)
theorem rowsL_nl : ∀ (e : Option Nat) (T : List TkW), noLstAll (rowsL e T) = true
  | _, [] => rfl
  | e, u :: T => by
    show (noLst _ && noLstAll (rowsL _ T)) = true
    rw [rowsL_nl _ T]
    rfl
theorem sq_par3 {i j l : Nat} {ta : TA} {b : TS} {D : Ends} {σ : L2.St} {H : Hp} (h : ta σ H fun vs H1 => ∃ u v w, vs = [u, v, w] ∧ b D (((σ.set i (some u)).set j (some v)).set l (some w)) H1) : tSeq (tPar3 i j l ta) b D σ H := h
theorem cons_go {ta : TE} {ts : TA} {σ : L2.St} {H : Hp} {Q : List V → Hp → Prop} (h : ta σ H fun x H1 => ts σ H1 fun vs H2 => Q (x :: vs) H2) : tCons ta ts σ H Q := h
def spLTok (K : PySem.W.Frag) : Sp := fun vs H Q _ => ∃ (x : Str) (T : List TkW) (r : Option Nat), vs = [.str x] ∧ x.length ≤ 100000 ∧ LexR 0 (TL.tl x) T r ∧
  (∀ q, r = some q → ∀ H', Same H H' → Q (.int (q : Int)) H') ∧ (r = none → ∀ (l : Addr) (xs : List V) (H' : Hp), Same H H' → H' l = some (.lst xs) → ThAll K H' xs (rowsL none T) → Q (.ref l) H')
theorem sc_tokens : FnScope ["text", "found", "at", "is_apart", "end"] ["text"] (defScope s_tokens) := ⟨rfl, rfl, rfl, by decide +kernel, rfl, by decide +kernel, by decide +kernel⟩
theorem cal_tokens (D : Def1 K mg "_law_tokens" s_tokens) (G : Glb mg) (CL : Cal P w K mg base 1 "_law_is_letter" spLetter) : Cal P w K mg base 2 "_law_tokens" (spLTok K) := by
  refine mkCal D sc_tokens (fun _ _ _ _ _ _ us hl => match us, hl with | [_], _ => rfl) (fun vs H Q E h => ?_) (fun f cdv A outer s H vs Q E hr h => ?_)
  · obtain ⟨x, T, r, rfl, _⟩ := h
    rfl
  · obtain ⟨x, TT, r, rfl, hx, hlex, kr, k⟩ := h
    have hz : x.length ≤ sizeLine := Nat.le_trans hx (by decide)
    have hl := TL.len_tl x
    refine ⟨_, (pss_cons (ps_par3 (i := 1) (j := 2) (l := 3) (by rfl) sc_tokens.nd rfl rfl rfl (by decide) (by decide) (by decide) rfl rfl rfl (pa_cons (pe_lst pa_nil) (pa_cons pe_int (pa_cons pe_bl pa_nil))) (by rfl))
    (pss_cons (ps_while PassesOwn.never (pt_cmpR op_lt (pv 2) (pe_callB call_len_str (by rfl) G.len PySem.boot_len (pa_cons (pv 0) pa_nil)) (nomark _))
    (pss_cons (ps_set (i := 4) sc_tokens.nd rfl (.inl rfl) (pe_op op_add (pv 2) pe_int))
    (pss_cons (ps_while PassesOwn.never (PW.pt (pw_and (pt_val (pe_cal CL hr (by omega) (pa_cons (pe_ix ix_str (pv 0) (pv 2) (fun _ _ => rfl)) pa_nil))) (pw_and (pt_cmpR op_lt (pv 4) (pe_callB call_len_str (by rfl) G.len PySem.boot_len (pa_cons (pv 0) pa_nil)) (nomark _)) (pw_and1 (pt_val (pe_cal CL hr (by omega) (pa_cons (pe_ix ix_str (pv 0) (pv 4) (fun _ _ => rfl)) pa_nil)))))))
    (pss_one (ps_set (i := 4) sc_tokens.nd rfl (.inl rfl) (pe_op op_add (pv 4) pe_int))))
    (pss_cons (ps_if (pt_cmpR op_inS (pe_ix ix_str (pv 0) (pv 2) (fun _ _ => rfl)) pe_str (by rfl)) (pss_one (ps_set (i := 3) sc_tokens.nd rfl (.inl rfl) pe_bl)) (pss_one (ps_if (PW.pt (pw_or (pt_val (pe_cal CL hr (by omega) (pa_cons (pe_ix ix_str (pv 0) (pv 2) (fun _ _ => rfl)) pa_nil))) (pw_or1 (pt_cmpR op_inS (pe_ix ix_str (pv 0) (pv 2) (fun _ _ => rfl)) pe_str (by rfl))))) (pss_cons (ps_expr (pe_bm PySem.F.plainAttrs_list PySem.F.slot_list_append PySem.F.type_list_append mt_append (pv 1) (pa_cons (pe_tup (pa_cons (pe_slice sl_str (pv 0) (po_some (pv 2)) (po_some (pv 4))) (pa_cons (pv 2) (pa_cons (pv 3) pa_nil)))) pa_nil)))
    (pss_one (ps_set (i := 3) sc_tokens.nd rfl (.inl rfl) pe_bl))) (pss_one (ps_ret (pv 2))))))
    (pss_one (ps_set (i := 2) sc_tokens.nd rfl (.inl rfl) (pv 4)))))))
    (pss_one (ps_ret (pv 1))))), ?_⟩
    refine sq_par3 (cons_go (lst_nil fun D nD => ⟨_, _, _, rfl, ?_⟩))
    refine ⟨fun m σ H' => ∃ (n : Nat) (T1 T2 : List TkW) (xs : List V) (v4 : Option V), σ = [some (.str x), some (.ref D), some (.int (n : Int)), some (.bl (!decide (endF none T1 = some n))), v4] ∧ n + m = x.length ∧ TT = T1 ++ T2 ∧ LexR n ((TL.tl x).drop n) T2 r ∧ Same H H' ∧ H' D = some (.lst xs) ∧ ThAll K H' xs (rowsL none T1) ∧ ∀ e, endF none T1 = some e → e ≤ n,
      ⟨x.length, 0, [], TT, [], none, rfl, Nat.zero_add _, rfl, hlex, same_upd nD, upd_same, .nil, fun e z => nomatch z⟩, ?_⟩
    rintro m σ H' ⟨n, T1, T2, xs, v4, rfl, em, eT, lx, s1, hD, th, ee⟩
    refine ⟨_, rfl, _, rfl, x, rfl, hz, _, _, rfl, rfl, _, rfl, ?_⟩
    refine ite2 (fun hlt => ?_) (fun hge => ?_)
    · have hn : n < x.length := by
        have := of_decide_eq_true hlt
        omega
      obtain ⟨c, wd, hc, sg', nsg, ec, hstep⟩ := lx.step rfl hn
      have lT := thAll_len th
      rw [rowsL_len] at lT
      have lTT : T1.length ≤ x.length := by
        have z := hlex.bound.2
        rw [eT, List.length_append] at z
        omega
      refine ⟨fun σ' H'' => ∃ m', m' < m ∧ ∃ (n : Nat) (T1 T2 : List TkW) (xs : List V) (v4 : Option V), σ' = [some (.str x), some (.ref D), some (.int (n : Int)), some (.bl (!decide (endF none T1 = some n))), v4] ∧ n + m' = x.length ∧ TT = T1 ++ T2 ∧ LexR n ((TL.tl x).drop n) T2 r ∧ Same H H'' ∧ H'' D = some (.lst xs) ∧ ThAll K H'' xs (rowsL none T1) ∧ ∀ e, endF none T1 = some e → e ≤ n, fun _ _ h => h, ?_⟩
      refine sq_asg ⟨_, rfl, _, _, rfl, rfl, on_go ?_⟩
      refine ⟨fun m σ H'' => ∃ j : Nat, σ = [some (.str x), some (.ref D), some (.int (n : Int)), some (.bl (!decide (endF none T1 = some n))), some (.int (j : Int))] ∧ n + 1 ≤ j ∧ j ≤ x.length ∧ (ltB c = true → ∀ d ∈ ((TL.tl x).drop n).take (j - n), ltB d = true) ∧ (ltB c = false → j = n + 1) ∧ H'' = H' ∧ j + m = x.length,
        ⟨x.length - (n + 1), n + 1, rfl, Nat.le_refl _, hn, (fun e d md => ?_), fun _ => rfl, rfl, by omega⟩, ?_⟩
      · rw [← ec, show n + 1 - n = 1 by omega, List.take_succ_cons, List.take_zero, List.mem_singleton] at md
        rw [md]
        exact e
      rintro m2 σ2 H2 ⟨j, rfl, j1, j2, jl, jn, rfl, ej⟩
      have nxt : ∃ b : Bool, ∀ d, (TL.tl x)[j]? = some d → b = ltB d := by
        cases e : (TL.tl x)[j]? with
        | none => exact ⟨false, fun d z => nomatch z⟩
        | some d => exact ⟨ltB d, fun d' z => by cases z; rfl⟩
      obtain ⟨nb, hnb⟩ := nxt
      refine tAnd_rd (ltB c) (decide (j < x.length) && nb) (fun Z z => ?_) (fun hlc Z z => ?_) ?_
      · exact ⟨_, rfl, _, rfl, x, _, c, rfl, rfl, hz, at_sign hc, c, rfl, _, rfl, z⟩
      · refine tAnd_rd (decide (j < x.length)) nb (fun Z z => ?_) (fun hjl Z z => ?_) z
        · refine ⟨_, rfl, _, rfl, x, rfl, hz, _, _, rfl, rfl, _, rfl, ?_⟩
          rw [show decide ((j : Int) < (x.length : Int)) = decide (j < x.length) by rw [decide_eq_decide]; omega]
          exact z
        · have jlt := of_decide_eq_true hjl
          have hd : (TL.tl x)[j]? = some ((TL.tl x)[j]'(by omega)) := List.getElem?_eq_getElem _
          have en := hnb _ hd
          rw [en] at z
          exact ⟨_, rfl, _, rfl, x, _, _, rfl, rfl, hz, at_sign hd, _, rfl, _, rfl, z⟩
      · refine ite2 (fun ht => ?_) (fun hf => ?_)
        · rw [Bool.and_eq_true, Bool.and_eq_true, decide_eq_true_eq] at ht
          obtain ⟨hlc, jlt, hb⟩ := ht
          have hd : (TL.tl x)[j]? = some ((TL.tl x)[j]'(by omega)) := List.getElem?_eq_getElem _
          have en := hnb _ hd
          rw [hb] at en
          refine ⟨fun σ' H'' => ∃ j' : Nat, j' = j + 1 ∧ σ' = [some (.str x), some (.ref D), some (.int (n : Int)), some (.bl (!decide (endF none T1 = some n))), some (.int (j' : Int))] ∧ H'' = H2, fun σ' H'' hN => ?_, ?_⟩
          · obtain ⟨j', rfl, rfl, rfl⟩ := hN
            refine ⟨m2 - 1, by omega, j + 1, rfl, by omega, by omega, (fun e d md => ?_), (fun z => by rw [hlc] at z; exact nomatch z), rfl, by omega⟩
            rw [show j + 1 - n = (j - n) + 1 by omega, List.take_add_one] at md
            rcases List.mem_append.mp md with h | h
            · exact jl e d h
            · rw [List.getElem?_drop, show n + (j - n) = j by omega, hd] at h
              rw [List.mem_singleton.mp h]
              exact en.symm
          · exact ⟨_, rfl, _, _, rfl, rfl, j + 1, rfl, by rw [show ((j + 1 : Nat) : Int) = (j : Int) + 1 by omega]; rfl, rfl⟩
        · -- behind the token
          have wj : ltB c = true → TL.tl wd = ((TL.tl x).drop n).take (j - n) := fun hlc => by
            rw [nsg (by have := (lt_no hlc).1; exact this)]
            refine (tw_of (jl hlc) (fun d hd => ?_) (by rw [List.length_drop]; omega)).symm
            rw [List.getElem?_drop, show n + (j - n) = j by omega] at hd
            have jlt : j < x.length := by
              have := (List.getElem?_eq_some_iff.mp hd).1
              omega
            have en := hnb _ hd
            rw [hlc, decide_eq_true jlt, Bool.true_and, Bool.true_and] at hf
            rw [← en]
            exact Bool.not_eq_true _ |>.mp hf
          have ej2 : j = n + max 1 wd.length := by
            cases hlc : ltB c with
            | true =>
              have z := congrArg List.length (wj hlc)
              rw [List.length_take, List.length_drop, ← TL.len_tl] at z
              omega
            | false =>
              rw [jn hlc]
              cases hs : sgB c with
              | true =>
                rw [sg' hs]
                rfl
              | false =>
                have z := nsg hs
                rw [← ec, List.takeWhile_cons, hlc] at z
                have z : wd.length = 0 := by
                  rw [TL.len_tl, z]
                  rfl
                omega
          refine ends_go (sq_if (go_if ?_))
          refine ⟨_, rfl, _, rfl, x, _, c, rfl, rfl, hz, at_sign hc, c, " \t", rfl, rfl, _, rfl, ?_⟩
          rw [blank_has]
          rcases hstep with ⟨rfl, nb', ns, eT2, er⟩ | ⟨T', emp, eT2, lx', le'⟩
          · have hlc : ltB c = false := by
              cases e : ltB c with
              | false => rfl
              | true =>
                have z := wj e
                have y := congrArg List.length z
                rw [List.length_take, List.length_drop] at y
                have y : 0 = min (j - n) ((TL.tl x).length - n) := y
                omega
            refine iteF' nb' (go_if ?_)
            refine tOr_rd (ltB c) (sgB c) (fun Z z => ⟨_, rfl, _, rfl, x, _, c, rfl, rfl, hz, at_sign hc, c, rfl, _, rfl, z⟩) (fun _ Z z => ⟨_, rfl, _, rfl, x, _, c, rfl, rfl, hz, at_sign hc, c, ":*<", rfl, rfl, _, rfl, by rw [sign_has]; exact z⟩) ?_
            rw [hlc, ns]
            exact iteF' rfl (go_ret ⟨_, rfl, kr n er _ s1⟩)
          · have lw : wd.length ≤ x.length := by
              have : wd.length ≤ max 1 wd.length := Nat.le_max_right _ _
              omega
            rw [← ej2] at lx' le'
            by_cases hw : wd = ""
            · refine iteT' (emp hw) ?_
              refine on_go (nxt_go ?_)
              refine ⟨_, rfl, ?_⟩
              have j3 : j = n + 1 := by rw [ej2, hw]; rfl
              refine ⟨m - 1, by omega, j, T1, T', xs, some (.int (j : Int)), ?_, by omega, by rw [eT, eT2, if_pos hw], lx', s1, hD, th, fun e z => by have := ee e z; omega⟩
              have nj : ¬ endF none T1 = some j := fun z => by have := ee _ z; omega
              rw [decide_eq_false nj]
              rfl
            · have hb : blB c = false := by
                cases hs : sgB c with
                | true => exact (sg_no hs).2
                | false =>
                  cases hlc : ltB c with
                  | true => exact (lt_no hlc).2
                  | false =>
                    refine absurd ?_ hw
                    have z := nsg hs
                    rw [← ec, List.takeWhile_cons, hlc] at z
                    exact tl_nil_iff.mp z
              refine iteF' hb (go_if ?_)
              refine tOr_rd (ltB c) (sgB c) (fun Z z => ⟨_, rfl, _, rfl, x, _, c, rfl, rfl, hz, at_sign hc, c, rfl, _, rfl, z⟩) (fun _ Z z => ⟨_, rfl, _, rfl, x, _, c, rfl, rfl, hz, at_sign hc, c, ":*<", rfl, rfl, _, rfl, by rw [sign_has]; exact z⟩) ?_
              have or1 : (ltB c || sgB c) = true := by
                cases hs : sgB c with
                | true => rw [Bool.or_true]
                | false =>
                  cases hlc : ltB c with
                  | true => rfl
                  | false =>
                    refine absurd ?_ hw
                    have z := nsg hs
                    rw [← ec, List.takeWhile_cons, hlc] at z
                    exact tl_nil_iff.mp z
              rw [or1]
              have ew : cutS x (some (n : Int)) (some (j : Int)) = wd := TL.ext_tl (by
                rw [cut_two (by omega) (by omega)]
                cases hlc : ltB c with
                | true => exact (wj hlc).symm
                | false =>
                  have hs : sgB c = true := by
                    rw [hlc, Bool.false_or] at or1
                    exact or1
                  rw [jn hlc, sg' hs, ← ec, show n + 1 - n = 1 by omega]
                  rfl)
              refine iteT' rfl ?_
              refine sq_drop ⟨_, rfl, .inl ⟨rfl, _, SqL.of hD⟩, ?_⟩
              refine ⟨_, rfl, _, rfl, _, rfl, _, rfl, _, rfl, x, rfl, hz, _, rfl, _, rfl, (by show 3 ≤ sizeLine; decide), fun p np => ?_⟩
              rw [ew]
              have s2 := same_upd (o := .tup [.str wd, .int (n : Int), .bl (!decide (endF none T1 = some n))]) np
              have hp : upd H2 p (.tup [.str wd, .int (n : Int), .bl (!decide (endF none T1 = some n))]) p = some (.tup [.str wd, .int (n : Int), .bl (!decide (endF none T1 = some n))]) := upd_same
              generalize upd H2 p (.tup [.str wd, .int (n : Int), .bl (!decide (endF none T1 = some n))]) = H3 at s2 hp ⊢
              have hD2 := s2 _ _ hD
              refine ⟨D, _, _, rfl, rfl, hD2, by rw [sizeLine_eq]; omega, ?_⟩
              refine on_go (nxt_go ?_)
              refine ⟨_, rfl, ?_⟩
              refine ⟨m - (j - n), by omega, j, T1 ++ [(n, wd)], T', xs ++ [V.ref p], some (.int (j : Int)), ?_, by omega, by rw [eT, eT2, if_neg hw, List.append_assoc]; rfl, lx', same_mut (s1.trans s2) nD, upd_same, ?_, fun e z => ?_⟩
              · have wl : wd.length ≠ 0 := fun z => hw (tl_nil_iff.mp (List.length_eq_zero_iff.mp (by rw [← TL.len_tl]; exact z)))
                rw [endF_app, show decide (some ((n, wd).1 + (n, wd).2.length) = some j) = true from decide_eq_true (by show some (n + wd.length) = some j; rw [ej2, Nat.max_eq_right (by omega)])]
                rfl
              · rw [rowsL_app]
                exact thAll_app (thAll_mutL hD2 (thAll_same s2 th) (rowsL_nl none T1)) (.cons (th_mutL hD2 (.tup (SqT.of hp) (.cons (.str _) (.cons (.int _) (.cons (.bl _) .nil)))) rfl) .nil)
              · rw [endF_app] at z
                cases z
                show n + wd.length ≤ j
                have : wd.length ≤ max 1 wd.length := Nat.le_max_right _ _
                omega
    · have hn : n = x.length := by
        have : ¬ ((n : Int) < (x.length : Int)) := fun z => hge (decide_eq_true z)
        omega
      have e2 : T2 = [] ∧ r = none := by
        rw [List.drop_eq_nil_of_le (by omega)] at lx
        exact lx.at_nil rfl
      rw [e2.1, List.append_nil] at eT
      rw [← eT] at th
      exact ⟨_, rfl, k e2.2 D xs H' s1 hD th⟩
end
end Lk

/-! K91J -/
set_option Elab.async false
set_option linter.all false
set_option maxRecDepth 100000
set_option maxHeartbeats 4000000
namespace Lk
open PySem PySem.Spec PyProof.Rows L2
theorem cap_name {b : Str} (h : ∀ c ∈ TL.tl b, upB c = true) (n : b ≠ "") : dName (.str b) = true := by
  show (!(TL.tl b).isEmpty && ((TL.tl b).dropWhile upB).all loB) = true
  obtain ⟨c, u, e⟩ := tl_ne n
  have d : (TL.tl b).dropWhile upB = [] := by
    have go : ∀ l : List Nat, (∀ c ∈ l, upB c = true) → l.dropWhile upB = [] := fun l => by
      induction l with
      | nil => exact fun _ => rfl
      | cons c l ih =>
        intro z
        rw [List.dropWhile_cons, z c List.mem_cons_self]
        exact ih fun d m => z d (List.mem_cons_of_mem _ m)
    exact go _ h
  rw [d, e]
  rfl
/-! ### the law's stop is the parser's -/
def lpatX (T : List TkW) (k : Nat) (b : Bool) : Nat × Bool :=
  if nextW T k = "*" then (if nextW T (k + 1) = "" ∨ hdL (nextW T (k + 1)) = false ∨ jnB T (k + 1) = false then (k + 1, !b) else if allB loB 3 (nextW T (k + 1)) = true then (k + 2, false) else (k + 1, true)) else (k, true)
def isbX (T : List TkW) (k : Nat) : Bool := decide (nextW T (k + 1) = "*") && (jnB T (k + 1) && allB upB 3 (nextW T k))
def lloop (T : List TkW) : Nat → Nat → Nat → Option Nat
  | 0, _, _ => none
  | f + 1, k, c => if nextW T k = "" then none else if c = 3 ∨ (0 < c ∧ jnB T k = true) then some k else
      if nextW T k = "*" ∨ isbX T k = true then (if (lpatX T (k + (isbX T k).toNat) (isbX T k)).2 = true then some (lpatX T (k + (isbX T k).toNat) (isbX T k)).1 else lloop T f (lpatX T (k + (isbX T k).toNat) (isbX T k)).1 (c + 1))
      else if dName (.str (nextW T k)) = true ∧ (nextW T k).length < 7 then lloop T f (k + 1) (c + 1) else some k
def ltail (T : List TkW) (r : Nat × Bool) : Option Nat := if r.2 = true ∨ nextW T r.1 ≠ "<" then some r.1 else lloop T 4 (r.1 + 1) 0
def lstop (T : List TkW) : Option Nat :=
  if allB loB 8 (nextW T 0) = true then (if nextW T 1 = ":" then (if allB upB 3 (nextW T 2) = true then (if nextW T 3 ≠ "*" ∨ jnB T 3 = false then some 3 else ltail T (lpatX T 3 true)) else ltail T (lpatX T 2 false)) else some 1) else some 0
def optX (r : Nat × Bool) : Option Nat := if r.2 = true then some r.1 else none
theorem beg_all (w : Str) : begB w = allB upB 3 w := by
  unfold begB allB
  by_cases h : w = ""
  · rw [h]
    rfl
  · have l : 0 < w.length := Nat.pos_of_ne_zero fun z => h (tl_nil_iff.mp (List.length_eq_zero_iff.mp (by rw [← TL.len_tl]; exact z)))
    rw [decide_eq_false h, decide_eq_true l]
    rfl
theorem lab_all (w : Str) : dLabel (.str w) = allB loB 8 w := rfl
theorem end_all {w : Str} (h : w ≠ "") : dEnd loB (.str w) = allB loB 3 w := by
  unfold allB
  have l : 0 < w.length := Nat.pos_of_ne_zero fun z => h (tl_nil_iff.mp (List.length_eq_zero_iff.mp (by rw [← TL.len_tl]; exact z)))
  rw [decide_eq_true l]
  rfl
theorem jn_ne {T : List TkW} {k : Nat} (ne : ∀ t ∈ T, t.2 ≠ "") (h : jnB T k = true) : nextW T k ≠ "" := by
  have l := jn_lt h
  unfold nextW
  rw [List.getElem?_eq_getElem l]
  exact ne _ (List.getElem_mem l)
theorem star_caps : allB upB 3 "*" = false := by decide +kernel
theorem hdL_ne {w : Str} (h : hdL w = true) : w ≠ "" := fun z => by
  rw [z] at h
  exact nomatch h
theorem pat_eq {T : List TkW} {k : Nat} (hs : nextW T k = "*") (b : Str) (hb : b = "" ∨ jnB T k = true) (ne : ∀ t ∈ T, t.2 ≠ "") : patX T k b = lpatX T k (!decide (b = "")) := by
  unfold patX lpatX
  rw [if_pos ⟨hs, hb⟩, if_pos hs]
  by_cases h : jnB T (k + 1) = true ∧ hdL (nextW T (k + 1)) = true
  · have n1 := hdL_ne h.2
    rw [if_pos h, if_neg (c := nextW T (k + 1) = "" ∨ hdL (nextW T (k + 1)) = false ∨ jnB T (k + 1) = false) (fun z => z.elim n1 fun z => z.elim (fun z => by rw [h.2] at z; exact nomatch z) fun z => by rw [h.1] at z; exact nomatch z), end_all n1]
  · have h2 : nextW T (k + 1) = "" ∨ hdL (nextW T (k + 1)) = false ∨ jnB T (k + 1) = false := by
      cases h3 : jnB T (k + 1) with
      | false => exact .inr (.inr rfl)
      | true =>
        cases h4 : hdL (nextW T (k + 1)) with
        | false => exact .inr (.inl rfl)
        | true => exact absurd ⟨h3, h4⟩ h
    rw [if_neg h, if_pos (c := nextW T (k + 1) = "" ∨ hdL (nextW T (k + 1)) = false ∨ jnB T (k + 1) = false) h2]
    by_cases hb2 : b = ""
    · rw [if_pos hb2, decide_eq_true hb2]
      rfl
    · rw [if_neg hb2, decide_eq_false hb2]
      rfl
theorem next_none {T : List TkW} {k : Nat} (ne : ∀ t ∈ T, t.2 ≠ "") : nextW T k = "" ↔ ¬ k < T.length := by
  constructor
  · intro h l
    unfold nextW at h
    rw [List.getElem?_eq_getElem l] at h
    exact ne _ (List.getElem_mem l) h
  · intro h
    unfold nextW
    rw [List.getElem?_eq_none (by omega)]
theorem src_caps {w : Str} (h : allB upB 3 w = true) : dSrc1 (.str w) = true := by
  unfold allB at h
  rw [Bool.and_eq_true, Bool.and_eq_true, decide_eq_true_eq, decide_eq_true_eq, List.all_eq_true] at h
  have n : w ≠ "" := fun z => by
    rw [z] at h
    exact absurd h.1 (by decide)
  show (dPat (.str w) || (dName (.str w) && decide (w.length ≤ 6))) = true
  have l6 : decide (w.length ≤ 6) = true := decide_eq_true (by omega)
  rw [cap_name h.2.2 n, l6, Bool.and_true, Bool.or_true]
theorem src_name (w : Str) : dSrc1 (.str w) = true ↔ dName (.str w) = true ∧ w.length < 7 := by
  show (dPat (.str w) || (dName (.str w) && decide (w.length ≤ 6))) = true ↔ _
  have e : dPat (.str w) = false := rfl
  rw [e, Bool.false_or, Bool.and_eq_true, decide_eq_true_eq]
  exact ⟨fun h => ⟨h.1, by omega⟩, fun h => ⟨h.1, by omega⟩⟩
theorem loop_eq {T : List TkW} (ne : ∀ t ∈ T, t.2 ≠ "") : ∀ (f k c : Nat), f + c = 4 → optX (srcsX T f k c) = lloop T f k c
  | 0, k, c, _ => rfl
  | f + 1, k, c, e => by
    unfold srcsX lloop
    by_cases hk : k < T.length
    · have n1 : ¬ nextW T k = "" := fun z => (next_none ne).mp z hk
      rw [if_pos hk, if_neg n1]
      by_cases hc : c < 3 ∧ (c = 0 ∨ jnB T k = false)
      · have hc2 : ¬ (c = 3 ∨ (0 < c ∧ jnB T k = true)) := by
          rintro (z | ⟨z, y⟩)
          · omega
          · rcases hc.2 with q | q
            · omega
            · rw [y] at q
              exact nomatch q
        rw [if_pos hc, if_neg hc2]
        by_cases hs : nextW T k = "*"
        · have ib : isbX T k = false := by
            unfold isbX
            rw [hs, star_caps, Bool.and_false, Bool.and_false]
          have es : srcX T k = lpatX T k false := by
            unfold srcX
            rw [if_pos hs, pat_eq hs "" (.inl rfl) ne]
            rfl
          rw [if_pos (c := nextW T k = "*" ∨ isbX T k = true) (.inl hs), ib, es]
          show optX _ = if (lpatX T k false).2 = true then some (lpatX T k false).1 else lloop T f (lpatX T k false).1 (c + 1)
          cases h2 : (lpatX T k false).2 with
          | true =>
            rw [if_pos rfl, if_pos rfl]
            unfold optX
            rw [if_pos h2]
          | false =>
            rw [if_neg (fun z => nomatch z), if_neg (fun z => nomatch z)]
            exact loop_eq ne f _ (c + 1) (by omega)
        · cases ib : isbX T k with
          | true =>
            have ib2 := ib
            unfold isbX at ib2
            rw [Bool.and_eq_true, Bool.and_eq_true, decide_eq_true_eq] at ib2
            obtain ⟨i1, i2, i3⟩ := ib2
            have nb : nextW T k ≠ "" := n1
            have es : srcX T k = lpatX T (k + 1) true := by
              unfold srcX
              rw [if_neg hs, if_pos (src_caps i3), if_pos i2, if_pos (by rw [beg_all]; exact i3), pat_eq i1 _ (.inr i2) ne, decide_eq_false nb]
              rfl
            rw [if_pos (c := nextW T k = "*" ∨ true = true) (.inr rfl), es]
            show optX _ = if (lpatX T (k + 1) true).2 = true then some (lpatX T (k + 1) true).1 else lloop T f (lpatX T (k + 1) true).1 (c + 1)
            cases h2 : (lpatX T (k + 1) true).2 with
            | true =>
              rw [if_pos rfl, if_pos rfl]
              unfold optX
              rw [if_pos h2]
            | false =>
              rw [if_neg (fun z => nomatch z), if_neg (fun z => nomatch z)]
              exact loop_eq ne f _ (c + 1) (by omega)
          | false =>
            rw [if_neg (c := nextW T k = "*" ∨ false = true) (fun z => z.elim hs fun z => nomatch z)]
            by_cases hd : dSrc1 (.str (nextW T k)) = true
            · rw [if_pos (c := dName (.str (nextW T k)) = true ∧ (nextW T k).length < 7) ((src_name _).mp hd)]
              cases hj : jnB T (k + 1) with
              | false =>
                have es : srcX T k = (k + 1, false) := by
                  unfold srcX
                  rw [if_neg hs, if_pos hd, if_neg (by rw [hj]; exact fun z => nomatch z)]
                rw [es]
                exact loop_eq ne f (k + 1) (c + 1) (by omega)
              | true =>
                have es : srcX T k = (k + 1, true) := by
                  unfold srcX
                  rw [if_neg hs, if_pos hd, if_pos hj]
                  split
                  · rename_i hb
                    have ns : ¬ nextW T (k + 1) = "*" := fun z => by
                      unfold isbX at ib
                      rw [← beg_all, z, hj, hb] at ib
                      exact nomatch ib
                    unfold patX
                    rw [if_neg fun z => ns z.1]
                  · rfl
                rw [es]
                obtain ⟨f', rfl⟩ : ∃ f', f = f' + 1 := ⟨f - 1, by omega⟩
                show optX (k + 1, true) = lloop T (f' + 1) (k + 1) (c + 1)
                unfold lloop
                rw [if_neg (jn_ne ne hj), if_pos (.inr ⟨by omega, hj⟩)]
                rfl
            · have es : srcX T k = (k, true) := by
                unfold srcX
                rw [if_neg hs, if_neg hd]
              rw [if_neg (c := dName (.str (nextW T k)) = true ∧ (nextW T k).length < 7) (fun z => hd ((src_name _).mpr z)), es]
              rfl
      · have hc2 : c = 3 ∨ (0 < c ∧ jnB T k = true) := by
          by_cases h3 : c = 3
          · exact .inl h3
          · refine .inr ⟨Nat.pos_of_ne_zero fun z => hc ⟨by omega, .inl z⟩, ?_⟩
            cases h4 : jnB T k with
            | true => rfl
            | false => exact absurd ⟨by omega, .inr h4⟩ hc
        rw [if_neg hc, if_pos hc2]
        rfl
    · rw [if_neg hk, if_pos ((next_none ne).mpr hk)]
      rfl
theorem tail_eq {T : List TkW} (ne : ∀ t ∈ T, t.2 ≠ "") (r : Nat × Bool) : optX (tailX T r) = ltail T r := by
  unfold tailX ltail
  cases h : r.2 with
  | true =>
    rw [if_pos rfl, if_pos (c := true = true ∨ nextW T r.1 ≠ "<") (.inl rfl)]
    unfold optX
    rw [if_pos h]
  | false =>
    rw [if_neg (fun z => nomatch z)]
    by_cases hl : nextW T r.1 = "<"
    · rw [if_pos hl, if_neg (c := false = true ∨ nextW T r.1 ≠ "<") (fun z => z.elim (fun z => nomatch z) fun z => z hl)]
      exact loop_eq ne 4 _ 0 rfl
    · rw [if_neg hl, if_pos (c := false = true ∨ nextW T r.1 ≠ "<") (.inr hl)]
      rfl
theorem stop_eq {T : List TkW} (ne : ∀ t ∈ T, t.2 ≠ "") : optX (ruleX T) = lstop T := by
  unfold ruleX lstop
  by_cases h0 : dLabel (.str (nextW T 0)) = true
  · rw [if_pos h0, if_pos (show allB loB 8 (nextW T 0) = true from h0)]
    by_cases h1 : nextW T 1 = ":"
    · rw [if_pos h1, if_pos h1]
      by_cases h2 : nextW T 2 = "*"
      · rw [if_pos h2, if_neg (by rw [h2, star_caps]; exact fun z => nomatch z), tail_eq ne, pat_eq h2 "" (.inl rfl) ne]
        rfl
      · rw [if_neg h2]
        by_cases h3 : begB (nextW T 2) = true
        · have nb := beg_ne h3
          rw [if_pos h3, if_pos (by rw [← beg_all]; exact h3), tail_eq ne]
          by_cases h4 : nextW T 3 = "*" ∧ jnB T 3 = true
          · rw [if_neg (c := nextW T 3 ≠ "*" ∨ jnB T 3 = false) (fun z => z.elim (fun z => z h4.1) fun z => by rw [h4.2] at z; exact nomatch z), pat_eq h4.1 _ (.inr h4.2) ne, decide_eq_false nb]
            rfl
          · have e : patX T 3 (nextW T 2) = (3, true) := by
              unfold patX
              rw [if_neg fun z => h4 ⟨z.1, z.2.resolve_left nb⟩]
            rw [if_pos, e]
            · rfl
            · by_cases h5 : nextW T 3 = "*"
              · refine .inr ?_
                cases h6 : jnB T 3 with
                | false => rfl
                | true => exact absurd ⟨h5, h6⟩ h4
              · exact .inl h5
        · have e : lpatX T 2 false = (2, true) := by
            unfold lpatX
            rw [if_neg h2]
          rw [if_neg h3, if_neg (by rw [← beg_all]; exact h3), e]
          rfl
    · rw [if_neg h1, if_neg h1]
      rfl
  · rw [if_neg h0, if_neg (show ¬ allB loB 8 (nextW T 0) = true from h0)]
    rfl
theorem lpat_le {T : List TkW} {k : Nat} {b : Bool} (h : k ≤ T.length) : (lpatX T k b).1 ≤ T.length := by
  unfold lpatX
  split
  · rename_i h1
    have l1 := next_lt' h1 star_ne
    split
    · exact l1
    · rename_i h2
      have n1 : nextW T (k + 1) ≠ "" := fun z => h2 (.inl z)
      have l2 := next_lt n1
      split
      · exact l2
      · exact l1
  · exact h
theorem srcsX_le {T : List TkW} : ∀ (f k c : Nat), k ≤ T.length → (srcsX T f k c).1 ≤ T.length
  | 0, k, c, h => h
  | f + 1, k, c, h => by
    unfold srcsX
    split
    · split
      · split
        · exact (srcX_le h).1
        · exact srcsX_le f _ (c + 1) (srcX_le h).1
      · exact h
    · exact h
theorem tailX_le {T : List TkW} {r : Nat × Bool} (h : r.1 ≤ T.length) : (tailX T r).1 ≤ T.length := by
  unfold tailX
  split
  · exact h
  · split
    · rename_i _ hl
      exact srcsX_le 4 _ 0 (next_lt' hl less_ne)
    · exact h
theorem ruleX_all {T : List TkW} : (ruleX T).1 ≤ T.length := by
  unfold ruleX
  split
  · rename_i h0
    have l0 := next_lt (lab_ne h0)
    split
    · rename_i h1
      have l1 := next_lt' h1 colon_ne
      split
      · exact tailX_le (patX_le (by omega)).1
      · split
        · rename_i h3
          have l2 := next_lt (beg_ne h3)
          exact tailX_le (patX_le (by omega)).1
        · show 2 ≤ _
          omega
    · show 1 ≤ _
      omega
  · exact Nat.zero_le _
theorem ruleX_le {T : List TkW} {j : Nat} (e : optX (ruleX T) = some j) : j ≤ T.length := by
  unfold optX at e
  split at e
  · cases e
    exact ruleX_all
  · cases e
end Lk

/-! K91K -/
set_option Elab.async false
set_option linter.all false
set_option maxRecDepth 100000
set_option maxHeartbeats 4000000
namespace Lk
open PySem PySem.Spec PyProof.Rows L2
section
variable {P : Program} {w : World} {K : PySem.W.Frag} {mg : Str → Option Value} {base : Heap}
/-! ### the law's rows, read -/
theorem andV_rd {a b : TE} {σ : L2.St} {H : Hp} {Z : VK} (x y : Bool) (ha : ∀ Z : VK, Z (.bl x) H → a σ H Z) (hb : x = true → ∀ Z : VK, (∀ H', Same H H' → Z (.bl y) H') → b σ H Z) (h : ∀ H', Same H H' → Z (.bl (x && y)) H') : tAndV a b σ H Z := by
  refine ha _ ⟨x, rfl, ?_⟩
  cases x with
  | true => exact hb rfl _ h
  | false => exact h H (Same.refl H)
def rowsD (T : List TkW) (n : Nat) : List PyData := rowsL none T ++ List.replicate 3 (.tuple [.str "", .int (n : Int), .bool true])
structure RowsAt (K : PySem.W.Frag) (H : Hp) (p : Addr) (T : List TkW) (n : Nat) : Prop where
  ex : ∃ xs, H p = some (.lst xs) ∧ ThAll K H xs (rowsD T n)
  ne : ∀ t ∈ T, t.2 ≠ ""
  small : ∀ t ∈ T, t.2.length ≤ 100000
  ok : ∀ t ∈ T, PyData.strOk t.2 = true
theorem RowsAt.same {H H' : Hp} {p : Addr} {T : List TkW} {n : Nat} (R : RowsAt K H p T n) (s : Same H H') : RowsAt K H' p T n := by
  obtain ⟨xs, h1, h2⟩ := R.ex
  exact ⟨⟨xs, s _ _ h1, thAll_same s h2⟩, R.ne, R.small, R.ok⟩
theorem rowsL_at : ∀ {T : List TkW} {e : Option Nat} {k : Nat} {t : TkW}, T[k]? = some t → (rowsL e T)[k]? = some (.tuple [.str t.2, .int (t.1 : Int), .bool (!decide ((if k = 0 then e else (T[k - 1]?).map fun u => u.1 + u.2.length) = some t.1))])
  | [], _, _, _, h => nomatch h
  | u :: T, e, 0, t, h => by
    cases h
    rfl
  | u :: T, e, k + 1, t, h => by
    have h' : T[k]? = some t := h
    have z := rowsL_at (e := some (u.1 + u.2.length)) h'
    show (rowsL _ T)[k]? = _
    rw [z]
    cases k with
    | zero => rfl
    | succ k => rfl
theorem rows_get {T : List TkW} {n k : Nat} (ne : ∀ t ∈ T, t.2 ≠ "") (hk : k < T.length + 3) : (rowsD T n)[k]? = some (.tuple [.str (nextW T k), .int (plcT T k n : Int), .bool (!jnB T k)]) := by
  unfold rowsD nextW plcT jnB
  by_cases h : k < T.length
  · have e : T[k]? = some (T[k]'h) := List.getElem?_eq_getElem h
    generalize T[k]'h = t at e
    rw [List.getElem?_append_left (by rw [rowsL_len]; exact h), rowsL_at e, e]
    cases k with
    | zero =>
      have nt := ne t (List.mem_of_getElem? e)
      have l : t.2.length ≠ 0 := fun z => nt (tl_nil_iff.mp (List.length_eq_zero_iff.mp (by rw [← TL.len_tl]; exact z)))
      have d : decide (t.1 = t.1 + t.2.length) = false := decide_eq_false (by omega)
      have e1 : T[0 - 1]? = some t := e
      simp only [e1]
      rw [d]
      rfl
    | succ k =>
      have e1 : T[k + 1 - 1]? = some (T[k]'(by omega)) := List.getElem?_eq_getElem _
      generalize T[k]'(by omega) = u at e1
      simp only [e1]
      have d : decide ((if k + 1 = 0 then none else (some u).map fun u => u.1 + u.2.length) = some t.1) = decide (t.1 = u.1 + u.2.length) := by
        rw [if_neg (Nat.succ_ne_zero k), decide_eq_decide]
        show some (u.1 + u.2.length) = some t.1 ↔ _
        rw [Option.some.injEq]
        exact eq_comm
      rw [d]
  · rw [List.getElem?_append_right (by rw [rowsL_len]; omega), rowsL_len, List.getElem?_replicate, if_pos (by omega), List.getElem?_eq_none (l := T) (i := k) (by omega)]
    cases T[k - 1]? <;> rfl
theorem RowsAt.get {H : Hp} {p : Addr} {T : List TkW} {n k : Nat} (R : RowsAt K H p T n) (hk : k < T.length + 3) : ∃ xs q, H p = some (.lst xs) ∧ atI xs (k : Int) = some (.ref q) ∧ SqT K H q [.str (nextW T k), .int (plcT T k n : Int), .bl (!jnB T k)] := by
  obtain ⟨xs, h1, h2⟩ := R.ex
  have lx := thAll_len h2
  have hd := rows_get (n := n) R.ne hk
  have lk := (List.getElem?_eq_some_iff.mp hd).1
  have hv := List.getElem?_eq_getElem (show k < xs.length by omega)
  obtain ⟨d, hd', th⟩ := th_at h2 hv
  rw [hd] at hd'
  cases hd'
  have ea : atI xs (k : Int) = xs[k]? := by
    unfold atI ixN
    rw [if_pos (by omega), if_pos (by omega)]
    rfl
  rw [hv] at ea
  generalize xs[k]'(by omega) = v at th ea
  cases th with
  | tup hs ha =>
    cases ha with
    | cons a1 a2 =>
      cases a1
      cases a2 with
      | cons b1 b2 =>
        cases b1
        cases b2 with
        | cons c1 c2 =>
          cases c1
          cases c2
          exact ⟨xs, _, h1, ea, hs⟩
section
variable {H : Hp} {p : Addr} {T : List TkW} {n : Nat} {σ : L2.St} {ti : TE} {Q : VK}
theorem row_w (k : Nat) (i : Nat) (h0 : σ[i]? = some (some (.ref p))) (R : RowsAt K H p T n) (hk : k < T.length + 3) (hi : ∀ Z : VK, Z (.int (k : Int)) H → ti σ H Z) (h : Q (.str (nextW T k)) H) : tOp (rIxT K) (tOp (rIxL K) (tVar i) ti) (tC (.int 0)) σ H Q := by
  obtain ⟨xs, q, h1, h2, h3⟩ := R.get hk
  exact ⟨_, h0, hi _ ⟨p, xs, _, _, rfl, rfl, SqL.of h1, h2, q, _, _, _, rfl, rfl, h3, rfl, h⟩⟩
theorem row_p (k : Nat) (i : Nat) (h0 : σ[i]? = some (some (.ref p))) (R : RowsAt K H p T n) (hk : k < T.length + 3) (hi : ∀ Z : VK, Z (.int (k : Int)) H → ti σ H Z) (h : Q (.int (plcT T k n : Int)) H) : tOp (rIxT K) (tOp (rIxL K) (tVar i) ti) (tC (.int 1)) σ H Q := by
  obtain ⟨xs, q, h1, h2, h3⟩ := R.get hk
  exact ⟨_, h0, hi _ ⟨p, xs, _, _, rfl, rfl, SqL.of h1, h2, q, _, _, _, rfl, rfl, h3, rfl, h⟩⟩
theorem row_f (k : Nat) (i : Nat) (h0 : σ[i]? = some (some (.ref p))) (R : RowsAt K H p T n) (hk : k < T.length + 3) (hi : ∀ Z : VK, Z (.int (k : Int)) H → ti σ H Z) (h : Q (.bl (!jnB T k)) H) : tOp (rIxT K) (tOp (rIxL K) (tVar i) ti) (tC (.int 2)) σ H Q := by
  obtain ⟨xs, q, h1, h2, h3⟩ := R.get hk
  exact ⟨_, h0, hi _ ⟨p, xs, _, _, rfl, rfl, SqL.of h1, h2, q, _, _, _, rfl, rfl, h3, rfl, h⟩⟩
theorem RowsAt.len (R : RowsAt K H p T n) (j : Nat) : (nextW T j).length ≤ 100000 := by
  unfold nextW
  cases e : T[j]? with
  | none => exact Nat.zero_le _
  | some t => exact R.small t (List.mem_of_getElem? e)
theorem RowsAt.sok (R : RowsAt K H p T n) (j : Nat) : PyData.strOk (nextW T j) = true := by
  unfold nextW
  cases e : T[j]? with
  | none => exact ok_of_all fun c hc => nomatch (show c ∈ ([] : List Nat) from hc)
  | some t => exact R.ok t (List.mem_of_getElem? e)
end
theorem sne {x y : Str} : decide (V.str x = V.str y) = decide (x = y) := by rw [decide_eq_decide, V.str.injEq]
def spPStop (K : PySem.W.Frag) : Sp := fun vs H Q _ => ∃ (p : Addr) (T : List TkW) (n k : Nat) (b : Bool), vs = [.ref p, .int (k : Int), .bl b] ∧ RowsAt K H p T n ∧ k ≤ T.length ∧
  ∀ (q : Addr) (H' : Hp), Same H H' → H' q = some (.tup [.int ((lpatX T k b).1 : Int), .bl (lpatX T k b).2]) → Q (.ref q) H'
theorem sc_pattern_stop : FnScope ["rows", "at", "is_begun", "word"] ["rows", "at", "is_begun"] (defScope s_pattern_stop) := ⟨rfl, rfl, rfl, by decide +kernel, rfl, by decide +kernel, by decide +kernel⟩
theorem cal_pattern_stop (D : Def1 K mg "_law_pattern_stop" s_pattern_stop) (CL : Cal P w K mg base 1 "_law_is_letter" spLetter) (CA : Cal P w K mg base 1 "_law_is_all" spAll) : Cal P w K mg base 2 "_law_pattern_stop" (spPStop K) := by
  refine mkCal D sc_pattern_stop (fun _ _ _ _ _ _ us hl => match us, hl with | [_, _, _], _ => rfl) (fun vs H Q E h => ?_) (fun f cdv A outer s H vs Q E hr h => ?_)
  · obtain ⟨p, T, n, k, b, rfl, _⟩ := h
    rfl
  · obtain ⟨p, T, n, k, b, rfl, R, lk, kk⟩ := h
    refine ⟨_, (pss_cons (ps_if (pt_cmpR op_ne (pe_ix ix_tup (pe_ix ix_list (pv 0) (pv 1) (fun _ _ => rfl)) pe_int (fun _ _ => rfl)) pe_str (nomark _)) (pss_one (ps_ret (pe_tup (pa_cons (pv 1) (pa_cons pe_bl pa_nil))))) pss_nil)
    (pss_cons (ps_set (i := 3) sc_pattern_stop.nd rfl (.inl rfl) (pe_ix ix_tup (pe_ix ix_list (pv 0) (pe_op op_add (pv 1) pe_int) (fun _ _ => rfl)) pe_int (fun _ _ => rfl)))
    (pss_cons (ps_if (PW.pt (pw_or (pt_cmpR op_eq (pv 3) pe_str (nomark _)) (pw_or (pt_not (pt_val (pe_cal CL hr (by omega) (pa_cons (pe_ix ix_str (pv 3) pe_int (fun _ _ => rfl)) pa_nil)))) (pw_or1 (pt_val (pe_ix ix_tup (pe_ix ix_list (pv 0) (pe_op op_add (pv 1) pe_int) (fun _ _ => rfl)) pe_int (fun _ _ => rfl))))))) (pss_one (ps_ret (pe_tup (pa_cons (pe_op op_add (pv 1) pe_int) (pa_cons (pe_not (pv 2)) pa_nil))))) pss_nil)
    (pss_one (ps_ret (pe_ifExp (pt_val (pe_cal CA hr (by omega) (pa_cons (pv 3) (pa_cons pe_str (pa_cons pe_str (pa_cons pe_int pa_nil)))))) (pe_tup (pa_cons (pe_op op_add (pv 1) pe_int) (pa_cons pe_bl pa_nil))) (pe_tup (pa_cons (pe_op op_add (pv 1) pe_int) (pa_cons pe_bl pa_nil))))))))), ?_⟩
    have ta : TL.tl ("a" : Str) = [97] := by decide +kernel
    have tz : TL.tl ("z" : Str) = [122] := by decide +kernel
    have fin : ∀ (j : Nat) (c : Bool) (H1 : Hp), lpatX T k b = (j, c) → Same H H1 → ∀ q H', Same H1 H' → H' q = some (.tup [.int (j : Int), .bl c]) → Q (.ref q) H' := fun j c H1 e s1 q H' s2 h => kk q H' (s1.trans s2) (by rw [e]; exact h)
    refine sq_if (go_if ?_)
    refine row_w k 0 rfl R (by omega) (fun Z z => ⟨_, rfl, z⟩) ⟨rfl, _, rfl, ?_⟩
    rw [sne]
    by_cases hs : nextW T k = "*"
    · rw [decide_eq_true hs]
      have lt := next_lt' hs star_ne
      have e0 : lpatX T k b = (if nextW T (k + 1) = "" ∨ hdL (nextW T (k + 1)) = false ∨ jnB T (k + 1) = false then (k + 1, !b) else if allB loB 3 (nextW T (k + 1)) = true then (k + 2, false) else (k + 1, true)) := by
        unfold lpatX
        rw [if_pos hs]
      refine iteF' rfl (nxt_go (sq_asg ?_))
      have add1 : ∀ (σ : L2.St) (Z : VK), σ[1]? = some (some (.int (k : Int))) → Z (.int ((k + 1 : Nat) : Int)) H → tOp (rI0 fun i j => .int (i + j)) (tVar 1) (tC (.int 1)) σ H Z := fun σ Z h z => ⟨_, h, _, _, rfl, rfl, z⟩
      refine row_w (k + 1) 0 rfl R (by omega) (fun Z z => ⟨_, rfl, _, _, rfl, rfl, z⟩) ?_
      refine on_go (sq_if (go_if ?_))
      have hlt : ∀ Z : Bool → Hp → Prop, nextW T (k + 1) ≠ "" → Z (!hdL (nextW T (k + 1))) H → tNot (tB (tCall spLetter [] E0 (tCons (tOp rIxS (tVar 3) (tC (.int 0))) tNil))) [some (.ref p), some (.int (k : Int)), some (.bl b), some (.str (nextW T (k + 1)))] H Z := fun Z hn z => by
        obtain ⟨c, w', ec⟩ := tl_ne hn
        have eh : hdL (nextW T (k + 1)) = ltB c := by
          unfold hdL
          rw [ec]
        rw [eh] at z
        exact ⟨_, rfl, nextW T (k + 1), 0, c, rfl, rfl, Nat.le_trans (R.len _) (by decide), at_sign (n := 0) (by rw [ec]; rfl), c, rfl, _, rfl, z⟩
      refine tOr_rd (decide (nextW T (k + 1) = "")) (!hdL (nextW T (k + 1)) || !jnB T (k + 1)) (fun Z z => ⟨_, rfl, rfl, _, rfl, by rw [sne]; exact z⟩) (fun hn Z z => tOr_rd (!hdL (nextW T (k + 1))) (!jnB T (k + 1)) (fun Z z => hlt Z (of_decide_eq_false hn) z) (fun _ Z z => row_f (k + 1) 0 rfl R (by omega) (fun Z z => ⟨_, rfl, _, _, rfl, rfl, z⟩) ⟨_, rfl, z⟩) z) ?_
      refine ite2 (fun h1 => ?_) (fun h1 => ?_)
      · have c1 : nextW T (k + 1) = "" ∨ hdL (nextW T (k + 1)) = false ∨ jnB T (k + 1) = false := by
          rw [Bool.or_eq_true, Bool.or_eq_true, decide_eq_true_eq, Bool.not_eq_true', Bool.not_eq_true'] at h1
          exact h1
        rw [if_pos c1] at e0
        refine go_ret ⟨_, rfl, _, _, rfl, rfl, _, rfl, _, rfl, (by show 2 ≤ sizeLine; decide), fun q nq => ?_⟩
        exact fin _ _ H e0 (Same.refl H) q _ (same_upd nq) upd_same
      · have c1 : ¬ (nextW T (k + 1) = "" ∨ hdL (nextW T (k + 1)) = false ∨ jnB T (k + 1) = false) := fun z => h1 (by
          rw [Bool.or_eq_true, Bool.or_eq_true, decide_eq_true_eq, Bool.not_eq_true', Bool.not_eq_true']
          exact z)
        rw [if_neg c1] at e0
        refine nxt_go (go_ret ?_)
        refine ⟨_, rfl, nextW T (k + 1), "a", "z", 3, 97, 122, rfl, ta, tz, R.len _, fun H1 s1 => ⟨_, rfl, ?_⟩⟩
        have ea : allB (fun c => decide (97 ≤ c) && decide (c ≤ 122)) 3 (nextW T (k + 1)) = allB loB 3 (nextW T (k + 1)) := rfl
        rw [ea]
        cases h3 : allB loB 3 (nextW T (k + 1)) with
        | true =>
          rw [if_pos h3] at e0
          refine iteT' rfl ⟨_, rfl, _, _, rfl, rfl, (by show 2 ≤ sizeLine; decide), fun q nq => ?_⟩
          exact fin _ _ H1 e0 s1 q _ (same_upd nq) upd_same
        | false =>
          rw [if_neg (by rw [h3]; exact fun z => nomatch z)] at e0
          refine iteF' rfl ⟨_, rfl, _, _, rfl, rfl, (by show 2 ≤ sizeLine; decide), fun q nq => ?_⟩
          exact fin _ _ H1 e0 s1 q _ (same_upd nq) upd_same
    · have e0 : lpatX T k b = (k, true) := by
        unfold lpatX
        rw [if_neg hs]
      rw [decide_eq_false hs]
      refine iteT' rfl (go_ret ⟨_, rfl, (by show 2 ≤ sizeLine; decide), fun q nq => ?_⟩)
      exact fin _ _ H e0 (Same.refl H) q _ (same_upd nq) upd_same
end
end Lk

/-! K91l -/
set_option Elab.async false
set_option linter.all false
set_option maxRecDepth 100000
set_option maxHeartbeats 4000000
namespace Lk
open PySem PySem.Spec PyProof.Rows L2
section
variable {P : Program} {w : World} {K : PySem.W.Frag} {mg : Str → Option Value} {base : Heap}
theorem sc_split : FnScope ["name", "size"] ["name"] (defScope s_split) := ⟨rfl, rfl, rfl, by decide +kernel, rfl, by decide +kernel, by decide +kernel⟩
theorem cal_split (D : Def1 K mg "_law_split" s_split) (G : Glb mg) : Cal P w K mg base 1 "_law_split" spSplit := by
  refine mkCal D sc_split (fun _ _ _ _ _ _ us hl => match us, hl with | [_], _ => rfl) (fun vs H Q E h => ?_) (fun f cdv A outer s H vs Q E hr h => ?_)
  · obtain ⟨x, rfl, _⟩ := h
    rfl
  · obtain ⟨x, rfl, hx, k⟩ := h
    have hz : x.length ≤ sizeLine := Nat.le_trans hx (by decide)
    have tA : TL.tl ("A" : Str) = [65] := by decide +kernel
    have tZ : TL.tl ("Z" : Str) = [90] := by decide +kernel
    have hl := TL.len_tl x
    refine ⟨_, pss_cons (ps_set (i := 1) sc_split.nd rfl (.inl rfl) pe_int)
      (pss_cons (ps_while PassesOwn.never (PW.pt (pw_and (pt_cmpR op_lt (pv 1) (pe_callB call_len_str (by rfl) G.len PySem.boot_len (pa_cons (pv 0) pa_nil)) (nomark _)) (pw_and1 (pt_chain op_le_str op_le_str pe_str (pe_item_str (pv 0) (pv 1) (fun _ _ => rfl)) pe_str))))
        (pss_one (ps_set (i := 1) sc_split.nd rfl (.inl rfl) (pe_op op_add (pv 1) pe_int))))
      (pss_one (ps_ret (pe_tup (pa_cons (pe_slice sl_str (pv 0) po_none (po_some (pv 1))) (pa_cons (pe_slice sl_str (pv 0) (po_some (pv 1)) po_none) pa_nil)))))), ?_⟩
    have fin : ∀ n : Nat, n ≤ (TL.tl x).length → (∀ c ∈ (TL.tl x).take n, upB c = true) → (∀ c, (TL.tl x)[n]? = some c → upB c = false) → tRet (tTup (tCons (tSl rSlS (tVar 0) tNoPart (tPart (tVar 1))) (tCons (tSl rSlS (tVar 0) (tPart (tVar 1)) tNoPart) tNil))) { nx := fun _ H' => Q .non H', rt := Q } [some (.str x), some (.int (n : Int))] H := by
      intro n hn up stop
      have hn2 : n ≤ x.length := by omega
      refine ⟨_, rfl, _, rfl, _, rfl, x, rfl, hz, _, rfl, _, rfl, _, rfl, x, rfl, hz, (by show 2 ≤ sizeLine; decide), fun p np => ?_⟩
      obtain ⟨e1, e2⟩ := take_tw up stop hn
      exact k p _ _ np (by rw [tl_cut_to hn2, e1]) (by rw [tl_cut_from hn2, e2])
    refine ⟨fun m σ H' => ∃ n : Nat, σ = [some (.str x), some (.int (n : Int))] ∧ n + m = (TL.tl x).length ∧ (∀ c ∈ (TL.tl x).take n, upB c = true) ∧ H' = H, ⟨_, 0, rfl, Nat.zero_add _, by simp, rfl⟩, ?_⟩
    rintro m σ H' ⟨n, rfl, em, up, rfl⟩
    refine ⟨_, rfl, _, rfl, x, rfl, hz, _, _, rfl, rfl, _, rfl, ?_⟩
    refine ite2 (fun hlt => ?_) (fun hge => ?_)
    · have hn : n < (TL.tl x).length := by
        have := of_decide_eq_true hlt
        omega
      have hc : x.cps[(n : Int).toNat]? = some ((TL.tl x)[n]) := by
        rw [Int.toNat_natCast, ← Array.getElem?_toList]
        exact List.getElem?_eq_getElem hn
      refine ⟨_, rfl, _, rfl, x, _, _, rfl, rfl, by omega, by omega, by omega, hc, _, _, rfl, rfl, _, rfl, ?_⟩
      rw [le_sg tA]
      have bad : ∀ b : Bool, upB ((TL.tl x)[n]) = b → ∀ c, (TL.tl x)[n]? = some c → upB c = b := fun b hb c h => by
        rw [List.getElem?_eq_getElem hn] at h
        rw [← Option.some.inj h]
        exact hb
      refine ite2 (fun h1 => ?_) (fun h1 => ?_)
      · refine ⟨_, _, rfl, rfl, _, rfl, ?_⟩
        rw [sg_le tZ]
        refine ite2 (fun h2 => ?_) (fun h2 => ?_)
        · have hu : upB ((TL.tl x)[n]) = true := by
            unfold upB
            rw [h1, h2]
            rfl
          refine ⟨fun σ' H'' => ∃ n' : Nat, n' = n + 1 ∧ σ' = [some (.str x), some (.int (n' : Int))] ∧ H'' = H', fun σ' H'' hN => ?_, _, rfl, _, _, rfl, rfl, n + 1, rfl, ?_, rfl⟩
          · obtain ⟨n', rfl, rfl, rfl⟩ := hN
            refine ⟨m - 1, by omega, n + 1, rfl, by omega, fun c hc' => ?_, rfl⟩
            rw [List.take_succ_eq_append_getElem hn] at hc'
            rcases List.mem_append.mp hc' with h | h
            · exact up c h
            · rw [List.mem_singleton.mp h]
              exact hu
          · show [some (V.str x), some (V.int ((n : Int) + 1))] = _
            rw [show ((n + 1 : Nat) : Int) = (n : Int) + 1 by omega]
        · exact fin n (by omega) up (bad false (by unfold upB; rw [Bool.not_eq_true _ |>.mp h2, Bool.and_false]))
      · exact ⟨_, rfl, fin n (by omega) up (bad false (by unfold upB; rw [Bool.not_eq_true _ |>.mp h1, Bool.false_and]))⟩
    · have hn : n = (TL.tl x).length := by
        have : ¬ ((n : Int) < (x.length : Int)) := fun z => hge (decide_eq_true z)
        omega
      exact fin n (by omega) up (fun c h => by
        rw [List.getElem?_eq_none (by omega)] at h
        cases h)
theorem sc_is_name : FnScope ["thing", "sign"] ["thing"] (defScope s_is_name) := ⟨rfl, rfl, rfl, by decide +kernel, rfl, by decide +kernel, by decide +kernel⟩
theorem cal_is_name (D : Def1 K mg "_law_is_name" s_is_name) (T : Glc mg) (CS : Cal P w K mg base 1 "_law_split" spSplit) : Cal P w K mg base 2 "_law_is_name" (spLName K) := by
  refine mkCal D sc_is_name (fun _ _ _ _ _ _ us hl => match us, hl with | [_], _ => rfl) (fun vs H Q E h => ?_) (fun f cdv A outer s H vs Q E hr h => ?_)
  · obtain ⟨v, d, rfl, _⟩ := h
    rfl
  · obtain ⟨v, d, rfl, ht, hb, hok, k⟩ := h
    have ta : TL.tl ("a" : Str) = [97] := by decide +kernel
    have tz : TL.tl ("z" : Str) = [122] := by decide +kernel
    refine ⟨_, pss_cons (ps_if (PW.pt (pw_or (pt_not (pt_val (pe_isi (T := "str") (pv 0) T.isinst T.str (by decide +kernel)))) (pw_or1 (pt_cmpR op_eq (pv 0) pe_str (nomark _))))) (pss_one (ps_ret pe_bl)) pss_nil)
      (pss_one (ps_ret (pe_cmpR (op_eqD hr.units) (pe_lc (own := [("sign", 1)]) (g := gName 1) (by rfl) sc_is_name.nd (pi_str (pe_ix ix_tup (pe_cal CS hr (by decide) (pa_cons (pv 0) pa_nil)) pe_int (fun _ _ => rfl)))
          (blkOk_by (own := [("sign", 1)]) (N := ["thing", "sign"]) (sc := defScope s_is_name) (by decide +kernel)) (fun _ _ _ _ _ => pg_name (i := 1) sc_is_name.nd rfl (Or.inl rfl)) (fun _ _ _ _ _ => pts_one (pt_not (pt_chain op_le_str op_le_str pe_str (pv 1) pe_str)))
          (fun _ _ _ _ _ => pv 1)) (pe_lst pa_nil) (nomark _)))), ?_⟩
    refine ⟨_, rfl, v, _, _, _, _, rfl, .ty _, th_ty ht, kit_str d, _, rfl, ?_⟩
    cases e : isStr d with
    | false =>
      rw [(not_str e).1] at k
      exact iteT (iteT (k H (Same.refl H)))
    | true =>
      obtain ⟨x, rfl, rfl⟩ := th_str ht e
      refine iteF ⟨_, rfl, rfl, _, rfl, ?_⟩
      refine ite2 (fun hne => ?_) (fun hne => ?_)
      · have hx : x = "" := V.str.inj (of_decide_eq_true hne)
        subst hx
        exact k H (Same.refl H)
      · have hx : TL.tl x ≠ [] := fun z => hne (decide_eq_true (by rw [tl_nil_iff.mp z]))
        refine ⟨_, rfl, x, rfl, hb, fun p hs ts np eh et => ?_⟩
        refine ⟨p, _, 1, .str ts, rfl, rfl, .inl (.inl upd_same), atI_nat (j := 1) rfl, ts, rfl, fun D nD => ?_⟩
        have sp : Same H (upd H p (.tup [.str hs, .str ts])) := same_upd np
        have nD0 : H D = none := sp.free nD
        have hsub : ∀ c ∈ TL.tl ts, c ∈ TL.tl x := fun c hc => by
          rw [et] at hc
          exact (List.dropWhile_sublist _).subset hc
        have hlen : (TL.tl ts).length ≤ 100000 := by
          rw [et]
          have h1 := (List.dropWhile_sublist upB (l := TL.tl x)).length_le
          have h2 : x.length ≤ 100000 := hb
          have := TL.len_tl x
          omega
        refine lc_str (x := ts) (fun pre H' => Same H H' ∧ ∃ ys : List Str, H' D = some (.lst (ys.map V.str)) ∧ ys.length ≤ pre.length ∧ (∀ y ∈ ys, PyData.strOk y = true) ∧ (ys = [] ↔ pre.all loB = true))
          ⟨same_mut sp nD0, [], upd_same, Nat.le_refl _, fun y h => (nomatch h), by simp⟩ ?_ ?_
        · rintro pre c post H' hsplit ⟨sH, ys, hD, hl, ho, hi⟩
          refine ⟨rfl, _, rfl, _, _, rfl, rfl, _, rfl, ?_⟩
          rw [le_sg ta]
          have hcl : c ∈ TL.tl ts := by rw [hsplit]; simp
          have hpl : pre.length ≤ 100000 := by
            rw [hsplit, List.length_append] at hlen
            omega
          have keep : ∀ b : Bool, loB c = b → (b = true → ∃ ys : List Str, H' D = some (.lst (ys.map V.str)) ∧ ys.length ≤ (pre ++ [c]).length ∧ (∀ y ∈ ys, PyData.strOk y = true) ∧ (ys = [] ↔ (pre ++ [c]).all loB = true)) := fun b hb2 hb3 => by
            refine ⟨ys, hD, by rw [List.length_append]; omega, ho, ?_⟩
            rw [List.all_append, Bool.and_eq_true, ← hi]
            simp [hb2, hb3]
          have grow : loB c = false → tVar 1 [some (V.str x), some (V.str (sg c))] H' fun y H4 => ∃ acc, H4 D = some (.lst acc) ∧ acc.length < sizeLine ∧ (Same H (upd H4 D (.lst (acc ++ [y]))) ∧ ∃ ys : List Str, (upd H4 D (.lst (acc ++ [y]))) D = some (.lst (ys.map V.str)) ∧ ys.length ≤ (pre ++ [c]).length ∧ (∀ y ∈ ys, PyData.strOk y = true) ∧ (ys = [] ↔ (pre ++ [c]).all loB = true)) := fun hb2 => by
            refine ⟨_, rfl, _, hD, by rw [List.length_map]; exact Nat.lt_of_le_of_lt (Nat.le_trans hl hpl) (by decide), same_mut sH nD0, ys ++ [sg c], by rw [upd_same, List.map_append]; rfl, by rw [List.length_append, List.length_append]; simp; omega, fun y hy => ?_, ?_⟩
            · rcases List.mem_append.mp hy with hy | hy
              · exact ho y hy
              · rw [List.mem_singleton.mp hy]
                exact ok_sg hok (hsub c hcl)
            · rw [List.all_append, Bool.and_eq_true]
              simp [hb2]
          refine ite2 (fun h1 => ?_) (fun h1 => ?_)
          · refine ⟨_, _, rfl, rfl, _, rfl, ?_⟩
            rw [sg_le tz]
            cases h2 : decide (c ≤ 122) with
            | true => exact iteF ⟨sH, keep true (by unfold loB; rw [h1, h2]; rfl) rfl⟩
            | false => exact iteT (grow (by unfold loB; rw [h2, Bool.and_false]))
          · exact ⟨_, rfl, iteT (grow (by unfold loB; rw [Bool.not_eq_true _ |>.mp h1, Bool.false_and]))⟩
        · rintro H' ⟨sH, ys, hD, hl, ho, hi⟩
          refine ⟨Nat.zero_le _, fun q nq => ?_⟩
          have nDq : D ≠ q := ne_of_none hD nq
          refine ⟨_, _, .lst (SqL.of (by rw [upd_ne nDq]; exact hD)) (dp_strs ys), .lst (SqL.of upd_same) .nil, shaped_strs ho, rfl, ?_⟩
          rw [eqv_strs_nil]
          have ed : decide (ys = []) = dName (.str x) := by
            rw [Bool.eq_iff_iff, decide_eq_true_iff, hi, et]
            show _ ↔ (!(TL.tl x).isEmpty && ((TL.tl x).dropWhile upB).all loB) = true
            cases q : TL.tl x with
            | nil => exact absurd q hx
            | cons c r => simp
          rw [ed]
          exact k _ (sH.trans (same_upd nq))
end
end Lk

/-! K91L -/
set_option Elab.async false
set_option linter.all false
set_option maxRecDepth 100000
set_option maxHeartbeats 4000000
namespace Lk
open PySem PySem.Spec PyProof.Rows L2
section
variable {P : Program} {w : World} {K : PySem.W.Frag} {mg : Str → Option Value} {base : Heap}
theorem sq_par2 {i j : Nat} {ta : TA} {b : TS} {D : Ends} {σ : L2.St} {H : Hp} (h : ta σ H fun vs H1 => ∃ u v, vs = [u, v] ∧ b D ((σ.set i (some u)).set j (some v)) H1) : tSeq (tPar i j ta) b D σ H := h
def optI : Option Nat → V
  | none => .non
  | some k => .int (k : Int)
def spLStop (K : PySem.W.Frag) : Sp := fun vs H Q _ => ∃ (p : Addr) (T : List TkW) (n : Nat), vs = [.ref p] ∧ RowsAt K H p T n ∧ ∀ H', Same H H' → Q (optI (lstop T)) H'
theorem sc_stop : FnScope ["rows", "at", "is_bad", "count", "word", "is_begin_v"] ["rows"] (defScope s_stop) := ⟨rfl, rfl, rfl, by decide +kernel, rfl, by decide +kernel, by decide +kernel⟩
theorem cal_stop (D : Def1 K mg "_law_stop" s_stop) (G : Glb mg) (CA : Cal P w K mg base 1 "_law_is_all" spAll) (CP : Cal P w K mg base 2 "_law_pattern_stop" (spPStop K)) (CN : Cal P w K mg base 2 "_law_is_name" (spLName K)) : Cal P w K mg base 3 "_law_stop" (spLStop K) := by
  refine mkCal D sc_stop (fun _ _ _ _ _ _ us hl => match us, hl with | [_], _ => rfl) (fun vs H Q E h => ?_) (fun f cdv A outer s H vs Q E hr h => ?_)
  · obtain ⟨p, T, n, rfl, _⟩ := h
    rfl
  · obtain ⟨p, T, n, rfl, R, kk⟩ := h
    refine ⟨_, (pss_cons (ps_if (pt_not (pt_val (pe_cal CA hr (by omega) (pa_cons (pe_ix ix_tup (pe_ix ix_list (pv 0) pe_int (fun _ _ => rfl)) pe_int (fun _ _ => rfl)) (pa_cons pe_str (pa_cons pe_str (pa_cons pe_int pa_nil))))))) (pss_one (ps_ret pe_int)) pss_nil)
    (pss_cons (ps_if (pt_cmpR op_ne (pe_ix ix_tup (pe_ix ix_list (pv 0) pe_int (fun _ _ => rfl)) pe_int (fun _ _ => rfl)) pe_str (nomark _)) (pss_one (ps_ret pe_int)) pss_nil)
    (pss_cons (ps_set (i := 1) sc_stop.nd rfl (.inl rfl) pe_int)
    (pss_cons (ps_if (pt_val (pe_cal CA hr (by omega) (pa_cons (pe_ix ix_tup (pe_ix ix_list (pv 0) (pv 1) (fun _ _ => rfl)) pe_int (fun _ _ => rfl)) (pa_cons pe_str (pa_cons pe_str (pa_cons pe_int pa_nil)))))) (pss_cons (ps_set (i := 1) sc_stop.nd rfl (.inl rfl) pe_int)
    (pss_one (ps_if (PW.pt (pw_or (pt_cmpR op_ne (pe_ix ix_tup (pe_ix ix_list (pv 0) (pv 1) (fun _ _ => rfl)) pe_int (fun _ _ => rfl)) pe_str (nomark _)) (pw_or1 (pt_val (pe_ix ix_tup (pe_ix ix_list (pv 0) (pv 1) (fun _ _ => rfl)) pe_int (fun _ _ => rfl)))))) (pss_one (ps_ret (pv 1))) pss_nil))) pss_nil)
    (pss_cons (ps_asg (pe_cal CP hr (by omega) (pa_cons (pv 0) (pa_cons (pv 1) (pa_cons (pe_cmpR op_eq (pv 1) pe_int (nomark _)) pa_nil)))) (pg_tup rfl (pgs_cons (pg_name (i := 1) sc_stop.nd rfl (.inl rfl)) (pgs_cons (pg_name (i := 2) sc_stop.nd rfl (.inl rfl)) pgs_nil))))
    (pss_cons (ps_if (PW.pt (pw_or (pt_val (pv 2)) (pw_or1 (pt_cmpR op_ne (pe_ix ix_tup (pe_ix ix_list (pv 0) (pv 1) (fun _ _ => rfl)) pe_int (fun _ _ => rfl)) pe_str (nomark _))))) (pss_one (ps_ret (pv 1))) pss_nil)
    (pss_cons (ps_par (i := 1) (j := 3) (by rfl) sc_stop.nd rfl rfl (by decide) rfl rfl (pa_cons (pe_op op_add (pv 1) pe_int) (pa_cons pe_int pa_nil)) (by rfl))
    (pss_cons (ps_while PassesOwn.never (pt_cmpR op_ne (pe_ix ix_tup (pe_ix ix_list (pv 0) (pv 1) (fun _ _ => rfl)) pe_int (fun _ _ => rfl)) pe_str (nomark _))
    (pss_cons (ps_set (i := 4) sc_stop.nd rfl (.inl rfl) (pe_ix ix_tup (pe_ix ix_list (pv 0) (pv 1) (fun _ _ => rfl)) pe_int (fun _ _ => rfl)))
    (pss_cons (ps_if (PW.pt (pw_or (pt_cmpR op_eq (pv 3) pe_int (nomark _)) (pw_or1 (PW.pt (pw_and (pt_cmpR op_gt (pv 3) pe_int (nomark _)) (pw_and1 (pt_not (pt_val (pe_ix ix_tup (pe_ix ix_list (pv 0) (pv 1) (fun _ _ => rfl)) pe_int (fun _ _ => rfl)))))))))) (pss_one (ps_ret (pv 1))) pss_nil)
    (pss_cons (ps_set (i := 5) sc_stop.nd rfl (.inl rfl) (pe_and (pe_cmpR op_eq (pe_ix ix_tup (pe_ix ix_list (pv 0) (pe_op op_add (pv 1) pe_int) (fun _ _ => rfl)) pe_int (fun _ _ => rfl)) pe_str (nomark _)) (pe_and (pe_not (pe_ix ix_tup (pe_ix ix_list (pv 0) (pe_op op_add (pv 1) pe_int) (fun _ _ => rfl)) pe_int (fun _ _ => rfl))) (pe_one (pe_cal CA hr (by omega) (pa_cons (pv 4) (pa_cons pe_str (pa_cons pe_str (pa_cons pe_int pa_nil)))))))))
    (pss_cons (ps_if (PW.pt (pw_or (pt_cmpR op_eq (pv 4) pe_str (nomark _)) (pw_or1 (pt_val (pv 5))))) (pss_cons (ps_asg (pe_cal CP hr (by omega) (pa_cons (pv 0) (pa_cons (pe_op op_add (pv 1) (pe_callTy call_int1 (by rfl) G.int (by decide +kernel) (pa_cons (pv 5) pa_nil))) (pa_cons (pv 5) pa_nil)))) (pg_tup rfl (pgs_cons (pg_name (i := 1) sc_stop.nd rfl (.inl rfl)) (pgs_cons (pg_name (i := 2) sc_stop.nd rfl (.inl rfl)) pgs_nil))))
    (pss_one (ps_if (pt_val (pv 2)) (pss_one (ps_ret (pv 1))) pss_nil))) (pss_one (ps_if (PW.pt (pw_and (pt_val (pe_cal CN hr (by omega) (pa_cons (pv 4) pa_nil))) (pw_and1 (pt_cmpR op_lt (pe_callB call_len_str (by rfl) G.len PySem.boot_len (pa_cons (pv 4) pa_nil)) pe_int (nomark _))))) (pss_one (ps_set (i := 1) sc_stop.nd rfl (.inl rfl) (pe_op op_add (pv 1) pe_int))) (pss_one (ps_ret (pv 1))))))
    (pss_one (ps_set (i := 3) sc_stop.nd rfl (.inl rfl) (pe_op op_add (pv 3) pe_int))))))))
    (pss_one (ps_ret pe_non)))))))))), ?_⟩
    have ta : TL.tl ("a" : Str) = [97] := by decide +kernel
    have tz : TL.tl ("z" : Str) = [122] := by decide +kernel
    have tA : TL.tl ("A" : Str) = [65] := by decide +kernel
    have tZ : TL.tl ("Z" : Str) = [90] := by decide +kernel
    have some_k : ∀ (k : Nat) (H1 : Hp), lstop T = some k → Same H H1 → Q (.int (k : Int)) H1 := fun k H1 e s1 => by
      have z := kk H1 s1
      rw [e] at z
      exact z
    refine sq_if (go_if ?_)
    refine row_w 0 0 rfl R (by omega) (fun Z z => z) ?_
    refine ⟨nextW T 0, "a", "z", 8, 97, 122, rfl, ta, tz, R.len _, fun H1 s1 => ⟨_, rfl, ?_⟩⟩
    have eS : lstop T = (if allB loB 8 (nextW T 0) = true then (if nextW T 1 = ":" then (if allB upB 3 (nextW T 2) = true then (if nextW T 3 ≠ "*" ∨ jnB T 3 = false then some 3 else ltail T (lpatX T 3 true)) else ltail T (lpatX T 2 false)) else some 1) else some 0) := rfl
    rw [show allB (fun c => decide (97 ≤ c) && decide (c ≤ 122)) 8 (nextW T 0) = allB loB 8 (nextW T 0) from rfl]
    cases h0 : allB loB 8 (nextW T 0) with
    | false =>
      rw [h0, if_neg (fun z => nomatch z)] at eS
      exact iteT' rfl (some_k 0 H1 eS s1)
    | true =>
    rw [h0, if_pos rfl] at eS
    refine iteF' rfl (nxt_go (sq_if (go_if ?_)))
    have R1 := R.same s1
    refine row_w 1 0 rfl R1 (by omega) (fun Z z => z) ⟨rfl, _, rfl, ?_⟩
    rw [sne]
    by_cases h1 : nextW T 1 = ":"
    case neg =>
      rw [if_neg h1] at eS
      rw [decide_eq_false h1]
      exact iteT' rfl (some_k 1 H1 eS s1)
    rw [if_pos h1] at eS
    rw [decide_eq_true h1]
    have l1 := next_lt' h1 colon_ne
    refine iteF' rfl (nxt_go (sq_asg (on_go ?_)))
    refine if_join (fun σ H2 => ∃ k : Nat, σ = [some (.ref p), some (.int (k : Int)), none, none, none, none] ∧ Same H H2 ∧ k ≤ T.length ∧ lstop T = ltail T (lpatX T k (decide (k = 3)))) ?_ ?_
    · rintro σ H2 ⟨k, rfl, s2, lk, eT⟩
      have R2 := R.same s2
      refine sq_asg ?_
      refine ⟨_, rfl, _, rfl, _, rfl, rfl, p, T, n, k, decide (k = 3), ?_, R2, lk, fun q H3 s3 hq => ?_⟩
      · have e : decide (V.int (k : Int) = V.int 3) = decide (k = 3) := by
          rw [decide_eq_decide, V.int.injEq]
          omega
        rw [e]
        rfl
      have lp := lpat_le (b := decide (k = 3)) lk
      generalize lpatX T k (decide (k = 3)) = r at eT hq lp
      obtain ⟨j, bad⟩ := r
      refine ⟨q, _, rfl, SqT.of hq, rfl, _, _, rfl, _, _, rfl, rfl, sq_if (go_if ?_)⟩
      have R3 := R2.same s3
      have s03 := s2.trans s3
      have lp : j ≤ T.length := lp
      have eT : lstop T = (if bad = true ∨ nextW T j ≠ "<" then some j else lloop T 4 (j + 1) 0) := eT
      refine tOr_rd bad (!decide (nextW T j = "<")) (fun Z z => ⟨_, rfl, _, rfl, z⟩) (fun _ Z z => row_w j 0 rfl R3 (by omega) (fun Z z => ⟨_, rfl, z⟩) ⟨rfl, _, rfl, by rw [sne]; exact z⟩) ?_
      refine ite2 (fun h2 => ?_) (fun h2 => ?_)
      · rw [if_pos (by
          rw [Bool.or_eq_true, Bool.not_eq_true', decide_eq_false_iff_not] at h2
          exact h2)] at eT
        exact go_ret ⟨_, rfl, some_k j H3 eT s03⟩
      rw [Bool.or_eq_true, Bool.not_eq_true', decide_eq_false_iff_not] at h2
      rw [if_neg h2] at eT
      have hl : nextW T j = "<" := Classical.byContradiction fun z => h2 (.inr z)
      have lj := next_lt' hl less_ne
      refine nxt_go ?_
      refine sq_par2 ⟨_, rfl, _, _, rfl, rfl, _, _, rfl, ?_⟩
      refine ⟨fun m σ H' => ∃ (k c : Nat) (v2 v4 v5 : Option V), σ = [some (.ref p), some (.int (k : Int)), v2, some (.int (c : Int)), v4, v5] ∧ c + m = 4 ∧ m ≠ 0 ∧ Same H H' ∧ k ≤ T.length ∧ lstop T = lloop T m k c, ⟨4, j + 1, 0, _, _, _, rfl, rfl, by decide, s03, lj, eT⟩, ?_⟩
      rintro m σ H4 ⟨k, c, v2, v4, v5, rfl, em, m0, s4, lk, eL⟩
      obtain ⟨f', rfl⟩ : ∃ f', m = f' + 1 := ⟨m - 1, by omega⟩
      have R4 := R.same s4
      have eU : lloop T (f' + 1) k c = (if nextW T k = "" then none else if c = 3 ∨ (0 < c ∧ jnB T k = true) then some k else
        if nextW T k = "*" ∨ isbX T k = true then (if (lpatX T (k + (isbX T k).toNat) (isbX T k)).2 = true then some (lpatX T (k + (isbX T k).toNat) (isbX T k)).1 else lloop T f' (lpatX T (k + (isbX T k).toNat) (isbX T k)).1 (c + 1))
        else if dName (.str (nextW T k)) = true ∧ (nextW T k).length < 7 then lloop T f' (k + 1) (c + 1) else some k) := rfl
      rw [eU] at eL
      refine row_w k 0 rfl R4 (by omega) (fun Z z => ⟨_, rfl, z⟩) ⟨rfl, _, rfl, ?_⟩
      rw [sne]
      by_cases hk : nextW T k = ""
      · rw [if_pos hk] at eL
        rw [decide_eq_true hk]
        refine iteF' rfl (ends_go (go_ret ?_))
        have z := kk H4 s4
        rw [eL] at z
        exact z
      rw [if_neg hk] at eL
      rw [decide_eq_false hk]
      have kl := next_lt hk
      refine iteT' rfl ?_
      refine ⟨fun σ' H'' => ∃ m', m' < f' + 1 ∧ ∃ (k c : Nat) (v2 v4 v5 : Option V), σ' = [some (.ref p), some (.int (k : Int)), v2, some (.int (c : Int)), v4, v5] ∧ c + m' = 4 ∧ m' ≠ 0 ∧ Same H H'' ∧ k ≤ T.length ∧ lstop T = lloop T m' k c, fun _ _ h => h, ?_⟩
      refine sq_asg (row_w k 0 rfl R4 (by omega) (fun Z z => ⟨_, rfl, z⟩) ?_)
      refine on_go (sq_if (go_if ?_))
      refine tOr_rd (decide (c = 3)) (decide (0 < c) && jnB T k) (fun Z z => ⟨_, rfl, rfl, _, rfl, by rw [show decide (V.int (c : Int) = V.int 3) = decide (c = 3) by rw [decide_eq_decide, V.int.injEq]; omega]; exact z⟩)
        (fun _ Z z => tAnd_rd (decide (0 < c)) (jnB T k) (fun Z z => ⟨_, rfl, _, _, rfl, rfl, _, rfl, by rw [show decide ((0 : Int) < (c : Int)) = decide (0 < c) by rw [decide_eq_decide]; omega]; exact z⟩) (fun _ Z z => row_f k 0 rfl R4 (by omega) (fun Z z => ⟨_, rfl, z⟩) ⟨_, rfl, by show Z (!!jnB T k) H4; rw [Bool.not_not]; exact z⟩) z) ?_
      refine ite2 (fun h3 => ?_) (fun h3 => ?_)
      · rw [Bool.or_eq_true, Bool.and_eq_true, decide_eq_true_eq, decide_eq_true_eq] at h3
        rw [if_pos h3] at eL
        exact go_ret ⟨_, rfl, some_k k H4 eL s4⟩
      rw [Bool.or_eq_true, Bool.and_eq_true, decide_eq_true_eq, decide_eq_true_eq] at h3
      rw [if_neg h3] at eL
      have c3 : c ≠ 3 := fun z => h3 (.inl z)
      refine nxt_go (sq_asg ?_)
      have toB : ∀ (x y : Bool), (x && y) = (x && y) := fun _ _ => rfl
      refine andV_rd (decide (nextW T (k + 1) = "*")) (jnB T (k + 1) && allB upB 3 (nextW T k)) (fun Z z => row_w (k + 1) 0 rfl R4 (by omega) (fun Z z => ⟨_, rfl, _, _, rfl, rfl, z⟩) ⟨rfl, by rw [sne]; exact z⟩)
        (fun _ Z z => andV_rd (jnB T (k + 1)) (allB upB 3 (nextW T k)) (fun Z z => row_f (k + 1) 0 rfl R4 (by omega) (fun Z z => ⟨_, rfl, _, _, rfl, rfl, z⟩) ⟨_, rfl, by show Z (.bl (!!jnB T (k + 1))) H4; rw [Bool.not_not]; exact z⟩) (fun _ Z z => ⟨_, rfl, nextW T k, "A", "Z", 3, 65, 90, rfl, tA, tZ, R4.len _, z⟩) z) ?_
      intro H5 s5
      have s05 := s4.trans s5
      have R5 := R.same s05
      have ib : (decide (nextW T (k + 1) = "*") && (jnB T (k + 1) && allB upB 3 (nextW T k))) = isbX T k := rfl
      rw [ib]
      have lki : k + (isbX T k).toNat ≤ T.length := by
        cases isbX T k with
        | true => exact kl
        | false => exact lk
      have lp2 := lpat_le (b := isbX T k) lki
      have toI : (if isbX T k = true then (1 : Int) else 0) = (((isbX T k).toNat : Nat) : Int) := by cases isbX T k <;> rfl
      generalize isbX T k = ib at eL lki lp2 toI ⊢
      refine on_go ?_
      refine on_go (sq_if (go_if ?_))
      refine tOr_rd (decide (nextW T k = "*")) ib (fun Z z => ⟨_, rfl, rfl, _, rfl, by rw [sne]; exact z⟩) (fun _ Z z => ⟨_, rfl, _, rfl, z⟩) ?_
      refine ite2 (fun h4 => ?_) (fun h4 => ?_)
      · rw [Bool.or_eq_true, decide_eq_true_eq] at h4
        rw [if_pos (c := nextW T k = "*" ∨ ib = true) h4] at eL
        refine sq_asg ?_
        refine ⟨_, rfl, _, rfl, _, rfl, .inr ⟨ib, rfl, _, _, rfl, rfl, _, rfl, p, T, n, k + ib.toNat, ib, ?_, R5, lki, fun q H6 s6 hq => ?_⟩⟩
        · rw [toI]
          rfl
        generalize lpatX T (k + ib.toNat) ib = r at eL hq lp2
        obtain ⟨j2, bad⟩ := r
        have lp2 : j2 ≤ T.length := lp2
        have eL : lstop T = (if bad = true then some j2 else lloop T f' j2 (c + 1)) := eL
        refine ⟨q, _, rfl, SqT.of hq, rfl, _, _, rfl, _, _, rfl, rfl, ?_⟩
        refine go_if ⟨_, rfl, _, rfl, ?_⟩
        cases bad with
        | true => exact iteT' rfl (go_ret ⟨_, rfl, some_k j2 H6 eL (s05.trans s6)⟩)
        | false =>
          refine iteF' rfl (nxt_go ?_)
          exact ⟨_, rfl, _, _, rfl, rfl, f', by omega, j2, c + 1, _, _, _, rfl, by omega, by omega, s05.trans s6, lp2, eL⟩
      · rw [Bool.or_eq_true, decide_eq_true_eq] at h4
        rw [if_neg (c := nextW T k = "*" ∨ ib = true) h4] at eL
        refine go_if ?_
        refine ⟨_, rfl, .str (nextW T k), .str (nextW T k), rfl, .str _, R5.len k, R5.sok k, fun H6 s6 => ⟨_, rfl, ?_⟩⟩
        have s06 := s05.trans s6
        cases hd : dName (.str (nextW T k)) with
        | false =>
          rw [if_neg (c := dName (.str (nextW T k)) = true ∧ (nextW T k).length < 7) (fun z => by rw [hd] at z; exact nomatch z.1)] at eL
          exact iteF' rfl (iteF' rfl (go_ret ⟨_, rfl, some_k k H6 eL s06⟩))
        | true =>
          refine iteT' rfl ⟨_, rfl, nextW T k, rfl, Nat.le_trans (R5.len k) (by decide), _, _, rfl, rfl, _, rfl, ?_⟩
          refine ite2 (fun h5 => ?_) (fun h5 => ?_)
          · have h5 : (nextW T k).length < 7 := by
              have := of_decide_eq_true h5
              omega
            rw [if_pos (c := dName (.str (nextW T k)) = true ∧ (nextW T k).length < 7) ⟨hd, h5⟩] at eL
            refine ⟨_, rfl, _, _, rfl, rfl, on_go ?_⟩
            exact ⟨_, rfl, _, _, rfl, rfl, f', by omega, k + 1, c + 1, _, _, _, rfl, by omega, by omega, s06, kl, eL⟩
          · have h5 : ¬ (nextW T k).length < 7 := fun z => h5 (decide_eq_true (by omega))
            rw [if_neg (c := dName (.str (nextW T k)) = true ∧ (nextW T k).length < 7) (fun z => h5 z.2)] at eL
            exact go_ret ⟨_, rfl, some_k k H6 eL s06⟩
    · intro Rn hRn
      refine go_if ?_
      refine row_w 2 0 rfl R1 (by omega) (fun Z z => ⟨_, rfl, z⟩) ?_
      refine ⟨nextW T 2, "A", "Z", 3, 65, 90, rfl, tA, tZ, R.len _, fun H2 s2 => ⟨_, rfl, ?_⟩⟩
      have s02 := s1.trans s2
      have R2 := R.same s02
      rw [show allB (fun c => decide (65 ≤ c) && decide (c ≤ 90)) 3 (nextW T 2) = allB upB 3 (nextW T 2) from rfl]
      cases h2 : allB upB 3 (nextW T 2) with
      | false =>
        rw [if_neg (c := allB upB 3 (nextW T 2) = true) (by rw [h2]; exact fun z => nomatch z)] at eS
        exact iteF' rfl (nxt_go (hRn _ _ ⟨2, rfl, s02, l1, eS⟩))
      | true =>
        rw [if_pos (c := allB upB 3 (nextW T 2) = true) h2] at eS
        have l2 : 2 < T.length := next_lt fun z => by
          rw [z] at h2
          exact nomatch h2
        refine iteT' rfl (sq_asg (on_go (go_if ?_)))
        refine tOr_rd (!decide (nextW T 3 = "*")) (!jnB T 3) (fun Z z => row_w 3 0 rfl R2 (by omega) (fun Z z => ⟨_, rfl, z⟩) ⟨rfl, _, rfl, by rw [sne]; exact z⟩) (fun _ Z z => row_f 3 0 rfl R2 (by omega) (fun Z z => ⟨_, rfl, z⟩) ⟨_, rfl, z⟩) ?_
        refine ite2 (fun h3 => ?_) (fun h3 => ?_)
        · rw [Bool.or_eq_true, Bool.not_eq_true', Bool.not_eq_true', decide_eq_false_iff_not] at h3
          rw [if_pos (c := nextW T 3 ≠ "*" ∨ jnB T 3 = false) h3] at eS
          exact go_ret ⟨_, rfl, some_k 3 H2 eS s02⟩
        · rw [Bool.or_eq_true, Bool.not_eq_true', Bool.not_eq_true', decide_eq_false_iff_not] at h3
          rw [if_neg (c := nextW T 3 ≠ "*" ∨ jnB T 3 = false) h3] at eS
          exact nxt_go (hRn _ _ ⟨3, rfl, s02, l2, eS⟩)
end
end Lk

/-! K91M -/
set_option Elab.async false
set_option linter.all false
set_option maxRecDepth 100000
set_option maxHeartbeats 4000000
namespace Lk
open PySem PySem.Spec PyProof.Rows L2
def isInt : PyData → Bool
  | .int _ => true
  | .bool _ => true
  | _ => false
theorem kit_int {K : PySem.W.Frag} : ∀ d : PyData, PySem.W.kitOne K (.type (tyN d)) (.type "int") = some (isInt d)
  | .none => kit_ty (show kitB "NoneType" "int" = some false by decide +kernel)
  | .bool _ => kit_ty (show kitB "bool" "int" = some true by decide +kernel)
  | .int _ => kit_ty (show kitB "int" "int" = some true by decide +kernel)
  | .str _ => kit_ty (show kitB "str" "int" = some false by decide +kernel)
  | .list _ => kit_ty (show kitB "list" "int" = some false by decide +kernel)
  | .tuple _ => kit_ty (show kitB "tuple" "int" = some false by decide +kernel)
  | .dict _ => kit_ty (show kitB "dict" "int" = some false by decide +kernel)
section
variable {P : Program} {w : World} {K : PySem.W.Frag} {mg : Str → Option Value} {base : Heap}
/-! ### what is due -/
theorem LexR.ok {p : Nat} {cs : List Nat} {T : List TkW} {r : Option Nat} (h : LexR p cs T r) : ∀ t ∈ T, PyData.strOk t.2 = true := by
  have lt : ∀ c, ltB c = true → c < 1114112 := fun c h => by
    unfold ltB upB loB at h
    simp only [Bool.or_eq_true, Bool.and_eq_true, decide_eq_true_eq] at h
    omega
  induction h with
  | nil => exact fun _ m => nomatch m
  | bad => exact fun _ m => nomatch m
  | blank _ _ ih => exact ih
  | sign hs _ ih =>
    rename_i p' c' _ _ _ _
    intro t m
    rcases List.mem_cons.mp m with rfl | m
    · refine ok_of_all fun d hd => ?_
      rw [List.mem_singleton.mp (show d ∈ [c'] from hd)]
      unfold sgB at hs
      simp only [Bool.or_eq_true, decide_eq_true_eq] at hs
      omega
    · exact ih t m
  | word _ hl _ _ ih =>
    intro t m
    rcases List.mem_cons.mp m with rfl | m
    · exact ok_of_all fun d hd => lt d (hl d hd)
    · exact ih t m
theorem LexR.blank_iff {p : Nat} {cs : List Nat} {T : List TkW} {r : Option Nat} (h : LexR p cs T r) : cs.all blB = true ↔ T = [] ∧ r = none := by
  induction h with
  | nil => exact ⟨fun _ => ⟨rfl, rfl⟩, fun _ => rfl⟩
  | bad _ _ hb => exact ⟨(fun z => by rw [List.all_cons, hb, Bool.false_and] at z; exact Bool.noConfusion z), (fun z => nomatch z.2)⟩
  | blank hb _ ih => rw [List.all_cons, hb, Bool.true_and]; exact ih
  | sign hs _ _ => exact ⟨(fun z => by rw [List.all_cons, (sg_no hs).2, Bool.false_and] at z; exact Bool.noConfusion z), (fun z => nomatch z.1)⟩
  | @word p w cs T r hw hl _ _ _ =>
    refine ⟨fun z => ?_, fun z => nomatch z.1⟩
    cases e : TL.tl w with
    | nil => exact absurd e hw
    | cons c u =>
      have hc := hl c (by rw [e]; exact List.mem_cons_self)
      rw [e, List.cons_append, List.all_cons, (lt_no hc).2] at z
      exact nomatch z
def spRowDue : Sp := fun vs H Q _ => ∃ (x : Str) (T : List TkW) (r : Option Nat), vs = [.str x] ∧ x.length ≤ 100000 ∧ LexR 0 (TL.tl x) T r ∧ ∀ H', Same H H' → Q (optI (outR T r x.length)) H'
theorem sc_row_due : FnScope ["text", "tokens", "rows", "at"] ["text"] (defScope s_row_due) := ⟨rfl, rfl, rfl, by decide +kernel, rfl, by decide +kernel, by decide +kernel⟩
theorem cal_row_due (D : Def1 K mg "_law_row_due" s_row_due) (G : Glb mg) (T : Glc mg) (CT : Cal P w K mg base 2 "_law_tokens" (spLTok K)) (CS : Cal P w K mg base 3 "_law_stop" (spLStop K)) : Cal P w K mg base 4 "_law_row_due" spRowDue := by
  refine mkCal D sc_row_due (fun _ _ _ _ _ _ us hl => match us, hl with | [_], _ => rfl) (fun vs H Q E h => ?_) (fun f cdv A outer s H vs Q E hr h => ?_)
  · obtain ⟨x, T, r, rfl, _⟩ := h
    rfl
  · obtain ⟨x, TT, r, rfl, hx, lex, k⟩ := h
    have hz : x.length ≤ sizeLine := Nat.le_trans hx (by decide)
    have lx := TL.len_tl x
    refine ⟨_, (pss_cons (ps_set (i := 1) sc_row_due.nd rfl (.inl rfl) (pe_cal CT hr (by omega) (pa_cons (pv 0) pa_nil)))
    (pss_cons (ps_if (pt_val (pe_isi (T := "int") (pv 1) T.isinst G.int (by decide +kernel))) (pss_one (ps_ret (pe_op op_add (pv 1) pe_int))) pss_nil)
    (pss_cons (ps_set (i := 2) sc_row_due.nd rfl (.inl rfl) (pe_op op_cat (pv 1) (pe_op op_rep (pe_lst (pa_cons (pe_tup (pa_cons pe_str (pa_cons (pe_callB call_len_str (by rfl) G.len PySem.boot_len (pa_cons (pv 0) pa_nil)) (pa_cons pe_bl pa_nil)))) pa_nil)) pe_int)))
    (pss_cons (ps_set (i := 3) sc_row_due.nd rfl (.inl rfl) (pe_cal CS hr (by omega) (pa_cons (pv 2) pa_nil)))
    (pss_one (ps_ret (pe_ifExp (pt_cmpR op_isN (pv 3) pe_non (nomark _)) pe_non (pe_op op_add (pe_ix ix_tup (pe_ix ix_list (pv 2) (pv 3) (fun _ _ => rfl)) pe_int (fun _ _ => rfl)) pe_int)))))))), ?_⟩
    refine sq_asg ?_
    refine ⟨_, rfl, x, TT, r, rfl, hx, lex, fun q er H1 s1 => ?_, fun er l xs H1 s1 hl th => ?_⟩
    · refine on_go (sq_if (go_if ?_))
      refine ⟨_, rfl, .int (q : Int), _, _, _, _, rfl, .ty _, th_ty (K := K) (H := H1) (d := .int (q : Int)) (.int _), kit_int (.int (q : Int)), _, rfl, iteT' rfl (go_ret ⟨_, rfl, _, _, rfl, rfl, ?_⟩)⟩
      have z := k H1 s1
      rw [er] at z
      exact z
    · refine on_go (sq_if (go_if ?_))
      have lb := lex.bound
      have lxs := thAll_len th
      rw [rowsL_len] at lxs
      refine ⟨_, rfl, .ref l, _, _, _, _, rfl, .ty _, th_ty (.lst (SqL.of hl) th), kit_int (.list (rowsL none TT)), _, rfl, iteF' rfl (nxt_go (sq_asg ?_))⟩
      refine ⟨_, rfl, _, rfl, x, rfl, hz, (by show 3 ≤ sizeLine; decide), fun q nq => ⟨(by show 1 ≤ sizeLine; decide), fun m nm => ?_⟩⟩
      have s2 : Same H1 (upd H1 q (.tup [.str "", .int (x.length : Int), .bl true])) := same_upd nq
      have hq : upd H1 q (.tup [.str "", .int (x.length : Int), .bl true]) q = some (.tup [.str "", .int (x.length : Int), .bl true]) := upd_same
      generalize upd H1 q (.tup [.str "", .int (x.length : Int), .bl true]) = H2 at s2 hq nm ⊢
      have s3 : Same H2 (upd H2 m (.lst [.ref q])) := same_upd nm
      have hm : upd H2 m (.lst [.ref q]) m = some (.lst [.ref q]) := upd_same
      generalize upd H2 m (.lst [.ref q]) = H3 at s3 hm ⊢
      refine ⟨m, 3, [.ref q], rfl, rfl, hm, by decide, by decide, (by show 3 ≤ sizeLine; decide), fun m2 nm2 => ?_⟩
      have s4 : Same H3 (upd H3 m2 (.lst (List.replicate (3 : Int).toNat [V.ref q]).flatten)) := same_upd nm2
      have hm2 : upd H3 m2 (.lst (List.replicate (3 : Int).toNat [V.ref q]).flatten) m2 = some (.lst [.ref q, .ref q, .ref q]) := upd_same
      generalize upd H3 m2 (.lst (List.replicate (3 : Int).toNat [V.ref q]).flatten) = H4 at s4 hm2 ⊢
      have s24 := s2.trans (s3.trans s4)
      refine ⟨l, m2, xs, [.ref q, .ref q, .ref q], rfl, rfl, s24 _ _ hl, hm2, (by rw [sizeLine_eq]; show xs.length + 3 ≤ _; omega), fun p np => ?_⟩
      have s5 : Same H4 (upd H4 p (.lst (xs ++ [.ref q, .ref q, .ref q]))) := same_upd np
      have hp : upd H4 p (.lst (xs ++ [.ref q, .ref q, .ref q])) p = some (.lst (xs ++ [.ref q, .ref q, .ref q])) := upd_same
      generalize upd H4 p (.lst (xs ++ [.ref q, .ref q, .ref q])) = H5 at s5 hp ⊢
      have s25 := s24.trans s5
      have th1 : Th K H5 (.ref q) (.tuple [.str "", .int (x.length : Int), .bool true]) := .tup (SqT.of (((s3.trans s4).trans s5) _ _ hq)) (.cons (.str _) (.cons (.int _) (.cons (.bl _) .nil)))
      have R : RowsAt K H5 p TT x.length := ⟨⟨_, hp, thAll_app (thAll_same s25 th) (.cons th1 (.cons th1 (.cons th1 .nil)))⟩, lex.words, fun t mt => by have := (lb.1 t mt).2; omega, lex.ok⟩
      refine on_go (sq_asg ?_)
      refine ⟨_, rfl, p, TT, x.length, rfl, R, fun H6 s6 => on_go (go_ret ?_)⟩
      have R6 := R.same s6
      have z := k H6 (s1.trans (s25.trans s6))
      rw [er] at z
      have eo : outR TT none x.length = (lstop TT).map fun j => plcT TT j x.length + 1 := by
        rw [← stop_eq lex.words]
        unfold outR optX
        cases (ruleX TT).2 <;> rfl
      rw [eo] at z
      have lj : ∀ j, lstop TT = some j → j ≤ TT.length := fun j e => by
        rw [← stop_eq lex.words] at e
        exact ruleX_le e
      cases e : lstop TT with
      | none =>
        rw [e] at z
        exact ⟨_, rfl, rfl, _, rfl, iteT' rfl z⟩
      | some j =>
        rw [e] at z
        have := lj j e
        refine ⟨_, rfl, rfl, _, rfl, iteF' rfl (row_p j 2 rfl R6 (by omega) (fun Z z => ⟨_, rfl, z⟩) ⟨_, _, rfl, rfl, z⟩)⟩
def spDue (K : PySem.W.Frag) : Sp := fun vs H Q _ => ∃ (c : Nat) (x : Str) (o : Out), vs = [.int (c : Int), .str x] ∧ Told c x o ∧ ∀ (u : V) (H' : Hp), Same H H' → Th K H' u (outD o) → Q u H'
theorem sc_due : FnScope ["choice", "text", "column", "count", "line", "row", "sign"] ["choice", "text"] (defScope s_due) := ⟨rfl, rfl, rfl, by decide +kernel, rfl, by decide +kernel, by decide +kernel⟩
theorem cal_due (D : Def1 K mg "_law_due" s_due) (G : Glb mg) (CR : Cal P w K mg base 4 "_law_row_due" spRowDue) : Cal P w K mg base 5 "_law_due" (spDue K) := by
  refine mkCal D sc_due (fun _ _ _ _ _ _ us hl => match us, hl with | [_, _], _ => rfl) (fun vs H Q E h => ?_) (fun f cdv A outer s H vs Q E hr h => ?_)
  · obtain ⟨c, x, o, rfl, _⟩ := h
    rfl
  · obtain ⟨c, x, o, rfl, ⟨hx, tld⟩, k⟩ := h
    refine ⟨_, (pss_cons (ps_if (pt_cmpR op_eq (pv 0) pe_int (nomark _)) (pss_cons (ps_set (i := 2) sc_due.nd rfl (.inl rfl) (pe_cal CR hr (by omega) (pa_cons (pv 1) pa_nil)))
    (pss_one (ps_ret (pe_ifExp (pt_cmpR op_isN (pv 2) pe_non (nomark _)) pe_non (pe_tup (pa_cons pe_int (pa_cons (pv 2) pa_nil))))))) pss_nil)
    (pss_cons (ps_set (i := 3) sc_due.nd rfl (.inl rfl) pe_int)
    (pss_cons (ps_for PassesOwn.never rfl (pi_enum (by rfl) G.enumerate (pa_cons (pe_split (pv 1) pe_str) pa_nil)) (pg_tup rfl (pgs_cons (pg_name (i := 4) sc_due.nd rfl (.inl rfl)) (pgs_cons (pg_name (i := 5) sc_due.nd rfl (.inl rfl)) pgs_nil)))
    (pss_one (ps_if (pt_cmpR (op_neNil hr.units) (pe_lc (own := [("sign", 6)]) (g := gName 6) (by rfl) sc_due.nd (pi_str (pv 5)) (blkOk_by (own := [("sign", 6)]) (N := ["choice", "text", "column", "count", "line", "row", "sign"]) (sc := defScope s_due) (by decide +kernel)) (fun _ _ _ _ _ => pg_name (i := 6) sc_due.nd rfl (Or.inl rfl)) (fun _ _ _ _ _ => pts_one (pt_cmpR op_notInS (pv 6) pe_str (by rfl))) (fun _ _ _ _ _ => (pv 6))) (pe_lst pa_nil) (nomark _)) (pss_cons (ps_set (i := 2) sc_due.nd rfl (.inl rfl) (pe_cal CR hr (by omega) (pa_cons (pv 5) pa_nil)))
    (pss_cons (ps_if (pt_cmpR op_notN (pv 2) pe_non (nomark _)) (pss_one (ps_ret (pe_tup (pa_cons (pe_op op_add (pv 4) pe_int) (pa_cons (pv 2) pa_nil))))) pss_nil)
    (pss_one (ps_set (i := 3) sc_due.nd rfl (.inl rfl) (pe_op op_add (pv 3) pe_int))))) pss_nil)))
    (pss_one (ps_ret (pe_ifExp (pt_cmpR op_gt (pv 3) pe_int (nomark _)) (pe_tup (pa_cons pe_str (pa_cons pe_int pa_nil))) pe_non)))))), ?_⟩
    refine sq_if (go_if ⟨_, rfl, rfl, _, rfl, ?_⟩)
    rcases tld with ⟨rfl, T, r, lex, rfl⟩ | ⟨rfl, L, po, rfl⟩
    · refine iteT' rfl (sq_asg ?_)
      refine ⟨_, rfl, x, T, r, rfl, hx, lex, fun H1 s1 => on_go (go_ret ⟨_, rfl, rfl, _, rfl, ?_⟩)⟩
      unfold out0 at k
      cases e : outR T r x.length with
      | none =>
        rw [e] at k
        exact iteT' rfl (k _ H1 s1 .non)
      | some c =>
        rw [e] at k
        refine iteF' rfl ⟨_, rfl, (by show 2 ≤ sizeLine; decide), fun p np => ?_⟩
        exact k _ _ (s1.trans (same_upd np)) (.tup (SqT.of upd_same) (.cons (.int _) (.cons (.int _) .nil)))
    · refine iteF' rfl (nxt_go (sq_asg (on_go (sq_for ?_))))
      have esp : Txt.split x "\n" = L.map (·.x) := by
        rw [po.ex]
        exact TL.split_join (s := 10) (S := []) (by decide +kernel) (by decide +kernel) (fun z => po.ne (List.map_eq_nil_iff.mp z)) fun p mp => by
          obtain ⟨c, mc, rfl⟩ := List.mem_map.mp mp
          exact (po.each c mc).1
      refine ⟨_, rfl, ⟨_, rfl⟩, x, "\n", rfl, rfl, by decide +kernel, by rw [sizeLine_eq]; omega, ?_⟩
      rw [esp]
      intro a na
      have s1 : Same H (upd H a (.lst ((L.map (·.x)).map V.str))) := same_upd na
      have ha : upd H a (.lst ((L.map (·.x)).map V.str)) a = some (.lst ((L.map (·.x)).map V.str)) := upd_same
      generalize upd H a (.lst ((L.map (·.x)).map V.str)) = H1 at s1 ha ⊢
      refine ⟨a, _, rfl, SqL.of ha, for_enum (K := K) (a := a) (xs := (L.map (·.x)).map V.str) (fun i σ H' => ∃ (c : Nat) (v2 v4 v5 : Option V), σ = [some (.int (1 : Nat)), some (.str x), v2, some (.int (c : Int)), v4, v5, none] ∧ Same H H' ∧ H' a = some (.lst ((L.map (·.x)).map V.str)) ∧ bookO L 0 0 = bookO (L.drop i) i c)
        ⟨0, _, _, _, rfl, s1, ha, rfl⟩ (fun i σ H' ⟨_, _, _, _, _, _, h, _⟩ => SqL.of h) ?_ ?_⟩
      · rintro i y σ H2 tt hy nt ⟨c, v2, v4, v5, rfl, s2, ha2, eo⟩
        obtain ⟨p, hp, rfl⟩ := Option.map_eq_some_iff.mp ((List.getElem?_map ..).symm.trans hy)
        obtain ⟨d, hd, rfl⟩ := Option.map_eq_some_iff.mp ((List.getElem?_map ..).symm.trans hp)
        have md := List.mem_of_getElem? hd
        have il := (List.getElem?_eq_some_iff.mp hd).1
        have ed : L.drop i = d :: L.drop (i + 1) := by
          rw [← (List.getElem?_eq_some_iff.mp hd).2]
          exact (List.getElem_cons_drop (h := il)).symm
        rw [ed] at eo
        have eo : bookO L 0 0 = (match partO d with
          | some col => .prob (i + 1) col
          | none => bookO (L.drop (i + 1)) (i + 1) (if d.T = [] then c else c + 1)) := eo
        obtain ⟨_, lex, lc⟩ := po.each d md
        have u3 := same_upd (o := .tup [.int (i : Int), .str d.x]) nt
        have h3 : upd H2 tt (.tup [.int (i : Int), .str d.x]) tt = some (.tup [.int (i : Int), .str d.x]) := upd_same
        generalize upd H2 tt (.tup [.int (i : Int), .str d.x]) = H3 at u3 h3 ⊢
        refine ⟨tt, _, rfl, SqT.of h3, rfl, _, _, rfl, _, _, rfl, rfl, go_if ?_⟩
        refine ⟨_, rfl, d.x, rfl, fun D nD => ?_⟩
        have s03 := s2.trans u3
        have ha3 := u3 _ _ ha2
        have naD : a ≠ D := ne_of_none ha3 nD
        refine lc_str (x := d.x) (fun pre H' => Same H3 H' ∧ ∃ ys : List V, H' D = some (.lst ys) ∧ ys.length ≤ pre.length ∧ ys.isEmpty = pre.all blB)
          ⟨same_upd nD, [], upd_same, Nat.le_refl _, rfl⟩ ?_ ?_
        · rintro pre c' post H' hsplit ⟨sH, ys, hD, hl, hi⟩
          refine ⟨rfl, _, rfl, c', " \t", rfl, rfl, _, rfl, ?_⟩
          rw [blank_has]
          have hpl : pre.length ≤ 100000 := by
            rw [TL.len_tl, hsplit, List.length_append] at lc
            omega
          cases hb : blB c' with
          | true =>
            exact iteF' rfl ⟨sH, ys, hD, by rw [List.length_append]; omega, by rw [List.all_append, List.all_cons, hb, hi]; simp⟩
          | false =>
            refine iteT' rfl ⟨_, rfl, _, hD, Nat.lt_of_le_of_lt (Nat.le_trans hl hpl) (by decide), same_mut sH nD, ys ++ [.str (sg c')], upd_same, by rw [List.length_append, List.length_append]; simp; omega, ?_⟩
            rw [List.all_append, List.all_cons, hb]
            simp
        · rintro H4 ⟨s4, ys, hD, hl, hi⟩
          refine lst_nil fun q nq => ?_
          have nDq : D ≠ q := ne_of_none hD nq
          have s5 := same_upd (o := .lst []) nq
          have hq5 : upd H4 q (.lst []) q = some (.lst []) := upd_same
          have hD5 := s5 _ _ hD
          generalize upd H4 q (.lst []) = H5 at s5 hq5 hD5 ⊢
          have s35 := s4.trans s5
          refine ⟨D, q, ys, rfl, rfl, SqL.of hD5, SqL.of hq5, _, rfl, ?_⟩
          rw [hi]
          have bi := lex.blank_iff
          cases hb : (TL.tl d.x).all blB with
          | true =>
            have z := bi.mp hb
            have ep : partO d = none := by
              unfold partO
              exact if_pos z
            rw [ep, if_pos z.1] at eo
            exact iteF' rfl (nxt_go ⟨c, _, _, _, rfl, s03.trans s35, s35 _ _ ha3, eo⟩)
          | false =>
            have z : ¬ (d.T = [] ∧ d.r = none) := fun y => by
              rw [bi.mpr y] at hb
              exact nomatch hb
            have ep : partO d = outR d.T d.r d.x.length := by
              unfold partO
              exact if_neg z
            rw [ep] at eo
            refine iteT' rfl (sq_asg ?_)
            refine ⟨_, rfl, d.x, d.T, d.r, rfl, lc, lex, fun H6 s6 => on_go (sq_if (go_if ⟨_, rfl, rfl, _, rfl, ?_⟩))⟩
            have s06 := (s03.trans s35).trans s6
            cases e : outR d.T d.r d.x.length with
            | some col =>
              rw [e] at eo
              refine iteT' rfl (go_ret ⟨_, rfl, _, _, rfl, rfl, _, rfl, (by show 2 ≤ sizeLine; decide), fun p np => ?_⟩)
              refine k _ _ (s06.trans (same_upd np)) ?_
              rw [eo]
              exact .tup (SqT.of upd_same) (.cons (.int _) (.cons (.int _) .nil))
            | none =>
              rw [e] at eo
              have nT : d.T ≠ [] := fun y => by
                have nr : d.r ≠ none := fun w => z ⟨y, w⟩
                cases hr' : d.r with
                | none => exact nr hr'
                | some q' =>
                  rw [hr'] at e
                  exact nomatch e
              rw [if_neg nT] at eo
              refine iteF' rfl (nxt_go ⟨_, rfl, _, _, rfl, rfl, c + 1, _, _, _, rfl, s06, (s35.trans s6) _ _ ha3, eo⟩)
      · rintro σ H2 ⟨c, v2, v4, v5, rfl, s2, ha2, eo⟩
        rw [List.length_map, List.length_map, List.drop_length] at eo
        have eo : bookO L 0 0 = (if 6 < c then .many else .fine) := eo
        refine ends_go (go_ret ⟨_, rfl, _, _, rfl, rfl, _, rfl, ?_⟩)
        by_cases h6 : 6 < c
        · rw [if_pos h6] at eo
          refine iteT' (decide_eq_true (by omega)) ⟨(by show 2 ≤ sizeLine; decide), fun p np => ?_⟩
          refine k _ _ (s2.trans (same_upd np)) ?_
          rw [eo]
          exact .tup (SqT.of upd_same) (.cons (.str _) (.cons (.int _) .nil))
        · rw [if_neg h6] at eo
          refine iteF' (decide_eq_false (by omega)) (k _ _ s2 ?_)
          rw [eo]
          exact .non
end
end Lk

/-! K91n -/
set_option Elab.async false
set_option linter.all false
set_option maxRecDepth 100000
set_option maxHeartbeats 4000000
namespace Lk
open PySem PySem.Spec PyProof.Rows L2
section
variable {P : Program} {w : World} {K : PySem.W.Frag} {mg : Str → Option Value} {base : Heap}
theorem sc_pick : FnScope ["pot", "items"] ["pot", "items"] (defScope s_pick) := ⟨rfl, rfl, rfl, by decide +kernel, rfl, by decide +kernel, by decide +kernel⟩
theorem cal_pick (D : Def1 K mg "_law_pick" s_pick) (T : Glb mg) (CB : Cal P w K mg base 2 "_law_below" spBelow) : Cal P w K mg base 3 "_law_pick" (spPick K) := by
  refine mkCal D sc_pick (fun _ _ _ _ _ _ us hl => match us, hl with | [_, _], _ => rfl) (fun vs H Q E h => ?_) (fun f cdv A outer s H vs Q E hr h => ?_)
  · obtain ⟨p, c, l, xs, rfl, _⟩ := h
    rfl
  · obtain ⟨p, c, l, xs, rfl, hP, hS, nl, h0, h1, k⟩ := h
    refine ⟨_, pss_one (ps_ret (pe_ix ix_list (pv 1) (pe_cal CB hr (by decide) (pa_cons (pv 0) (pa_cons (pe_callB call_len_seq (by rfl) T.len PySem.boot_len (pa_cons (pv 1) pa_nil)) pa_nil))) (fun _ _ => rfl))), ?_⟩
    refine ⟨_, rfl, _, rfl, _, rfl, l, xs, rfl, .inl hS, p, c, _, rfl, hP, by omega, by omega, fun r H' r0 r1 e => ?_⟩
    obtain ⟨v, hv, hg⟩ := atI_lt (xs := xs) r0 r1
    exact ⟨l, xs, r, v, rfl, rfl, e.seq nl hS, hv, k v H' (List.mem_of_getElem? hg) e⟩
end
end Lk

/-! K91h -/
set_option Elab.async false
set_option linter.all false
set_option maxRecDepth 100000
set_option maxHeartbeats 4000000
namespace Lk
open PySem PySem.Spec PyProof.Rows L2
inductive Src
  | pat (b e : Str)
  | nm (x : Str)
def Src.d : Src → PyData
  | .pat b e => .tuple [.str b, .str e]
  | .nm x => .str x
/-- the drawn sources -/
def SrcOk : Src → Prop
  | .pat b e => b ∈ (["", "A", "B", "AB"] : List Str) ∧ e ∈ (["", "c", "o", "s", "co"] : List Str) ∧ ¬ (b = "" ∧ e = "")
  | .nm x => x ∈ (["A", "Ac", "Bo", "s", "Ao"] : List Str)
section
variable {P : Program} {w : World} {K : PySem.W.Frag} {mg : Str → Option Value} {base : Heap}
def spWhole (K : PySem.W.Frag) : Sp := fun vs H Q _ => ∃ b e : Str, vs = [.str b, .str e] ∧ b.length + e.length ≤ 1000 ∧ ∀ p H' b' e', Same H H' → H' p = some (.tup [.str b', .str e']) → ((b' = b ∧ e' = e ∧ ¬ (b = "" ∧ e = "")) ∨ (b' = "" ∧ e' = "c")) → Q (.ref p) H'
theorem sc_whole : FnScope ["begin", "end"] ["begin", "end"] (defScope s_whole) := ⟨rfl, rfl, rfl, by decide +kernel, rfl, by decide +kernel, by decide +kernel⟩
theorem cal_whole (D : Def1 K mg "_law_whole" s_whole) : Cal P w K mg base 1 "_law_whole" (spWhole K) := by
  refine mkCal D sc_whole (fun _ _ _ _ _ _ us hl => match us, hl with | [_, _], _ => rfl) (fun vs H Q E h => ?_) (fun f cdv A outer s H vs Q E hr h => ?_)
  · obtain ⟨b, e, rfl, _⟩ := h
    rfl
  · obtain ⟨b, e, rfl, l, k⟩ := h
    refine ⟨_, pss_one (ps_ret (pe_ifExp (pt_cmpR op_ne (pe_op op_add_str (pv 0) (pv 1)) pe_str (nomark _)) (pe_tup (pa_cons (pv 0) (pa_cons (pv 1) pa_nil))) (pe_tup (pa_cons pe_str (pa_cons pe_str pa_nil))))), ?_⟩
    refine ⟨_, rfl, _, rfl, b, e, rfl, rfl, Nat.le_trans l (by decide), rfl, _, rfl, ?_⟩
    have eb : b ++ e = "" ↔ (b = "" ∧ e = "") := by
      rw [← tl_nil_iff, TL.tl_append, List.append_eq_nil_iff, tl_nil_iff, tl_nil_iff]
    refine ite2 (fun hne => ?_) (fun hne => ?_)
    · refine ⟨_, rfl, _, rfl, (by show 2 ≤ sizeLine; decide), fun p np => k p _ b e (same_upd np) upd_same (.inl ⟨rfl, rfl, fun z => ?_⟩)⟩
      rw [eb.mpr z] at hne
      exact absurd hne (by decide)
    · exact ⟨(by show 2 ≤ sizeLine; decide), fun p np => k p _ "" "c" (same_upd np) upd_same (.inr ⟨rfl, rfl⟩)⟩
def spSrc (K : PySem.W.Frag) : Sp := fun vs H Q _ => ∃ (p c : Addr), vs = [.ref p] ∧ PotAt p c H ∧ ∀ (v : V) (s : Src) (H' : Hp), SrcOk s → Ext p c H H' → Th K H' v s.d → Q v H'
theorem sc_some_source : FnScope ["pot"] ["pot"] (defScope s_some_source) := ⟨rfl, rfl, rfl, by decide +kernel, rfl, by decide +kernel, by decide +kernel⟩
theorem cal_some_source (D : Def1 K mg "_law_some_source" s_some_source) (CB : Cal P w K mg base 2 "_law_below" spBelow) (CP : Cal P w K mg base 3 "_law_pick" (spPick K)) (CW : Cal P w K mg base 1 "_law_whole" (spWhole K)) : Cal P w K mg base 4 "_law_some_source" (spSrc K) := by
  refine mkCal D sc_some_source (fun _ _ _ _ _ _ us hl => match us, hl with | [_], _ => rfl) (fun vs H Q E h => ?_) (fun f cdv A outer s H vs Q E hr h => ?_)
  · obtain ⟨p, c, rfl, _⟩ := h
    rfl
  · obtain ⟨p, c, rfl, hP, k⟩ := h
    refine ⟨_, pss_cons (ps_if (pt_cmpR op_eq (pe_cal CB hr (by decide) (pa_cons (pv 0) (pa_cons pe_int pa_nil))) pe_int (nomark _)) (pss_one (ps_ret (pe_cal CP hr (by decide) (pa_cons (pv 0) (pa_cons (pe_lst (pa_cons pe_str (pa_cons pe_str (pa_cons pe_str (pa_cons pe_str (pa_cons pe_str pa_nil)))))) pa_nil))))) pss_nil)
      (pss_one (ps_ret (pe_cal CW hr (by decide) (pa_cons (pe_cal CP hr (by decide) (pa_cons (pv 0) (pa_cons (pe_lst (pa_cons pe_str (pa_cons pe_str (pa_cons pe_str (pa_cons pe_str (pa_cons pe_str pa_nil)))))) pa_nil)))
        (pa_cons (pe_cal CP hr (by decide) (pa_cons (pv 0) (pa_cons (pe_lst (pa_cons pe_str (pa_cons pe_str (pa_cons pe_str (pa_cons pe_str (pa_cons pe_str (pa_cons pe_str pa_nil))))))) pa_nil))) pa_nil))))), ?_⟩
    refine ⟨_, rfl, p, c, 5, rfl, hP, by decide, by decide, fun r H1 r0 r1 e1 => ⟨rfl, _, rfl, ?_⟩⟩
    have one : ∀ {H : Hp} {v : V} {x : Str}, Th K H v (.str x) → v = .str x := fun h => by
      cases h
      rfl
    refine ite2 (fun _ => ?_) (fun _ => ?_)
    · refine pick_new (K := K) (p := p) (c := c) (i := 0) (mk_cons mk_str (mk_cons mk_str (mk_cons mk_str (mk_cons mk_str (mk_cons mk_str mk_nil))))) rfl (by show 0 < 5; decide) (by show 5 ≤ 1000; decide) e1.pot rfl fun v d H2 hd ht e2 => ?_
      obtain ⟨x, hx, rfl⟩ : ∃ x, x ∈ (["A", "Ac", "Bo", "s", "Ao"] : List Str) ∧ d = .str x := by
        simp only [List.mem_cons, List.mem_nil_iff, or_false] at hd
        rcases hd with rfl | rfl | rfl | rfl | rfl <;> exact ⟨_, by simp, rfl⟩
      exact k v (.nm x) H2 hx (e1.trans e2) ht
    · refine pick_new (K := K) (p := p) (c := c) (i := 0) (mk_cons mk_str (mk_cons mk_str (mk_cons mk_str (mk_cons mk_str (mk_cons mk_str mk_nil))))) rfl (by show 0 < 5; decide) (by show 5 ≤ 1000; decide) e1.pot rfl fun v d H2 hd ht e2 => ?_
      obtain ⟨b, hb, rfl⟩ : ∃ x, x ∈ (["", "A", "B", "AB"] : List Str) ∧ d = .str x := by
        simp only [List.mem_cons, List.mem_nil_iff, or_false] at hd
        rcases hd with rfl | rfl | rfl | rfl | rfl <;> exact ⟨_, by simp, rfl⟩
      obtain rfl := one ht
      refine pick_new (K := K) (p := p) (c := c) (i := 0) (mk_cons mk_str (mk_cons mk_str (mk_cons mk_str (mk_cons mk_str (mk_cons mk_str (mk_cons mk_str mk_nil)))))) rfl (by show 0 < 6; decide) (by show 6 ≤ 1000; decide) e2.pot rfl fun v2 d2 H3 hd2 ht2 e3 => ?_
      obtain ⟨e, he, rfl⟩ : ∃ x, x ∈ (["", "c", "o", "s", "co"] : List Str) ∧ d2 = .str x := by
        simp only [List.mem_cons, List.mem_nil_iff, or_false] at hd2
        rcases hd2 with rfl | rfl | rfl | rfl | rfl | rfl <;> exact ⟨_, by simp, rfl⟩
      obtain rfl := one ht2
      have l1 : ∀ x : Str, x ∈ (["", "A", "B", "AB"] : List Str) → x.length ≤ 2 := by decide +kernel
      have l2 : ∀ x : Str, x ∈ (["", "c", "o", "s", "co"] : List Str) → x.length ≤ 2 := by decide +kernel
      have l3 := l1 b hb
      have l4 := l2 e he
      refine ⟨b, e, rfl, by omega, fun q H4 b' e' s4 hq how => ?_⟩
      refine k (.ref q) (.pat b' e') H4 ?_ (((e1.trans e2).trans e3).same s4) (.tup (.inl (.inl hq)) (.cons (.str _) (.cons (.str _) .nil)))
      rcases how with ⟨rfl, rfl, n⟩ | ⟨rfl, rfl⟩
      · exact ⟨hb, he, n⟩
      · exact ⟨by simp, by simp, by decide⟩
structure Rl where
  lab : Str
  b : Str
  e : Str
  ss : List Src
def Rl.d (r : Rl) : PyData := .tuple [.str r.lab, .tuple [.str r.b, .str r.e], .tuple (r.ss.map Src.d)]
structure RlOk (most : Nat) (r : Rl) : Prop where
  lab : r.lab ∈ (["cc", "as", "link"] : List Str)
  b : r.b ∈ (["", "A", "B"] : List Str)
  e : r.e ∈ (["o", "c", "", "s"] : List Str)
  ne : ¬ (r.b = "" ∧ r.e = "")
  ss : ∀ s ∈ r.ss, SrcOk s
  len : r.ss.length ≤ most
theorem src_flat (s : Src) : noLst s.d = true ∧ noPot s.d = true := by
  cases s <;> exact ⟨rfl, rfl⟩
theorem srcs_flat : ∀ ss : List Src, noLstAll (ss.map Src.d) = true ∧ noPotAll (ss.map Src.d) = true
  | [] => ⟨rfl, rfl⟩
  | s :: r => ⟨by rw [List.map_cons, noLstAll, (src_flat s).1, (srcs_flat r).1]; rfl, by rw [List.map_cons, noPotAll, (src_flat s).2, (srcs_flat r).2]; rfl⟩
theorem rl_flat (r : Rl) : noLst r.d = true ∧ noPot r.d = true := by
  obtain ⟨a, b⟩ := srcs_flat r.ss
  refine ⟨?_, ?_⟩
  · simp [Rl.d, noLst, noLstAll, a]
  · simp [Rl.d, noPot, noPotAll, b]
def spRule (K : PySem.W.Frag) : Sp := fun vs H Q _ => ∃ (p c : Addr) (m : Nat), vs = [.ref p, .int (m : Int)] ∧ m ≤ 100 ∧ PotAt p c H ∧ ∀ (v : V) (r : Rl) (H' : Hp), RlOk m r → Ext p c H H' → Th K H' v r.d → Q v H'
theorem sc_some_rule : FnScope ["pot", "most", "pattern", "sources", "lap"] ["pot", "most"] (defScope s_some_rule) := ⟨rfl, rfl, rfl, by decide +kernel, rfl, by decide +kernel, by decide +kernel⟩
theorem cal_some_rule (D : Def1 K mg "_law_some_rule" s_some_rule) (G : Glb mg) (ht : mg "tuple" = none) (CB : Cal P w K mg base 2 "_law_below" spBelow) (CP : Cal P w K mg base 3 "_law_pick" (spPick K)) (CW : Cal P w K mg base 1 "_law_whole" (spWhole K)) (CS : Cal P w K mg base 4 "_law_some_source" (spSrc K)) :
    Cal P w K mg base 5 "_law_some_rule" (spRule K) := by
  refine mkCal D sc_some_rule (fun _ _ _ _ _ _ us hl => match us, hl with | [_, _], _ => rfl) (fun vs H Q E h => ?_) (fun f cdv A outer s H vs Q E hr h => ?_)
  · obtain ⟨p, c, m, rfl, _⟩ := h
    rfl
  · obtain ⟨p, c, m, rfl, hm, hP, k⟩ := h
    refine ⟨_, pss_cons (ps_set (i := 2) sc_some_rule.nd rfl (.inl rfl) (pe_cal CW hr (by decide) (pa_cons (pe_cal CP hr (by decide) (pa_cons (pv 0) (pa_cons (pe_lst (pa_cons pe_str (pa_cons pe_str (pa_cons pe_str (pa_cons pe_str (pa_cons pe_str pa_nil)))))) pa_nil)))
        (pa_cons (pe_cal CP hr (by decide) (pa_cons (pv 0) (pa_cons (pe_lst (pa_cons pe_str (pa_cons pe_str (pa_cons pe_str (pa_cons pe_str (pa_cons pe_str pa_nil)))))) pa_nil))) pa_nil))))
      (pss_cons (ps_set (i := 3) sc_some_rule.nd rfl (.inl rfl) (pe_callTy call_tuple_of (by rfl) ht (by decide +kernel) (pa_cons (pe_lc (own := [("lap", 4)]) (g := gName 4) (tt := tYes) (by rfl) sc_some_rule.nd (pi_range1 (by rfl) G.range (pa_cons (pe_cal CB hr (by decide) (pa_cons (pv 0) (pa_cons (pe_op op_add (pv 1) pe_int) pa_nil))) pa_nil))
          (blkOk_by (own := [("lap", 4)]) (N := ["pot", "most", "pattern", "sources", "lap"]) (sc := defScope s_some_rule) (by decide +kernel)) (fun _ _ _ _ _ => pg_name (i := 4) sc_some_rule.nd rfl (Or.inl rfl)) (fun _ _ _ _ _ => pts_nil)
          (fun _ _ _ _ _ => pe_cal CS hr (by decide) (pa_cons (pv 0) pa_nil))) pa_nil)))
      (pss_one (ps_ret (pe_tup (pa_cons (pe_cal CP hr (by decide) (pa_cons (pv 0) (pa_cons (pe_lst (pa_cons pe_str (pa_cons pe_str (pa_cons pe_str pa_nil)))) pa_nil))) (pa_cons (pv 2) (pa_cons (pv 3) pa_nil))))))), ?_⟩
    have one : ∀ {H : Hp} {v : V} {x : Str}, Th K H v (.str x) → v = .str x := fun h => by
      cases h
      rfl
    refine set_read ?_
    refine pick_new (K := K) (p := p) (c := c) (i := 0) (mk_cons mk_str (mk_cons mk_str (mk_cons mk_str (mk_cons mk_str (mk_cons mk_str mk_nil))))) rfl (by show 0 < 5; decide) (by show 5 ≤ 1000; decide) hP rfl fun v d H1 hd ht1 e1 => ?_
    obtain ⟨b, hb, rfl⟩ : ∃ x, x ∈ (["", "A", "B"] : List Str) ∧ d = .str x := by
      simp only [List.mem_cons, List.mem_nil_iff, or_false] at hd
      rcases hd with rfl | rfl | rfl | rfl | rfl <;> exact ⟨_, by simp, rfl⟩
    obtain rfl := one ht1
    refine pick_new (K := K) (p := p) (c := c) (i := 0) (mk_cons mk_str (mk_cons mk_str (mk_cons mk_str (mk_cons mk_str (mk_cons mk_str mk_nil))))) rfl (by show 0 < 5; decide) (by show 5 ≤ 1000; decide) e1.pot rfl fun v2 d2 H2 hd2 ht2 e2 => ?_
    obtain ⟨e, he, rfl⟩ : ∃ x, x ∈ (["o", "c", "", "s"] : List Str) ∧ d2 = .str x := by
      simp only [List.mem_cons, List.mem_nil_iff, or_false] at hd2
      rcases hd2 with rfl | rfl | rfl | rfl | rfl <;> exact ⟨_, by simp, rfl⟩
    obtain rfl := one ht2
    have l1 : ∀ x : Str, x ∈ (["", "A", "B"] : List Str) → x.length ≤ 2 := by decide +kernel
    have l2 : ∀ x : Str, x ∈ (["o", "c", "", "s"] : List Str) → x.length ≤ 2 := by decide +kernel
    have l3 := l1 b hb
    have l4 := l2 e he
    refine ⟨b, e, rfl, by omega, fun q H3 b' e' s3 hq how => ?_⟩
    have ok : b' ∈ (["", "A", "B"] : List Str) ∧ e' ∈ (["o", "c", "", "s"] : List Str) ∧ ¬ (b' = "" ∧ e' = "") := by
      rcases how with ⟨rfl, rfl, n⟩ | ⟨rfl, rfl⟩
      · exact ⟨hb, he, n⟩
      · exact ⟨by simp, by simp, by decide⟩
    have x3 := (e1.trans e2).same s3
    have tq : Th K H3 (.ref q) (.tuple [.str b', .str e']) := .tup (.inl (.inl hq)) (.cons (.str _) (.cons (.str _) .nil))
    refine ⟨_, rfl, _, rfl, _, _, rfl, rfl, ?_⟩
    refine ⟨p, c, (m : Int) + 1, rfl, x3.pot, by omega, by omega, fun r H4 r0 r1 e4 => ⟨r, rfl, by omega, by omega, fun L nL => ?_⟩⟩
    refine grow (K := K) (p := p) (c := c) (σ := [some (.ref p), some (.int (m : Int)), some (.ref q), none, none]) (te := tCall (spSrc K) [] E0 (tCons (tVar 0) tNil)) (α := Src) (f := Src.d) (Ok := SrcOk) (n := r.toNat) (iv := 4) src_flat e4.pot nL (by omega) (fun _ => rfl) (fun x H' R hp q => ⟨_, rfl, p, c, rfl, hp, fun v s H2 ok e th => q v s H2 ok e th⟩) fun vs as H5 hD ta ok2 len e5 => ?_
    refine ⟨L, vs, rfl, .inl ⟨SqL.of hD, fun t nt => ?_⟩⟩
    have s6 : Same H5 (upd H5 t (.tup vs)) := same_upd nt
    have t6 : Th K (upd H5 t (.tup vs)) (.ref t) (.tuple (as.map Src.d)) := .tup (.inl (.inl upd_same)) (thAll_same s6 ta)
    generalize upd H5 t (.tup vs) = H6 at s6 t6 ⊢
    have x6 : Ext p c H H6 := ((x3.trans e4).trans e5).same s6
    have q6 : Th K H6 (.ref q) (.tuple [.str b', .str e']) := th_same s6 (th_ext e4.pot e5 (th_ext x3.pot e4 tq rfl) rfl)
    refine pick_new (K := K) (p := p) (c := c) (i := 0) (mk_cons mk_str (mk_cons mk_str (mk_cons mk_str mk_nil))) rfl (by show 0 < 3; decide) (by show 3 ≤ 1000; decide) x6.pot rfl fun v3 d3 H7 hd3 ht3 e7 => ?_
    obtain ⟨lab, hlab, rfl⟩ : ∃ x, x ∈ (["cc", "as", "link"] : List Str) ∧ d3 = .str x := by
      simp only [List.mem_cons, List.mem_nil_iff, or_false] at hd3
      rcases hd3 with rfl | rfl | rfl <;> exact ⟨_, by simp, rfl⟩
    obtain rfl := one ht3
    have q7 := th_ext x6.pot e7 q6 rfl
    have t7 := th_ext x6.pot e7 t6 (by simpa only [noPot] using (srcs_flat as).2)
    refine ⟨_, rfl, _, rfl, (by show 3 ≤ sizeLine; decide), fun z nz => ?_⟩
    have s8 : Same H7 (upd H7 z (.tup [.str lab, .ref q, .ref t])) := same_upd nz
    exact k (.ref z) ⟨lab, b', e', as⟩ _ ⟨hlab, ok.1, ok.2.1, ok.2.2, ok2, by rw [len]; omega⟩ ((x6.trans e7).same s8) (.tup (.inl (.inl upd_same)) (.cons (.str lab) (.cons (th_same s8 q7) (.cons (th_same s8 t7) .nil))))
end
end Lk

/-! K91N -/
set_option Elab.async false
set_option linter.all false
set_option maxRecDepth 100000
set_option maxHeartbeats 4000000
namespace Lk
open PySem PySem.Spec PyProof.Rows L2
section
variable {P : Program} {w : World} {K : PySem.W.Frag} {mg : Str → Option Value} {base : Heap}
/-! ### rules by their tokens -/
def starT (q : Nat) (e : Str) : List TkW := (q, "*") :: if e = "" then [] else [(q + 1, e)]
def patT (p : Nat) (b e : Str) : List TkW := if b = "" then starT p e else (p, b) :: starT (p + b.length) e
def srcTk (p : Nat) : Src → List TkW
  | .nm x => [(p, x)]
  | .pat b e => patT p b e
def srcLen : Src → Nat
  | .nm x => x.length
  | .pat b e => b.length + 1 + e.length
structure PatG (b e : Str) : Prop where
  cb : ∀ c ∈ TL.tl b, upB c = true
  ce : ∀ c ∈ TL.tl e, loB c = true
  lb : b.length ≤ 3
  le : e.length ≤ 3
  ne : ¬ (b = "" ∧ e = "")
def SrcG : Src → Prop
  | .nm x => dName (.str x) = true ∧ x.length ≤ 6
  | .pat b e => PatG b e
theorem cap_star {b : Str} (h : ∀ c ∈ TL.tl b, upB c = true) : b ≠ "*" := fun z => by
  rw [z, star_tl] at h
  exact absurd (h 42 List.mem_cons_self) (by decide)
theorem nm_star {x : Str} (h : dName (.str x) = true) : x ≠ "*" := fun z => by
  rw [z] at h
  exact absurd h (by decide +kernel)
theorem nm_ne {x : Str} (h : dName (.str x) = true) : x ≠ "" := fun z => by
  rw [z] at h
  exact absurd h (by decide +kernel)
theorem lo_lt2 {c : Nat} (h : loB c = true) : ltB c = true := by
  unfold ltB
  rw [h, Bool.or_true]
/-- places in a list that is put together -/
theorem at_mid {α : Type} {a b : List α} {t : α} {n : Nat} (h : a.length = n) : (a ++ t :: b)[n]? = some t := by
  subst h
  rw [List.getElem?_append_right (Nat.le_refl _), Nat.sub_self]
  rfl
theorem at_next {α : Type} {a b : List α} {n : Nat} (h : a.length = n) : (a ++ b)[n]? = b.head? := by
  subst h
  rw [List.getElem?_append_right (Nat.le_refl _), Nat.sub_self]
  cases b <;> rfl
theorem at_prev {α : Type} {a b : List α} {t : α} {n : Nat} (h : a.length = n) : (a ++ t :: b)[n + 1 - 1]? = some t := at_mid (by omega)
theorem next_mid {a b : List TkW} {t : TkW} {n : Nat} (h : a.length = n) : nextW (a ++ t :: b) n = t.2 := by
  unfold nextW
  rw [at_mid h]
theorem jn_mid {a b : List TkW} {t u : TkW} {n : Nat} (h : a.length + 1 = n) : jnB (a ++ t :: u :: b) n = decide (u.1 = t.1 + t.2.length) := by
  unfold jnB
  have e1 : (a ++ t :: u :: b)[n - 1]? = some t := at_mid (by omega)
  have e2 : (a ++ t :: u :: b)[n]? = some u := by
    have z : a ++ t :: u :: b = (a ++ [t]) ++ u :: b := by simp
    rw [z]
    exact at_mid (by simp; omega)
  rw [e1, e2]
theorem jn_head {a b : List TkW} {t : TkW} {n : Nat} (h : a.length + 1 = n) (no : ∀ u, b.head? = some u → u.1 ≠ t.1 + t.2.length) : jnB (a ++ t :: b) n = false := by
  cases b with
  | nil =>
    unfold jnB
    rw [List.getElem?_eq_none (l := a ++ [t]) (i := n) (by simp; omega)]
    cases (a ++ [t])[n - 1]? <;> rfl
  | cons u b =>
    rw [jn_mid h]
    exact decide_eq_false (no u rfl)
structure PatIn (T done rest : List TkW) (q : Nat) (b e : Str) : Prop where
  t : T = done ++ (starT q e ++ rest)
  g : PatG b e
  jn : b ≠ "" → 1 ≤ done.length ∧ jnB T done.length = true
  tail : e = "" → ∀ u, rest.head? = some u → u.1 = q + 1 → ∃ c v, TL.tl u.2 = c :: v ∧ ltB c = false
/-! ### sources and rules that are read -/
theorem pat_srcG {b e : Str} (h : SrcG (.pat b e)) : PatG b e := h
theorem srcTk_head (p : Nat) (s : Src) : ∃ t r, srcTk p s = t :: r ∧ t.1 = p := by
  cases s with
  | nm x => exact ⟨_, _, rfl, rfl⟩
  | pat b e =>
    show ∃ t r, patT p b e = t :: r ∧ t.1 = p
    unfold patT
    by_cases h : b = ""
    · rw [if_pos h]
      exact ⟨_, _, rfl, rfl⟩
    · rw [if_neg h]
      exact ⟨_, _, rfl, rfl⟩
theorem starT_last (q : Nat) (e : Str) : ∃ i t, starT q e = i ++ [t] ∧ t.1 + t.2.length = q + 1 + e.length := by
  unfold starT
  by_cases h : e = ""
  · rw [if_pos h, h]
    exact ⟨[], (q, "*"), rfl, rfl⟩
  · rw [if_neg h]
    exact ⟨[(q, "*")], (q + 1, e), rfl, rfl⟩
theorem srcTk_last (p : Nat) (s : Src) : ∃ i t, srcTk p s = i ++ [t] ∧ t.1 + t.2.length = p + srcLen s := by
  cases s with
  | nm x => exact ⟨[], (p, x), rfl, rfl⟩
  | pat b e =>
    show ∃ i t, patT p b e = i ++ [t] ∧ t.1 + t.2.length = p + (b.length + 1 + e.length)
    unfold patT
    by_cases h : b = ""
    · rw [if_pos h, h]
      obtain ⟨i, t, e1, e2⟩ := starT_last p e
      refine ⟨i, t, e1, ?_⟩
      rw [e2]
      show p + 1 + e.length = p + (0 + 1 + e.length)
      omega
    · rw [if_neg h]
      obtain ⟨i, t, e1, e2⟩ := starT_last (p + b.length) e
      refine ⟨(p, b) :: i, t, by rw [e1]; rfl, ?_⟩
      omega
structure SrcIn (T done rest : List TkW) (p : Nat) (s : Src) : Prop where
  t : T = done ++ (srcTk p s ++ rest)
  g : SrcG s
  gap : ∀ u, rest.head? = some u → u.1 ≠ p + srcLen s
theorem src_onlyT (s : Src) : onlyT s.d = true := by cases s <;> rfl
theorem srcs_onlyT : ∀ ss : List Src, onlyTs (ss.map Src.d) = true
  | [] => rfl
  | s :: ss => by
    rw [List.map_cons, onlyTs, src_onlyT, srcs_onlyT ss]
    rfl
theorem RowAt.tups {H H' : Hp} {C o l : Addr} {T : List TkW} {k : Nat} (R : RowAt K C H o l T k) (b : But o H H') : Tups H H' := by
  obtain ⟨dx, fs, _, ho, _⟩ := R.ob
  exact but_ins b ho
/-! ### all sources, a rule -/
abbrev PSrc := Nat × Src
def flatT (L : List PSrc) : List TkW := L.flatMap fun c => srcTk c.1 c.2
theorem flat_app (L M : List PSrc) : flatT (L ++ M) = flatT L ++ flatT M := List.flatMap_append
theorem flat_one (c : PSrc) : flatT [c] = srcTk c.1 c.2 := by
  show [c].flatMap _ = _
  simp
theorem flat_cons (c : PSrc) (L : List PSrc) : flatT (c :: L) = srcTk c.1 c.2 ++ flatT L := List.flatMap_cons
structure SrcsIn (T done : List TkW) (L : List PSrc) : Prop where
  t : T = done ++ flatT L
  d1 : 1 ≤ done.length
  few : L.length ≤ 3
  g : ∀ c ∈ L, SrcG c.2
  gap : ∀ i a b, L[i]? = some a → L[i + 1]? = some b → b.1 ≠ a.1 + srcLen a.2
theorem flat_pos {L : List PSrc} (h : L ≠ []) : 0 < (flatT L).length := by
  cases L with
  | nil => exact absurd rfl h
  | cons c L =>
    obtain ⟨t, r, e, _⟩ := srcTk_head c.1 c.2
    rw [flat_cons, e, List.length_append, List.length_cons]
    omega
structure RuleIn (r : Rl) (T : List TkW) : Prop where
  lab : dLabel (.str r.lab) = true
  g : PatG r.b r.e
  t : ∃ (p0 p1 p2 p3 : Nat) (L : List PSrc), T = (p0, r.lab) :: (p1, (":" : Str)) :: (patT p2 r.b r.e ++ (p3, ("<" : Str)) :: flatT L) ∧ L.map (·.2) = r.ss ∧ L.length ≤ 3 ∧ (∀ c ∈ L, SrcG c.2) ∧ ∀ i a b, L[i]? = some a → L[i + 1]? = some b → b.1 ≠ a.1 + srcLen a.2
theorem lab_len {x : Str} (h : dLabel (.str x) = true) : x.length ≤ 8 := by
  have h2 : (decide (1 ≤ x.length) && (decide (x.length ≤ 8) && (TL.tl x).all loB)) = true := h
  rw [Bool.and_eq_true, Bool.and_eq_true, decide_eq_true_eq, decide_eq_true_eq] at h2
  exact h2.2.1
/-! ### texts of rules and books -/
def srcT : Src → Str
  | .nm x => x
  | .pat b e => Txt.join "*" [b, e]
theorem join_eq (sep : Str) (l : List Str) : Txt.join sep l = Str.join sep l := StrLaws.glued_eq_join sep l
def srcB : Src → Prop
  | .nm x => x.length ≤ 1000
  | .pat b e => b.length ≤ 1000 ∧ e.length ≤ 1000
theorem srcG_b {s : Src} (h : SrcG s) : srcB s := by
  cases s with
  | nm x => exact Nat.le_trans (show x.length ≤ 6 from h.2) (by decide)
  | pat b e => exact ⟨Nat.le_trans (pat_srcG h).lb (by decide), Nat.le_trans (pat_srcG h).le (by decide)⟩
theorem star_join (b e : Str) : Txt.join "*" [b, e] = b ++ "*" ++ e := by
  rw [join_eq]
  rfl
theorem srcT_len2 {s : Src} (h : srcB s) : (srcT s).length ≤ 2001 := by
  cases s with
  | nm x => exact Nat.le_trans (show x.length ≤ 1000 from h) (by decide)
  | pat b e =>
    obtain ⟨h1, h2⟩ : b.length ≤ 1000 ∧ e.length ≤ 1000 := h
    show (Txt.join "*" [b, e]).length ≤ _
    rw [star_join, len_add, len_add]
    have : ("*" : Str).length = 1 := rfl
    omega
theorem th_srcs {H : Hp} {v : V} {s : Src} (h : Th K H v s.d) : (∃ x, s = .nm x ∧ v = .str x) ∨ ∃ q b e, s = .pat b e ∧ v = .ref q ∧ SqT K H q [.str b, .str e] := by
  cases s with
  | pat b e =>
    cases h with
    | tup hs ha =>
      cases ha with
      | cons a1 a2 =>
        cases a1
        cases a2 with
        | cons b1 b2 =>
          cases b1
          cases b2
          exact .inr ⟨_, b, e, rfl, rfl, hs⟩
  | nm x =>
    cases h
    exact .inl ⟨x, rfl, rfl⟩
def ruleT (r : Rl) : Str := Txt.join " " ([r.lab, ":", srcT (.pat r.b r.e), "<"] ++ r.ss.map srcT)
structure RuleB (r : Rl) : Prop where
  lab : r.lab.length ≤ 1000
  p : srcB (.pat r.b r.e)
  ss : ∀ s ∈ r.ss, srcB s
  few : r.ss.length ≤ 1000
theorem sum_le {l : List Str} {n : Nat} (h : ∀ x ∈ l, x.length ≤ n) : (l.map (·.length)).sum ≤ l.length * n := by
  induction l with
  | nil => exact Nat.zero_le _
  | cons x l ih =>
    rw [List.map_cons, List.sum_cons, List.length_cons, Nat.add_mul, Nat.one_mul]
    have a := h x List.mem_cons_self
    have b := ih fun y m => h y (List.mem_cons_of_mem _ m)
    omega
theorem th_ruleX {H : Hp} {v : V} {r : Rl} (h : Th K H v r.d) : ∃ q p t xs, v = .ref q ∧ SqT K H q [.str r.lab, .ref p, .ref t] ∧ SqT K H p [.str r.b, .str r.e] ∧ SqT K H t xs ∧ ThAll K H xs (r.ss.map Src.d) := by
  cases h with
  | tup hs ha =>
    cases ha with
    | cons a1 a2 =>
      cases a1
      cases a2 with
      | cons b1 b2 =>
        cases b1 with
        | tup hp hpa =>
          cases hpa with
          | cons c1 c2 =>
            cases c1
            cases c2 with
            | cons d1 d2 =>
              cases d1
              cases d2
              cases b2 with
              | cons e1 e2 =>
                cases e2
                cases e1 with
                | tup ht hta => exact ⟨_, _, _, _, rfl, hs, hp, ht, hta⟩
theorem joinL_len (S : List Nat) : ∀ l : List (List Nat), (TL.joinL S l).length ≤ (l.map (·.length)).sum + l.length * S.length
  | [] => Nat.zero_le _
  | [x] => by
    show x.length ≤ ([x].map (·.length)).sum + _
    rw [List.map_cons, List.sum_cons]
    omega
  | x :: y :: l => by
    show (x ++ (S ++ TL.joinL S (y :: l))).length ≤ _
    rw [List.length_append, List.length_append, List.map_cons, List.sum_cons, List.length_cons (a := x), Nat.add_mul, Nat.one_mul]
    have := joinL_len S (y :: l)
    omega
theorem tjoin_len (sep : Str) (l : List Str) : (Txt.join sep l).length ≤ (l.map (·.length)).sum + l.length * sep.length := by
  rw [join_eq, TL.len_tl, TL.tl_join]
  have z := joinL_len (TL.tl sep) (l.map TL.tl)
  rw [List.map_map, List.length_map, ← TL.len_tl] at z
  have e : (List.length ∘ TL.tl) = fun x : Str => x.length := by
    funext x
    exact (TL.len_tl x).symm
  have e2 : ((fun m : List Nat => m.length) ∘ TL.tl) = fun x : Str => x.length := e
  rw [e2] at z
  exact z
theorem ruleT_len {r : Rl} (B : RuleB r) : (ruleT r).length ≤ 3000000 := by
  have z := tjoin_len " " ([r.lab, ":", srcT (.pat r.b r.e), "<"] ++ r.ss.map srcT)
  have sm := sum_le (l := [r.lab, ":", srcT (.pat r.b r.e), "<"] ++ r.ss.map srcT) (n := 2001) fun x mx => by
    rcases List.mem_append.mp mx with m | m
    · rcases List.mem_cons.mp m with rfl | m
      · exact Nat.le_trans B.lab (by decide)
      · rcases List.mem_cons.mp m with rfl | m
        · decide +kernel
        · rcases List.mem_cons.mp m with rfl | m
          · exact srcT_len2 B.p
          · rw [List.mem_singleton.mp m]
            decide +kernel
    · obtain ⟨a, ma, rfl⟩ := List.mem_map.mp m
      exact srcT_len2 (B.ss a ma)
  have lw : ([r.lab, ":", srcT (.pat r.b r.e), "<"] ++ r.ss.map srcT).length ≤ 1004 := by
    rw [List.length_append, List.length_map]
    have := B.few
    show 4 + _ ≤ _
    omega
  have o1 : (" " : Str).length = 1 := rfl
  rw [o1] at z
  unfold ruleT
  generalize ([r.lab, ":", srcT (.pat r.b r.e), "<"] ++ r.ss.map srcT) = W at sm lw z ⊢
  omega
/-! ### right rules are no problem -/
theorem pat_fine {T done rest : List TkW} {q : Nat} {b e : Str} (I : PatIn T done rest q b e) : patX T done.length b = (done.length + (starT q e).length, false) := by
  have eT : T = done ++ ((q, ("*" : Str)) :: ((if e = "" then [] else [(q + 1, e)]) ++ rest)) := I.t
  have nx : nextW T done.length = "*" := by rw [eT]; exact next_mid rfl
  have jb : b = "" ∨ jnB T done.length = true := by
    by_cases h : b = ""
    · exact .inl h
    · exact .inr (I.jn h).2
  have hd : T[done.length + 1]? = ((if e = "" then [] else [(q + 1, e)]) ++ rest : List TkW).head? := by
    have z : T = (done ++ [(q, ("*" : Str))]) ++ ((if e = "" then [] else [(q + 1, e)]) ++ rest) := by
      rw [eT, List.append_assoc]
      rfl
    rw [z]
    exact at_next (by simp)
  have pv : T[done.length + 1 - 1]? = some (q, ("*" : Str)) := by
    rw [eT]
    exact at_prev rfl
  unfold patX
  rw [if_pos (c := nextW T done.length = "*" ∧ (b = "" ∨ jnB T done.length = true)) ⟨nx, jb⟩]
  by_cases he : e = ""
  · have nb : b ≠ "" := fun z => I.g.ne ⟨z, he⟩
    have ls : (starT q e).length = 1 := by
      unfold starT
      rw [if_pos he]
      rfl
    rw [if_pos he, List.nil_append] at hd
    rw [if_neg (c := jnB T (done.length + 1) = true ∧ hdL (nextW T (done.length + 1)) = true), if_neg nb, ls]
    rintro ⟨z1, z2⟩
    cases hh : rest.head? with
    | none =>
      rw [hh] at hd
      have := jn_lt z1
      rw [List.getElem?_eq_none_iff] at hd
      omega
    | some u =>
      rw [hh] at hd
      have c1 : u.1 = q + 1 := by
        unfold jnB at z1
        rw [hd, pv] at z1
        exact of_decide_eq_true z1
      obtain ⟨c, v, ec, nl⟩ := I.tail he u hh c1
      unfold nextW at z2
      rw [hd] at z2
      unfold hdL at z2
      simp only [ec] at z2
      rw [nl] at z2
      exact nomatch z2
  · have ls : (starT q e).length = 2 := by
      unfold starT
      rw [if_neg he]
      rfl
    rw [if_neg he] at hd
    have hd : T[done.length + 1]? = some (q + 1, e) := hd
    have jt : jnB T (done.length + 1) = true := by
      unfold jnB
      rw [hd, pv]
      exact decide_eq_true rfl
    have nw : nextW T (done.length + 1) = e := by
      unfold nextW
      rw [hd]
    obtain ⟨c, v, ec⟩ := tl_ne he
    have lc : ltB c = true := lo_lt2 (I.g.ce c (by rw [ec]; exact List.mem_cons_self))
    have hl : hdL e = true := by
      unfold hdL
      simp only [ec]
      exact lc
    have ee : dEnd loB (.str e) = true := by
      show (decide (e.length ≤ 3) && (TL.tl e).all loB) = true
      rw [decide_eq_true I.g.le, List.all_eq_true.mpr I.g.ce]
      rfl
    rw [if_pos (c := jnB T (done.length + 1) = true ∧ hdL (nextW T (done.length + 1)) = true) ⟨jt, by rw [nw]; exact hl⟩, nw, if_pos ee, ls]
theorem beg_of {b : Str} (n : b ≠ "") (c : ∀ x ∈ TL.tl b, upB x = true) (l : b.length ≤ 3) : begB b = true := by
  unfold begB
  rw [decide_eq_false n]
  show (decide (b.length ≤ 3) && (TL.tl b).all upB) = true
  rw [decide_eq_true l, List.all_eq_true.mpr c]
  rfl
theorem src_fine {T done rest : List TkW} {p : Nat} {s : Src} (I : SrcIn T done rest p s) : srcX T done.length = (done.length + (srcTk p s).length, false) := by
  cases s with
  | nm x =>
    have eT : T = done ++ ((p, x) :: rest) := I.t
    obtain ⟨g1, g2⟩ : dName (.str x) = true ∧ x.length ≤ 6 := I.g
    have nx : nextW T done.length = x := by rw [eT]; exact next_mid rfl
    have jf : jnB T (done.length + 1) = false := by
      rw [eT]
      exact jn_head rfl fun u hu => I.gap u hu
    unfold srcX
    rw [nx, if_neg (nm_star g1), if_pos ((src_name x).mpr ⟨g1, by omega⟩), if_neg (by rw [jf]; exact fun z => nomatch z)]
    rfl
  | pat b e =>
    have G := pat_srcG I.g
    have gp : ∀ u, rest.head? = some u → u.1 ≠ p + (b.length + 1 + e.length) := fun u hu => I.gap u hu
    by_cases hb : b = ""
    · have e1 : srcTk p (.pat b e) = starT p e := by
        show patT p b e = _
        unfold patT
        rw [if_pos hb]
      have eT : T = done ++ (starT p e ++ rest) := by
        rw [← e1]
        exact I.t
      have nx : nextW T done.length = "*" := by rw [eT]; exact next_mid rfl
      have PI : PatIn T done rest p "" e := ⟨eT, hb ▸ G, fun z => absurd rfl z, fun he u hu hq => absurd (hq.trans (by rw [hb, he]; show p + 1 = p + (0 + 1 + 0); omega)) (gp u hu)⟩
      unfold srcX
      rw [if_pos nx, e1]
      exact pat_fine PI
    · have e1 : srcTk p (.pat b e) = (p, b) :: starT (p + b.length) e := by
        show patT p b e = _
        unfold patT
        rw [if_neg hb]
      have eT : T = done ++ ((p, b) :: (starT (p + b.length) e ++ rest)) := by
        have z := I.t
        rw [e1] at z
        exact z
      have nx : nextW T done.length = b := by rw [eT]; exact next_mid rfl
      have eT2 : T = (done ++ [(p, b)]) ++ (starT (p + b.length) e ++ rest) := by
        rw [eT, List.append_assoc]
        rfl
      have l1 : (done ++ [(p, b)]).length = done.length + 1 := by
        rw [List.length_append]
        rfl
      have jt : jnB T (done.length + 1) = true := by
        rw [eT]
        show jnB (done ++ (p, b) :: (p + b.length, ("*" : Str)) :: ((if e = "" then [] else [(p + b.length + 1, e)]) ++ rest)) (done.length + 1) = true
        rw [jn_mid rfl]
        exact decide_eq_true rfl
      have PI : PatIn T (done ++ [(p, b)]) rest (p + b.length) b e := ⟨eT2, G, fun _ => ⟨by rw [l1]; omega, by rw [l1]; exact jt⟩, fun he u hu hq => absurd (hq.trans (by rw [he]; show p + b.length + 1 = p + (b.length + 1 + 0); omega)) (gp u hu)⟩
      have z := pat_fine PI
      rw [l1] at z
      have bb := beg_of hb G.cb G.lb
      unfold srcX
      rw [nx, if_neg (cap_star G.cb), if_pos (src_caps (by rw [← beg_all]; exact bb)), if_pos jt, if_pos bb, z, e1, List.length_cons]
      congr 1
      omega
theorem srcs_fine {T done : List TkW} {L : List PSrc} (I : SrcsIn T done L) : ∀ (n i f : Nat), i + n = L.length → f + i = 4 → (srcsX T f (done.length + (flatT (L.take i)).length) i).2 = false
  | n, i, 0, h, hf => by
    have := I.few
    omega
  | 0, i, f + 1, h, hf => by
    have ei : L.take i = L := List.take_of_length_le (by omega)
    have lT : T.length = done.length + (flatT L).length := by
      conv => lhs; rw [I.t]
      rw [List.length_append]
    unfold srcsX
    rw [ei, if_neg (by omega)]
  | n + 1, i, f + 1, h, hf => by
    have ilt : i < L.length := by omega
    obtain ⟨c, hc⟩ : ∃ c, L[i]? = some c := ⟨_, List.getElem?_eq_getElem ilt⟩
    have mc := List.mem_of_getElem? hc
    have ed : L.drop i = c :: L.drop (i + 1) := by
      rw [← (List.getElem?_eq_some_iff.mp hc).2]
      exact (List.getElem_cons_drop (h := ilt)).symm
    have et : L.take (i + 1) = L.take i ++ [c] := by rw [List.take_add_one, hc]; rfl
    have eTi : T = done ++ flatT (L.take i) ++ flatT (L.drop i) := by
      rw [I.t, List.append_assoc, ← flat_app, List.take_append_drop]
    have lTi : T.length = done.length + (flatT (L.take i)).length + (flatT (L.drop i)).length := by
      conv => lhs; rw [eTi]
      rw [List.length_append, List.length_append]
    have pos := flat_pos (L := L.drop i) (by rw [ed]; exact fun z => nomatch z)
    have few := I.few
    have SI : SrcIn T (done ++ flatT (L.take i)) (flatT (L.drop (i + 1))) c.1 c.2 := by
      refine ⟨by rw [eTi, ed, flat_cons], I.g c mc, fun u hu => ?_⟩
      cases e2 : L.drop (i + 1) with
      | nil =>
        rw [e2] at hu
        cases hu
      | cons d M =>
        have hd : L[i + 1]? = some d := by
          have y := congrArg (fun m => m[0]?) e2
          simpa using y
        obtain ⟨t', r', e3, e4⟩ := srcTk_head d.1 d.2
        rw [e2, flat_cons, e3] at hu
        cases hu
        rw [e4]
        exact I.gap i c d hc hd
    have fine := src_fine SI
    rw [List.length_append] at fine
    have jf : i = 0 ∨ jnB T (done.length + (flatT (L.take i)).length) = false := by
      cases i with
      | zero => exact .inl rfl
      | succ i =>
        refine .inr ?_
        obtain ⟨a, ha⟩ : ∃ a, L[i]? = some a := ⟨_, List.getElem?_eq_getElem (by omega)⟩
        obtain ⟨ini, t, e1, e2⟩ := srcTk_last a.1 a.2
        obtain ⟨t', r', e3, e4⟩ := srcTk_head c.1 c.2
        have et2 : L.take (i + 1) = L.take i ++ [a] := by rw [List.take_add_one, ha]; rfl
        have eT3 : T = (done ++ flatT (L.take i) ++ ini) ++ t :: t' :: (r' ++ flatT (L.drop (i + 1 + 1))) := by
          rw [eTi, et2, flat_app, flat_one, e1, ed, flat_cons, e3]
          simp only [List.append_assoc, List.cons_append, List.nil_append]
        rw [eT3, jn_mid]
        · refine decide_eq_false fun y => I.gap i a c ha hc ?_
          rw [← e4, y, e2]
        · rw [et2, flat_app, flat_one, e1, List.length_append, List.length_append, List.length_append, List.length_append, List.length_singleton]
          omega
    unfold srcsX
    rw [if_pos (c := done.length + (flatT (L.take i)).length < T.length) (by omega), if_pos (c := i < 3 ∧ (i = 0 ∨ jnB T (done.length + (flatT (L.take i)).length) = false)) ⟨by omega, jf⟩, fine, if_neg (fun z => nomatch z)]
    have z := srcs_fine I n (i + 1) f (by omega) (by omega)
    rw [et, flat_app, flat_one, List.length_append, ← Nat.add_assoc] at z
    exact z
theorem rule_fine {r : Rl} {T : List TkW} (I : RuleIn r T) : (ruleX T).2 = false := by
  obtain ⟨p0, p1, p2, p3, L, eT, eL, few, gL, gap⟩ := I.t
  have n0 : nextW T 0 = r.lab := by rw [eT]; rfl
  have n1 : nextW T 1 = ":" := by rw [eT]; rfl
  have tail : r.e = "" → ∀ (q : Nat) (u : TkW), ((p3, ("<" : Str)) :: flatT L).head? = some u → u.1 = q + 1 → ∃ c v, TL.tl u.2 = c :: v ∧ ltB c = false := fun _ q u hu _ => by
    cases hu
    exact ⟨60, [], less_tl, by decide⟩
  have tl_fine : ∀ {done : List TkW} {q : Nat}, PatIn T done ((p3, ("<" : Str)) :: flatT L) q r.b r.e → (tailX T (patX T done.length r.b)).2 = false := fun {done q} PI => by
    rw [pat_fine PI]
    have eT2 : T = (done ++ starT q r.e) ++ (p3, ("<" : Str)) :: flatT L := by rw [PI.t, List.append_assoc]
    have ln : done.length + (starT q r.e).length = (done ++ starT q r.e).length := by rw [List.length_append]
    have n2 : nextW T (done.length + (starT q r.e).length) = "<" := by
      rw [ln]
      conv => lhs; rw [eT2]
      exact next_mid rfl
    have eT3 : T = (done ++ starT q r.e ++ [(p3, ("<" : Str))]) ++ flatT L := by
      rw [eT2]
      simp only [List.append_assoc, List.cons_append, List.nil_append]
    have l3 : (done ++ starT q r.e ++ [(p3, ("<" : Str))]).length = done.length + (starT q r.e).length + 1 := by
      rw [List.length_append (bs := [_]), List.length_append]
      rfl
    have z := srcs_fine (T := T) (done := done ++ starT q r.e ++ [(p3, ("<" : Str))]) (L := L) ⟨eT3, by omega, few, gL, gap⟩ L.length 0 4 (by omega) rfl
    rw [List.take_zero, l3] at z
    unfold tailX
    rw [if_neg (fun z => nomatch z), if_pos n2]
    exact z
  unfold ruleX
  rw [n0, if_pos I.lab, if_pos n1]
  by_cases hb : r.b = ""
  · have eT2 : T = [(p0, r.lab), (p1, (":" : Str))] ++ (starT p2 r.e ++ ((p3, ("<" : Str)) :: flatT L)) := by
      rw [eT]
      unfold patT
      rw [if_pos hb]
      rfl
    have n2 : nextW T 2 = "*" := by rw [eT2]; rfl
    have PI : PatIn T [(p0, r.lab), (p1, (":" : Str))] ((p3, ("<" : Str)) :: flatT L) p2 r.b r.e := ⟨eT2, I.g, fun z => absurd hb z, fun he u hu hq => tail he p2 u hu hq⟩
    rw [if_pos n2]
    have z := tl_fine PI
    rw [hb] at z
    exact z
  · have eT2 : T = [(p0, r.lab), (p1, (":" : Str))] ++ (p2, r.b) :: (starT (p2 + r.b.length) r.e ++ ((p3, ("<" : Str)) :: flatT L)) := by
      rw [eT]
      unfold patT
      rw [if_neg hb]
      rfl
    have n2 : nextW T 2 = r.b := by rw [eT2]; rfl
    have eT3 : T = [(p0, r.lab), (p1, (":" : Str)), (p2, r.b)] ++ (starT (p2 + r.b.length) r.e ++ ((p3, ("<" : Str)) :: flatT L)) := eT2
    have j3 : jnB T 3 = true := by
      rw [eT2]
      show jnB ([(p0, r.lab), (p1, (":" : Str))] ++ (p2, r.b) :: (p2 + r.b.length, ("*" : Str)) :: ((if r.e = "" then [] else [(p2 + r.b.length + 1, r.e)]) ++ ((p3, ("<" : Str)) :: flatT L))) 3 = true
      rw [jn_mid (n := 3) (a := [(p0, r.lab), (p1, (":" : Str))]) rfl]
      exact decide_eq_true rfl
    have PI : PatIn T [(p0, r.lab), (p1, (":" : Str)), (p2, r.b)] ((p3, ("<" : Str)) :: flatT L) (p2 + r.b.length) r.b r.e := ⟨eT3, I.g, fun _ => ⟨Nat.succ_pos _, j3⟩, fun he u hu hq => tail he _ u hu hq⟩
    rw [n2, if_neg (cap_star I.g.cb), if_pos (beg_of hb I.g.cb I.g.lb)]
    exact tl_fine PI
end
end Lk

/-! K91O -/
set_option Elab.async false
set_option linter.all false
set_option maxRecDepth 100000
set_option maxHeartbeats 4000000
namespace Lk
open PySem PySem.Spec PyProof.Rows L2
/-! ### texts and their tokens -/
def Bl (l : List Nat) : Prop := ∀ c ∈ l, blB c = true
def nolt (cs : List Nat) : Prop := ∀ c, cs.head? = some c → ltB c = false
theorem lex_bl {B : List Nat} (h : Bl B) : ∀ {p : Nat} {cs : List Nat} {T : List TkW}, Lex (p + B.length) cs T → Lex p (B ++ cs) T := by
  induction B with
  | nil => exact fun g => g
  | cons b B ih =>
    intro p cs T g
    refine .blank (h b List.mem_cons_self) (ih (fun c m => h c (List.mem_cons_of_mem _ m)) ?_)
    rw [List.length_cons] at g
    rwa [show p + 1 + B.length = p + (B.length + 1) by omega]
theorem up_lt2 {c : Nat} (h : upB c = true) : ltB c = true := by
  unfold ltB
  rw [h, Bool.true_or]
theorem lex_word {w : Str} (n : w ≠ "") (h : ∀ c ∈ TL.tl w, ltB c = true) {p : Nat} {cs : List Nat} {T : List TkW} (s : nolt cs) (g : Lex (p + w.length) cs T) : Lex p (TL.tl w ++ cs) ((p, w) :: T) :=
  .word (fun z => n (tl_nil_iff.mp z)) h s g
theorem nolt_sign {c : Nat} (h : sgB c = true) (cs : List Nat) : nolt (c :: cs) := fun d e => by
  cases e
  exact (sg_no h).1
theorem nolt_bl {B cs : List Nat} (h : Bl B) (g : nolt cs) : nolt (B ++ cs) := by
  cases B with
  | nil => exact g
  | cons b B =>
    intro d e
    cases e
    exact (bl_no (h b List.mem_cons_self)).1
theorem lex_star {q : Nat} {e : Str} (he : ∀ c ∈ TL.tl e, loB c = true) {cs : List Nat} {T : List TkW} (s : nolt cs) (g : Lex (q + 1 + e.length) cs T) : Lex q (42 :: (TL.tl e ++ cs)) (starT q e ++ T) := by
  unfold starT
  by_cases h : e = ""
  · rw [if_pos h, h]
    rw [h] at g
    exact .sign (by decide) g
  · rw [if_neg h]
    exact .sign (by decide) (lex_word h (fun c m => lo_lt2 (he c m)) s g)
theorem srcT_tl (b e : Str) : TL.tl (srcT (.pat b e)) = TL.tl b ++ 42 :: TL.tl e := by
  show TL.tl (Txt.join "*" [b, e]) = _
  rw [star_join, TL.tl_append, TL.tl_append, star_tl, List.append_assoc]
  rfl
theorem lex_pat {p : Nat} {b e : Str} (G : PatG b e) {cs : List Nat} {T : List TkW} (s : nolt cs) (g : Lex (p + (b.length + 1 + e.length)) cs T) : Lex p (TL.tl (srcT (.pat b e)) ++ cs) (patT p b e ++ T) := by
  rw [srcT_tl, List.append_assoc]
  unfold patT
  by_cases h : b = ""
  · rw [if_pos h, h]
    rw [h] at g
    refine lex_star G.ce s ?_
    rwa [show p + 1 + e.length = p + (("" : Str).length + 1 + e.length) by show _ = p + (0 + 1 + e.length); omega]
  · rw [if_neg h]
    refine lex_word h (fun c m => up_lt2 (G.cb c m)) (nolt_sign (by decide) _) (lex_star G.ce s ?_)
    rwa [show p + b.length + 1 + e.length = p + (b.length + 1 + e.length) by omega]
theorem name_lt {x : Str} (h : dName (.str x) = true) : ∀ c ∈ TL.tl x, ltB c = true := by
  intro c hc
  have h2 : (!(TL.tl x).isEmpty && ((TL.tl x).dropWhile upB).all loB) = true := h
  rw [Bool.and_eq_true, List.all_eq_true] at h2
  rw [← List.takeWhile_append_dropWhile (p := upB) (l := TL.tl x)] at hc
  rcases List.mem_append.mp hc with hc | hc
  · exact up_lt2 (List.all_eq_true.mp (List.all_takeWhile (p := upB) (l := TL.tl x)) c hc)
  · exact lo_lt2 (h2.2 c hc)
theorem lex_src {p : Nat} {sr : Src} (G : SrcG sr) {cs : List Nat} {T : List TkW} (s : nolt cs) (g : Lex (p + srcLen sr) cs T) : Lex p (TL.tl (srcT sr) ++ cs) (srcTk p sr ++ T) := by
  cases sr with
  | nm x => exact lex_word (nm_ne G.1) (name_lt G.1) s g
  | pat b e => exact lex_pat G s g
theorem srcT_l (s : Src) : (TL.tl (srcT s)).length = srcLen s := by
  cases s with
  | nm x => exact (TL.len_tl x).symm
  | pat b e =>
    rw [srcT_tl, List.length_append, List.length_cons, ← TL.len_tl, ← TL.len_tl]
    show _ = b.length + 1 + e.length
    omega
def Gap (L : List PSrc) : Prop := ∀ i a b, L[i]? = some a → L[i + 1]? = some b → b.1 ≠ a.1 + srcLen a.2
theorem lex_srcs {S : List Nat} (hS : Bl S) (nS : S ≠ []) {B : List Nat} (hB : Bl B) : ∀ (ss : List Src) (p : Nat), (∀ s ∈ ss, SrcG s) → ∃ L : List PSrc, L.map (·.2) = ss ∧ (∀ a, L.head? = some a → a.1 = p) ∧ Gap L ∧ Lex p (TL.joinL S (ss.map fun s => TL.tl (srcT s)) ++ B) (flatT L)
  | [], p, _ => ⟨[], rfl, (fun _ z => nomatch z), (fun _ _ _ z => nomatch z), by
      show Lex p ([] ++ B) []
      rw [List.nil_append, ← List.append_nil B]
      exact lex_bl hB .nil⟩
  | [s], p, G => ⟨[(p, s)], rfl, (fun a z => by cases z; rfl), (fun i a b _ z => by simp at z), by
      show Lex p (TL.tl (srcT s) ++ B) (flatT [(p, s)])
      rw [flat_one]
      show Lex p _ (srcTk p s)
      rw [← List.append_nil (srcTk p s)]
      refine lex_src (G s List.mem_cons_self) ?_ ?_
      · rw [← List.append_nil B]
        exact nolt_bl hB (fun _ z => nomatch z)
      · rw [← List.append_nil B]
        exact lex_bl hB .nil⟩
  | s :: t :: ss, p, G => by
    obtain ⟨L, e1, e2, e3, e4⟩ := lex_srcs hS nS hB (t :: ss) (p + srcLen s + S.length) (fun u m => G u (List.mem_cons_of_mem _ m))
    refine ⟨(p, s) :: L, by rw [List.map_cons, e1], (fun a z => by cases z; rfl), fun i a b ha hb => ?_, ?_⟩
    · cases i with
      | zero =>
        cases ha
        have hb : L[0]? = some b := hb
        rw [← List.head?_eq_getElem?] at hb
        rw [e2 b hb]
        have : S.length ≠ 0 := fun z => nS (List.length_eq_zero_iff.mp z)
        show p + srcLen s + S.length ≠ p + srcLen s
        omega
      | succ i => exact e3 i a b ha hb
    · show Lex p ((TL.tl (srcT s) ++ (S ++ TL.joinL S ((t :: ss).map fun s => TL.tl (srcT s)))) ++ B) _
      rw [flat_cons, List.append_assoc, List.append_assoc]
      refine lex_src (G s List.mem_cons_self) ?_ (lex_bl hS e4)
      cases S with
      | nil => exact absurd rfl nS
      | cons c S =>
        intro d z
        cases z
        exact (bl_no (hS c List.mem_cons_self)).1
/-- a right rule -/
structure RuleG (r : Rl) : Prop where
  lab : dLabel (.str r.lab) = true
  g : PatG r.b r.e
  ss : ∀ s ∈ r.ss, SrcG s
  few : r.ss.length ≤ 3
theorem RuleG.b {r : Rl} (h : RuleG r) : RuleB r := ⟨Nat.le_trans (lab_len h.lab) (by decide), ⟨Nat.le_trans h.g.lb (by decide), Nat.le_trans h.g.le (by decide)⟩, fun s m => srcG_b (h.ss s m), Nat.le_trans h.few (by decide)⟩
/-- a text of a rule, with blanks -/
structure WideOf (r : Rl) (l : List Nat) (B0 B1 B2 B3 B4 B5 S : List Nat) : Prop where
  e : l = B0 ++ (TL.tl r.lab ++ (B1 ++ 58 :: (B2 ++ (TL.tl (srcT (.pat r.b r.e)) ++ (B3 ++ 60 :: (B4 ++ (TL.joinL S (r.ss.map fun s => TL.tl (srcT s)) ++ B5)))))))
  b0 : Bl B0
  b1 : Bl B1
  b2 : Bl B2
  b3 : Bl B3
  b4 : Bl B4
  b5 : Bl B5
  s : Bl S
  ne : S ≠ []
theorem lab_lt {x : Str} (h : dLabel (.str x) = true) : x ≠ "" ∧ ∀ c ∈ TL.tl x, ltB c = true := by
  have h2 : (decide (1 ≤ x.length) && (decide (x.length ≤ 8) && (TL.tl x).all loB)) = true := h
  rw [Bool.and_eq_true, Bool.and_eq_true, decide_eq_true_eq, List.all_eq_true] at h2
  refine ⟨fun z => ?_, fun c m => lo_lt2 (h2.2.2 c m)⟩
  rw [z] at h2
  exact absurd h2.1 (by decide)
theorem lex_less {p : Nat} {cs : List Nat} {T : List TkW} (g : Lex (p + 1) cs T) : Lex p (60 :: cs) ((p, ("<" : Str)) :: T) := by
  have el : (⟨#[60]⟩ : Str) = "<" := by decide +kernel
  rw [← el]
  exact .sign (by decide) g
theorem lex_colon {p : Nat} {cs : List Nat} {T : List TkW} (g : Lex (p + 1) cs T) : Lex p (58 :: cs) ((p, (":" : Str)) :: T) := by
  have el : (⟨#[58]⟩ : Str) = ":" := by decide +kernel
  rw [← el]
  exact .sign (by decide) g
theorem wide_ok {r : Rl} (G : RuleG r) {l B0 B1 B2 B3 B4 B5 S : List Nat} (W : WideOf r l B0 B1 B2 B3 B4 B5 S) : ∃ T, Lex 0 l T ∧ RuleIn r T := by
  obtain ⟨n0, lt0⟩ := lab_lt G.lab
  have l5 := TL.len_tl r.lab
  obtain ⟨L, e1, e2, e3, e4⟩ := lex_srcs W.s W.ne W.b5 r.ss (B0.length + r.lab.length + B1.length + 1 + B2.length + (r.b.length + 1 + r.e.length) + B3.length + 1 + B4.length) G.ss
  have q1 := lex_bl W.b4 e4
  have q2 := lex_less q1
  have q3 := lex_bl W.b3 q2
  have q4 := lex_pat G.g (nolt_bl W.b3 (nolt_sign (by decide) _)) q3
  have q5 := lex_bl W.b2 q4
  have q6 := lex_colon q5
  have q7 := lex_bl W.b1 q6
  have q8 := lex_word n0 lt0 (nolt_bl W.b1 (nolt_sign (by decide) _)) q7
  have q9 := lex_bl (p := 0) W.b0 (by rw [Nat.zero_add]; exact q8)
  refine ⟨_, by rw [W.e]; exact q9, G.lab, G.g, B0.length, B0.length + r.lab.length + B1.length, B0.length + r.lab.length + B1.length + 1 + B2.length, B0.length + r.lab.length + B1.length + 1 + B2.length + (r.b.length + 1 + r.e.length) + B3.length, L, rfl, e1, by have z := congrArg List.length e1; rw [List.length_map] at z; have := G.few; omega, fun c m => G.ss _ (by rw [← e1]; exact List.mem_map.mpr ⟨c, m, rfl⟩), e3⟩
/-- rows of texts -/
theorem bl_no10 {B : List Nat} (h : Bl B) : 10 ∉ B := fun m => absurd (h 10 m) (by decide)
theorem lt_no10 {l : List Nat} (h : ∀ c ∈ l, ltB c = true) : 10 ∉ l := fun m => absurd (h 10 m) (by decide)
theorem src_no10 {s : Src} (G : SrcG s) : 10 ∉ TL.tl (srcT s) := by
  cases s with
  | nm x => exact lt_no10 (name_lt G.1)
  | pat b e =>
    rw [srcT_tl]
    intro m
    rcases List.mem_append.mp m with m | m
    · exact lt_no10 (fun c h => up_lt2 ((pat_srcG G).cb c h)) m
    · rcases List.mem_cons.mp m with m | m
      · exact absurd m (by decide)
      · exact lt_no10 (fun c h => lo_lt2 ((pat_srcG G).ce c h)) m
theorem joinL_mem {S : List Nat} {k : Nat} : ∀ {l : List (List Nat)}, k ∈ TL.joinL S l → k ∈ S ∨ ∃ x ∈ l, k ∈ x
  | [], m => nomatch m
  | [x], m => .inr ⟨x, List.mem_cons_self, m⟩
  | x :: y :: l, m => by
    rcases List.mem_append.mp (show k ∈ x ++ (S ++ TL.joinL S (y :: l)) from m) with m | m
    · exact .inr ⟨x, List.mem_cons_self, m⟩
    · rcases List.mem_append.mp m with m | m
      · exact .inl m
      · rcases joinL_mem m with h | ⟨z, mz, h⟩
        · exact .inl h
        · exact .inr ⟨z, List.mem_cons_of_mem _ mz, h⟩
theorem wide_no10 {r : Rl} (G : RuleG r) {l B0 B1 B2 B3 B4 B5 S : List Nat} (W : WideOf r l B0 B1 B2 B3 B4 B5 S) : 10 ∉ l := by
  rw [W.e]
  intro m
  simp only [List.mem_append, List.mem_cons] at m
  rcases m with m | m | m | m | m | m | m | m | m | m | m
  · exact bl_no10 W.b0 m
  · exact lt_no10 (lab_lt G.lab).2 m
  · exact bl_no10 W.b1 m
  · exact absurd m (by decide)
  · exact bl_no10 W.b2 m
  · exact src_no10 (s := .pat r.b r.e) G.g m
  · exact bl_no10 W.b3 m
  · exact absurd m (by decide)
  · exact bl_no10 W.b4 m
  · rcases joinL_mem m with h | ⟨x, mx, h⟩
    · exact bl_no10 W.s h
    · obtain ⟨s, ms, rfl⟩ := List.mem_map.mp mx
      exact src_no10 (G.ss s ms) h
  · exact bl_no10 W.b5 m
/-- the canonical text -/
theorem canon_wide {r : Rl} : WideOf r (TL.tl (ruleT r)) [] [32] [32] [32] (if r.ss = [] then [] else [32]) [] [32] := by
  have b1 : Bl [32] := fun c m => by rw [List.mem_singleton.mp m]; rfl
  have b0 : Bl [] := fun _ m => nomatch m
  refine ⟨?_, b0, b1, b1, b1, by split; exact b0; exact b1, b0, b1, by decide⟩
  unfold ruleT
  rw [join_eq, TL.tl_join]
  have es : TL.tl (" " : Str) = [32] := by decide +kernel
  rw [es, List.map_append, List.map_map, List.append_nil]
  have e2 : (r.ss.map (TL.tl ∘ srcT)) = r.ss.map fun s => TL.tl (srcT s) := rfl
  rw [e2]
  cases hs : r.ss with
  | nil =>
    rw [if_pos rfl]
    show TL.tl r.lab ++ ([32] ++ (TL.tl (":" : Str) ++ ([32] ++ (TL.tl (srcT (.pat r.b r.e)) ++ ([32] ++ TL.tl ("<" : Str)))))) = _
    rw [colon_tl, less_tl]
    rfl
  | cons x ss =>
    rw [if_neg (fun z => nomatch z)]
    show TL.tl r.lab ++ ([32] ++ (TL.tl (":" : Str) ++ ([32] ++ (TL.tl (srcT (.pat r.b r.e)) ++ ([32] ++ (TL.tl ("<" : Str) ++ ([32] ++ TL.joinL [32] ((x :: ss).map fun s => TL.tl (srcT s))))))))) = _
    rw [colon_tl, less_tl]
    rfl
end Lk

/-! K91P -/
set_option Elab.async false
set_option linter.all false
set_option maxRecDepth 100000
set_option maxHeartbeats 4000000
namespace Lk
open PySem PySem.Spec PyProof.Rows L2
/-! ### parts of any text, drawn rules, the first texts -/
theorem parts_l : ∀ cs : List Nat, ∃ ps : List (List Nat), ps ≠ [] ∧ TL.joinL [10] ps = cs ∧ (∀ p ∈ ps, 10 ∉ p ∧ p.length ≤ cs.length) ∧ ps.length ≤ cs.length + 1
  | [] => ⟨[[]], (fun z => nomatch z), rfl, fun p m => by rw [List.mem_singleton.mp m]; exact ⟨(fun z => nomatch z), Nat.le_refl _⟩, Nat.le_refl _⟩
  | c :: cs => by
    obtain ⟨ps, n, j, h, l⟩ := parts_l cs
    cases ps with
    | nil => exact absurd rfl n
    | cons p qs =>
      by_cases hc : c = 10
      · refine ⟨[] :: p :: qs, (fun z => nomatch z), ?_, fun x m => ?_, by rw [List.length_cons, List.length_cons (as := cs)]; omega⟩
        · show [] ++ ([10] ++ TL.joinL [10] (p :: qs)) = _
          rw [j, hc]
          rfl
        · rcases List.mem_cons.mp m with rfl | m
          · exact ⟨(fun z => nomatch z), Nat.zero_le _⟩
          · have := h x m
            exact ⟨this.1, by rw [List.length_cons]; omega⟩
      · refine ⟨(c :: p) :: qs, (fun z => nomatch z), ?_, fun x m => ?_, by rw [List.length_cons] at l ⊢; rw [List.length_cons]; omega⟩
        · rw [← j]
          cases qs with
          | nil => rfl
          | cons q qs => rfl
        · rcases List.mem_cons.mp m with rfl | m
          · have := h p List.mem_cons_self
            refine ⟨fun z => ?_, by rw [List.length_cons, List.length_cons]; omega⟩
            rcases List.mem_cons.mp z with z | z
            · exact hc z.symm
            · exact this.1 z
          · have := h x (List.mem_cons_of_mem _ m)
            exact ⟨this.1, by rw [List.length_cons]; omega⟩
theorem nl_tl : TL.tl ("\n" : Str) = [10] := by decide +kernel
theorem parts_of (x : Str) : ∃ ps : List Str, ps ≠ [] ∧ x = Txt.join "\n" ps ∧ (∀ p ∈ ps, 10 ∉ TL.tl p ∧ p.length ≤ x.length) ∧ ps.length ≤ x.length + 1 := by
  obtain ⟨ps, n, j, h, l⟩ := parts_l (TL.tl x)
  have e : ∀ ps : List (List Nat), (ps.map fun p => (⟨p.toArray⟩ : Str)).map TL.tl = ps := fun ps => by
    rw [List.map_map]
    conv => rhs; rw [← List.map_id ps]
    rfl
  refine ⟨ps.map fun p => ⟨p.toArray⟩, (fun z => n (List.map_eq_nil_iff.mp z)), TL.ext_tl ?_, fun p m => ?_, by rw [List.length_map, TL.len_tl]; exact l⟩
  · rw [join_eq, TL.tl_join, nl_tl, e, j]
  · obtain ⟨q, mq, rfl⟩ := List.mem_map.mp m
    have := h q mq
    exact ⟨this.1, by rw [TL.len_tl, TL.len_tl x]; exact this.2⟩
theorem lex_parts : ∀ (ps : List Str), ∃ L : List Part, L.map (·.x) = ps ∧ ∀ c ∈ L, LexR 0 (TL.tl c.x) c.T c.r
  | [] => ⟨[], rfl, fun _ m => nomatch m⟩
  | p :: ps => by
    obtain ⟨L, e, h⟩ := lex_parts ps
    obtain ⟨T, r, hl⟩ := lexR_ex (TL.tl p).length 0 (TL.tl p) (Nat.le_refl _)
    refine ⟨⟨p, T, r⟩ :: L, by rw [List.map_cons, e], fun c m => ?_⟩
    rcases List.mem_cons.mp m with rfl | m
    · exact hl
    · exact h c m
theorem told_ex {c : Nat} {x : Str} (hc : c = 0 ∨ c = 1) (hx : x.length ≤ 100000) : ∃ o, Told c x o := by
  rcases hc with rfl | rfl
  · obtain ⟨T, r, hl⟩ := lexR_ex (TL.tl x).length 0 (TL.tl x) (Nat.le_refl _)
    exact ⟨_, hx, .inl ⟨rfl, T, r, hl, rfl⟩⟩
  · obtain ⟨ps, n, e, h, l⟩ := parts_of x
    obtain ⟨L, eL, hL⟩ := lex_parts ps
    refine ⟨_, hx, .inr ⟨rfl, L, ⟨by rw [eL]; exact e, fun z => n (by rw [← eL, z]; rfl), fun c m => ?_, ?_⟩, rfl⟩⟩
    · have mp : c.x ∈ ps := by
        rw [← eL]
        exact List.mem_map_of_mem m
      have := h _ mp
      exact ⟨this.1, hL c m, by omega⟩
    · rw [← List.length_map (f := fun c : Part => c.x), eL]
      omega
theorem part_src : ∀ s, SrcOk s → SrcG s
  | .nm x, h => by
    have z : ∀ x ∈ (["A", "Ac", "Bo", "s", "Ao"] : List Str), dName (.str x) = true ∧ x.length ≤ 6 := by decide +kernel
    exact z x h
  | .pat b e, h => by
    have zb : ∀ x ∈ (["", "A", "B", "AB"] : List Str), (TL.tl x).all upB = true ∧ x.length ≤ 3 := by decide +kernel
    have ze : ∀ x ∈ (["", "c", "o", "s", "co"] : List Str), (TL.tl x).all loB = true ∧ x.length ≤ 3 := by decide +kernel
    obtain ⟨h1, h2, h3⟩ := h
    have a := zb b h1
    have c := ze e h2
    exact ⟨List.all_eq_true.mp a.1, List.all_eq_true.mp c.1, a.2, c.2, h3⟩
theorem rl_good {m : Nat} {r : Rl} (h : RlOk m r) (hm : m ≤ 3) : RuleG r := by
  have zl : ∀ x ∈ (["cc", "as", "link"] : List Str), dLabel (.str x) = true := by decide +kernel
  have zb : ∀ x ∈ (["", "A", "B"] : List Str), (TL.tl x).all upB = true ∧ x.length ≤ 3 := by decide +kernel
  have ze : ∀ x ∈ (["o", "c", "", "s"] : List Str), (TL.tl x).all loB = true ∧ x.length ≤ 3 := by decide +kernel
  have a := zb _ h.b
  have c := ze _ h.e
  exact ⟨zl _ h.lab, ⟨List.all_eq_true.mp a.1, List.all_eq_true.mp c.1, a.2, c.2, h.ne⟩, fun s m => part_src s (h.ss s m), Nat.le_trans h.len hm⟩
theorem src_len7 {s : Src} (h : SrcG s) : srcLen s ≤ 7 := by
  cases s with
  | nm x => exact Nat.le_trans h.2 (by decide)
  | pat b e =>
    have a := (pat_srcG h).lb
    have c := (pat_srcG h).le
    show b.length + 1 + e.length ≤ 7
    omega
theorem rule_len {r : Rl} (G : RuleG r) : (ruleT r).length ≤ 100 := by
  have W := (canon_wide (r := r)).e
  have z := congrArg List.length W
  have l1 := lab_len G.lab
  have l2 : (TL.tl (srcT (.pat r.b r.e))).length ≤ 7 := by
    rw [srcT_l]
    exact src_len7 (s := .pat r.b r.e) G.g
  have l3 := joinL_len [32] (r.ss.map fun s => TL.tl (srcT s))
  have l4 : ((r.ss.map fun s => TL.tl (srcT s)).map (·.length)).sum ≤ r.ss.length * 7 := by
    rw [List.map_map]
    have go : ∀ ss : List Src, (∀ s ∈ ss, SrcG s) → (ss.map ((fun m : List Nat => m.length) ∘ fun s => TL.tl (srcT s))).sum ≤ ss.length * 7 := fun ss => by
      induction ss with
      | nil => exact fun _ => Nat.le_refl _
      | cons s ss ih =>
        intro h
        have a := ih fun s m => h s (List.mem_cons_of_mem _ m)
        have b := src_len7 (h s List.mem_cons_self)
        rw [← srcT_l] at b
        rw [List.map_cons, List.sum_cons, List.length_cons]
        show (TL.tl (srcT s)).length + _ ≤ _
        omega
    exact go r.ss G.ss
  have l5 : (if r.ss = [] then ([] : List Nat) else [32]).length ≤ 1 := by split <;> decide
  have l6 := TL.len_tl r.lab
  have few := G.few
  simp only [List.length_append, List.length_cons, List.length_nil] at z
  rw [← TL.len_tl] at z
  rw [List.length_map, show ([32] : List Nat).length = 1 from rfl] at l3
  omega
theorem part_right {r : Rl} (G : RuleG r) : ∃ T, LexR 0 (TL.tl (ruleT r)) T none ∧ (ruleX T).2 = false ∧ T ≠ [] := by
  obtain ⟨T, hl, I⟩ := wide_ok G canon_wide
  refine ⟨T, hl.r, rule_fine I, fun z => ?_⟩
  obtain ⟨_, _, _, _, _, e, _⟩ := I.t
  rw [z] at e
  exact nomatch e
theorem told_rule {r : Rl} (G : RuleG r) : Told 0 (ruleT r) .fine := by
  obtain ⟨T, hl, hx, _⟩ := part_right G
  refine ⟨Nat.le_trans (rule_len G) (by decide), .inl ⟨rfl, T, none, hl, ?_⟩⟩
  have e : outR T none (ruleT r).length = none := by
    unfold outR
    exact if_neg (by rw [hx]; exact fun z => nomatch z)
  unfold out0
  rw [e]
theorem right_parts : ∀ (rs : List Rl), (∀ r ∈ rs, RuleG r) → ∃ L : List Part, L.map (·.x) = rs.map ruleT ∧ ∀ c ∈ L, LexR 0 (TL.tl c.x) c.T c.r ∧ partO c = none ∧ c.T ≠ []
  | [], _ => ⟨[], rfl, fun _ m => nomatch m⟩
  | r :: rs, h => by
    obtain ⟨L, e, hL⟩ := right_parts rs fun r m => h r (List.mem_cons_of_mem _ m)
    obtain ⟨T, hl, hx, nT⟩ := part_right (h r List.mem_cons_self)
    refine ⟨⟨ruleT r, T, none⟩ :: L, by rw [List.map_cons, List.map_cons, e], fun c m => ?_⟩
    rcases List.mem_cons.mp m with rfl | m
    · refine ⟨hl, ?_, nT⟩
      unfold partO
      rw [if_neg (fun z => nT z.1)]
      unfold outR
      exact if_neg (by rw [hx]; exact fun z => nomatch z)
    · exact hL c m
theorem book_fine : ∀ (L : List Part) (i c : Nat), (∀ p ∈ L, partO p = none ∧ p.T ≠ []) → c + L.length ≤ 6 → bookO L i c = .fine
  | [], i, c, _, h => by
    unfold bookO
    exact if_neg (by rw [List.length_nil] at h; omega)
  | p :: L, i, c, hp, h => by
    have a := hp p List.mem_cons_self
    unfold bookO
    rw [a.1]
    show bookO L (i + 1) (if p.T = [] then c else c + 1) = _
    rw [if_neg a.2]
    rw [List.length_cons] at h
    exact book_fine L (i + 1) (c + 1) (fun p m => hp p (List.mem_cons_of_mem _ m)) (by omega)
theorem book_len {rs : List Rl} (G : ∀ r ∈ rs, RuleG r) (few : rs.length ≤ 6) : (Txt.join "\n" (rs.map ruleT)).length ≤ 1000 := by
  have z := tjoin_len "\n" (rs.map ruleT)
  have s := sum_le (l := rs.map ruleT) (n := 100) fun x m => by
    obtain ⟨r, mr, rfl⟩ := List.mem_map.mp m
    exact rule_len (G r mr)
  rw [List.length_map] at z s
  have o : ("\n" : Str).length = 1 := rfl
  rw [o] at z
  omega
theorem told_book {rs : List Rl} (n : rs ≠ []) (G : ∀ r ∈ rs, RuleG r) (few : rs.length ≤ 6) : Told 1 (Txt.join "\n" (rs.map ruleT)) .fine := by
  obtain ⟨L, e, hL⟩ := right_parts rs G
  have lL : L.length = rs.length := by
    have z := congrArg List.length e
    rwa [List.length_map, List.length_map] at z
  refine ⟨Nat.le_trans (book_len G few) (by decide), .inr ⟨rfl, L, ⟨by rw [e], fun z => n (List.length_eq_zero_iff.mp (by rw [← lL, z]; rfl)), fun c m => ?_, by omega⟩, (book_fine L 0 0 (fun p m => (hL p m).2) (by omega)).symm⟩⟩
  have mx : c.x ∈ rs.map ruleT := by
    rw [← e]
    exact List.mem_map_of_mem m
  obtain ⟨r, mr, er⟩ := List.mem_map.mp mx
  rw [← er]
  refine ⟨?_, by rw [er]; exact (hL c m).1, Nat.le_trans (rule_len (G r mr)) (by decide)⟩
  exact wide_no10 (G r mr) canon_wide
theorem told_x {x : Str} (h : TL.tl x = List.replicate 5000 120) : Told 0 x (.prob 1 1) := by
  have l : x.length = 5000 := by rw [TL.len_tl, h, List.length_replicate]
  have ne : TL.tl x ≠ [] := fun z => by
    rw [z] at h
    have := congrArg List.length h
    rw [List.length_replicate] at this
    exact nomatch this
  have hw := LexR.word (p := 0) (w := x) (cs := []) ne (fun c m => by rw [h] at m; rw [List.eq_of_mem_replicate m]; rfl) (fun c z => nomatch z) LexR.nil
  rw [List.append_nil] at hw
  refine ⟨by rw [l]; decide, .inl ⟨rfl, _, _, hw, ?_⟩⟩
  have n0 : nextW [(0, x)] 0 = x := rfl
  have nl : ¬ dLabel (.str x) = true := fun z => by
    have := lab_len z
    omega
  have e : ruleX [(0, x)] = (0, true) := by
    unfold ruleX
    rw [n0, if_neg nl]
  unfold out0 outR
  rw [e]
  rfl
theorem told_q {x : Str} {cs : List Nat} (h : TL.tl x = [120, 32, 58, 32, 42, 111, 32, 60, 32, 63] ++ cs) (l : x.length ≤ 100000) : Told 0 x (.prob 1 10) := by
  have wx : TL.tl ("x" : Str) = [120] := by decide +kernel
  have wo : TL.tl ("o" : Str) = [111] := by decide +kernel
  have t0 : LexR 9 (63 :: cs) [] (some 9) := .bad (by decide) (by decide) (by decide)
  have t1 := LexR.blank (p := 8) (c := 32) (by decide) t0
  have t2 := LexR.sign (p := 7) (c := 60) (by decide) t1
  have t3 := LexR.blank (p := 6) (c := 32) (by decide) t2
  have t4 := LexR.word (p := 5) (w := "o") (by rw [wo]; exact fun z => nomatch z) (by rw [wo]; decide) (fun c z => by cases z; decide) t3
  rw [wo] at t4
  have t5 := LexR.sign (p := 4) (c := 42) (by decide) t4
  have t6 := LexR.blank (p := 3) (c := 32) (by decide) t5
  have t7 := LexR.sign (p := 2) (c := 58) (by decide) t6
  have t8 := LexR.blank (p := 1) (c := 32) (by decide) t7
  have t9 := LexR.word (p := 0) (w := "x") (by rw [wx]; exact fun z => nomatch z) (by rw [wx]; decide) (fun c z => by cases z; decide) t8
  rw [wx] at t9
  have t10 := t9
  rw [show ([120] ++ 32 :: 58 :: 32 :: 42 :: ([111] ++ 32 :: 60 :: 32 :: 63 :: cs) : List Nat) = TL.tl x by rw [h]; rfl] at t10
  exact ⟨l, .inl ⟨rfl, _, some 9, t10, rfl⟩⟩
end Lk

/-! K91Q -/
set_option Elab.async false
set_option linter.all false
set_option maxRecDepth 100000
set_option maxHeartbeats 4000000
namespace Lk
open PySem PySem.Spec PyProof.Rows L2
section
variable {P : Program} {w : World} {K : PySem.W.Frag} {mg : Str → Option Value} {base : Heap}
/-! ### what the law draws and what it holds fixed -/
theorem strs_ok {v : V} {ws : List Str} {n : Nat} (h : v ∈ ws.map V.str) (l : ∀ y ∈ ws, y.length ≤ n) : ∃ y : Str, v = .str y ∧ y.length ≤ n := by
  obtain ⟨y, my, rfl⟩ := List.mem_map.mp h
  exact ⟨y, rfl, l y my⟩
theorem nxs_none {σ : L2.St} {H : Hp} {Q : Option Int → Hp → Prop} (h : Q none H) : tNoPart σ H Q := h
theorem lst_w {ta : TA} {σ : L2.St} {H : Hp} {Q : VK} (ws : List Str) (hs : ∀ Z : List V → Hp → Prop, Z (ws.map V.str) H → ta σ H Z) (l : ws.length ≤ 1000) (h : ∀ p H', H p = none → Same H H' → H' p = some (.lst (ws.map V.str)) → Q (.ref p) H') : tLst ta σ H Q :=
  hs _ ⟨by rw [List.length_map]; exact Nat.le_trans l (by decide), fun p np => h p _ np (same_upd np) upd_same⟩
theorem lst_e {H : Hp} {Q : VK} (ws : List Str) (l : ws.length ≤ 1000) (h : ∀ p H', H p = none → Same H H' → H' p = some (.lst (ws.map V.str)) → Q (.ref p) H') : (ws.map V.str).length ≤ sizeLine ∧ ∀ p, H p = none → Q (.ref p) (upd H p (.lst (ws.map V.str))) :=
  ⟨by rw [List.length_map]; exact Nat.le_trans l (by decide), fun p np => h p _ np (same_upd np) upd_same⟩
theorem cat_w {l m : Addr} {A B : List Str} {H : Hp} {Q : VK} (ha : H l = some (.lst (A.map V.str))) (hb : H m = some (.lst (B.map V.str))) (n : A.length + B.length ≤ 1000) (h : ∀ p H', H p = none → Same H H' → H' p = some (.lst ((A ++ B).map V.str)) → Q (.ref p) H') : rCat (.ref l) (.ref m) H Q :=
  ⟨l, m, _, _, rfl, rfl, ha, hb, by rw [List.length_map, List.length_map]; exact Nat.le_trans n (by decide), fun p np => h p _ np (same_upd np) (by rw [upd_same, List.map_append])⟩
def spSpoilt (K : PySem.W.Frag) : Sp := fun vs H Q _ => ∃ (p c : Addr) (x : Str), vs = [.ref p, .str x] ∧ PotAt p c H ∧ x.length ≤ 50000 ∧ ∀ (z : Str) (H' : Hp), z.length ≤ 2 * x.length + 30 → Ext p c H H' → Q (.str z) H'
theorem sc_spoilt : FnScope ["pot", "text", "at", "choice", "signs", "sign"] ["pot", "text"] (defScope s_spoilt) := ⟨rfl, rfl, rfl, by decide +kernel, rfl, by decide +kernel, by decide +kernel⟩
theorem cal_spoilt (D : Def1 K mg "_law_spoilt" s_spoilt) (G : Glb mg) (gl : mg "list" = none) (CB : Cal P w K mg base 2 "_law_below" spBelow) (CP : Cal P w K mg base 3 "_law_pick" (spPick K)) : Cal P w K mg base 4 "_law_spoilt" (spSpoilt K) := by
  refine mkCal D sc_spoilt (fun _ _ _ _ _ _ us hl => match us, hl with | [_, _], _ => rfl) (fun vs H Q E h => ?_) (fun f cdv A outer s H vs Q E hr h => ?_)
  · obtain ⟨p, c, x, rfl, _⟩ := h
    rfl
  · obtain ⟨p, c, x, rfl, hP, hx, k⟩ := h
    have hz : x.length ≤ sizeLine := Nat.le_trans hx (by decide)
    refine ⟨_, (pss_cons (ps_par (i := 2) (j := 3) (by rfl) sc_spoilt.nd rfl rfl (by decide) rfl rfl (pa_cons (pe_cal CB hr (by omega) (pa_cons (pv 0) (pa_cons (pe_op op_add (pe_callB call_len_str (by rfl) G.len PySem.boot_len (pa_cons (pv 1) pa_nil)) pe_int) pa_nil))) (pa_cons (pe_cal CB hr (by omega) (pa_cons (pv 0) (pa_cons pe_int pa_nil))) pa_nil)) (by rfl))
    (pss_cons (ps_set (i := 4) sc_spoilt.nd rfl (.inl rfl) (pe_op op_cat (pe_callTy (call_listTx rfl) (by rfl) gl (by decide +kernel) (pa_cons pe_str pa_nil)) (pe_lst (pa_cons pe_str (pa_cons pe_str (pa_cons pe_str (pa_cons pe_str (pa_cons pe_str (pa_cons pe_str (pa_cons pe_str (pa_cons pe_str (pa_cons pe_str (pa_cons pe_str pa_nil)))))))))))))
    (pss_cons (ps_set (i := 5) sc_spoilt.nd rfl (.inl rfl) (pe_cal CP hr (by omega) (pa_cons (pv 0) (pa_cons (pe_op op_cat (pv 4) (pe_lst (pa_cons pe_str (pa_cons pe_str (pa_cons pe_str (pa_cons pe_str (pa_cons pe_str (pa_cons pe_str (pa_cons pe_str (pa_cons pe_str (pa_cons pe_str pa_nil))))))))))) pa_nil))))
    (pss_cons (ps_if (pt_cmpR op_eq (pv 3) pe_int (nomark _)) (pss_one (ps_ret (pe_slice sl_str (pv 1) po_none (po_some (pv 2))))) pss_nil)
    (pss_one (ps_ret (pe_op op_add_str (pe_op op_add_str (pe_slice sl_str (pv 1) po_none (po_some (pv 2))) (pe_ifExp (pt_cmpR op_lt (pv 3) pe_int (nomark _)) (pv 5) pe_str)) (pe_slice sl_str (pv 1) (po_some (pe_op op_add (pv 2) (pe_callTy call_int1 (by rfl) G.int (by decide +kernel) (pa_cons (pe_cmpR op_gt (pv 3) pe_int (nomark _)) pa_nil)))) po_none)))))))), ?_⟩
    refine sq_par2 ?_
    refine ⟨_, rfl, _, rfl, x, rfl, hz, _, _, rfl, rfl, p, c, (x.length : Int) + 1, rfl, hP, by omega, by omega, fun r H1 r0 r1 e1 => ?_⟩
    refine ⟨_, rfl, p, c, 4, rfl, e1.pot, by decide, by decide, fun r2 H2 q0 q1 e2 => ⟨_, _, rfl, ?_⟩⟩
    have e02 := e1.trans e2
    obtain ⟨n, rfl⟩ : ∃ n : Nat, r = (n : Int) := ⟨r.toNat, by omega⟩
    refine sq_asg ?_
    refine ⟨"#&+-./;=>?@\x5b]^_{|}~!019AZaz:*<:*< ", rfl, by decide +kernel, fun l nl => ?_⟩
    have s3 := same_upd (o := .lst ((signsOf "#&+-./;=>?@\x5b]^_{|}~!019AZaz:*<:*< ").map V.str)) nl
    have h3 : upd H2 l (.lst ((signsOf "#&+-./;=>?@\x5b]^_{|}~!019AZaz:*<:*< ").map V.str)) l = some (.lst ((signsOf "#&+-./;=>?@\x5b]^_{|}~!019AZaz:*<:*< ").map V.str)) := upd_same
    generalize upd H2 l (.lst ((signsOf "#&+-./;=>?@\x5b]^_{|}~!019AZaz:*<:*< ").map V.str)) = H3 at s3 h3 ⊢
    refine lst_w ["\t", "\n", "\\", "'", "\"", "AB", "ABCD", "abcd", "Ab", "aB"] (fun Z z => z) (by decide +kernel) fun m H4 nm s4 h4 => ?_
    have lS : (signsOf "#&+-./;=>?@\x5b]^_{|}~!019AZaz:*<:*< ").length = 34 := by decide +kernel
    refine cat_w (s4 _ _ h3) h4 (by rw [lS]; decide) fun q H5 nq s5 h5 => ?_
    have lA : ∀ y ∈ signsOf "#&+-./;=>?@\x5b]^_{|}~!019AZaz:*<:*< " ++ (["\t", "\n", "\\", "'", "\"", "AB", "ABCD", "abcd", "Ab", "aB"] : List Str), y.length ≤ 20 := by decide +kernel
    have nA : (signsOf "#&+-./;=>?@\x5b]^_{|}~!019AZaz:*<:*< " ++ (["\t", "\n", "\\", "'", "\"", "AB", "ABCD", "abcd", "Ab", "aB"] : List Str)).length = 44 := by decide +kernel
    generalize signsOf "#&+-./;=>?@\x5b]^_{|}~!019AZaz:*<:*< " ++ (["\t", "\n", "\\", "'", "\"", "AB", "ABCD", "abcd", "Ab", "aB"] : List Str) = A at h5 lA nA
    have s25 := (s3.trans s4).trans s5
    refine on_go (sq_asg ?_)
    refine ⟨_, rfl, _, rfl, ?_⟩
    refine lst_w ["abcdefghi", "Abcdefg", " *", "* ", "A *", "**", "*o", " A", "cc : * <"] (fun Z z => z) (by decide +kernel) fun m2 H6 nm2 s6 h6 => ?_
    refine cat_w (s6 _ _ h5) h6 (by rw [nA]; decide) fun q2 H7 nq2 s7 h7 => ?_
    have z9 : ∀ y ∈ (["abcdefghi", "Abcdefg", " *", "* ", "A *", "**", "*o", " A", "cc : * <"] : List Str), y.length ≤ 20 := by decide +kernel
    have lB : ∀ y ∈ A ++ (["abcdefghi", "Abcdefg", " *", "* ", "A *", "**", "*o", " A", "cc : * <"] : List Str), y.length ≤ 20 := fun y my => by
      rcases List.mem_append.mp my with h | h
      · exact lA y h
      · exact z9 y h
    have nB : (A ++ (["abcdefghi", "Abcdefg", " *", "* ", "A *", "**", "*o", " A", "cc : * <"] : List Str)).length = 53 := by rw [List.length_append, nA]; rfl
    generalize A ++ (["abcdefghi", "Abcdefg", " *", "* ", "A *", "**", "*o", " A", "cc : * <"] : List Str) = B at h7 lB nB
    have s27 := (s25.trans s6).trans s7
    have P6 := e02.pot.same (s25.trans s6)
    refine ⟨p, c, q2, B.map V.str, rfl, e02.pot.same s27, SqL.of h7, P6.nep nq2, by rw [List.length_map, nB]; decide, by rw [List.length_map, nB]; decide, fun v H8 hv e8 => ?_⟩
    have e08 := e02.trans (Ext.pre s27 e8)
    obtain ⟨y, rfl, ly⟩ := strs_ok hv lB
    refine on_go (sq_if (go_if ⟨_, rfl, rfl, _, rfl, ?_⟩))
    have l1 := cutS_length x none (some (n : Int))
    refine ite2 (fun h0 => ?_) (fun h0 => ?_)
    · exact go_ret ⟨_, rfl, _, rfl, _, rfl, x, rfl, hz, k _ _ (by omega) e08⟩
    · refine nxt_go (go_ret ?_)
      refine ⟨_, rfl, _, rfl, _, rfl, x, rfl, hz, ?_⟩
      refine ⟨_, rfl, _, _, rfl, rfl, _, rfl, ?_⟩
      have fin : ∀ (w : Str) (i : Int), w.length ≤ 20 → Q (.str (cutS x none (some (n : Int)) ++ w ++ cutS x (some i) none)) H8 := fun w i lw => by
        have l2 := cutS_length x (some i) none
        exact k _ _ (by rw [len_add, len_add]; omega) e08
      have size : ∀ (w : Str) (i : Int), w.length ≤ 20 → (cutS x none (some (n : Int)) ++ w).length + (cutS x (some i) none).length ≤ sizeLine := fun w i lw => by
        have l2 := cutS_length x (some i) none
        rw [len_add, sizeLine_eq]
        omega
      refine ite2 (fun h1 => ?_) (fun h1 => ?_)
      · refine ⟨_, rfl, _, y, rfl, rfl, by rw [sizeLine_eq]; omega, ?_⟩
        refine ⟨_, rfl, _, rfl, _, rfl, _, _, rfl, rfl, .inr ⟨_, rfl, _, _, rfl, rfl, _, rfl, nxs_none ?_⟩⟩
        exact ⟨x, rfl, hz, _, _, rfl, rfl, size y _ ly, fin y _ ly⟩
      · refine ⟨_, "", rfl, rfl, by rw [sizeLine_eq]; have o : ("" : Str).length = 0 := rfl; omega, ?_⟩
        refine ⟨_, rfl, _, rfl, _, rfl, _, _, rfl, rfl, .inr ⟨_, rfl, _, _, rfl, rfl, _, rfl, nxs_none ?_⟩⟩
        exact ⟨x, rfl, hz, _, _, rfl, rfl, size "" _ (by decide +kernel), fin "" _ (by decide +kernel)⟩
def spFixed : Sp := fun vs H Q _ => vs = [] ∧ ∀ (l : Addr) (ws : List Str) (H' : Hp), Same H H' → H' l = some (.lst (ws.map V.str)) → ws.length ≤ 1000 → (∀ y ∈ ws, y.length ≤ 100) → Q (.ref l) H'
theorem sc_fixed : FnScope ["found"] [] (defScope s_fixed) := ⟨rfl, rfl, rfl, by decide +kernel, rfl, by decide +kernel, by decide +kernel⟩
structure StrsAt (H : Hp) (l : Addr) (n : Nat) (ws : List Str) : Prop where
  h : H l = some (.lst (ws.map V.str))
  n : ws.length = n
  ok : ∀ y ∈ ws, y.length ≤ 100
theorem strs_cat {l : Addr} {n : Nat} {A : List Str} {ta : TA} {σ : L2.St} {H : Hp} {Q : VK} (S : StrsAt H l n A) (B : List Str) (hs : ∀ Z : List V → Hp → Prop, Z (B.map V.str) H → ta σ H Z) (hB : ∀ y ∈ B, y.length ≤ 100) (hn : n + B.length ≤ 900) (h0 : σ[0]? = some (some (.ref l)))
    (h : ∀ p C H', Same H H' → StrsAt H' p (n + B.length) C → Q (.ref p) H') : tOp rCat (tVar 0) (tLst ta) σ H Q := by
  refine ⟨_, h0, lst_w B hs (by omega) fun m H1 nm s1 h1 => ?_⟩
  refine cat_w (s1 _ _ S.h) h1 (by rw [S.n]; omega) fun q H2 nq s2 h2 => ?_
  refine h q _ H2 (s1.trans s2) ⟨h2, by rw [List.length_append, S.n], fun y my => ?_⟩
  rcases List.mem_append.mp my with m | m
  · exact S.ok y m
  · exact hB y m
theorem cal_fixed (D : Def1 K mg "_law_fixed" s_fixed) : Cal P w K mg base 1 "_law_fixed" spFixed := by
  refine mkCal D sc_fixed (fun _ _ _ _ _ _ us hl => match us, hl with | [], _ => rfl) (fun vs H Q E h => ?_) (fun f cdv A outer s H vs Q E hr h => ?_)
  · obtain ⟨rfl, _⟩ := h
    rfl
  · obtain ⟨rfl, k⟩ := h
    refine ⟨_, (pss_cons (ps_set (i := 0) sc_fixed.nd rfl (.inl rfl) (pe_lst (pa_cons pe_str (pa_cons pe_str (pa_cons pe_str (pa_cons pe_str (pa_cons pe_str (pa_cons pe_str pa_nil))))))))
    (pss_cons (ps_set (i := 0) sc_fixed.nd rfl (.inl rfl) (pe_op op_cat (pv 0) (pe_lst (pa_cons pe_str (pa_cons pe_str (pa_cons pe_str (pa_cons pe_str (pa_cons pe_str (pa_cons pe_str pa_nil)))))))))
    (pss_cons (ps_set (i := 0) sc_fixed.nd rfl (.inl rfl) (pe_op op_cat (pv 0) (pe_lst (pa_cons pe_str (pa_cons pe_str pa_nil)))))
    (pss_cons (ps_set (i := 0) sc_fixed.nd rfl (.inl rfl) (pe_op op_cat (pv 0) (pe_lst (pa_cons pe_str (pa_cons pe_str (pa_cons pe_str pa_nil))))))
    (pss_cons (ps_set (i := 0) sc_fixed.nd rfl (.inl rfl) (pe_op op_cat (pv 0) (pe_lst (pa_cons pe_str (pa_cons pe_str (pa_cons pe_str pa_nil))))))
    (pss_cons (ps_set (i := 0) sc_fixed.nd rfl (.inl rfl) (pe_op op_cat (pv 0) (pe_lst (pa_cons pe_str (pa_cons pe_str (pa_cons pe_str (pa_cons pe_str pa_nil)))))))
    (pss_cons (ps_set (i := 0) sc_fixed.nd rfl (.inl rfl) (pe_op op_cat (pv 0) (pe_lst (pa_cons pe_str (pa_cons pe_str (pa_cons pe_str pa_nil))))))
    (pss_cons (ps_set (i := 0) sc_fixed.nd rfl (.inl rfl) (pe_op op_cat (pv 0) (pe_lst (pa_cons pe_str (pa_cons pe_str (pa_cons pe_str pa_nil))))))
    (pss_cons (ps_set (i := 0) sc_fixed.nd rfl (.inl rfl) (pe_op op_cat (pv 0) (pe_lst (pa_cons pe_str (pa_cons pe_str (pa_cons pe_str pa_nil))))))
    (pss_cons (ps_set (i := 0) sc_fixed.nd rfl (.inl rfl) (pe_op op_cat (pv 0) (pe_lst (pa_cons (pe_op op_strRep0 pe_str pe_int) (pa_cons (pe_op op_strRep0 pe_str pe_int) (pa_cons (pe_op op_add_str (pe_op op_strRep0 pe_str pe_int) pe_str) pa_nil))))))
    (pss_one (ps_ret (pe_op op_cat (pv 0) (pe_lst (pa_cons (pe_op op_add_str pe_str (pe_op op_strRep0 pe_str pe_int)) (pa_cons (pe_op op_add_str pe_str (pe_op op_strRep0 pe_str pe_int)) (pa_cons pe_str pa_nil))))))))))))))))), ?_⟩
    refine sq_asg (lst_w ["", " ", "\n", "cc", "cc :", "cc : *"] (fun Z z => z) (by decide +kernel) fun l0 H0 _ s0 h0 => ?_)
    have S0 : StrsAt H0 l0 6 ["", " ", "\n", "cc", "cc :", "cc : *"] := ⟨h0, rfl, by decide +kernel⟩
    generalize (["", " ", "\n", "cc", "cc :", "cc : *"] : List Str) = W0 at S0
    refine on_go (sq_asg (strs_cat S0 ["cc : * <", "cc : *o < *", "cc : *o < * c", "cc : A* < *", "cc : *o < *c", "cc : A*o < A*c B s"] (fun Z z => z) (by decide +kernel) (by decide +kernel) rfl fun l1 W1 H1 s1 S1 => ?_))
    refine on_go (sq_asg (strs_cat S1 ["Cc : * <", "cc : Ab* <"] (fun Z z => z) (by decide +kernel) (by decide +kernel) rfl fun l2 W2 H2 s2 S2 => ?_))
    refine on_go (sq_asg (strs_cat S2 ["cc : A *o < *c", "cc : *o < A *c", "cc : *o < A* c"] (fun Z z => z) (by decide +kernel) (by decide +kernel) rfl fun l3 W3 H3 s3 S3 => ?_))
    refine on_go (sq_asg (strs_cat S3 ["cc : *o < *c*d", "cc : *o < A B C D", "cc : * < aB"] (fun Z z => z) (by decide +kernel) (by decide +kernel) rfl fun l4 W4 H4 s4 S4 => ?_))
    refine on_go (sq_asg (strs_cat S4 ["cc:*<", "cc : ABCD* <", "cc : *abcd <", "cc : *A <"] (fun Z z => z) (by decide +kernel) (by decide +kernel) rfl fun l5 W5 H5 s5 S5 => ?_))
    refine on_go (sq_asg (strs_cat S5 ["cc : *o < ABCD*", "cc : *o < Ab*", "cc : *o < Abcdefg"] (fun Z z => z) (by decide +kernel) (by decide +kernel) rfl fun l6 W6 H6 s6 S6 => ?_))
    refine on_go (sq_asg (strs_cat S6 ["cc : *o <\n*c", "cc : *o < *c\n\nas : *o *s", "cc : *o < : *"] (fun Z z => z) (by decide +kernel) (by decide +kernel) rfl fun l7 W7 H7 s7 S7 => ?_))
    refine on_go (sq_asg (strs_cat S7 ["abcdefghi : * <", "cc : *o < *c ?", "? cc"] (fun Z z => z) (by decide +kernel) (by decide +kernel) rfl fun l8 W8 H8 s8 S8 => ?_))
    have s08 := s0.trans (s1.trans (s2.trans (s3.trans (s4.trans (s5.trans (s6.trans (s7.trans s8)))))))
    have rep : ∀ (z a : Str) (k : Nat), TL.tl z = (List.replicate k (TL.tl a)).flatten → z.length = k * a.length := fun z a k h => by
      rw [TL.len_tl, h, List.length_flatten, List.map_replicate, List.sum_replicate_nat, ← TL.len_tl]
    have l1 : ("a:A*<\n" : Str).length = 6 := by decide +kernel
    have l2 : (" *b" : Str).length = 3 := by decide +kernel
    have l3 : ("a:A*<" : Str).length = 5 := by decide +kernel
    have l4 : ("a" : Str).length = 1 := by decide +kernel
    refine on_go (sq_asg ⟨_, rfl, ?_⟩)
    refine ⟨"a:A*<\n", 6, rfl, rfl, by decide, by rw [l1]; decide, fun z1 h1 => ⟨"a:A*<\n", 7, rfl, rfl, by decide, by rw [l1]; decide, fun z2 h2 => ⟨"a:A*<\n", 7, rfl, rfl, by decide, by rw [l1]; decide, fun z3 h3 => ?_⟩⟩⟩
    have n1 := rep _ _ _ h1
    have n2 := rep _ _ _ h2
    have n3 := rep _ _ _ h3
    rw [l1] at n1 n2 n3
    refine ⟨z3, "a", rfl, rfl, by rw [n3, l4]; decide, ?_⟩
    refine ⟨(by show 3 ≤ sizeLine; decide), fun m nm => ?_⟩
    have s9 : Same H8 (upd H8 m (.lst ([z1, z2, z3 ++ "a"].map V.str))) := same_upd nm
    have h9 : upd H8 m (.lst ([z1, z2, z3 ++ "a"].map V.str)) m = some (.lst ([z1, z2, z3 ++ "a"].map V.str)) := upd_same
    refine cat_w (s9 _ _ S8.h) h9 (by rw [S8.n]; simp only [List.length_cons, List.length_nil]; omega) fun q H10 nq s10 h10 => ?_
    have S10 : StrsAt H10 q (6 + 6 + 2 + 3 + 3 + 4 + 3 + 3 + 3 + 3) (W8 ++ [z1, z2, z3 ++ "a"]) := ⟨h10, by rw [List.length_append, S8.n]; rfl, fun y my => by
      rcases List.mem_append.mp my with m | m
      · exact S8.ok y m
      · simp only [List.mem_cons, List.mem_nil_iff, or_false] at m
        rcases m with rfl | rfl | rfl
        · omega
        · omega
        · rw [len_add, l4]
          omega⟩
    generalize W8 ++ [z1, z2, z3 ++ "a"] = W10 at S10
    refine on_go (go_ret ⟨_, rfl, ?_⟩)
    refine ⟨" *b", 3, rfl, rfl, by decide, by rw [l2]; decide, fun z4 h4 => ⟨"a:A*<", z4, rfl, rfl, ?_, ?_⟩⟩
    · rw [l3, rep _ _ _ h4, l2]
      decide
    refine ⟨" *b", 4, rfl, rfl, by decide, by rw [l2]; decide, fun z5 h5 => ⟨"a:A*<", z5, rfl, rfl, ?_, ?_⟩⟩
    · rw [l3, rep _ _ _ h5, l2]
      decide
    have n4 := rep _ _ _ h4
    have n5 := rep _ _ _ h5
    rw [l2] at n4 n5
    refine ⟨(by show 3 ≤ sizeLine; decide), fun m3 nm3 => ?_⟩
    have s11 : Same H10 (upd H10 m3 (.lst (["a:A*<" ++ z4, "a:A*<" ++ z5, "cc : o* <"].map V.str))) := same_upd nm3
    have h11 : upd H10 m3 (.lst (["a:A*<" ++ z4, "a:A*<" ++ z5, "cc : o* <"].map V.str)) m3 = some (.lst (["a:A*<" ++ z4, "a:A*<" ++ z5, "cc : o* <"].map V.str)) := upd_same
    refine cat_w (s11 _ _ S10.h) h11 (by rw [S10.n]; simp only [List.length_cons, List.length_nil]; omega) fun q3 H12 nq3 s12 h12 => ?_
    refine k q3 _ H12 (s08.trans (s9.trans (s10.trans (s11.trans s12)))) h12 (by rw [List.length_append, S10.n]; simp only [List.length_cons, List.length_nil]; omega) fun y my => ?_
    rcases List.mem_append.mp my with m | m
    · exact S10.ok y m
    · simp only [List.mem_cons, List.mem_nil_iff, or_false] at m
      rcases m with rfl | rfl | rfl
      · rw [len_add, l3]
        omega
      · rw [len_add, l3]
        omega
      · decide +kernel
end
end Lk

/-! K91R -/
set_option Elab.async false
set_option linter.all false
set_option maxRecDepth 100000
set_option maxHeartbeats 4000000
namespace Lk
open PySem PySem.Spec PyProof.Rows L2
section
variable {P : Program} {w : World} {K : PySem.W.Frag} {mg : Str → Option Value} {base : Heap}
/-! ### the law's texts -/
def spLST (K : PySem.W.Frag) : Sp := fun vs H Q _ => ∃ (v : V) (s : Src), vs = [v] ∧ Th K H v s.d ∧ srcB s ∧ Q (.str (srcT s)) H
theorem sc_lsource_text : FnScope ["source"] ["source"] (defScope s_source_text) := ⟨rfl, rfl, rfl, by decide +kernel, rfl, by decide +kernel, by decide +kernel⟩
theorem cal_lsource_text (D : Def1 K mg "_law_source_text" s_source_text) (T : Glc mg) : Cal P w K mg base 1 "_law_source_text" (spLST K) := by
  refine mkCal D sc_lsource_text (fun _ _ _ _ _ _ us hl => match us, hl with | [_], _ => rfl) (fun vs H Q E h => ?_) (fun f cdv A outer s H vs Q E hr h => ?_)
  · obtain ⟨v, s, rfl, _⟩ := h
    rfl
  · obtain ⟨v, s, rfl, th, hb, k⟩ := h
    refine ⟨_, (pss_one (ps_ret (pe_ifExp (pt_val (pe_isi (T := "str") (pv 0) T.isinst T.str (by decide +kernel))) (pv 0) (pe_op op_add_str (pe_op op_add_str (pe_ix ix_tup (pv 0) pe_int (fun _ _ => rfl)) pe_str) (pe_ix ix_tup (pv 0) pe_int (fun _ _ => rfl)))))), ?_⟩
    refine go_ret ?_
    refine ⟨_, rfl, v, _, _, _, _, rfl, .ty _, th_ty th, kit_str _, _, rfl, ?_⟩
    rcases th_srcs th with ⟨x, rfl, rfl⟩ | ⟨q, b, e, rfl, rfl, hq⟩
    · exact iteT' rfl ⟨_, rfl, k⟩
    · obtain ⟨h1, h2⟩ : b.length ≤ 1000 ∧ e.length ≤ 1000 := hb
      have o1 : ("*" : Str).length = 1 := rfl
      refine iteF' rfl ?_
      refine ⟨_, rfl, q, _, _, _, rfl, rfl, hq, rfl, b, "*", rfl, rfl, by rw [o1, sizeLine_eq]; omega, _, rfl, q, _, _, _, rfl, rfl, hq, rfl, b ++ "*", e, rfl, rfl, by rw [len_add, o1, sizeLine_eq]; omega, ?_⟩
      have z : srcT (.pat b e) = b ++ "*" ++ e := star_join b e
      rw [z] at k
      exact k
def spLFmt (K : PySem.W.Frag) : Sp := fun vs H Q _ => ∃ (v : V) (r : Rl), vs = [v] ∧ Th K H v r.d ∧ RuleB r ∧ ∀ H', Same H H' → Q (.str (ruleT r)) H'
theorem sc_lrule_text : FnScope ["rule", "one"] ["rule"] (defScope s_rule_text) := ⟨rfl, rfl, rfl, by decide +kernel, rfl, by decide +kernel, by decide +kernel⟩
theorem cal_lrule_text (D : Def1 K mg "_law_rule_text" s_rule_text) (CS : Cal P w K mg base 1 "_law_source_text" (spLST K)) : Cal P w K mg base 2 "_law_rule_text" (spLFmt K) := by
  refine mkCal D sc_lrule_text (fun _ _ _ _ _ _ us hl => match us, hl with | [_], _ => rfl) (fun vs H Q E h => ?_) (fun f cdv A outer s H vs Q E hr h => ?_)
  · obtain ⟨v, r, rfl, _⟩ := h
    rfl
  · obtain ⟨v, r, rfl, th, B, k⟩ := h
    refine ⟨_, (pss_one (ps_ret (pe_join pe_str (pe_op op_cat (pe_lst (pa_cons (pe_ix ix_tup (pv 0) pe_int (fun _ _ => rfl)) (pa_cons pe_str (pa_cons (pe_cal CS hr (by omega) (pa_cons (pe_ix ix_tup (pv 0) pe_int (fun _ _ => rfl)) pa_nil)) (pa_cons pe_str pa_nil))))) (pe_lc (own := [("one", 1)]) (g := gName 1) (tt := tYes) (by rfl) sc_lrule_text.nd (pi_tup (pe_ix ix_tup (pv 0) pe_int (fun _ _ => rfl))) (blkOk_by (own := [("one", 1)]) (N := ["rule", "one"]) (sc := defScope s_rule_text) (by decide +kernel)) (fun _ _ _ _ _ => pg_name (i := 1) sc_lrule_text.nd rfl (Or.inl rfl)) (fun _ _ _ _ _ => pts_nil) (fun _ _ _ _ _ => (pe_cal CS hr (by omega) (pa_cons (pv 1) pa_nil)))))))), ?_⟩
    obtain ⟨q, p, t, xs, rfl, hq, hp, ht, hx⟩ := th_ruleX th
    have lx := thAll_len hx
    rw [List.length_map] at lx
    refine go_ret ?_
    refine ⟨⟨_, rfl⟩, ?_⟩
    refine ⟨_, rfl, q, _, _, _, rfl, rfl, hq, rfl, _, rfl, q, _, _, _, rfl, rfl, hq, rfl, .ref p, .pat r.b r.e, rfl, .tup hp (.cons (.str _) (.cons (.str _) .nil)), B.p, (by show 4 ≤ sizeLine; decide), fun p1 n1 => ?_⟩
    have s1 := same_upd (o := .lst [.str r.lab, .str ":", .str (srcT (.pat r.b r.e)), .str "<"]) n1
    have h1 : upd H p1 (.lst [.str r.lab, .str ":", .str (srcT (.pat r.b r.e)), .str "<"]) p1 = some (.lst [.str r.lab, .str ":", .str (srcT (.pat r.b r.e)), .str "<"]) := upd_same
    show _
    generalize upd H p1 (.lst [.str r.lab, .str ":", .str (srcT (.pat r.b r.e)), .str "<"]) = H1 at s1 h1 ⊢
    refine ⟨_, rfl, q, _, _, _, rfl, rfl, Same.seqT s1 hq, rfl, t, rfl, ⟨_, Same.seqT s1 ht⟩, fun F nF => ?_⟩
    refine lc_tup (K := K) (a := t) (xs := xs) (fun i H' => Same H1 H' ∧ H' F = some (.lst (((r.ss.take i).map srcT).map V.str))) ⟨same_upd nF, upd_same⟩ (fun i H' _ h => Same.seqT (s1.trans h.1) ht) ?_ ?_
    · rintro i x H2 hxi ⟨s2, hF⟩
      obtain ⟨d, hd, thx⟩ := th_at (thAll_same (s1.trans s2) hx) hxi
      obtain ⟨a, ha, rfl⟩ := Option.map_eq_some_iff.mp ((List.getElem?_map ..).symm.trans hd)
      have l3 := (List.getElem?_eq_some_iff.mp ha).1
      refine ⟨rfl, ⟨_, rfl, x, a, rfl, thx, B.ss a (List.mem_of_getElem? ha), _, hF, ?_, same_mut s2 nF, ?_⟩⟩
      · rw [List.length_map, List.length_map, List.length_take, sizeLine_eq]
        have := B.few
        omega
      · rw [upd_same, List.take_add_one, ha, List.map_append, List.map_append]
        rfl
    · rintro H2 ⟨s2, hF⟩
      rw [lx, List.take_length] at hF
      refine ⟨p1, F, _, _, rfl, rfl, s2 _ _ h1, hF, ?_, fun p2 n2 => ?_⟩
      · rw [List.length_map, List.length_map, sizeLine_eq]
        have := B.few
        show 4 + _ ≤ _
        omega
      · have sm := sum_le (l := [r.lab, ":", srcT (.pat r.b r.e), "<"] ++ r.ss.map srcT) (n := 2001) fun x mx => by
          rcases List.mem_append.mp mx with m | m
          · rcases List.mem_cons.mp m with rfl | m
            · exact Nat.le_trans B.lab (by decide)
            · rcases List.mem_cons.mp m with rfl | m
              · decide +kernel
              · rcases List.mem_cons.mp m with rfl | m
                · exact srcT_len2 B.p
                · rw [List.mem_singleton.mp m]
                  decide +kernel
          · obtain ⟨a, ma, rfl⟩ := List.mem_map.mp m
            exact srcT_len2 (B.ss a ma)
        have lw : ([r.lab, ":", srcT (.pat r.b r.e), "<"] ++ r.ss.map srcT).length ≤ 1004 := by
          rw [List.length_append, List.length_map]
          have := B.few
          show 4 + _ ≤ _
          omega
        have eq : upd H2 p2 (.lst ([V.str r.lab, .str ":", .str (srcT (.pat r.b r.e)), .str "<"] ++ (r.ss.map srcT).map V.str)) p2 = some (.lst (([r.lab, ":", srcT (.pat r.b r.e), "<"] ++ r.ss.map srcT).map V.str)) := by
          rw [upd_same, List.map_append]
          rfl
        refine ⟨" ", p2, [r.lab, ":", srcT (.pat r.b r.e), "<"] ++ r.ss.map srcT, rfl, rfl, .inl (SqL.of eq), ?_, k _ ((s1.trans s2).trans (same_upd n2))⟩
        have o1 : (" " : Str).length = 1 := rfl
        rw [o1]
        generalize ([r.lab, ":", srcT (.pat r.b r.e), "<"] ++ r.ss.map srcT) = W at sm lw ⊢
        omega
end
end Lk

/-! K91S -/
set_option Elab.async false
set_option linter.all false
set_option maxRecDepth 100000
set_option maxHeartbeats 4000000
namespace Lk
open PySem PySem.Spec PyProof.Rows L2
section
variable {P : Program} {w : World} {K : PySem.W.Frag} {mg : Str → Option Value} {base : Heap}
/-! ### the law's function -/
theorem rep_flat (n c : Nat) : (List.replicate n [c]).flatten = List.replicate n c := by
  induction n with
  | zero => rfl
  | succ n ih =>
    rw [List.replicate_succ, List.flatten_cons, ih]
    rfl
theorem out_shp (o : Out) : SeqAt.shaped (outD o) = true := by
  cases o with
  | fine => rfl
  | prob i c => rfl
  | many => decide +kernel
theorem ne_sh {K : PySem.W.Frag} {H : Hp} {u y : V} {d : PyData} {Q : VK} (hu : Th K H u d) (hy : Th K H y d) (s : SeqAt.shaped d = true) (z : Q (.bl false) H) : rNeD K u y H Q := by
  refine ⟨d, d, th_dp hu (SeqAt.canLay_of_shaped s), th_dp hy (SeqAt.canLay_of_shaped s), s, s, ?_⟩
  rw [SeqAt.eqv_refl d (SeqAt.canLay_of_shaped s)]
  exact z
theorem pe_cal0 {X : Cx} {k j : Nat} {x : String} {sp : Sp} {p pos : Pos} (c : Cal X.prog X.w X.K X.mg X.base k x sp) (hr : Room j X.A) (hk : k ≤ j) (hg : Gl X x := by rfl) (hdb : ((x : Str) == ("__debug__" : Str)) = false := by decide) :
    PE X (.Call (.Name x p) [] [] pos) (tCall sp [] E0 tNil) := by
  obtain ⟨f, fd, ps, F, m, kp, b⟩ := c.ex
  exact pe_call0 F (hr.mono hk) hg m kp b .nil pass0 hdb
theorem th_none {H : Hp} {u : V} (h : Th K H u (outD .fine)) : u = .non := by
  cases h
  rfl
theorem sc_law : FnScope ["script", "pot", "choice", "text", "turn", "lap", "rules", "rule", "texts_here", "spoilt"] ["script"] (defScope s_law) := ⟨rfl, rfl, rfl, by decide +kernel, rfl, by decide +kernel, by decide +kernel⟩
structure Cs91 (P : Program) (w : World) (K : PySem.W.Frag) (mg : Str → Option Value) (base : Heap) : Prop where
  pot : Cal P w K mg base 1 "_law_pot_of" (spPotOf K)
  below : Cal P w K mg base 2 "_law_below" spBelow
  srule : Cal P w K mg base 5 "_law_some_rule" (spRule K)
  rtext : Cal P w K mg base 2 "_law_rule_text" (spLFmt K)
  spoilt : Cal P w K mg base 4 "_law_spoilt" (spSpoilt K)
  fixed : Cal P w K mg base 1 "_law_fixed" spFixed
  due : Cal P w K mg base 5 "_law_due" (spDue K)
  told : CalG P w K mg base CX0 10 "_law_told" (spTold K)
set_option maxHeartbeats 0
theorem fn_law {f : Addr} {fd : FuncData} (F : L2.Fun K "law" "law" s_law f fd) (C : Cs91 P w K mg base) (G : Glb mg) : FnG P w K mg base CX0 11 f fd ["script"] (spLaw K) := by
  refine mkFnG0 F sc_law (fun vs H Q E h => ?_) (fun cdv A outer s H vs Q E hr hg h => ?_)
  · obtain ⟨a, ns, rfl, _⟩ := h
    rfl
  · obtain ⟨a, ns, rfl, hS, hlen, k⟩ := h
    refine ⟨_, (pss_cons (ps_set (i := 1) sc_law.nd rfl (.inr rfl) (pe_cal C.pot hr (by decide) (pa_cons (pv 0) pa_nil)))
    (pss_cons (ps_if (PW.pt (pw_or (pt_cmpR (op_neD hr.units) (pe_calG C.told hr (by decide) hg (pa_cons pe_int (pa_cons (pe_op op_strRep0 pe_str pe_int) pa_nil))) (pe_tup (pa_cons pe_int (pa_cons pe_int pa_nil))) (nomark _)) (pw_or1 (pt_cmpR (op_neD hr.units) (pe_calG C.told hr (by decide) hg (pa_cons pe_int (pa_cons (pe_op op_add_str pe_str (pe_op op_strRep0 pe_str pe_int)) pa_nil))) (pe_tup (pa_cons pe_int (pa_cons pe_int pa_nil))) (nomark _))))) (pss_one (ps_ret pe_bl)) pss_nil)
    (pss_cons (ps_for PassesOwn.never rfl (pi_range1 (by rfl) G.range (pa_cons pe_int pa_nil)) (pg_name (i := 2) sc_law.nd rfl (.inl rfl))
    (pss_one (ps_for PassesOwn.never rfl (pi_list (pe_cal0 C.fixed hr (by decide))) (pg_name (i := 3) sc_law.nd rfl (.inl rfl))
    (pss_one (ps_if (pt_cmpR (op_neD hr.units) (pe_calG C.told hr (by decide) hg (pa_cons (pv 2) (pa_cons (pv 3) pa_nil))) (pe_cal C.due hr (by decide) (pa_cons (pv 2) (pa_cons (pv 3) pa_nil))) (nomark _)) (pss_one (ps_ret pe_bl)) pss_nil)))))
    (pss_cons (ps_for PassesOwn.never rfl (pi_range1 (by rfl) G.range (pa_cons pe_int pa_nil)) (pg_name (i := 4) sc_law.nd rfl (.inl rfl))
    (pss_cons (ps_setLc (i := 6) (own := [("lap", 5)]) (g := gName 5) (tt := tYes) (by rfl) sc_law.nd rfl rfl (sw_true rfl rfl rfl (by decide +kernel)) (pi_range1 (by rfl) G.range (pa_cons (pe_op op_add pe_int (pe_cal C.below hr (by decide) (pa_cons (pv 1) (pa_cons pe_int pa_nil)))) pa_nil)) (blkOk_by (own := [("lap", 5)]) (N := ["script", "pot", "choice", "text", "turn", "lap", "rules", "rule", "texts_here", "spoilt"]) (sc := defScope s_law) (by decide +kernel)) (fun _ _ _ _ _ => pg_name (i := 5) sc_law.nd rfl (Or.inl rfl)) (fun _ _ _ _ _ => pts_nil) (fun _ _ _ _ _ => (pe_cal C.srule hr (by decide) (pa_cons (pv 1) (pa_cons pe_int pa_nil)))))
    (pss_cons (ps_set (i := 8) sc_law.nd rfl (.inl rfl) (pe_lst (pa_cons (pe_cal C.rtext hr (by decide) (pa_cons (pe_ix ix_list (pv 6) pe_int (fun _ _ => rfl)) pa_nil)) (pa_cons (pe_join pe_str (pe_lc (own := [("rule", 7)]) (g := gName 7) (tt := tYes) (by rfl) sc_law.nd (pi_list (pv 6)) (blkOk_by (own := [("rule", 7)]) (N := ["script", "pot", "choice", "text", "turn", "lap", "rules", "rule", "texts_here", "spoilt"]) (sc := defScope s_law) (by decide +kernel)) (fun _ _ _ _ _ => pg_name (i := 7) sc_law.nd rfl (Or.inl rfl)) (fun _ _ _ _ _ => pts_nil) (fun _ _ _ _ _ => (pe_cal C.rtext hr (by decide) (pa_cons (pv 7) pa_nil))))) pa_nil))))
    (pss_one (ps_for PassesOwn.never rfl (pi_enum (by rfl) G.enumerate (pa_cons (pv 8) pa_nil)) (pg_tup rfl (pgs_cons (pg_name (i := 2) sc_law.nd rfl (.inl rfl)) (pgs_cons (pg_name (i := 3) sc_law.nd rfl (.inl rfl)) pgs_nil)))
    (pss_cons (ps_if (PW.pt (pw_or (pt_cmpR op_notN (pe_calG C.told hr (by decide) hg (pa_cons (pv 2) (pa_cons (pv 3) pa_nil))) pe_non (nomark _)) (pw_or1 (pt_cmpR op_notN (pe_cal C.due hr (by decide) (pa_cons (pv 2) (pa_cons (pv 3) pa_nil))) pe_non (nomark _))))) (pss_one (ps_ret pe_bl)) pss_nil)
    (pss_one (ps_for PassesOwn.never rfl (pi_range1 (by rfl) G.range (pa_cons pe_int pa_nil)) (pg_name (i := 5) sc_law.nd rfl (.inl rfl))
    (pss_cons (ps_set (i := 9) sc_law.nd rfl (.inl rfl) (pe_cal C.spoilt hr (by decide) (pa_cons (pv 1) (pa_cons (pv 3) pa_nil))))
    (pss_cons (ps_set (i := 9) sc_law.nd rfl (.inl rfl) (pe_ifExp (pt_cmpR op_gt (pv 5) pe_int (nomark _)) (pe_cal C.spoilt hr (by decide) (pa_cons (pv 1) (pa_cons (pv 9) pa_nil))) (pv 9)))
    (pss_one (ps_if (pt_cmpR (op_neD hr.units) (pe_calG C.told hr (by decide) hg (pa_cons (pv 2) (pa_cons (pv 9) pa_nil))) (pe_cal C.due hr (by decide) (pa_cons (pv 2) (pa_cons (pv 9) pa_nil))) (nomark _)) (pss_one (ps_ret pe_bl)) pss_nil))))))))))))
    (pss_one (ps_ret pe_bl)))))), ?_⟩
    refine sq_asg ?_
    refine ⟨_, rfl, a, ns, rfl, hS, hlen, fun p c H1 s1 np hP => on_go ?_⟩
    -- the first two texts
    refine sq_if (go_if ?_)
    refine ⟨"x", 5000, rfl, rfl, by decide, by decide +kernel, fun z hz => ?_⟩
    have hz' : TL.tl z = List.replicate 5000 120 := by
      rw [hz, show TL.tl ("x" : Str) = [120] by decide +kernel, rep_flat]
    refine ⟨0, z, .prob 1 1, rfl, told_x hz', fun u H2 s2 thu => ?_⟩
    refine ⟨(by show 2 ≤ sizeLine; decide), fun q nq => ?_⟩
    refine ne_sh (th_same (same_upd nq) thu) (.tup (SqT.of upd_same) (.cons (.int _) (.cons (.int _) .nil))) (out_shp _) ⟨_, rfl, ?_⟩
    refine iteF' rfl ?_
    have P2 := (hP.same s2).same (same_upd (o := .tup [.int 1, .int 1]) nq)
    generalize upd H2 q (.tup [.int 1, .int 1]) = H3 at P2 ⊢
    refine ⟨" *c", 1500, rfl, rfl, by decide, by decide +kernel, fun z2 hz2 => ?_⟩
    have l2 : z2.length = 4500 := by
      rw [TL.len_tl, hz2, List.length_flatten, List.map_replicate, List.sum_replicate_nat, ← TL.len_tl, show (" *c" : Str).length = 3 by decide +kernel]
    have o1 : ("x : *o < ?" : Str).length = 10 := by decide +kernel
    refine ⟨"x : *o < ?", z2, rfl, rfl, by rw [o1, sizeLine_eq]; omega, ?_⟩
    refine ⟨0, "x : *o < ?" ++ z2, .prob 1 10, rfl, told_q (cs := TL.tl z2) (by rw [TL.tl_append]; congr 1) (by rw [len_add, o1]; omega), fun u4 H4 s4 thu4 => ?_⟩
    refine ⟨(by show 2 ≤ sizeLine; decide), fun q2 nq2 => ?_⟩
    refine ne_sh (th_same (same_upd nq2) thu4) (.tup (SqT.of upd_same) (.cons (.int _) (.cons (.int _) .nil))) (out_shp _) ⟨_, rfl, ?_⟩
    have P4 := (P2.same s4).same (same_upd (o := .tup [.int 1, .int 10]) nq2)
    generalize upd H4 q2 (.tup [.int 1, .int 10]) = H5 at P4 ⊢
    refine iteF' rfl (nxt_go ?_)
    have both : ∀ (σ : L2.St) (i j : Nat) (Z : Bool → Hp → Prop) (ci : Nat) (y : Str) (H6 : Hp), σ[i]? = some (some (.int (ci : Int))) → σ[j]? = some (some (.str y)) → (ci = 0 ∨ ci = 1) → y.length ≤ 100000 → (∀ H7, Same H6 H7 → Z false H7) →
        tTest (tOp (rNeD K) (tCall (spTold K) [] E0 (tCons (tVar i) (tCons (tVar j) tNil))) (tCall (spDue K) [] E0 (tCons (tVar i) (tCons (tVar j) tNil)))) σ H6 Z := fun σ i j Z ci y H6 h1 h2 hc hy hZ => by
      obtain ⟨o, tld⟩ := told_ex hc hy
      exact ⟨_, h1, _, h2, ci, y, o, rfl, tld, fun u H7 s7 thu => ⟨_, h1, _, h2, ci, y, o, rfl, tld, fun u2 H8 s8 thu2 => ne_sh (th_same s8 thu) thu2 (out_shp o) ⟨_, rfl, hZ _ (s7.trans s8)⟩⟩⟩
    -- the fixed texts
    refine sq_for ?_
    refine ⟨2, rfl, by decide, by decide, for_range (n := 2) (fun i σ H' => ∃ v2 v3 v4 v5 v6 v7 v8 v9 : Option V, σ = [some (.ref a), some (.ref p), v2, v3, v4, v5, v6, v7, v8, v9] ∧ PotAt p c H') ⟨none, none, none, none, none, none, none, none, rfl, P4⟩ ?_ ?_⟩
    · rintro i σ H6 hi ⟨v2, v3, v4, v5, v6, v7, v8, v9, rfl, P6⟩
      refine on_go ?_
      refine ⟨rfl, fun l ws H7 s7 hl nw ok => ?_⟩
      refine ⟨l, rfl, ⟨_, SqL.of hl⟩, for_list (K := K) (a := l) (xs := ws.map V.str) (fun j σ H' => ∃ w3 : Option V, σ = [some (.ref a), some (.ref p), some (.int (0 + (i : Int))), w3, v4, v5, v6, v7, v8, v9] ∧ Same H7 H') ⟨v3, rfl, Same.refl _⟩ (fun j σ H' _ ⟨_, _, s⟩ => SqL.of (s _ _ hl)) ?_ ?_⟩
      · rintro j x σ H8 hx ⟨w3, rfl, s8⟩
        obtain ⟨y, hy, rfl⟩ := Option.map_eq_some_iff.mp ((List.getElem?_map ..).symm.trans hx)
        have ly := ok y (List.mem_of_getElem? hy)
        refine on_go (go_if ?_)
        refine both _ 2 3 _ i y H8 ?_ rfl (by omega) (by omega) fun H9 s9 => iteF' rfl (nxt_go ⟨_, rfl, s8.trans s9⟩)
        show some (some (V.int (0 + (i : Int)))) = _
        rw [Int.zero_add]
      · rintro σ H8 ⟨w3, rfl, s8⟩
        exact ends_go ⟨_, _, _, _, _, _, _, _, rfl, (P6.same s7).same s8⟩
    · rintro σ H6 ⟨v2, v3, v4, v5, v6, v7, v8, v9, rfl, P6⟩
      refine ends_go (sq_for ?_)
      refine ⟨6, rfl, by decide, by decide, for_range (n := 6) (fun i σ H' => ∃ v2 v3 v4 v5 v6 v7 v8 v9 : Option V, σ = [some (.ref a), some (.ref p), v2, v3, v4, v5, v6, v7, v8, v9] ∧ PotAt p c H') ⟨_, _, _, _, _, _, _, _, rfl, P6⟩ ?_ ?_⟩
      · rintro i σ H7 hi ⟨v2, v3, v4, v5, v6, v7, v8, v9, rfl, P7⟩
        refine on_go (sq_asg ?_)
        refine ⟨_, rfl, p, c, 3, rfl, P7, by decide, by decide, fun r H8 r0 r1 e8 => ⟨_, _, rfl, rfl, 1 + r, rfl, by omega, by omega, fun L nL => ?_⟩⟩
        refine grow (K := K) (p := p) (c := c) (σ := [some (.ref a), some (.ref p), v2, v3, some (.int (0 + (i : Int))), v5, v6, v7, v8, v9]) (te := tCall (spRule K) [] E0 (tCons (tVar 1) (tCons (tC (.int 3)) tNil))) (α := Rl) (f := Rl.d) (Ok := RuleG) (n := (1 + r).toNat) (iv := 5) rl_flat e8.pot nL (by omega) (fun _ => rfl)
          (fun x H' R hp q => ⟨_, rfl, p, c, 3, rfl, by decide, hp, fun v s H2 ok e2 th => q v s H2 (rl_good ok (Nat.le_refl _)) e2 th⟩) fun vs rs H9 hD ta ok len e9 => ?_
        have few : rs.length ≤ 3 := by omega
        have n0 : rs ≠ [] := fun z => by
          rw [z, List.length_nil] at len
          omega
        obtain ⟨r', rs', ers⟩ : ∃ r' rs', rs = r' :: rs' := by
          cases rs with
          | nil => exact absurd rfl n0
          | cons r' rs' => exact ⟨_, _, rfl⟩
        have lv := thAll_len ta
        rw [List.length_map] at lv
        have G0 := ok r' (by rw [ers]; exact List.mem_cons_self)
        obtain ⟨v0, vs', evs, th0⟩ : ∃ v0 vs', vs = v0 :: vs' ∧ Th K H9 v0 r'.d := by
          rw [ers] at ta
          cases vs with
          | nil => cases ta
          | cons v0 vs' =>
            rw [List.map_cons] at ta
            cases ta with
            | cons h _ => exact ⟨_, _, rfl, h⟩
        refine on_go (sq_asg ?_)
        refine ⟨_, rfl, L, vs, 0, v0, rfl, rfl, SqL.of hD, by rw [evs]; exact atI_nat (j := 0) rfl, v0, r', rfl, th0, G0.b, fun H10 s10 => ?_⟩
        refine ⟨⟨_, rfl⟩, ?_⟩
        have hD10 := s10 _ _ hD
        have ta10 := thAll_same s10 ta
        refine ⟨_, rfl, L, rfl, ⟨_, SqL.of hD10⟩, fun F nF => ?_⟩
        refine lc_list (K := K) (a := L) (xs := vs) (fun j H' => Same H10 H' ∧ H' F = some (.lst (((rs.take j).map ruleT).map V.str))) ⟨same_upd nF, upd_same⟩ (fun j H' _ h => SqL.of (h.1 _ _ hD10)) ?_ ?_
        · rintro j x H11 hx ⟨s11, hF⟩
          obtain ⟨d, hd, thx⟩ := th_at ta10 hx
          obtain ⟨r2, hrl, rfl⟩ := Option.map_eq_some_iff.mp ((List.getElem?_map ..).symm.trans hd)
          have G := ok r2 (List.mem_of_getElem? hrl)
          have lj := (List.getElem?_eq_some_iff.mp hrl).1
          refine ⟨rfl, _, rfl, x, r2, rfl, th_same s11 thx, G.b, fun H12 s12 => ?_⟩
          refine ⟨_, s12 _ _ hF, ?_, ?_⟩
          · rw [List.length_map, List.length_map, List.length_take, sizeLine_eq]
            omega
          · refine ⟨same_mut (s11.trans s12) nF, ?_⟩
            rw [upd_same, List.take_add_one, hrl, List.map_append, List.map_append]
            rfl
        · rintro H11 ⟨s11, hF⟩
          rw [lv, List.take_length] at hF
          have bl := book_len ok (by omega : rs.length ≤ 6)
          have zj := tjoin_len "\n" (rs.map ruleT)
          have sm := sum_le (l := rs.map ruleT) (n := 100) fun x m => by
            obtain ⟨r2, mr, rfl⟩ := List.mem_map.mp m
            exact rule_len (ok r2 mr)
          rw [List.length_map] at sm zj
          have oj : ("\n" : Str).length = 1 := rfl
          refine ⟨"\n", F, rs.map ruleT, rfl, rfl, .inl (SqL.of hF), by rw [List.length_map, oj]; omega, ?_⟩
          refine ⟨(by show 2 ≤ sizeLine; decide), fun l nl => on_go ?_⟩
          have hl : upd H11 l (.lst [.str (ruleT r'), .str (Txt.join "\n" (rs.map ruleT))]) l = some (.lst [.str (ruleT r'), .str (Txt.join "\n" (rs.map ruleT))]) := upd_same
          have s12 : Same H11 (upd H11 l (.lst [.str (ruleT r'), .str (Txt.join "\n" (rs.map ruleT))])) := same_upd nl
          generalize upd H11 l (.lst [.str (ruleT r'), .str (Txt.join "\n" (rs.map ruleT))]) = H12 at hl s12 ⊢
          have P9 : PotAt p c H9 := e9.pot
          have P12 : PotAt p c H12 := P9.same (s10.trans (s11.trans s12))
          have nlp : l ≠ p := fun z => by
            obtain ⟨_, ⟨_, _, _, e1⟩, _⟩ := P12
            rw [z, e1] at hl
            cases hl
          have t0 := told_rule G0
          have t1 := told_book n0 ok (by omega)
          have lt0 := rule_len G0
          have each : ∀ (j : Nat) (y : V), [V.str (ruleT r'), V.str (Txt.join "\n" (rs.map ruleT))][j]? = some y → ∃ t : Str, y = .str t ∧ Told j t .fine ∧ t.length ≤ 1000 ∧ (j = 0 ∨ j = 1) := fun j y h => by
            match j, h with
            | 0, h =>
              cases h
              exact ⟨_, rfl, t0, by omega, .inl rfl⟩
            | 1, h =>
              cases h
              exact ⟨_, rfl, t1, bl, .inr rfl⟩
          generalize [V.str (ruleT r'), V.str (Txt.join "\n" (rs.map ruleT))] = xs at hl each
          refine ⟨_, rfl, l, _, rfl, SqL.of hl, for_enum (K := K) (a := l) (xs := xs) (fun j σ H' => ∃ w2 w3 w5 w6 w7 w8 w9 : Option V, σ = [some (.ref a), some (.ref p), w2, w3, some (.int (0 + (i : Int))), w5, w6, w7, w8, w9] ∧ Ext p c H12 H') ⟨_, _, _, _, _, _, _, rfl, P12.ref⟩ (fun j σ H' ⟨_, _, _, _, _, _, _, _, e⟩ => SqL.of (e.get hl nlp)) ?_ ?_⟩
          · rintro j y σ H13 tt hy nt ⟨w2, w3, w5, w6, w7, w8, w9, rfl, e13⟩
            obtain ⟨t, rfl, tld, lt, hj⟩ := each j y hy
            have s14 := same_upd (o := .tup [.int (j : Int), .str t]) nt
            have h14 : upd H13 tt (.tup [.int (j : Int), .str t]) tt = some (.tup [.int (j : Int), .str t]) := upd_same
            generalize upd H13 tt (.tup [.int (j : Int), .str t]) = H14 at s14 h14 ⊢
            have e14 := e13.same s14
            refine ⟨tt, _, rfl, SqT.of h14, rfl, _, _, rfl, _, _, rfl, rfl, sq_if (go_if ?_)⟩
            refine ⟨_, rfl, _, rfl, j, t, .fine, rfl, tld, fun u H15 s15 thu => ⟨rfl, _, rfl, ?_⟩⟩
            rw [th_none thu]
            refine iteF' rfl ?_
            refine ⟨_, rfl, _, rfl, j, t, .fine, rfl, tld, fun u2 H16 s16 thu2 => ⟨rfl, _, rfl, ?_⟩⟩
            rw [th_none thu2]
            refine iteF' rfl (nxt_go ?_)
            have e16 := (e14.same s15).same s16
            refine ⟨8, rfl, by decide, by decide, for_range (n := 8) (fun m σ H' => ∃ w5 w9 : Option V, σ = [some (.ref a), some (.ref p), some (.int (j : Int)), some (.str t), some (.int (0 + (i : Int))), w5, w6, w7, w8, w9] ∧ Ext p c H12 H') ⟨_, _, rfl, e16⟩ ?_ ?_⟩
            · rintro m σ H17 hm ⟨w5, w9, rfl, e17⟩
              refine on_go (sq_asg ?_)
              refine ⟨_, rfl, _, rfl, p, c, t, rfl, e17.pot, by omega, fun z H18 lz e18 => on_go (sq_asg ?_)⟩
              have e18' := e17.trans e18
              refine ⟨_, rfl, _, _, rfl, rfl, _, rfl, ?_⟩
              refine ite2 (fun hb => ?_) (fun hb => ?_)
              · refine ⟨_, rfl, _, rfl, p, c, z, rfl, e18'.pot, by omega, fun z2 H19 lz2 e19 => on_go (go_if ?_)⟩
                exact both _ 2 9 _ j z2 H19 rfl rfl hj (by omega) fun H20 s20 => iteF' rfl (nxt_go ⟨_, _, rfl, (e18'.trans e19).same s20⟩)
              · refine ⟨_, rfl, on_go (go_if ?_)⟩
                exact both _ 2 9 _ j z H18 rfl rfl hj (by omega) fun H20 s20 => iteF' rfl (nxt_go ⟨_, _, rfl, e18'.same s20⟩)
            · rintro σ H17 ⟨w5, w9, rfl, e17⟩
              exact ends_go ⟨_, _, _, _, _, _, _, rfl, e17⟩
          · rintro σ H13 ⟨w2, w3, w5, w6, w7, w8, w9, rfl, e13⟩
            exact ends_go ⟨_, _, _, _, _, _, _, _, rfl, e13.pot⟩
      · rintro σ H7 ⟨v2, v3, v4, v5, v6, v7, v8, v9, rfl, P7⟩
        exact ends_go (go_ret (k H7))
end
end Lk

/-! K91z -/
set_option Elab.async false
set_option linter.all false
set_option maxRecDepth 100000
set_option maxHeartbeats 4000000
namespace Lk
open PySem PySem.Spec PyProof.Rows L2
theorem all_mk {l : PySem.W.OpenLaw} {w : World} {K : PySem.W.Frag} {h : Heap} {mg : Str → Option Value} {fa : Addr} (X : K.In h) (G : h.Ns mainGlobals mg) (hfa : mg "law" = some (.ref fa))
    {f0 : Addr} {od0 an0 : Option Addr} {sl0 : Array (Option Value)} {oc0 kV0 dc0 pm0 cd0 ct0 : Value}
    (a0 : PySem.W.nsIn K mainGlobals "is_name" = some (some (.ref f0))) (l0 : K.lookup f0 = some ⟨oc0, od0, .func (PySem.W.fnOf "is_name" "is_name" (defArgs s_p_is_name) (defBody s_p_is_name) (defScope s_p_is_name) .none kV0 dc0 pm0 an0 cd0 ct0), sl0⟩) (c0 : PySem.W.codeIn K cd0 "is_name" = true) (k0 : PySem.W.keepIn K (.ref f0) = true)
    {f1 : Addr} {od1 an1 : Option Addr} {sl1 : Array (Option Value)} {oc1 kV1 dc1 pm1 cd1 ct1 : Value}
    (a1 : PySem.W.nsIn K mainGlobals "is_pattern" = some (some (.ref f1))) (l1 : K.lookup f1 = some ⟨oc1, od1, .func (PySem.W.fnOf "is_pattern" "is_pattern" (defArgs s_p_is_pattern) (defBody s_p_is_pattern) (defScope s_p_is_pattern) .none kV1 dc1 pm1 an1 cd1 ct1), sl1⟩) (c1 : PySem.W.codeIn K cd1 "is_pattern" = true) (k1 : PySem.W.keepIn K (.ref f1) = true)
    {f2 : Addr} {od2 an2 : Option Addr} {sl2 : Array (Option Value)} {oc2 kV2 dc2 pm2 cd2 ct2 : Value}
    (a2 : PySem.W.nsIn K mainGlobals "is_end" = some (some (.ref f2))) (l2 : K.lookup f2 = some ⟨oc2, od2, .func (PySem.W.fnOf "is_end" "is_end" (defArgs s_p_is_end) (defBody s_p_is_end) (defScope s_p_is_end) .none kV2 dc2 pm2 an2 cd2 ct2), sl2⟩) (c2 : PySem.W.codeIn K cd2 "is_end" = true) (k2 : PySem.W.keepIn K (.ref f2) = true)
    {f3 : Addr} {od3 an3 : Option Addr} {sl3 : Array (Option Value)} {oc3 kV3 dc3 pm3 cd3 ct3 : Value}
    (a3 : PySem.W.nsIn K mainGlobals "is_label" = some (some (.ref f3))) (l3 : K.lookup f3 = some ⟨oc3, od3, .func (PySem.W.fnOf "is_label" "is_label" (defArgs s_p_is_label) (defBody s_p_is_label) (defScope s_p_is_label) .none kV3 dc3 pm3 an3 cd3 ct3), sl3⟩) (c3 : PySem.W.codeIn K cd3 "is_label" = true) (k3 : PySem.W.keepIn K (.ref f3) = true)
    {f4 : Addr} {od4 an4 : Option Addr} {sl4 : Array (Option Value)} {oc4 kV4 dc4 pm4 cd4 ct4 : Value}
    (a4 : PySem.W.nsIn K mainGlobals "is_rule_source" = some (some (.ref f4))) (l4 : K.lookup f4 = some ⟨oc4, od4, .func (PySem.W.fnOf "is_rule_source" "is_rule_source" (defArgs s_p_is_rule_source) (defBody s_p_is_rule_source) (defScope s_p_is_rule_source) .none kV4 dc4 pm4 an4 cd4 ct4), sl4⟩) (c4 : PySem.W.codeIn K cd4 "is_rule_source" = true) (k4 : PySem.W.keepIn K (.ref f4) = true)
    {f5 : Addr} {od5 an5 : Option Addr} {sl5 : Array (Option Value)} {oc5 kV5 dc5 pm5 cd5 ct5 : Value}
    (a5 : PySem.W.nsIn K mainGlobals "parse_rule" = some (some (.ref f5))) (l5 : K.lookup f5 = some ⟨oc5, od5, .func (PySem.W.fnOf "parse_rule" "parse_rule" (defArgs s_p_parse_rule) (defBody s_p_parse_rule) (defScope s_p_parse_rule) .none kV5 dc5 pm5 an5 cd5 ct5), sl5⟩) (c5 : PySem.W.codeIn K cd5 "parse_rule" = true) (k5 : PySem.W.keepIn K (.ref f5) = true)
    {f6 : Addr} {od6 an6 : Option Addr} {sl6 : Array (Option Value)} {oc6 kV6 dc6 pm6 cd6 ct6 : Value}
    (a6 : PySem.W.nsIn K mainGlobals "parse_book" = some (some (.ref f6))) (l6 : K.lookup f6 = some ⟨oc6, od6, .func (PySem.W.fnOf "parse_book" "parse_book" (defArgs s_p_parse_book) (defBody s_p_parse_book) (defScope s_p_parse_book) .none kV6 dc6 pm6 an6 cd6 ct6), sl6⟩) (c6 : PySem.W.codeIn K cd6 "parse_book" = true) (k6 : PySem.W.keepIn K (.ref f6) = true)
    {f7 : Addr} {od7 an7 : Option Addr} {sl7 : Array (Option Value)} {oc7 kV7 dc7 pm7 cd7 ct7 : Value}
    (a7 : PySem.W.nsIn K mainGlobals "tokens_of" = some (some (.ref f7))) (l7 : K.lookup f7 = some ⟨oc7, od7, .func (PySem.W.fnOf "tokens_of" "tokens_of" (defArgs s_p_tokens_of) (defBody s_p_tokens_of) (defScope s_p_tokens_of) .none kV7 dc7 pm7 an7 cd7 ct7), sl7⟩) (c7 : PySem.W.codeIn K cd7 "tokens_of" = true) (k7 : PySem.W.keepIn K (.ref f7) = true)
    {f8 : Addr} {od8 an8 : Option Addr} {sl8 : Array (Option Value)} {oc8 kV8 dc8 pm8 cd8 ct8 : Value}
    (a8 : PySem.W.nsIn K mainGlobals "letters_at" = some (some (.ref f8))) (l8 : K.lookup f8 = some ⟨oc8, od8, .func (PySem.W.fnOf "letters_at" "letters_at" (defArgs s_p_letters_at) (defBody s_p_letters_at) (defScope s_p_letters_at) .none kV8 dc8 pm8 an8 cd8 ct8), sl8⟩) (c8 : PySem.W.codeIn K cd8 "letters_at" = true) (k8 : PySem.W.keepIn K (.ref f8) = true)
    {f9 : Addr} {od9 an9 : Option Addr} {sl9 : Array (Option Value)} {oc9 kV9 dc9 pm9 cd9 ct9 : Value}
    (a9 : PySem.W.nsIn K mainGlobals "read_rule" = some (some (.ref f9))) (l9 : K.lookup f9 = some ⟨oc9, od9, .func (PySem.W.fnOf "read_rule" "read_rule" (defArgs s_p_read_rule) (defBody s_p_read_rule) (defScope s_p_read_rule) .none kV9 dc9 pm9 an9 cd9 ct9), sl9⟩) (c9 : PySem.W.codeIn K cd9 "read_rule" = true) (k9 : PySem.W.keepIn K (.ref f9) = true)
    {f10 : Addr} {od10 an10 : Option Addr} {sl10 : Array (Option Value)} {oc10 kV10 dc10 pm10 cd10 ct10 : Value}
    (a10 : PySem.W.nsIn K mainGlobals "read_sources" = some (some (.ref f10))) (l10 : K.lookup f10 = some ⟨oc10, od10, .func (PySem.W.fnOf "read_sources" "read_sources" (defArgs s_p_read_sources) (defBody s_p_read_sources) (defScope s_p_read_sources) .none kV10 dc10 pm10 an10 cd10 ct10), sl10⟩) (c10 : PySem.W.codeIn K cd10 "read_sources" = true) (k10 : PySem.W.keepIn K (.ref f10) = true)
    {f11 : Addr} {od11 an11 : Option Addr} {sl11 : Array (Option Value)} {oc11 kV11 dc11 pm11 cd11 ct11 : Value}
    (a11 : PySem.W.nsIn K mainGlobals "read_source" = some (some (.ref f11))) (l11 : K.lookup f11 = some ⟨oc11, od11, .func (PySem.W.fnOf "read_source" "read_source" (defArgs s_p_read_source) (defBody s_p_read_source) (defScope s_p_read_source) .none kV11 dc11 pm11 an11 cd11 ct11), sl11⟩) (c11 : PySem.W.codeIn K cd11 "read_source" = true) (k11 : PySem.W.keepIn K (.ref f11) = true)
    {f12 : Addr} {od12 an12 : Option Addr} {sl12 : Array (Option Value)} {oc12 kV12 dc12 pm12 cd12 ct12 : Value}
    (a12 : PySem.W.nsIn K mainGlobals "read_pattern" = some (some (.ref f12))) (l12 : K.lookup f12 = some ⟨oc12, od12, .func (PySem.W.fnOf "read_pattern" "read_pattern" (defArgs s_p_read_pattern) (defBody s_p_read_pattern) (defScope s_p_read_pattern) .none kV12 dc12 pm12 an12 cd12 ct12), sl12⟩) (c12 : PySem.W.codeIn K cd12 "read_pattern" = true) (k12 : PySem.W.keepIn K (.ref f12) = true)
    {f13 : Addr} {od13 an13 : Option Addr} {sl13 : Array (Option Value)} {oc13 kV13 dc13 pm13 cd13 ct13 : Value}
    (a13 : PySem.W.nsIn K mainGlobals "is_begin" = some (some (.ref f13))) (l13 : K.lookup f13 = some ⟨oc13, od13, .func (PySem.W.fnOf "is_begin" "is_begin" (defArgs s_p_is_begin) (defBody s_p_is_begin) (defScope s_p_is_begin) .none kV13 dc13 pm13 an13 cd13 ct13), sl13⟩) (c13 : PySem.W.codeIn K cd13 "is_begin" = true) (k13 : PySem.W.keepIn K (.ref f13) = true)
    {f14 : Addr} {od14 an14 : Option Addr} {sl14 : Array (Option Value)} {oc14 kV14 dc14 pm14 cd14 ct14 : Value}
    (a14 : PySem.W.nsIn K mainGlobals "_law_kneaded" = some (some (.ref f14))) (l14 : K.lookup f14 = some ⟨oc14, od14, .func (PySem.W.fnOf "_law_kneaded" "_law_kneaded" (defArgs s_kneaded) (defBody s_kneaded) (defScope s_kneaded) .none kV14 dc14 pm14 an14 cd14 ct14), sl14⟩) (c14 : PySem.W.codeIn K cd14 "_law_kneaded" = true) (k14 : PySem.W.keepIn K (.ref f14) = true)
    {f15 : Addr} {od15 an15 : Option Addr} {sl15 : Array (Option Value)} {oc15 kV15 dc15 pm15 cd15 ct15 : Value}
    (a15 : PySem.W.nsIn K mainGlobals "_law_pot_of" = some (some (.ref f15))) (l15 : K.lookup f15 = some ⟨oc15, od15, .func (PySem.W.fnOf "_law_pot_of" "_law_pot_of" (defArgs s_pot_of) (defBody s_pot_of) (defScope s_pot_of) .none kV15 dc15 pm15 an15 cd15 ct15), sl15⟩) (c15 : PySem.W.codeIn K cd15 "_law_pot_of" = true) (k15 : PySem.W.keepIn K (.ref f15) = true)
    {f16 : Addr} {od16 an16 : Option Addr} {sl16 : Array (Option Value)} {oc16 kV16 dc16 pm16 cd16 ct16 : Value}
    (a16 : PySem.W.nsIn K mainGlobals "_law_below" = some (some (.ref f16))) (l16 : K.lookup f16 = some ⟨oc16, od16, .func (PySem.W.fnOf "_law_below" "_law_below" (defArgs s_below) (defBody s_below) (defScope s_below) .none kV16 dc16 pm16 an16 cd16 ct16), sl16⟩) (c16 : PySem.W.codeIn K cd16 "_law_below" = true) (k16 : PySem.W.keepIn K (.ref f16) = true)
    {f17 : Addr} {od17 an17 : Option Addr} {sl17 : Array (Option Value)} {oc17 kV17 dc17 pm17 cd17 ct17 : Value}
    (a17 : PySem.W.nsIn K mainGlobals "_law_pick" = some (some (.ref f17))) (l17 : K.lookup f17 = some ⟨oc17, od17, .func (PySem.W.fnOf "_law_pick" "_law_pick" (defArgs s_pick) (defBody s_pick) (defScope s_pick) .none kV17 dc17 pm17 an17 cd17 ct17), sl17⟩) (c17 : PySem.W.codeIn K cd17 "_law_pick" = true) (k17 : PySem.W.keepIn K (.ref f17) = true)
    {f18 : Addr} {od18 an18 : Option Addr} {sl18 : Array (Option Value)} {oc18 kV18 dc18 pm18 cd18 ct18 : Value}
    (a18 : PySem.W.nsIn K mainGlobals "_law_split" = some (some (.ref f18))) (l18 : K.lookup f18 = some ⟨oc18, od18, .func (PySem.W.fnOf "_law_split" "_law_split" (defArgs s_split) (defBody s_split) (defScope s_split) .none kV18 dc18 pm18 an18 cd18 ct18), sl18⟩) (c18 : PySem.W.codeIn K cd18 "_law_split" = true) (k18 : PySem.W.keepIn K (.ref f18) = true)
    {f19 : Addr} {od19 an19 : Option Addr} {sl19 : Array (Option Value)} {oc19 kV19 dc19 pm19 cd19 ct19 : Value}
    (a19 : PySem.W.nsIn K mainGlobals "_law_is_name" = some (some (.ref f19))) (l19 : K.lookup f19 = some ⟨oc19, od19, .func (PySem.W.fnOf "_law_is_name" "_law_is_name" (defArgs s_is_name) (defBody s_is_name) (defScope s_is_name) .none kV19 dc19 pm19 an19 cd19 ct19), sl19⟩) (c19 : PySem.W.codeIn K cd19 "_law_is_name" = true) (k19 : PySem.W.keepIn K (.ref f19) = true)
    {f20 : Addr} {od20 an20 : Option Addr} {sl20 : Array (Option Value)} {oc20 kV20 dc20 pm20 cd20 ct20 : Value}
    (a20 : PySem.W.nsIn K mainGlobals "_law_whole" = some (some (.ref f20))) (l20 : K.lookup f20 = some ⟨oc20, od20, .func (PySem.W.fnOf "_law_whole" "_law_whole" (defArgs s_whole) (defBody s_whole) (defScope s_whole) .none kV20 dc20 pm20 an20 cd20 ct20), sl20⟩) (c20 : PySem.W.codeIn K cd20 "_law_whole" = true) (k20 : PySem.W.keepIn K (.ref f20) = true)
    {f21 : Addr} {od21 an21 : Option Addr} {sl21 : Array (Option Value)} {oc21 kV21 dc21 pm21 cd21 ct21 : Value}
    (a21 : PySem.W.nsIn K mainGlobals "_law_some_source" = some (some (.ref f21))) (l21 : K.lookup f21 = some ⟨oc21, od21, .func (PySem.W.fnOf "_law_some_source" "_law_some_source" (defArgs s_some_source) (defBody s_some_source) (defScope s_some_source) .none kV21 dc21 pm21 an21 cd21 ct21), sl21⟩) (c21 : PySem.W.codeIn K cd21 "_law_some_source" = true) (k21 : PySem.W.keepIn K (.ref f21) = true)
    {f22 : Addr} {od22 an22 : Option Addr} {sl22 : Array (Option Value)} {oc22 kV22 dc22 pm22 cd22 ct22 : Value}
    (a22 : PySem.W.nsIn K mainGlobals "_law_some_rule" = some (some (.ref f22))) (l22 : K.lookup f22 = some ⟨oc22, od22, .func (PySem.W.fnOf "_law_some_rule" "_law_some_rule" (defArgs s_some_rule) (defBody s_some_rule) (defScope s_some_rule) .none kV22 dc22 pm22 an22 cd22 ct22), sl22⟩) (c22 : PySem.W.codeIn K cd22 "_law_some_rule" = true) (k22 : PySem.W.keepIn K (.ref f22) = true)
    {f23 : Addr} {od23 an23 : Option Addr} {sl23 : Array (Option Value)} {oc23 kV23 dc23 pm23 cd23 ct23 : Value}
    (a23 : PySem.W.nsIn K mainGlobals "_law_source_text" = some (some (.ref f23))) (l23 : K.lookup f23 = some ⟨oc23, od23, .func (PySem.W.fnOf "_law_source_text" "_law_source_text" (defArgs s_source_text) (defBody s_source_text) (defScope s_source_text) .none kV23 dc23 pm23 an23 cd23 ct23), sl23⟩) (c23 : PySem.W.codeIn K cd23 "_law_source_text" = true) (k23 : PySem.W.keepIn K (.ref f23) = true)
    {f24 : Addr} {od24 an24 : Option Addr} {sl24 : Array (Option Value)} {oc24 kV24 dc24 pm24 cd24 ct24 : Value}
    (a24 : PySem.W.nsIn K mainGlobals "_law_rule_text" = some (some (.ref f24))) (l24 : K.lookup f24 = some ⟨oc24, od24, .func (PySem.W.fnOf "_law_rule_text" "_law_rule_text" (defArgs s_rule_text) (defBody s_rule_text) (defScope s_rule_text) .none kV24 dc24 pm24 an24 cd24 ct24), sl24⟩) (c24 : PySem.W.codeIn K cd24 "_law_rule_text" = true) (k24 : PySem.W.keepIn K (.ref f24) = true)
    {f25 : Addr} {od25 an25 : Option Addr} {sl25 : Array (Option Value)} {oc25 kV25 dc25 pm25 cd25 ct25 : Value}
    (a25 : PySem.W.nsIn K mainGlobals "_law_is_letter" = some (some (.ref f25))) (l25 : K.lookup f25 = some ⟨oc25, od25, .func (PySem.W.fnOf "_law_is_letter" "_law_is_letter" (defArgs s_is_letter) (defBody s_is_letter) (defScope s_is_letter) .none kV25 dc25 pm25 an25 cd25 ct25), sl25⟩) (c25 : PySem.W.codeIn K cd25 "_law_is_letter" = true) (k25 : PySem.W.keepIn K (.ref f25) = true)
    {f26 : Addr} {od26 an26 : Option Addr} {sl26 : Array (Option Value)} {oc26 kV26 dc26 pm26 cd26 ct26 : Value}
    (a26 : PySem.W.nsIn K mainGlobals "_law_tokens" = some (some (.ref f26))) (l26 : K.lookup f26 = some ⟨oc26, od26, .func (PySem.W.fnOf "_law_tokens" "_law_tokens" (defArgs s_tokens) (defBody s_tokens) (defScope s_tokens) .none kV26 dc26 pm26 an26 cd26 ct26), sl26⟩) (c26 : PySem.W.codeIn K cd26 "_law_tokens" = true) (k26 : PySem.W.keepIn K (.ref f26) = true)
    {f27 : Addr} {od27 an27 : Option Addr} {sl27 : Array (Option Value)} {oc27 kV27 dc27 pm27 cd27 ct27 : Value}
    (a27 : PySem.W.nsIn K mainGlobals "_law_is_all" = some (some (.ref f27))) (l27 : K.lookup f27 = some ⟨oc27, od27, .func (PySem.W.fnOf "_law_is_all" "_law_is_all" (defArgs s_is_all) (defBody s_is_all) (defScope s_is_all) .none kV27 dc27 pm27 an27 cd27 ct27), sl27⟩) (c27 : PySem.W.codeIn K cd27 "_law_is_all" = true) (k27 : PySem.W.keepIn K (.ref f27) = true)
    {f28 : Addr} {od28 an28 : Option Addr} {sl28 : Array (Option Value)} {oc28 kV28 dc28 pm28 cd28 ct28 : Value}
    (a28 : PySem.W.nsIn K mainGlobals "_law_pattern_stop" = some (some (.ref f28))) (l28 : K.lookup f28 = some ⟨oc28, od28, .func (PySem.W.fnOf "_law_pattern_stop" "_law_pattern_stop" (defArgs s_pattern_stop) (defBody s_pattern_stop) (defScope s_pattern_stop) .none kV28 dc28 pm28 an28 cd28 ct28), sl28⟩) (c28 : PySem.W.codeIn K cd28 "_law_pattern_stop" = true) (k28 : PySem.W.keepIn K (.ref f28) = true)
    {f29 : Addr} {od29 an29 : Option Addr} {sl29 : Array (Option Value)} {oc29 kV29 dc29 pm29 cd29 ct29 : Value}
    (a29 : PySem.W.nsIn K mainGlobals "_law_stop" = some (some (.ref f29))) (l29 : K.lookup f29 = some ⟨oc29, od29, .func (PySem.W.fnOf "_law_stop" "_law_stop" (defArgs s_stop) (defBody s_stop) (defScope s_stop) .none kV29 dc29 pm29 an29 cd29 ct29), sl29⟩) (c29 : PySem.W.codeIn K cd29 "_law_stop" = true) (k29 : PySem.W.keepIn K (.ref f29) = true)
    {f30 : Addr} {od30 an30 : Option Addr} {sl30 : Array (Option Value)} {oc30 kV30 dc30 pm30 cd30 ct30 : Value}
    (a30 : PySem.W.nsIn K mainGlobals "_law_row_due" = some (some (.ref f30))) (l30 : K.lookup f30 = some ⟨oc30, od30, .func (PySem.W.fnOf "_law_row_due" "_law_row_due" (defArgs s_row_due) (defBody s_row_due) (defScope s_row_due) .none kV30 dc30 pm30 an30 cd30 ct30), sl30⟩) (c30 : PySem.W.codeIn K cd30 "_law_row_due" = true) (k30 : PySem.W.keepIn K (.ref f30) = true)
    {f31 : Addr} {od31 an31 : Option Addr} {sl31 : Array (Option Value)} {oc31 kV31 dc31 pm31 cd31 ct31 : Value}
    (a31 : PySem.W.nsIn K mainGlobals "_law_due" = some (some (.ref f31))) (l31 : K.lookup f31 = some ⟨oc31, od31, .func (PySem.W.fnOf "_law_due" "_law_due" (defArgs s_due) (defBody s_due) (defScope s_due) .none kV31 dc31 pm31 an31 cd31 ct31), sl31⟩) (c31 : PySem.W.codeIn K cd31 "_law_due" = true) (k31 : PySem.W.keepIn K (.ref f31) = true)
    {f32 : Addr} {od32 an32 : Option Addr} {sl32 : Array (Option Value)} {oc32 kV32 dc32 pm32 cd32 ct32 : Value}
    (a32 : PySem.W.nsIn K mainGlobals "_law_told" = some (some (.ref f32))) (l32 : K.lookup f32 = some ⟨oc32, od32, .func (PySem.W.fnOf "_law_told" "_law_told" (defArgs s_told) (defBody s_told) (defScope s_told) .none kV32 dc32 pm32 an32 cd32 ct32), sl32⟩) (c32 : PySem.W.codeIn K cd32 "_law_told" = true) (k32 : PySem.W.keepIn K (.ref f32) = true)
    {f33 : Addr} {od33 an33 : Option Addr} {sl33 : Array (Option Value)} {oc33 kV33 dc33 pm33 cd33 ct33 : Value}
    (a33 : PySem.W.nsIn K mainGlobals "_law_spoilt" = some (some (.ref f33))) (l33 : K.lookup f33 = some ⟨oc33, od33, .func (PySem.W.fnOf "_law_spoilt" "_law_spoilt" (defArgs s_spoilt) (defBody s_spoilt) (defScope s_spoilt) .none kV33 dc33 pm33 an33 cd33 ct33), sl33⟩) (c33 : PySem.W.codeIn K cd33 "_law_spoilt" = true) (k33 : PySem.W.keepIn K (.ref f33) = true)
    {f34 : Addr} {od34 an34 : Option Addr} {sl34 : Array (Option Value)} {oc34 kV34 dc34 pm34 cd34 ct34 : Value}
    (a34 : PySem.W.nsIn K mainGlobals "_law_fixed" = some (some (.ref f34))) (l34 : K.lookup f34 = some ⟨oc34, od34, .func (PySem.W.fnOf "_law_fixed" "_law_fixed" (defArgs s_fixed) (defBody s_fixed) (defScope s_fixed) .none kV34 dc34 pm34 an34 cd34 ct34), sl34⟩) (c34 : PySem.W.codeIn K cd34 "_law_fixed" = true) (k34 : PySem.W.keepIn K (.ref f34) = true)
    {f35 : Addr} {od35 an35 : Option Addr} {sl35 : Array (Option Value)} {oc35 kV35 dc35 pm35 cd35 ct35 : Value}
    (a35 : PySem.W.nsIn K mainGlobals "law" = some (some (.ref f35))) (l35 : K.lookup f35 = some ⟨oc35, od35, .func (PySem.W.fnOf "law" "law" (defArgs s_law) (defBody s_law) (defScope s_law) .none kV35 dc35 pm35 an35 cd35 ct35), sl35⟩) (c35 : PySem.W.codeIn K cd35 "law" = true) (k35 : PySem.W.keepIn K (.ref f35) = true)
    (z0 : PySem.W.nsIn K mainGlobals "int" = some none)
    (z1 : PySem.W.nsIn K mainGlobals "abs" = some none)
    (z2 : PySem.W.nsIn K mainGlobals "range" = some none)
    (z3 : PySem.W.nsIn K mainGlobals "enumerate" = some none)
    (z4 : PySem.W.nsIn K mainGlobals "len" = some none)
    (z5 : PySem.W.nsIn K mainGlobals "isinstance" = some none)
    (z6 : PySem.W.nsIn K mainGlobals "str" = some none)
    (z7 : PySem.W.nsIn K mainGlobals "tuple" = some none)
    (z8 : PySem.W.nsIn K mainGlobals "list" = some none)
    (z9 : PySem.W.nsIn K mainGlobals "all" = some none)
    (z10 : PySem.W.nsIn K mainGlobals "max" = some none)
    {tk0 : Tok} (q0 : PySem.W.nsIn K mainGlobals "CAPITALS" = some (some (.str "ABCDEFGHIJKLMNOPQRSTUVWXYZ" tk0)))
    {tk1 : Tok} (q1 : PySem.W.nsIn K mainGlobals "SMALLS" = some (some (.str "abcdefghijklmnopqrstuvwxyz" tk1)))
    {tk2 : Tok} (q2 : PySem.W.nsIn K mainGlobals "LETTERS" = some (some (.str "ABCDEFGHIJKLMNOPQRSTUVWXYZabcdefghijklmnopqrstuvwxyz" tk2)))
    {tk3 : Tok} (q3 : PySem.W.nsIn K mainGlobals "MOST_END_LETTERS" = some (some (.int 3 tk3)))
    {tk4 : Tok} (q4 : PySem.W.nsIn K mainGlobals "MOST_LABEL_LETTERS" = some (some (.int 8 tk4)))
    {tk5 : Tok} (q5 : PySem.W.nsIn K mainGlobals "MOST_NAME_LETTERS" = some (some (.int 6 tk5)))
    {tk6 : Tok} (q6 : PySem.W.nsIn K mainGlobals "MOST_SOURCES" = some (some (.int 3 tk6)))
    {tk7 : Tok} (q7 : PySem.W.nsIn K mainGlobals "MOST_RULES" = some (some (.int 6 tk7)))
    {tk8 : Tok} (q8 : PySem.W.nsIn K mainGlobals "BLANKS" = some (some (.str " \t" tk8)))
    {tk9 : Tok} (q9 : PySem.W.nsIn K mainGlobals "SIGNS" = some (some (.str ":*<" tk9)))
    {B0 : Addr} (ba0 : PySem.W.nsIn K mainGlobals "Row" = some (some (.ref B0)))
    (bp0 : PySem.W.plainGet K B0 Str.empty = true) (bh0 : PySem.W.hasDictIn K B0 = true) (bo0 : PySem.W.plainOver K B0 = true) (bs0 : PySem.W.findIn K (.ref B0) "__setattr__" = some (some (.builtin "object.__setattr__"))) (bm0 : PySem.W.makesIn K B0 = true) (bk0 : PySem.W.keepIn K (.ref B0) = true)
    (bf0_0 : PySem.W.findIn K (.ref B0) "line" = some none)
    (bf0_1 : PySem.W.findIn K (.ref B0) "tokens" = some none)
    (bf0_2 : PySem.W.findIn K (.ref B0) "at" = some none)
    (bf0_3 : PySem.W.findIn K (.ref B0) "end" = some none)
    {g0_0 : Addr} {god0_0 gan0_0 : Option Addr} {gsl0_0 : Array (Option Value)} {goc0_0 gkV0_0 gdc0_0 gpm0_0 gcd0_0 gct0_0 : Value}
    (ga0_0 : PySem.W.findIn K (.ref B0) "__init__" = some (some (.ref g0_0))) (gi0_0 : PySem.W.isFn K (.ref g0_0) = true) (gl0_0 : K.lookup g0_0 = some ⟨goc0_0, god0_0, .func (PySem.W.fnOf "__init__" "Row.__init__" (defArgs s_Row_init) (defBody s_Row_init) (defScope s_Row_init) .none gkV0_0 gdc0_0 gpm0_0 gan0_0 gcd0_0 gct0_0), gsl0_0⟩) (gc0_0 : PySem.W.codeIn K gcd0_0 "Row.__init__" = true) (gk0_0 : PySem.W.keepIn K (.ref g0_0) = true)
    {g0_1 : Addr} {god0_1 gan0_1 : Option Addr} {gsl0_1 : Array (Option Value)} {goc0_1 gkV0_1 gdc0_1 gpm0_1 gcd0_1 gct0_1 : Value}
    (ga0_1 : PySem.W.findIn K (.ref B0) "at_end" = some (some (.ref g0_1))) (gi0_1 : PySem.W.isFn K (.ref g0_1) = true) (gl0_1 : K.lookup g0_1 = some ⟨goc0_1, god0_1, .func (PySem.W.fnOf "at_end" "Row.at_end" (defArgs s_Row_at_end) (defBody s_Row_at_end) (defScope s_Row_at_end) .none gkV0_1 gdc0_1 gpm0_1 gan0_1 gcd0_1 gct0_1), gsl0_1⟩) (gc0_1 : PySem.W.codeIn K gcd0_1 "Row.at_end" = true) (gk0_1 : PySem.W.keepIn K (.ref g0_1) = true)
    {g0_2 : Addr} {god0_2 gan0_2 : Option Addr} {gsl0_2 : Array (Option Value)} {goc0_2 gkV0_2 gdc0_2 gpm0_2 gcd0_2 gct0_2 : Value}
    (ga0_2 : PySem.W.findIn K (.ref B0) "next_word" = some (some (.ref g0_2))) (gi0_2 : PySem.W.isFn K (.ref g0_2) = true) (gl0_2 : K.lookup g0_2 = some ⟨goc0_2, god0_2, .func (PySem.W.fnOf "next_word" "Row.next_word" (defArgs s_Row_next_word) (defBody s_Row_next_word) (defScope s_Row_next_word) .none gkV0_2 gdc0_2 gpm0_2 gan0_2 gcd0_2 gct0_2), gsl0_2⟩) (gc0_2 : PySem.W.codeIn K gcd0_2 "Row.next_word" = true) (gk0_2 : PySem.W.keepIn K (.ref g0_2) = true)
    {g0_3 : Addr} {god0_3 gan0_3 : Option Addr} {gsl0_3 : Array (Option Value)} {goc0_3 gkV0_3 gdc0_3 gpm0_3 gcd0_3 gct0_3 : Value}
    (ga0_3 : PySem.W.findIn K (.ref B0) "is_joined" = some (some (.ref g0_3))) (gi0_3 : PySem.W.isFn K (.ref g0_3) = true) (gl0_3 : K.lookup g0_3 = some ⟨goc0_3, god0_3, .func (PySem.W.fnOf "is_joined" "Row.is_joined" (defArgs s_Row_is_joined) (defBody s_Row_is_joined) (defScope s_Row_is_joined) .none gkV0_3 gdc0_3 gpm0_3 gan0_3 gcd0_3 gct0_3), gsl0_3⟩) (gc0_3 : PySem.W.codeIn K gcd0_3 "Row.is_joined" = true) (gk0_3 : PySem.W.keepIn K (.ref g0_3) = true)
    {g0_4 : Addr} {god0_4 gan0_4 : Option Addr} {gsl0_4 : Array (Option Value)} {goc0_4 gkV0_4 gdc0_4 gpm0_4 gcd0_4 gct0_4 : Value}
    (ga0_4 : PySem.W.findIn K (.ref B0) "need" = some (some (.ref g0_4))) (gi0_4 : PySem.W.isFn K (.ref g0_4) = true) (gl0_4 : K.lookup g0_4 = some ⟨goc0_4, god0_4, .func (PySem.W.fnOf "need" "Row.need" (defArgs s_Row_need) (defBody s_Row_need) (defScope s_Row_need) .none gkV0_4 gdc0_4 gpm0_4 gan0_4 gcd0_4 gct0_4), gsl0_4⟩) (gc0_4 : PySem.W.codeIn K gcd0_4 "Row.need" = true) (gk0_4 : PySem.W.keepIn K (.ref g0_4) = true)
    {g0_5 : Addr} {god0_5 gan0_5 : Option Addr} {gsl0_5 : Array (Option Value)} {goc0_5 gkV0_5 gdc0_5 gpm0_5 gcd0_5 gct0_5 : Value}
    (ga0_5 : PySem.W.findIn K (.ref B0) "taken" = some (some (.ref g0_5))) (gi0_5 : PySem.W.isFn K (.ref g0_5) = true) (gl0_5 : K.lookup g0_5 = some ⟨goc0_5, god0_5, .func (PySem.W.fnOf "taken" "Row.taken" (defArgs s_Row_taken) (defBody s_Row_taken) (defScope s_Row_taken) .none gkV0_5 gdc0_5 gpm0_5 gan0_5 gcd0_5 gct0_5), gsl0_5⟩) (gc0_5 : PySem.W.codeIn K gcd0_5 "Row.taken" = true) (gk0_5 : PySem.W.keepIn K (.ref g0_5) = true)
    {TM : Addr}
    (tca : PySem.W.nsIn K mainGlobals "TooMany" = some (some (.ref TM)))
    (tck : PySem.W.keepIn K (.ref TM) = true)
    (tcb : PySem.W.subIn K (.ref TM) (.type "BaseException") = some true)
    (tcy : PySem.W.typeIn K (.ref TM) = some (.type "type"))
    (tci : PySem.W.isClsIn K TM = true)
    (teg : PySem.W.findIn K (.ref TM) "__getattribute__" = some (some (.builtin "BaseException.__getattribute__")))
    (tea : PySem.W.findIn K (.ref TM) "__getattr__" = some none)
    {tnm tq : Str} {tN : Addr} {tbs tbm : List Value} {tsn : List Str} {tsub : List Value} {tab : Bool} {tcol : Option Bool} {tdd : Option Addr} {tka tkb tkc tkd tke : Option Value}
    (tlk : K.lookup TM = some (excClassObj tnm tq TM tN tbs tbm true tsn tsub tab tcol tdd tka tkb tkc tkd tke "ValueError.__new__"))
    (trv : PySem.HandSPX.refsVE tbm = true)
    (tsa : PySem.W.findIn K (.ref TM) "__setattr__" = some (some (.builtin "object.__setattr__")))
    {tg : Addr} {tgodd tgan : Option Addr} {tgsl : Array (Option Value)} {tgoc tgkV tgdc tgpm tgcd tgct : Value}
    (tiC : PySem.W.findIn K (.ref TM) "__init__" = some (some (.ref tg)))
    (ttI : PySem.W.typeIn K (.ref tg) = some (.type "function"))
    (tgl : K.lookup tg = some ⟨tgoc, tgodd, .func (PySem.W.fnOf "__init__" "TooMany.__init__" (defArgs s_init1) (defBody s_init1) (defScope s_init1) .none tgkV tgdc tgpm tgan tgcd tgct), tgsl⟩)
    (tgc : PySem.W.codeIn K tgcd "TooMany.__init__" = true)
    (tgk : PySem.W.keepIn K (.ref tg) = true)
    (thd : PySem.W.hasDictIn K TM = true)
    (tno0 : PySem.W.findIn K (.ref TM) "limit" = some none)
    {SP : Addr}
    (sca : PySem.W.nsIn K mainGlobals "SyntaxProblem" = some (some (.ref SP)))
    (sck : PySem.W.keepIn K (.ref SP) = true)
    (scb : PySem.W.subIn K (.ref SP) (.type "BaseException") = some true)
    (scy : PySem.W.typeIn K (.ref SP) = some (.type "type"))
    (sci : PySem.W.isClsIn K SP = true)
    (seg : PySem.W.findIn K (.ref SP) "__getattribute__" = some (some (.builtin "BaseException.__getattribute__")))
    (sea : PySem.W.findIn K (.ref SP) "__getattr__" = some none)
    {snm sq : Str} {sN : Addr} {sbs sbm : List Value} {ssn : List Str} {ssub : List Value} {sab : Bool} {scol : Option Bool} {sdd : Option Addr} {ska skb skc skd ske : Option Value}
    (slk : K.lookup SP = some (excClassObj snm sq SP sN sbs sbm true ssn ssub sab scol sdd ska skb skc skd ske "ValueError.__new__"))
    (srv : PySem.HandSPX.refsVE sbm = true)
    (ssa : PySem.W.findIn K (.ref SP) "__setattr__" = some (some (.builtin "object.__setattr__")))
    {sg : Addr} {sgodd sgan : Option Addr} {sgsl : Array (Option Value)} {sgoc sgkV sgdc sgpm sgcd sgct : Value}
    (siC : PySem.W.findIn K (.ref SP) "__init__" = some (some (.ref sg)))
    (stI : PySem.W.typeIn K (.ref sg) = some (.type "function"))
    (sgl : K.lookup sg = some ⟨sgoc, sgodd, .func (PySem.W.fnOf "__init__" "SyntaxProblem.__init__" (defArgs s_init2) (defBody s_init2) (defScope s_init2) .none sgkV sgdc sgpm sgan sgcd sgct), sgsl⟩)
    (sgc : PySem.W.codeIn K sgcd "SyntaxProblem.__init__" = true)
    (sgk : PySem.W.keepIn K (.ref sg) = true)
    (shd : PySem.W.hasDictIn K SP = true)
    (sno0 : PySem.W.findIn K (.ref SP) "line" = some none)
    (sno1 : PySem.W.findIn K (.ref SP) "column" = some none)
    (x_ss : PySem.W.subIn K (.ref SP) (.ref SP) = some true)
    (x_ts : PySem.W.subIn K (.ref TM) (.ref SP) = some false)
    (x_tt : PySem.W.subIn K (.ref TM) (.ref TM) = some true)
    : ∃ fd : FuncData, (∀ (s : Shared) (v : Value), BindsTo s fd ⟨[v], []⟩ [("script", v)]) ∧ ∀ base : Heap, K.In base → base.Ns mainGlobals mg → FnG l.prog w K mg base CX0 11 fa fd ["script"] (spLaw K) := by
  have e := hfa.symm.trans (PySem.W.mg_of X G a35)
  cases e
  refine ⟨PySem.W.fnOf "law" "law" (defArgs s_law) (defBody s_law) (defScope s_law) .none kV35 dc35 pm35 an35 cd35 ct35, fun s v => .of_eq rfl, fun base _ _ => ?_⟩
  have d_p_is_name : Def1 K mg "is_name" s_p_is_name := ⟨_, _, fun_mk l0 c0 k0, PySem.W.mg_of X G a0⟩
  have d_p_is_pattern : Def1 K mg "is_pattern" s_p_is_pattern := ⟨_, _, fun_mk l1 c1 k1, PySem.W.mg_of X G a1⟩
  have d_p_is_end : Def1 K mg "is_end" s_p_is_end := ⟨_, _, fun_mk l2 c2 k2, PySem.W.mg_of X G a2⟩
  have d_p_is_label : Def1 K mg "is_label" s_p_is_label := ⟨_, _, fun_mk l3 c3 k3, PySem.W.mg_of X G a3⟩
  have d_p_is_rule_source : Def1 K mg "is_rule_source" s_p_is_rule_source := ⟨_, _, fun_mk l4 c4 k4, PySem.W.mg_of X G a4⟩
  have d_p_parse_rule : Def1 K mg "parse_rule" s_p_parse_rule := ⟨_, _, fun_mk l5 c5 k5, PySem.W.mg_of X G a5⟩
  have d_p_parse_book : Def1 K mg "parse_book" s_p_parse_book := ⟨_, _, fun_mk l6 c6 k6, PySem.W.mg_of X G a6⟩
  have d_p_tokens_of : Def1 K mg "tokens_of" s_p_tokens_of := ⟨_, _, fun_mk l7 c7 k7, PySem.W.mg_of X G a7⟩
  have d_p_letters_at : Def1 K mg "letters_at" s_p_letters_at := ⟨_, _, fun_mk l8 c8 k8, PySem.W.mg_of X G a8⟩
  have d_p_read_rule : Def1 K mg "read_rule" s_p_read_rule := ⟨_, _, fun_mk l9 c9 k9, PySem.W.mg_of X G a9⟩
  have d_p_read_sources : Def1 K mg "read_sources" s_p_read_sources := ⟨_, _, fun_mk l10 c10 k10, PySem.W.mg_of X G a10⟩
  have d_p_read_source : Def1 K mg "read_source" s_p_read_source := ⟨_, _, fun_mk l11 c11 k11, PySem.W.mg_of X G a11⟩
  have d_p_read_pattern : Def1 K mg "read_pattern" s_p_read_pattern := ⟨_, _, fun_mk l12 c12 k12, PySem.W.mg_of X G a12⟩
  have d_p_is_begin : Def1 K mg "is_begin" s_p_is_begin := ⟨_, _, fun_mk l13 c13 k13, PySem.W.mg_of X G a13⟩
  have d_kneaded : Def1 K mg "_law_kneaded" s_kneaded := ⟨_, _, fun_mk l14 c14 k14, PySem.W.mg_of X G a14⟩
  have d_pot_of : Def1 K mg "_law_pot_of" s_pot_of := ⟨_, _, fun_mk l15 c15 k15, PySem.W.mg_of X G a15⟩
  have d_below : Def1 K mg "_law_below" s_below := ⟨_, _, fun_mk l16 c16 k16, PySem.W.mg_of X G a16⟩
  have d_pick : Def1 K mg "_law_pick" s_pick := ⟨_, _, fun_mk l17 c17 k17, PySem.W.mg_of X G a17⟩
  have d_split : Def1 K mg "_law_split" s_split := ⟨_, _, fun_mk l18 c18 k18, PySem.W.mg_of X G a18⟩
  have d_is_name : Def1 K mg "_law_is_name" s_is_name := ⟨_, _, fun_mk l19 c19 k19, PySem.W.mg_of X G a19⟩
  have d_whole : Def1 K mg "_law_whole" s_whole := ⟨_, _, fun_mk l20 c20 k20, PySem.W.mg_of X G a20⟩
  have d_some_source : Def1 K mg "_law_some_source" s_some_source := ⟨_, _, fun_mk l21 c21 k21, PySem.W.mg_of X G a21⟩
  have d_some_rule : Def1 K mg "_law_some_rule" s_some_rule := ⟨_, _, fun_mk l22 c22 k22, PySem.W.mg_of X G a22⟩
  have d_source_text : Def1 K mg "_law_source_text" s_source_text := ⟨_, _, fun_mk l23 c23 k23, PySem.W.mg_of X G a23⟩
  have d_rule_text : Def1 K mg "_law_rule_text" s_rule_text := ⟨_, _, fun_mk l24 c24 k24, PySem.W.mg_of X G a24⟩
  have d_is_letter : Def1 K mg "_law_is_letter" s_is_letter := ⟨_, _, fun_mk l25 c25 k25, PySem.W.mg_of X G a25⟩
  have d_tokens : Def1 K mg "_law_tokens" s_tokens := ⟨_, _, fun_mk l26 c26 k26, PySem.W.mg_of X G a26⟩
  have d_is_all : Def1 K mg "_law_is_all" s_is_all := ⟨_, _, fun_mk l27 c27 k27, PySem.W.mg_of X G a27⟩
  have d_pattern_stop : Def1 K mg "_law_pattern_stop" s_pattern_stop := ⟨_, _, fun_mk l28 c28 k28, PySem.W.mg_of X G a28⟩
  have d_stop : Def1 K mg "_law_stop" s_stop := ⟨_, _, fun_mk l29 c29 k29, PySem.W.mg_of X G a29⟩
  have d_row_due : Def1 K mg "_law_row_due" s_row_due := ⟨_, _, fun_mk l30 c30 k30, PySem.W.mg_of X G a30⟩
  have d_due : Def1 K mg "_law_due" s_due := ⟨_, _, fun_mk l31 c31 k31, PySem.W.mg_of X G a31⟩
  have d_told : Def1 K mg "_law_told" s_told := ⟨_, _, fun_mk l32 c32 k32, PySem.W.mg_of X G a32⟩
  have d_spoilt : Def1 K mg "_law_spoilt" s_spoilt := ⟨_, _, fun_mk l33 c33 k33, PySem.W.mg_of X G a33⟩
  have d_fixed : Def1 K mg "_law_fixed" s_fixed := ⟨_, _, fun_mk l34 c34 k34, PySem.W.mg_of X G a34⟩
  have z_int : mg "int" = none := PySem.W.mg_none_of X G z0
  have z_abs : mg "abs" = none := PySem.W.mg_none_of X G z1
  have z_range : mg "range" = none := PySem.W.mg_none_of X G z2
  have z_enumerate : mg "enumerate" = none := PySem.W.mg_none_of X G z3
  have z_len : mg "len" = none := PySem.W.mg_none_of X G z4
  have z_isinstance : mg "isinstance" = none := PySem.W.mg_none_of X G z5
  have z_str : mg "str" = none := PySem.W.mg_none_of X G z6
  have z_tuple : mg "tuple" = none := PySem.W.mg_none_of X G z7
  have z_list : mg "list" = none := PySem.W.mg_none_of X G z8
  have z_all : mg "all" = none := PySem.W.mg_none_of X G z9
  have z_max : mg "max" = none := PySem.W.mg_none_of X G z10
  have k_CAPITALS : Con1 mg "CAPITALS" (.str capS) := ⟨_, PySem.W.mg_of X G q0, ⟨_, rfl⟩⟩
  have k_SMALLS : Con1 mg "SMALLS" (.str smaS) := ⟨_, PySem.W.mg_of X G q1, ⟨_, rfl⟩⟩
  have k_LETTERS : Con1 mg "LETTERS" (.str letS) := ⟨_, PySem.W.mg_of X G q2, ⟨_, rfl⟩⟩
  have k_MOST_END_LETTERS : Con1 mg "MOST_END_LETTERS" (.int 3) := ⟨_, PySem.W.mg_of X G q3, ⟨_, rfl⟩⟩
  have k_MOST_LABEL_LETTERS : Con1 mg "MOST_LABEL_LETTERS" (.int 8) := ⟨_, PySem.W.mg_of X G q4, ⟨_, rfl⟩⟩
  have k_MOST_NAME_LETTERS : Con1 mg "MOST_NAME_LETTERS" (.int 6) := ⟨_, PySem.W.mg_of X G q5, ⟨_, rfl⟩⟩
  have k_MOST_SOURCES : Con1 mg "MOST_SOURCES" (.int 3) := ⟨_, PySem.W.mg_of X G q6, ⟨_, rfl⟩⟩
  have k_MOST_RULES : Con1 mg "MOST_RULES" (.int 6) := ⟨_, PySem.W.mg_of X G q7, ⟨_, rfl⟩⟩
  have k_BLANKS : Con1 mg "BLANKS" (.str " \t") := ⟨_, PySem.W.mg_of X G q8, ⟨_, rfl⟩⟩
  have k_SIGNS : Con1 mg "SIGNS" (.str ":*<") := ⟨_, PySem.W.mg_of X G q9, ⟨_, rfl⟩⟩
  have Z_Row : Kls K mg "Row" B0 := ⟨⟨bp0, bh0, bo0, bs0⟩, bm0, bk0, PySem.W.mg_of X G ba0⟩
  have n_Row_line : NoAttr K B0 "line" := bf0_0
  have n_Row_tokens : NoAttr K B0 "tokens" := bf0_1
  have n_Row_at : NoAttr K B0 "at" := bf0_2
  have n_Row_end : NoAttr K B0 "end" := bf0_3
  have m_Row_init : DefM K B0 "__init__" "Row.__init__" s_Row_init := ⟨_, _, fun_mk gl0_0 gc0_0 gk0_0, ⟨ga0_0, gi0_0, gk0_0⟩⟩
  have m_Row_at_end : DefM K B0 "at_end" "Row.at_end" s_Row_at_end := ⟨_, _, fun_mk gl0_1 gc0_1 gk0_1, ⟨ga0_1, gi0_1, gk0_1⟩⟩
  have m_Row_next_word : DefM K B0 "next_word" "Row.next_word" s_Row_next_word := ⟨_, _, fun_mk gl0_2 gc0_2 gk0_2, ⟨ga0_2, gi0_2, gk0_2⟩⟩
  have m_Row_is_joined : DefM K B0 "is_joined" "Row.is_joined" s_Row_is_joined := ⟨_, _, fun_mk gl0_3 gc0_3 gk0_3, ⟨ga0_3, gi0_3, gk0_3⟩⟩
  have m_Row_need : DefM K B0 "need" "Row.need" s_Row_need := ⟨_, _, fun_mk gl0_4 gc0_4 gk0_4, ⟨ga0_4, gi0_4, gk0_4⟩⟩
  have m_Row_taken : DefM K B0 "taken" "Row.taken" s_Row_taken := ⟨_, _, fun_mk gl0_5 gc0_5 gk0_5, ⟨ga0_5, gi0_5, gk0_5⟩⟩
  have GB : Glb mg := ⟨z_int, z_abs, z_range, z_enumerate, z_len⟩
  have GC : Glc mg := ⟨z_isinstance, z_str, z_tuple, k_CAPITALS, k_SMALLS, k_MOST_END_LETTERS⟩
  have GK : Glk mg := ⟨z_all, k_MOST_LABEL_LETTERS, k_MOST_NAME_LETTERS, k_MOST_SOURCES, k_MOST_RULES⟩
  have GX : Gtx mg := ⟨k_LETTERS, k_SIGNS, k_BLANKS⟩
  have c1 := cal_kneaded (P := l.prog) (w := w) (base := base) d_kneaded GB
  have c2 := cal_pot_of (P := l.prog) (w := w) (base := base) d_pot_of GB
  have c3 := cal_below d_below GB c1
  have c4 := cal_pick d_pick GB c3
  have p1 := cal_p_is_name (P := l.prog) (w := w) (base := base) d_p_is_name GC
  have p2 := cal_p_is_end (P := l.prog) (w := w) (base := base) d_p_is_end GC GB
  have p3 := cal_p_is_pattern d_p_is_pattern GC GB p2
  have b1 := cal_p_is_label (P := l.prog) (w := w) (base := base) d_p_is_label GC GB GK
  have b2 := cal_p_is_rule_source d_p_is_rule_source GB GK p1 p3
  have cl : RCls K B0 := ⟨Z_Row.cl, n_Row_line, n_Row_tokens, n_Row_at, n_Row_end⟩
  have tm := PySem.W.mg_of X G tca
  have tx : OexC K TM := ⟨⟨_, _, _, _, _, _, _, _, _, _, _, _, _, _, _, tlk, trv⟩, tsa, tcb, tcy, tck⟩
  have tF := fun_mk (st := s_init1) tgl tgc tgk
  have ti := ini1 (P := l.prog) (w := w) (mg := mg) (base := base) tF tx tiC ttI tno0 tm
  have sm := PySem.W.mg_of X G sca
  have sx : OexC K SP := ⟨⟨_, _, _, _, _, _, _, _, _, _, _, _, _, _, _, slk, srv⟩, ssa, scb, scy, sck⟩
  have sF := fun_mk (st := s_init2) sgl sgc sgk
  have si := ini2 (P := l.prog) (w := w) (mg := mg) (base := base) sF sx siC stI sno0 sno1 sm
  have RE : ErrT K mg SP TM := ⟨sm, tm, ⟨seg, sea, scb, shd⟩, ⟨teg, tea, tcb, thd⟩, sno0, sno1, tno0, exm_of scb sci scy x_ss, exm_of scb sci scy x_ts, exm_of tcb tci tcy x_tt⟩
  have t1 := cal_p_letters (P := l.prog) (w := w) (base := base) d_p_letters_at GB GX
  have t2 := calx_tokens d_p_tokens_of GB z_max GX si t1
  have m1 := cal_at_end (P := l.prog) (w := w) (base := base) (mg := mg) m_Row_at_end GB cl
  have m2 := cal_next m_Row_next_word cl m1
  have m3 := cal_is_joined m_Row_is_joined GB cl m1
  have m4 := calx_need m_Row_need cl si m1
  have m5 := calx_taken m_Row_taken cl m4 m2
  have m6 := calx_init m_Row_init GB cl t2
  have r1 := cal_is_begin d_p_is_begin GC p2
  have r2 := calx_read_pattern d_p_read_pattern GC GX cl p2 m2 m3 m4 m5
  have r3 := calx_read_source d_p_read_source cl b2 r1 r2 m2 m3 m4 m5
  have r4 := calx_read_sources d_p_read_sources GB GC k_MOST_SOURCES cl r3 m1 m3 m4
  have r5 := calx_read_rule d_p_read_rule cl b1 r1 r2 r4 m2 m5
  have r6 := calx_parse_rule d_p_parse_rule Z_Row m6 r5
  have r7 := calx_parse_book d_p_parse_book GB GC k_MOST_RULES cl Z_Row ti m6 m1 r5
  have w1 := calg_told d_told RE r6 r7
  have l1 := cal_is_letter (P := l.prog) (w := w) (base := base) d_is_letter
  have l2 := cal_is_all (P := l.prog) (w := w) (base := base) d_is_all GB
  have l3 := cal_tokens d_tokens GB l1
  have l4 := cal_pattern_stop d_pattern_stop l1 l2
  have l5 := cal_split (P := l.prog) (w := w) (base := base) d_split GB
  have l6 := cal_is_name d_is_name GC l5
  have l7 := cal_stop d_stop GB l2 l4 l6
  have l8 := cal_row_due d_row_due GB GC l3 l7
  have l9 := cal_due d_due GB l8
  have w2 := cal_spoilt d_spoilt GB z_list c3 c4
  have w3 := cal_fixed (P := l.prog) (w := w) (base := base) d_fixed
  have w4 := cal_lsource_text (P := l.prog) (w := w) (base := base) d_source_text GC
  have w5 := cal_lrule_text d_rule_text w4
  have g1 := cal_whole (P := l.prog) (w := w) (base := base) d_whole
  have g2 := cal_some_source d_some_source c3 c4 g1
  have g3 := cal_some_rule d_some_rule GB z_tuple c3 c4 g1 g2
  exact fn_law (fun_mk l35 c35 k35) ⟨c2, c3, g3, w5, w2, w3, l9, w1⟩ GB
end Lk
open PySem PySem.W PyProof.Rows in
set_option maxRecDepth 100000 in
set_option maxHeartbeats 0 in
theorem PySem.Challenge.cw_stemrules_k91_texts_refused_holds : PySem.Challenge.rw_stemrules_k91_texts_refused.Holds := by
  w_on; o_law; k_head; (case hw => w_witness2)
  k_fill
  refine Lk.walkG (l := PySem.Challenge.rw_stemrules_k91_texts_refused) (k := 11) (x := "script") (CX := fun w => L2.CX0) (sp := fun w => Lk.spLaw _) rfl rfl ⟨rfl, by decide, by decide⟩ (fun w h Y => PySem.W.kIn_of Y) ?F (fun _ _ a ns hl _ hS => ⟨a, ns, rfl, hS, hl, fun _ => rfl⟩) (fun _ _ _ _ _ z => z)
  case F =>
    intro w mg fa h KX G hmg
    refine' Lk.all_mk KX G hmg ?a0 ?l0 ?c0 ?k0 ?a1 ?l1 ?c1 ?k1 ?a2 ?l2 ?c2 ?k2 ?a3 ?l3 ?c3 ?k3 ?a4 ?l4 ?c4 ?k4 ?a5 ?l5 ?c5 ?k5 ?a6 ?l6 ?c6 ?k6 ?a7 ?l7 ?c7 ?k7 ?a8 ?l8 ?c8 ?k8 ?a9 ?l9 ?c9 ?k9 ?a10 ?l10 ?c10 ?k10 ?a11 ?l11 ?c11 ?k11 ?a12 ?l12 ?c12 ?k12 ?a13 ?l13 ?c13 ?k13 ?a14 ?l14 ?c14 ?k14 ?a15 ?l15 ?c15 ?k15 ?a16 ?l16 ?c16 ?k16 ?a17 ?l17 ?c17 ?k17 ?a18 ?l18 ?c18 ?k18 ?a19 ?l19 ?c19 ?k19 ?a20 ?l20 ?c20 ?k20 ?a21 ?l21 ?c21 ?k21 ?a22 ?l22 ?c22 ?k22 ?a23 ?l23 ?c23 ?k23 ?a24 ?l24 ?c24 ?k24 ?a25 ?l25 ?c25 ?k25 ?a26 ?l26 ?c26 ?k26 ?a27 ?l27 ?c27 ?k27 ?a28 ?l28 ?c28 ?k28 ?a29 ?l29 ?c29 ?k29 ?a30 ?l30 ?c30 ?k30 ?a31 ?l31 ?c31 ?k31 ?a32 ?l32 ?c32 ?k32 ?a33 ?l33 ?c33 ?k33 ?a34 ?l34 ?c34 ?k34 ?a35 ?l35 ?c35 ?k35 ?z0 ?z1 ?z2 ?z3 ?z4 ?z5 ?z6 ?z7 ?z8 ?z9 ?z10 ?q0 ?q1 ?q2 ?q3 ?q4 ?q5 ?q6 ?q7 ?q8 ?q9 ?ba0 ?bp0 ?bh0 ?bo0 ?bs0 ?bm0 ?bk0 ?bf0_0 ?bf0_1 ?bf0_2 ?bf0_3 ?ga0_0 ?gi0_0 ?gl0_0 ?gc0_0 ?gk0_0 ?ga0_1 ?gi0_1 ?gl0_1 ?gc0_1 ?gk0_1 ?ga0_2 ?gi0_2 ?gl0_2 ?gc0_2 ?gk0_2 ?ga0_3 ?gi0_3 ?gl0_3 ?gc0_3 ?gk0_3 ?ga0_4 ?gi0_4 ?gl0_4 ?gc0_4 ?gk0_4 ?ga0_5 ?gi0_5 ?gl0_5 ?gc0_5 ?gk0_5 ?tca ?tck ?tcb ?tcy ?tci ?teg ?tea ?tlk ?trv ?tsa ?tiC ?ttI ?tgl ?tgc ?tgk ?thd ?tno0 ?sca ?sck ?scb ?scy ?sci ?seg ?sea ?slk ?srv ?ssa ?siC ?stI ?sgl ?sgc ?sgk ?shd ?sno0 ?sno1 ?x_ss ?x_ts ?x_tt
    (case a0 => k_is)
    (case l0 => k_is)
    (case c0 => k_is)
    (case k0 => k_is)
    (case a1 => k_is)
    (case l1 => k_is)
    (case c1 => k_is)
    (case k1 => k_is)
    (case a2 => k_is)
    (case l2 => k_is)
    (case c2 => k_is)
    (case k2 => k_is)
    (case a3 => k_is)
    (case l3 => k_is)
    (case c3 => k_is)
    (case k3 => k_is)
    (case a4 => k_is)
    (case l4 => k_is)
    (case c4 => k_is)
    (case k4 => k_is)
    (case a5 => k_is)
    (case l5 => k_is)
    (case c5 => k_is)
    (case k5 => k_is)
    (case a6 => k_is)
    (case l6 => k_is)
    (case c6 => k_is)
    (case k6 => k_is)
    (case a7 => k_is)
    (case l7 => k_is)
    (case c7 => k_is)
    (case k7 => k_is)
    (case a8 => k_is)
    (case l8 => k_is)
    (case c8 => k_is)
    (case k8 => k_is)
    (case a9 => k_is)
    (case l9 => k_is)
    (case c9 => k_is)
    (case k9 => k_is)
    (case a10 => k_is)
    (case l10 => k_is)
    (case c10 => k_is)
    (case k10 => k_is)
    (case a11 => k_is)
    (case l11 => k_is)
    (case c11 => k_is)
    (case k11 => k_is)
    (case a12 => k_is)
    (case l12 => k_is)
    (case c12 => k_is)
    (case k12 => k_is)
    (case a13 => k_is)
    (case l13 => k_is)
    (case c13 => k_is)
    (case k13 => k_is)
    (case a14 => k_is)
    (case l14 => k_is)
    (case c14 => k_is)
    (case k14 => k_is)
    (case a15 => k_is)
    (case l15 => k_is)
    (case c15 => k_is)
    (case k15 => k_is)
    (case a16 => k_is)
    (case l16 => k_is)
    (case c16 => k_is)
    (case k16 => k_is)
    (case a17 => k_is)
    (case l17 => k_is)
    (case c17 => k_is)
    (case k17 => k_is)
    (case a18 => k_is)
    (case l18 => k_is)
    (case c18 => k_is)
    (case k18 => k_is)
    (case a19 => k_is)
    (case l19 => k_is)
    (case c19 => k_is)
    (case k19 => k_is)
    (case a20 => k_is)
    (case l20 => k_is)
    (case c20 => k_is)
    (case k20 => k_is)
    (case a21 => k_is)
    (case l21 => k_is)
    (case c21 => k_is)
    (case k21 => k_is)
    (case a22 => k_is)
    (case l22 => k_is)
    (case c22 => k_is)
    (case k22 => k_is)
    (case a23 => k_is)
    (case l23 => k_is)
    (case c23 => k_is)
    (case k23 => k_is)
    (case a24 => k_is)
    (case l24 => k_is)
    (case c24 => k_is)
    (case k24 => k_is)
    (case a25 => k_is)
    (case l25 => k_is)
    (case c25 => k_is)
    (case k25 => k_is)
    (case a26 => k_is)
    (case l26 => k_is)
    (case c26 => k_is)
    (case k26 => k_is)
    (case a27 => k_is)
    (case l27 => k_is)
    (case c27 => k_is)
    (case k27 => k_is)
    (case a28 => k_is)
    (case l28 => k_is)
    (case c28 => k_is)
    (case k28 => k_is)
    (case a29 => k_is)
    (case l29 => k_is)
    (case c29 => k_is)
    (case k29 => k_is)
    (case a30 => k_is)
    (case l30 => k_is)
    (case c30 => k_is)
    (case k30 => k_is)
    (case a31 => k_is)
    (case l31 => k_is)
    (case c31 => k_is)
    (case k31 => k_is)
    (case a32 => k_is)
    (case l32 => k_is)
    (case c32 => k_is)
    (case k32 => k_is)
    (case a33 => k_is)
    (case l33 => k_is)
    (case c33 => k_is)
    (case k33 => k_is)
    (case a34 => k_is)
    (case l34 => k_is)
    (case c34 => k_is)
    (case k34 => k_is)
    (case a35 => k_is)
    (case l35 => k_is)
    (case c35 => k_is)
    (case k35 => k_is)
    (case z0 => k_is)
    (case z1 => k_is)
    (case z2 => k_is)
    (case z3 => k_is)
    (case z4 => k_is)
    (case z5 => k_is)
    (case z6 => k_is)
    (case z7 => k_is)
    (case z8 => k_is)
    (case z9 => k_is)
    (case z10 => k_is)
    (case q0 => k_is)
    (case q1 => k_is)
    (case q2 => k_is)
    (case q3 => k_is)
    (case q4 => k_is)
    (case q5 => k_is)
    (case q6 => k_is)
    (case q7 => k_is)
    (case q8 => k_is)
    (case q9 => k_is)
    (case ba0 => k_is)
    (case bp0 => k_is)
    (case bh0 => k_is)
    (case bo0 => k_is)
    (case bs0 => k_is)
    (case bm0 => k_is)
    (case bk0 => k_is)
    (case bf0_0 => k_is)
    (case bf0_1 => k_is)
    (case bf0_2 => k_is)
    (case bf0_3 => k_is)
    (case ga0_0 => k_is)
    (case gi0_0 => k_is)
    (case gl0_0 => k_is)
    (case gc0_0 => k_is)
    (case gk0_0 => k_is)
    (case ga0_1 => k_is)
    (case gi0_1 => k_is)
    (case gl0_1 => k_is)
    (case gc0_1 => k_is)
    (case gk0_1 => k_is)
    (case ga0_2 => k_is)
    (case gi0_2 => k_is)
    (case gl0_2 => k_is)
    (case gc0_2 => k_is)
    (case gk0_2 => k_is)
    (case ga0_3 => k_is)
    (case gi0_3 => k_is)
    (case gl0_3 => k_is)
    (case gc0_3 => k_is)
    (case gk0_3 => k_is)
    (case ga0_4 => k_is)
    (case gi0_4 => k_is)
    (case gl0_4 => k_is)
    (case gc0_4 => k_is)
    (case gk0_4 => k_is)
    (case ga0_5 => k_is)
    (case gi0_5 => k_is)
    (case gl0_5 => k_is)
    (case gc0_5 => k_is)
    (case gk0_5 => k_is)
    (case tca => k_is)
    (case tck => k_is)
    (case tcb => k_is)
    (case tcy => k_is)
    (case tci => k_is)
    (case teg => k_is)
    (case tea => k_is)
    (case tlk => k_is)
    (case trv => first | rfl | decide)
    (case tsa => k_is)
    (case tiC => k_is)
    (case ttI => k_is)
    (case tgl => k_is)
    (case tgc => k_is)
    (case tgk => k_is)
    (case thd => k_is)
    (case tno0 => k_is)
    (case sca => k_is)
    (case sck => k_is)
    (case scb => k_is)
    (case scy => k_is)
    (case sci => k_is)
    (case seg => k_is)
    (case sea => k_is)
    (case slk => k_is)
    (case srv => first | rfl | decide)
    (case ssa => k_is)
    (case siC => k_is)
    (case stI => k_is)
    (case sgl => k_is)
    (case sgc => k_is)
    (case sgk => k_is)
    (case shd => k_is)
    (case sno0 => k_is)
    (case sno1 => k_is)
    (case x_ss => first | rfl | k_is)
    (case x_ts => first | rfl | k_is)
    (case x_tt => first | rfl | k_is)

